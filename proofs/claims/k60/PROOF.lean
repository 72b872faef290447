import PyProof.Rows.All
import Wide.All
import OpenK.AllK
import Wide.FinOn
import HandS.ForMost
import HandS.IsInst
import HandS.TupAny
import HandS.TupMul
import HandS.Style
import HandS.Zip
import KE.GoesEnum
import KE.KRevSl
import HandS.Conv
import HandS.Dict
import HandS.SortKw
import HandS.SetFor
import HandS.More
import HandS.NoneIn
import HandS.Deep
import HandS.Exc
import HandS.ExcOwn
import HandS.ExcInit
import HandS.ExcField
import HandS.WordsExc
import HandS.ExcIs
import KE.KExcIs
import HandS.DictComp
import HandS.ListItems
import KE.KSortTupAny
import HandS.Keys
import HandS.SortInts
import HandS.SlotsOwn
import HandS.ExcValue
import KE.GoesZip
import KE.GoesMore
import KE.SortData
import PySem.Challenge.RW_allbide_k60_whole_ways
set_option Elab.async false
set_option linter.all false
set_option maxRecDepth 100000
set_option maxHeartbeats 8000000
namespace GR
section
variable {X : Type} (sv ev : X → Nat) (wv : X → Int) (es : List X)
def wlen (p : List X) : Int := (p.map wv).sum
def IsW : Nat → Nat → List X → Prop
  | i, j, [] => i = j
  | i, j, x :: p => x ∈ es ∧ sv x = i ∧ IsW (ev x) j p
variable {sv ev wv es}
theorem wlen_nil : wlen wv ([] : List X) = 0 := rfl
theorem wlen_cons (x : X) (p : List X) : wlen wv (x :: p) = wv x + wlen wv p := by unfold wlen; rw [List.map_cons, List.sum_cons]
theorem wlen_append : ∀ (p q : List X), wlen wv (p ++ q) = wlen wv p + wlen wv q
  | [], q => by rw [List.nil_append, wlen_nil]; omega
  | x :: p, q => by rw [List.cons_append, wlen_cons, wlen_cons, wlen_append p q]; omega
theorem wlen_one (x : X) : wlen wv [x] = wv x := by rw [wlen_cons, wlen_nil]; omega
theorem isW_append : ∀ {p q : List X} {i j : Nat}, IsW sv ev es i j (p ++ q) ↔ ∃ m, IsW sv ev es i m p ∧ IsW sv ev es m j q
  | [], q, i, j => ⟨fun h => ⟨i, rfl, h⟩, fun ⟨m, h1, h2⟩ => by cases (show i = m from h1); exact h2⟩
  | x :: p, q, i, j => by
    constructor
    · intro ⟨h1, h2, h3⟩
      obtain ⟨m, h4, h5⟩ := isW_append.mp h3
      exact ⟨m, ⟨h1, h2, h4⟩, h5⟩
    · intro ⟨m, ⟨h1, h2, h3⟩, h4⟩
      exact ⟨h1, h2, isW_append.mpr ⟨m, h3, h4⟩⟩
theorem isW_one {x : X} (h : x ∈ es) : IsW sv ev es (sv x) (ev x) [x] := ⟨h, rfl, rfl⟩
theorem isW_end : ∀ {p : List X} {i j k : Nat}, IsW sv ev es i j p → IsW sv ev es i k p → j = k
  | [], _, _, _, h1, h2 => (show _ = _ from h1).symm.trans h2
  | _ :: _, _, _, _, h1, h2 => isW_end h1.2.2 h2.2.2
theorem isW_mem : ∀ {p : List X} {i j : Nat}, IsW sv ev es i j p → ∀ x ∈ p, x ∈ es
  | [], _, _, _, _, hx => absurd hx List.not_mem_nil
  | y :: p, _, _, h, x, hx => by
    rcases List.mem_cons.mp hx with rfl | hx
    · exact h.1
    · exact isW_mem h.2.2 x hx
theorem isW_lt {n : Nat} (he : ∀ x ∈ es, sv x < n ∧ ev x < n) : ∀ {p : List X} {i j : Nat}, i < n → IsW sv ev es i j p → j < n
  | [], _, _, hi, h => by cases (show _ = _ from h); exact hi
  | x :: p, _, _, hi, h => isW_lt he (he x h.1).2 h.2.2
/-! ### the vertices of a walk, and a round in a long one -/
def vx (ev : X → Nat) (i : Nat) (p : List X) : List Nat := i :: p.map ev
theorem vx_lt {n : Nat} (he : ∀ x ∈ es, sv x < n ∧ ev x < n) {p : List X} {i j : Nat} (hi : i < n) (h : IsW sv ev es i j p) : ∀ v ∈ vx ev i p, v < n := by
  intro v hv
  rcases List.mem_cons.mp hv with rfl | hv
  · exact hi
  · obtain ⟨x, hx, rfl⟩ := List.mem_map.mp hv
    exact (he x (isW_mem h x hx)).2
theorem pigeon : ∀ (n : Nat) (l : List Nat), (∀ v ∈ l, v < n) → n < l.length → ¬ l.Nodup
  | 0, [], _, h, _ => absurd h (Nat.lt_irrefl _)
  | 0, v :: _, hl, _, _ => absurd (hl v List.mem_cons_self) (Nat.not_lt_zero _)
  | n + 1, l, hl, hn, hd => by
    refine pigeon n (l.erase n) (fun v hv => ?_) ?_ (hd.erase n)
    · have h2 := (List.Nodup.mem_erase_iff hd).mp hv
      have := hl v h2.2
      have := h2.1
      omega
    · by_cases hm : n ∈ l
      · rw [List.length_erase_of_mem hm]; omega
      · rw [List.erase_of_not_mem hm]; omega
theorem vx_take {p : List X} {i j : Nat} (h : IsW sv ev es i j p) : ∀ (k : Nat) (v : Nat), (vx ev i p)[k]? = some v → IsW sv ev es i v (p.take k) ∧ IsW sv ev es v j (p.drop k) := by
  induction p generalizing i with
  | nil =>
    intro k v hk
    match k, hk with
    | 0, hk => cases hk; exact ⟨rfl, h⟩
  | cons x p ih =>
    intro k v hk
    match k, hk with
    | 0, hk => cases hk; exact ⟨rfl, h⟩
    | k + 1, hk =>
      have hk : (vx ev (ev x) p)[k]? = some v := by simpa [vx] using hk
      obtain ⟨h1, h2⟩ := ih h.2.2 k v hk
      exact ⟨⟨h.1, h.2.1, h1⟩, h2⟩
theorem split_long {n : Nat} (he : ∀ x ∈ es, sv x < n ∧ ev x < n) {p : List X} {i j : Nat} (hi : i < n) (h : IsW sv ev es i j p) (hl : n ≤ p.length) :
    ∃ (p1 p2 p3 : List X) (m : Nat), p = p1 ++ (p2 ++ p3) ∧ p2 ≠ [] ∧ p1.length + p2.length ≤ n ∧ IsW sv ev es i m p1 ∧ IsW sv ev es m m p2 ∧ IsW sv ev es m j p3 := by
  have hn : ¬ ((vx ev i p).take (n + 1)).Nodup := by
    refine pigeon n _ (fun v hv => vx_lt he hi h v (List.mem_of_mem_take hv)) ?_
    rw [List.length_take]
    unfold vx
    rw [List.length_cons, List.length_map]
    omega
  have : ∃ (a b : Nat) (v : Nat), a < b ∧ b ≤ n ∧ (vx ev i p)[a]? = some v ∧ (vx ev i p)[b]? = some v := by
    apply Classical.byContradiction
    intro hc
    refine hn (List.pairwise_iff_getElem.mpr fun a b ha hb hab heq => hc ?_)
    have hb' : b < n + 1 ∧ b < (vx ev i p).length := by rw [List.length_take] at hb; omega
    refine ⟨a, b, ((vx ev i p).take (n + 1))[a], hab, by omega, ?_, ?_⟩
    · rw [List.getElem_take]; exact List.getElem?_eq_getElem _
    · rw [heq, List.getElem_take]; exact List.getElem?_eq_getElem _
  obtain ⟨a, b, v, hab, hbn, h1, h2⟩ := this
  have hbp : b ≤ p.length := by
    have hb : b < (vx ev i p).length := by
      apply Classical.byContradiction
      intro hc
      rw [List.getElem?_eq_none (by omega)] at h2
      cases h2
    unfold vx at hb
    rw [List.length_cons, List.length_map] at hb
    omega
  obtain ⟨w1, w2⟩ := vx_take h a v h1
  obtain ⟨w3, w4⟩ := vx_take h b v h2
  have e : p = p.take a ++ ((p.drop a).take (b - a) ++ p.drop b) := by
    have e1 : p.drop b = (p.drop a).drop (b - a) := by rw [List.drop_drop]; congr 1; omega
    rw [e1, List.take_append_drop, List.take_append_drop]
  have e3 : p.take b = p.take a ++ (p.drop a).take (b - a) := by
    have : b = a + (b - a) := by omega
    rw [this, List.take_add]
    congr 2
    omega
  rw [e3] at w3
  obtain ⟨m, u1, u2⟩ := isW_append.mp w3
  obtain rfl := isW_end w1 u1
  refine ⟨p.take a, (p.drop a).take (b - a), p.drop b, v, e, ?_, ?_, w1, u2, w4⟩
  · intro hz
    have := congrArg List.length hz
    rw [List.length_take, List.length_drop, List.length_nil] at this
    omega
  · rw [List.length_take, List.length_take, List.length_drop]
    omega
/-! ### no round below 0 -/
variable (sv ev wv es) in
def NoNeg : Prop := ∀ (i : Nat) (p : List X), IsW sv ev es i i p → 0 ≤ wlen wv p
theorem short_walk {n : Nat} (he : ∀ x ∈ es, sv x < n ∧ ev x < n) (hz : NoNeg sv ev wv es) : ∀ (k : Nat) {p : List X} {i j : Nat}, p.length ≤ k → i < n → IsW sv ev es i j p →
    ∃ q, IsW sv ev es i j q ∧ q.length < n ∧ wlen wv q ≤ wlen wv p
  | k, p, i, j, hk, hi, h => by
    by_cases hl : p.length < n
    · exact ⟨p, h, hl, Int.le_refl _⟩
    · obtain ⟨p1, p2, p3, m, e, h2, _, w1, w2, w3⟩ := split_long he hi h (by omega)
      have l2 : 0 < p2.length := List.length_pos_iff.mpr h2
      have hk' : p.length = p1.length + (p2.length + p3.length) := by rw [e, List.length_append, List.length_append]
      match k, hk with
      | 0, hk => omega
      | k + 1, hk =>
        obtain ⟨q, h3, h4, h5⟩ := short_walk he hz k (p := p1 ++ p3) (by rw [List.length_append]; omega) hi (isW_append.mpr ⟨m, w1, w3⟩)
        refine ⟨q, h3, h4, ?_⟩
        have := hz m p2 w2
        rw [e, wlen_append, wlen_append]
        rw [wlen_append] at h5
        omega
theorem short_neg {n : Nat} (he : ∀ x ∈ es, sv x < n ∧ ev x < n) : ∀ (k : Nat) {p : List X} {i : Nat}, p.length ≤ k → i < n → IsW sv ev es i i p → wlen wv p < 0 →
    ∃ (m : Nat) (q : List X), m < n ∧ IsW sv ev es m m q ∧ q.length ≤ n ∧ wlen wv q < 0
  | k, p, i, hk, hi, h, hn => by
    by_cases hl : p.length ≤ n
    · exact ⟨i, p, hi, h, hl, hn⟩
    · obtain ⟨p1, p2, p3, m, e, h2, h12, w1, w2, w3⟩ := split_long he hi h (by omega)
      have l2 : 0 < p2.length := List.length_pos_iff.mpr h2
      by_cases hz : wlen wv p2 < 0
      · exact ⟨m, p2, isW_lt he hi w1, w2, by omega, hz⟩
      · have hk' : p.length = p1.length + (p2.length + p3.length) := by rw [e, List.length_append, List.length_append]
        match k, hk with
        | 0, hk => omega
        | k + 1, hk =>
          refine short_neg he k (p := p1 ++ p3) (by rw [List.length_append]; omega) hi (isW_append.mpr ⟨m, w1, w3⟩) ?_
          rw [e, wlen_append, wlen_append] at hn
          rw [wlen_append]
          omega
theorem noNeg_of {n : Nat} (he : ∀ x ∈ es, sv x < n ∧ ev x < n) (h : ∀ (i : Nat) (p : List X), i < n → IsW sv ev es i i p → p.length ≤ n → 0 ≤ wlen wv p) : NoNeg sv ev wv es := by
  intro i p hp
  match p, hp with
  | [], _ => exact Int.le_refl _
  | x :: p, hp =>
    apply Classical.byContradiction
    intro hc
    have hi : i < n := by rw [← hp.2.1]; exact (he x hp.1).1
    obtain ⟨m, q, h1, h2, h3, h4⟩ := short_neg (wv := wv) he _ (Nat.le_refl _) hi hp (by omega)
    have := h m q h1 h2 h3
    omega
/-- heights for which all edges hold: no round is below 0 -/
theorem pot_walk {t : Nat → Int} (ht : ∀ x ∈ es, t (ev x) - t (sv x) ≤ wv x) : ∀ {p : List X} {i j : Nat}, IsW sv ev es i j p → t j - t i ≤ wlen wv p
  | [], _, _, h => by cases (show _ = _ from h); rw [wlen_nil]; omega
  | x :: p, _, _, h => by
    have h1 := ht x h.1
    have h2 := pot_walk ht h.2.2
    rw [wlen_cons]
    have := h.2.1
    subst this
    omega
theorem pot_noNeg {t : Nat → Int} (ht : ∀ x ∈ es, t (ev x) - t (sv x) ≤ wv x) : NoNeg sv ev wv es := fun i p h => by
  have := pot_walk ht h
  omega
/-! ### the least length of the walks from i to j -/
variable (sv ev wv es) in
/-- o is the least length of a walk from i to j, none if there is no walk -/
structure Dst (i j : Nat) (o : Option Int) : Prop where
  ex : ∀ L, o = some L → ∃ p, IsW sv ev es i j p ∧ wlen wv p = L
  le : ∀ p, IsW sv ev es i j p → ∃ L, o = some L ∧ L ≤ wlen wv p
theorem Dst.uniq {i j : Nat} {o o' : Option Int} (h : Dst sv ev wv es i j o) (h' : Dst sv ev wv es i j o') : o = o' := by
  match o, o' with
  | none, none => rfl
  | some L, none =>
    obtain ⟨p, h1, _⟩ := h.ex L rfl
    obtain ⟨_, h2, _⟩ := h'.le p h1
    cases h2
  | none, some L =>
    obtain ⟨p, h1, _⟩ := h'.ex L rfl
    obtain ⟨_, h2, _⟩ := h.le p h1
    cases h2
  | some L, some L' =>
    obtain ⟨p, h1, h2⟩ := h.ex L rfl
    obtain ⟨q, h3, h4⟩ := h'.ex L' rfl
    obtain ⟨_, e1, l1⟩ := h.le q h3
    obtain ⟨_, e2, l2⟩ := h'.le p h1
    cases e1; cases e2
    congr 1
    omega
/-! options as numbers with infinity -/
def omin : Option Int → Option Int → Option Int
  | none, b => b
  | some a, none => some a
  | some a, some b => some (if b < a then b else a)
def oadd : Option Int → Option Int → Option Int
  | some a, some b => some (a + b)
  | _, _ => none
/-- a is at most b -/
def ole : Option Int → Option Int → Prop
  | _, none => True
  | none, some _ => False
  | some a, some b => a ≤ b
theorem ole_refl (a : Option Int) : ole a a := by cases a <;> simp [ole]
theorem ole_trans {a b c : Option Int} (h : ole a b) (h' : ole b c) : ole a c := by
  cases a <;> cases b <;> cases c <;> simp_all [ole]; omega
theorem ole_antisymm {a b : Option Int} (h : ole a b) (h' : ole b a) : a = b := by
  cases a <;> cases b <;> simp_all [ole]; omega
theorem omin_left (a b : Option Int) : ole (omin a b) a := by
  cases a <;> cases b <;> simp [ole, omin]; split <;> omega
theorem omin_right (a b : Option Int) : ole (omin a b) b := by
  cases a <;> cases b <;> simp [ole, omin]; split <;> omega
theorem ole_omin {a b c : Option Int} (h1 : ole c a) (h2 : ole c b) : ole c (omin a b) := by
  cases a <;> cases b <;> cases c <;> simp_all [ole, omin]; split <;> omega
theorem omin_cases (a b : Option Int) : omin a b = a ∨ omin a b = b := by
  cases a <;> cases b <;> simp [omin]; omega
theorem oadd_mono {a b c d : Option Int} (h1 : ole a b) (h2 : ole c d) : ole (oadd a c) (oadd b d) := by
  cases a <;> cases b <;> cases c <;> cases d <;> simp_all [ole, oadd]; omega
theorem oadd_assoc (a b c : Option Int) : oadd (oadd a b) c = oadd a (oadd b c) := by
  cases a <;> cases b <;> cases c <;> simp [oadd]; omega
theorem Dst.ole {i j : Nat} {o : Option Int} (h : Dst sv ev wv es i j o) {p : List X} (hp : IsW sv ev es i j p) : ole o (some (wlen wv p)) := by
  obtain ⟨L, rfl, hl⟩ := h.le p hp
  exact hl
theorem Dst.tri {i j k : Nat} {a b c : Option Int} (h1 : Dst sv ev wv es i j a) (h2 : Dst sv ev wv es j k b) (h3 : Dst sv ev wv es i k c) : GR.ole c (oadd a b) := by
  match a, b with
  | none, _ => cases b <;> cases c <;> exact True.intro
  | some _, none => cases c <;> exact True.intro
  | some L, some M =>
    obtain ⟨p, p1, p2⟩ := h1.ex L rfl
    obtain ⟨q, q1, q2⟩ := h2.ex M rfl
    have := h3.ole (isW_append.mpr ⟨j, p1, q1⟩)
    rw [wlen_append, p2, q2] at this
    exact this
theorem Dst.self {i : Nat} (hz : NoNeg sv ev wv es) : Dst sv ev wv es i i (some 0) :=
  ⟨fun L e => by cases e; exact ⟨[], rfl, rfl⟩, fun p h => ⟨0, rfl, hz i p h⟩⟩
/-- a table that is sound, and closed over the edges, is the least -/
theorem dst_of_closed {T : Nat → Option Int} {i : Nat} (sound : ∀ j L, T j = some L → ∃ p, IsW sv ev es i j p ∧ wlen wv p = L) (self : ole (T i) (some 0))
    (step : ∀ x ∈ es, ole (T (ev x)) (oadd (T (sv x)) (some (wv x)))) (j : Nat) : Dst sv ev wv es i j (T j) := by
  refine ⟨sound j, fun p hp => ?_⟩
  have key : ∀ (p : List X) (m : Nat) (c : Int), ole (T m) (some c) → IsW sv ev es m j p → ole (T j) (some (c + wlen wv p)) := by
    intro p
    induction p with
    | nil => intro m c hm h; cases (show _ = _ from h); rw [wlen_nil, Int.add_zero]; exact hm
    | cons x p ih =>
      intro m c hm h
      have h2 := h.2.1
      subst h2
      have := ih (ev x) (c + wv x) (ole_trans (step x h.1) (oadd_mono hm (ole_refl (some (wv x))))) h.2.2
      rw [wlen_cons, ← Int.add_assoc]
      exact this
  have := key p i 0 self hp
  rw [Int.zero_add] at this
  cases e : T j with
  | none => rw [e] at this; exact this.elim
  | some L => rw [e] at this; exact ⟨L, rfl, this⟩
/-! ### a fold with what is done -/
theorem foldl_inv {α β : Type} {f : β → α → β} (P : List α → β → Prop) : ∀ {l : List α} {b : β}, P [] b → (∀ pre x c, x ∈ l → P pre c → P (pre ++ [x]) (f c x)) → P l (l.foldl f b) := by
  intro l b h0 hs
  have key : ∀ (r pre : List α) (c : β), (∀ x ∈ r, x ∈ l) → P pre c → P (pre ++ r) (r.foldl f c) := by
    intro r
    induction r with
    | nil => intro pre c _ h; rw [List.append_nil]; exact h
    | cons x r ih =>
      intro pre c hr h
      rw [List.foldl_cons]
      have := ih (pre ++ [x]) (f c x) (fun y hy => hr y (List.mem_cons_of_mem _ hy)) (hs pre x c (hr x List.mem_cons_self) h)
      rw [List.append_assoc] at this
      exact this
  have := key l [] b (fun _ h => h) h0
  rwa [List.nil_append] at this
/-! ### the table over each third one -/
abbrev Tb := Nat → Nat → Option Int
def upd2 (T : Tb) (i j : Nat) (o : Option Int) : Tb := fun a b => if a = i ∧ b = j then o else T a b
def fwCell (k : Nat) (T : Tb) (ij : Nat × Nat) : Tb := upd2 T ij.1 ij.2 (omin (T ij.1 ij.2) (oadd (T ij.1 k) (T k ij.2)))
def prs (n : Nat) : List (Nat × Nat) := (List.range n).flatMap fun i => (List.range n).map fun j => (i, j)
theorem mem_prs {n i j : Nat} : (i, j) ∈ prs n ↔ i < n ∧ j < n := by
  unfold prs
  simp only [List.mem_flatMap, List.mem_map, List.mem_range, Prod.mk.injEq]
  constructor
  · rintro ⟨a, ha, b, hb, rfl, rfl⟩; exact ⟨ha, hb⟩
  · rintro ⟨ha, hb⟩; exact ⟨i, ha, j, hb, rfl, rfl⟩
def fwSt (n : Nat) (T : Tb) (k : Nat) : Tb := (prs n).foldl (fwCell k) T
def fw (n : Nat) (T : Tb) : Tb := (List.range n).foldl (fwSt n) T
theorem fwCell_le (k : Nat) (T : Tb) (ij : Nat × Nat) (a b : Nat) : ole (fwCell k T ij a b) (T a b) := by
  unfold fwCell upd2
  split
  · rename_i h; obtain ⟨rfl, rfl⟩ := h; exact omin_left _ _
  · exact ole_refl _
theorem fwSt_le (n : Nat) (T : Tb) (k : Nat) (a b : Nat) : ole (fwSt n T k a b) (T a b) := by
  unfold fwSt
  exact foldl_inv (P := fun _ R => ole (R a b) (T a b)) (ole_refl _) fun _ x c _ h => ole_trans (fwCell_le k c x a b) h
theorem fw_le (n : Nat) (T : Tb) (a b : Nat) : ole (fw n T a b) (T a b) := by
  unfold fw
  exact foldl_inv (P := fun _ R => ole (R a b) (T a b)) (ole_refl _) fun _ x c _ h => ole_trans (fwSt_le n c x a b) h
variable (sv ev wv es) in
def Sound (T : Tb) : Prop := ∀ i j L, T i j = some L → ∃ p, IsW sv ev es i j p ∧ wlen wv p = L
theorem Sound.upd {T : Tb} (h : Sound sv ev wv es T) {i j : Nat} {o : Option Int} (ho : ∀ L, o = some L → ∃ p, IsW sv ev es i j p ∧ wlen wv p = L) : Sound sv ev wv es (upd2 T i j o) := by
  intro a b L e
  unfold upd2 at e
  split at e
  · rename_i hab; obtain ⟨rfl, rfl⟩ := hab; exact ho L e
  · exact h a b L e
theorem Sound.add {T : Tb} (h : Sound sv ev wv es T) {i j k : Nat} {L : Int} (e : oadd (T i k) (T k j) = some L) : ∃ p, IsW sv ev es i j p ∧ wlen wv p = L := by
  cases e1 : T i k with
  | none => rw [e1] at e; cases e
  | some a =>
    cases e2 : T k j with
    | none => rw [e1, e2] at e; cases e
    | some b =>
      rw [e1, e2] at e
      cases e
      obtain ⟨p, p1, p2⟩ := h i k a e1
      obtain ⟨q, q1, q2⟩ := h k j b e2
      exact ⟨p ++ q, isW_append.mpr ⟨k, p1, q1⟩, by rw [wlen_append, p2, q2]⟩
theorem Sound.cell {T : Tb} (h : Sound sv ev wv es T) (k : Nat) (ij : Nat × Nat) : Sound sv ev wv es (fwCell k T ij) := by
  refine h.upd fun L e => ?_
  rcases omin_cases (T ij.1 ij.2) (oadd (T ij.1 k) (T k ij.2)) with z | z
  · rw [z] at e; exact h _ _ _ e
  · rw [z] at e; exact h.add e
theorem Sound.fw {T : Tb} (h : Sound sv ev wv es T) (n : Nat) : Sound sv ev wv es (GR.fw n T) := by
  unfold GR.fw
  refine foldl_inv (P := fun _ R => Sound sv ev wv es R) h fun _ k c _ hc => ?_
  unfold fwSt
  exact foldl_inv (P := fun _ R => Sound sv ev wv es R) hc fun _ x c _ h => h.cell k x
theorem omin_idem (a b : Option Int) : omin (omin a b) b = omin a b := by
  cases a <;> cases b <;> simp [omin]; split <;> omega
theorem omin_self0 (a : Option Int) : omin a (oadd a (some 0)) = a := by cases a <;> simp [omin, oadd]
theorem omin_self0' (a : Option Int) : omin a (oadd (some 0) a) = a := by cases a <;> simp [omin, oadd]
theorem zero_of {o : Option Int} (h1 : ole o (some 0)) (h2 : ole (some 0) o) : o = some 0 := ole_antisymm h1 h2
theorem fwSt_is {n k : Nat} {T : Tb} (hk : T k k = some 0) (hr : ole (some 0) (fwSt n T k k k)) (a b : Nat) (ha : a < n) (hb : b < n) : fwSt n T k a b = omin (T a b) (oadd (T a k) (T k b)) := by
  have key := foldl_inv (f := fwCell k) (l := prs n) (b := T) (P := fun pre R => ole (some 0) (R k k) → ∀ a b, R a b = if (a, b) ∈ pre then omin (T a b) (oadd (T a k) (T k b)) else T a b)
    (fun _ a b => by simp) (fun pre x R _ ih h0 a b => ?_)
  · have := key hr a b
    rw [if_pos (mem_prs.mpr ⟨ha, hb⟩)] at this
    exact this
  · have ih := ih (ole_trans h0 (fwCell_le k R x k k))
    obtain ⟨i, j⟩ := x
    have c1 : R i k = T i k := by
      rw [ih i k]; split
      · rw [hk, omin_self0]
      · rfl
    have c2 : R k j = T k j := by
      rw [ih k j]; split
      · rw [hk, omin_self0']
      · rfl
    show fwCell k R (i, j) a b = _
    unfold fwCell upd2
    by_cases hab : a = i ∧ b = j
    · obtain ⟨rfl, rfl⟩ := hab
      rw [if_pos ⟨rfl, rfl⟩, if_pos (by simp), c1, c2, ih a b]
      split
      · exact omin_idem _ _
      · rfl
    · rw [if_neg hab, ih a b]
      have : (a, b) ∈ pre ++ [(i, j)] ↔ (a, b) ∈ pre := by
        rw [List.mem_append, List.mem_singleton, Prod.mk.injEq]
        exact ⟨fun h => h.resolve_right hab, .inl⟩
      simp only [this]
theorem fw_tri {n : Nat} {T : Tb} (h0 : ∀ i, i < n → T i i = some 0) (hr : ∀ i, i < n → ole (some 0) (fw n T i i)) :
    (∀ i, i < n → fw n T i i = some 0) ∧ ∀ k, k < n → ∀ a b, a < n → b < n → ole (fw n T a b) (oadd (fw n T a k) (fw n T k b)) := by
  have key := foldl_inv (f := fwSt n) (l := List.range n) (b := T) (P := fun pre R => (∀ i, i < n → ole (some 0) (R i i)) → (∀ i, i < n → R i i = some 0) ∧ ∀ k ∈ pre, k < n → ∀ a b, a < n → b < n → ole (R a b) (oadd (R a k) (R k b)))
    (fun _ => ⟨h0, fun k hk => absurd hk List.not_mem_nil⟩) (fun pre k R hk ih hp => ?_)
  · obtain ⟨h1, h2⟩ := key hr
    exact ⟨h1, fun k hk => h2 k (List.mem_range.mpr hk) hk⟩
  · have hk := List.mem_range.mp hk
    obtain ⟨d, tri⟩ := ih fun i hi => ole_trans (hp i hi) (fwSt_le n R k i i)
    have e := fwSt_is (n := n) (d k hk) (hp k hk)
    have ek : ∀ a, a < n → fwSt n R k a k = R a k := fun a ha => by rw [e a k ha hk, d k hk, omin_self0]
    have ek' : ∀ b, b < n → fwSt n R k k b = R k b := fun b hb => by rw [e k b hk hb, d k hk, omin_self0']
    refine ⟨fun i hi => zero_of (ole_trans (fwSt_le n R k i i) (by rw [d i hi]; exact ole_refl _)) (hp i hi), fun m hm hmn a b ha hb => ?_⟩
    rcases List.mem_append.mp hm with hm | hm
    · rw [e a b ha hb]
      rcases omin_cases (R a m) (oadd (R a k) (R k m)) with z1 | z1 <;> rcases omin_cases (R m b) (oadd (R m k) (R k b)) with z2 | z2 <;> rw [e a m ha hmn, e m b hmn hb, z1, z2]
      · exact ole_trans (omin_left _ _) (tri m hm hmn a b ha hb)
      · rw [← oadd_assoc]
        exact ole_trans (omin_right _ _) (oadd_mono (tri m hm hmn a k ha hk) (ole_refl _))
      · rw [oadd_assoc]
        exact ole_trans (omin_right _ _) (oadd_mono (ole_refl _) (tri m hm hmn k b hk hb))
      · have t := tri m hm hmn k k hk hk
        rw [d k hk] at t
        rw [oadd_assoc, ← oadd_assoc (R k m)]
        refine ole_trans (omin_right _ _) (oadd_mono (ole_refl _) (ole_trans ?_ (oadd_mono t (ole_refl _))))
        cases R k b <;> simp [ole, oadd]
    · obtain rfl := List.mem_singleton.mp hm
      rw [ek a ha, ek' b hb, e a b ha hb]
      exact omin_right _ _
/-- what the table tells -/
theorem fw_spec {n : Nat} {T : Tb} (he : ∀ x ∈ es, sv x < n ∧ ev x < n) (h0 : ∀ i, i < n → T i i = some 0) (snd : Sound sv ev wv es T) (hx : ∀ x ∈ es, ole (T (sv x) (ev x)) (some (wv x))) :
    (NoNeg sv ev wv es ∧ (∀ i, i < n → fw n T i i = some 0) ∧ ∀ i j, i < n → j < n → Dst sv ev wv es i j (fw n T i j)) ∨
    (¬ NoNeg sv ev wv es ∧ ∃ i, i < n ∧ ∃ L, L < 0 ∧ fw n T i i = some L) := by
  have sn := snd.fw n
  by_cases hr : ∀ i, i < n → ole (some 0) (fw n T i i)
  · obtain ⟨d, tri⟩ := fw_tri h0 hr
    have D : ∀ i, i < n → ∀ j, Dst sv ev wv es i j (if j < n then fw n T i j else none) := fun i hi => dst_of_closed (T := fun j => if j < n then fw n T i j else none)
      (fun j L e => by
        split at e
        · exact sn i j L e
        · cases e) (by rw [if_pos hi, d i hi]; exact ole_refl _) fun x hxe => by
          have hx' := he x hxe
          rw [if_pos hx'.1, if_pos hx'.2]
          exact ole_trans (tri _ hx'.1 i _ hi hx'.2) (oadd_mono (ole_refl _) (ole_trans (fw_le n T _ _) (hx x hxe)))
    refine .inl ⟨fun i p hp => ?_, d, fun i j hi hj => by have := D i hi j; rwa [if_pos hj] at this⟩
    match p, hp with
    | [], _ => exact Int.le_refl _
    | x :: p, hp =>
      have hi : i < n := by rw [← hp.2.1]; exact (he x hp.1).1
      have := (D i hi i).ole hp
      rw [if_pos hi, d i hi] at this
      exact this
  · have ⟨i, h⟩ := Classical.not_forall.mp hr
    have ⟨hi, h⟩ := Classical.not_imp.mp h
    cases e : fw n T i i with
    | none => rw [e] at h; exact absurd True.intro h
    | some L =>
      rw [e] at h
      have hL : L < 0 := Int.not_le.mp h
      refine .inr ⟨fun hz => ?_, i, hi, L, hL, e⟩
      obtain ⟨p, p1, p2⟩ := sn i i L e
      have := hz i p p1
      omega
/-! ### tables of walks: one edge more, again and again -/
abbrev Wt (X : Type) := Nat → Option (List X)
def upd1 (R : Wt X) (j : Nat) (o : Option (List X)) : Wt X := fun b => if b = j then o else R b
variable (sv ev wv) in
def bfOne (row : Wt X) (R : Wt X) (x : X) : Wt X := match row (sv x) with
  | none => R
  | some p => (match R (ev x) with
    | none => upd1 R (ev x) (some (p ++ [x]))
    | some q => if wlen wv p + wv x < wlen wv q then upd1 R (ev x) (some (p ++ [x])) else R)
variable (wv) in
def oL (o : Option (List X)) : Option Int := o.map (wlen wv)
theorem bfOne_n {row R : Wt X} {x : X} (h : row (sv x) = none) : bfOne sv ev wv row R x = R := by unfold bfOne; rw [h]
theorem bfOne_a {row R : Wt X} {x : X} {p : List X} (h : row (sv x) = some p) (h2 : R (ev x) = none) : bfOne sv ev wv row R x = upd1 R (ev x) (some (p ++ [x])) := by unfold bfOne; rw [h]; dsimp only; rw [h2]
theorem bfOne_b {row R : Wt X} {x : X} {p q : List X} (h : row (sv x) = some p) (h2 : R (ev x) = some q) : bfOne sv ev wv row R x = if wlen wv p + wv x < wlen wv q then upd1 R (ev x) (some (p ++ [x])) else R := by unfold bfOne; rw [h]; dsimp only; rw [h2]
theorem bfOne_c {row R : Wt X} {x : X} {p : List X} (h : row (sv x) = some p) : (bfOne sv ev wv row R x = upd1 R (ev x) (some (p ++ [x])) ∧ ole (some (wlen wv p + wv x)) (oL wv (R (ev x)))) ∨ (bfOne sv ev wv row R x = R ∧ ole (oL wv (R (ev x))) (some (wlen wv p + wv x))) := by
  cases h2 : R (ev x) with
  | none => exact .inl ⟨bfOne_a h h2, True.intro⟩
  | some q =>
    rw [bfOne_b h h2]
    by_cases c : wlen wv p + wv x < wlen wv q
    · rw [if_pos c]; exact .inl ⟨rfl, Int.le_of_lt c⟩
    · rw [if_neg c]; exact .inr ⟨rfl, Int.not_lt.mp c⟩
theorem bfOne_le (row R : Wt X) (x : X) (j : Nat) : ole (oL wv (bfOne sv ev wv row R x j)) (oL wv (R j)) := by
  cases h : row (sv x) with
  | none => rw [bfOne_n h]; exact ole_refl _
  | some p =>
    rcases bfOne_c (ev := ev) (wv := wv) (R := R) h with ⟨e, l⟩ | ⟨e, l⟩
    · rw [e]
      unfold upd1
      split
      · rename_i z; subst z
        show ole (some (wlen wv (p ++ [x]))) _
        rw [wlen_append, wlen_one]; exact l
      · exact ole_refl _
    · rw [e]; exact ole_refl _
theorem bfOne_at (row R : Wt X) (x : X) : ole (oL wv (bfOne sv ev wv row R x (ev x))) (oadd (oL wv (row (sv x))) (some (wv x))) := by
  cases h : row (sv x) with
  | none => simp [oL, oadd, ole]
  | some p =>
    rcases bfOne_c (ev := ev) (wv := wv) (R := R) h with ⟨e, l⟩ | ⟨e, l⟩
    · rw [e]
      unfold upd1
      rw [if_pos rfl]
      show ole (some (wlen wv (p ++ [x]))) _
      rw [wlen_append, wlen_one]; exact ole_refl _
    · rw [e]; exact l
variable (sv ev wv es) in
def bfRow (row : Wt X) : Wt X := es.foldl (bfOne sv ev wv row) row
theorem bfRow_le (row : Wt X) (j : Nat) : ole (oL wv (bfRow sv ev wv es row j)) (oL wv (row j)) :=
  foldl_inv (f := bfOne sv ev wv row) (l := es) (b := row) (P := fun _ (R : Wt X) => ole (oL wv (R j)) (oL wv (row j))) (ole_refl _) fun _ x c _ h => ole_trans (bfOne_le row c x j) h
theorem bfRow_at (row : Wt X) {x : X} (hx : x ∈ es) : ole (oL wv (bfRow sv ev wv es row (ev x))) (oadd (oL wv (row (sv x))) (some (wv x))) :=
  foldl_inv (f := bfOne sv ev wv row) (l := es) (b := row) (P := fun pre (R : Wt X) => ∀ y ∈ pre, ole (oL wv (R (ev y))) (oadd (oL wv (row (sv y))) (some (wv y)))) (fun y hy => absurd hy List.not_mem_nil) (fun pre x c _ h y hy => by
    rcases List.mem_append.mp hy with hy | hy
    · exact ole_trans (bfOne_le row c x _) (h y hy)
    · obtain rfl := List.mem_singleton.mp hy
      exact bfOne_at row c y) x hx
theorem bfRow_from (row : Wt X) {j : Nat} {q : List X} (h : bfRow sv ev wv es row j = some q) : row j = some q ∨ ∃ x ∈ es, ∃ p, row (sv x) = some p ∧ ev x = j ∧ q = p ++ [x] := by
  refine foldl_inv (f := bfOne sv ev wv row) (l := es) (b := row) (P := fun _ R => ∀ j q, R j = some q → row j = some q ∨ ∃ x ∈ es, ∃ p, row (sv x) = some p ∧ ev x = j ∧ q = p ++ [x]) (fun _ _ h => .inl h) (fun pre x c hx ih j q h => ?_) j q h
  cases hp : row (sv x) with
  | none => rw [bfOne_n hp] at h; exact ih j q h
  | some p =>
    rcases bfOne_c (ev := ev) (wv := wv) (R := c) hp with ⟨e, _⟩ | ⟨e, _⟩
    · rw [e] at h
      unfold upd1 at h
      split at h
      · rename_i e; cases h; exact .inr ⟨x, hx, p, hp, e.symm, rfl⟩
      · exact ih j q h
    · rw [e] at h; exact ih j q h
variable (sv ev wv es) in
/-- a row of the walks from i with at most k edges -/
structure Kd (k i : Nat) (row : Wt X) : Prop where
  ok : ∀ j q, row j = some q → IsW sv ev es i j q ∧ q.length ≤ k
  le : ∀ j p, IsW sv ev es i j p → p.length ≤ k → ole (oL wv (row j)) (some (wlen wv p))
theorem Kd.zero (i : Nat) : Kd sv ev wv es 0 i (fun j => if i = j then some [] else none) := by
  refine ⟨fun j q h => ?_, fun j p h hl => ?_⟩
  · split at h
    · rename_i e; cases h; exact ⟨e, Nat.le_refl _⟩
    · cases h
  · match p, h, hl with
    | [], h, _ =>
      have e : i = j := h
      rw [if_pos e]
      exact Int.le_refl _
theorem Kd.succ {k i : Nat} {row : Wt X} (h : Kd sv ev wv es k i row) : Kd sv ev wv es (k + 1) i (bfRow sv ev wv es row) := by
  refine ⟨fun j q hq => ?_, fun j p hp hl => ?_⟩
  · rcases bfRow_from row hq with hq | ⟨x, hx, p, h1, rfl, rfl⟩
    · have := h.ok j q hq
      exact ⟨this.1, by omega⟩
    · have := h.ok _ p h1
      exact ⟨isW_append.mpr ⟨_, this.1, isW_one hx⟩, by rw [List.length_append]; simpa using this.2⟩
  · rcases List.eq_nil_or_concat p with rfl | ⟨p, x, rfl⟩
    · exact ole_trans (bfRow_le row j) (h.le j [] hp (Nat.zero_le _))
    · rw [List.concat_eq_append] at hp hl ⊢
      obtain ⟨m, h1, h2, h3, h4⟩ := isW_append.mp hp
      subst h3
      have h4 : ev x = j := h4
      subst h4
      rw [List.length_append] at hl
      have := h.le _ p h1 (by simp at hl; omega)
      rw [wlen_append, wlen_one]
      exact ole_trans (bfRow_at row h2) (oadd_mono this (ole_refl (some (wv x))))
/-- after as many rounds as there are events, without a round below 0: the least walks -/
theorem Kd.dst {n : Nat} (he : ∀ x ∈ es, sv x < n ∧ ev x < n) {W : Nat → Wt X} (h : ∀ i, i < n → Kd sv ev wv es n i (W i)) (hd : ∀ i, i < n → ole (some 0) (oL wv (W i i))) :
    NoNeg sv ev wv es ∧ ∀ i j, i < n → Dst sv ev wv es i j (oL wv (W i j)) := by
  have hz : NoNeg sv ev wv es := noNeg_of he fun i p hi hp hl => by
    have := ole_trans (hd i hi) ((h i hi).le i p hp hl)
    exact this
  refine ⟨hz, fun i j hi => ⟨fun L e => ?_, fun p hp => ?_⟩⟩
  · cases e2 : W i j with
    | none => rw [e2] at e; cases e
    | some q =>
      rw [e2] at e
      cases e
      exact ⟨q, ((h i hi).ok j q e2).1, rfl⟩
  · obtain ⟨q, h1, h2, h3⟩ := short_walk he hz _ (Nat.le_refl _) hi hp
    have := (h i hi).le j q h1 (by omega)
    cases e2 : W i j with
    | none => rw [e2] at this; exact this.elim
    | some q' =>
      rw [e2] at this
      exact ⟨_, rfl, Int.le_trans this h3⟩
end
end GR
namespace Z2
open PySem L2
abbrev Fg := PySem.W.Frag
abbrev D := PyData
/-- a dict whose keys are tuples of ints and texts, one's own: keys, where they lie, values -/
def dctO (w : World) (a : Addr) (xs : List (List Key × Addr × Value)) : HO := .ext fun h => (a == sysModules) = false ∧ xs.length ≤ sizeLine ∧ ∃ o es ep, h.get? a = some o ∧ o.ExactDict ∧ o.data = .dict es ep ∧
  (∀ P : Program, es.toList = xs.map (entryOfKey (tupleKind (mixKind P w)))) ∧ (xs.map (·.1)).Nodup
/-- plain values -/
inductive R0 : V → D → Prop
  | non : R0 .non .none
  | bl (b : Bool) : R0 (.bl b) (.bool b)
  | int (i : Int) : R0 (.int i) (.int i)
def kI (ns : List Int) : List Key := ns.map Sum.inl
/-- a dict whose keys are tuples of ints, with plain values, as data -/
inductive KF (K : Fg) (I : Hp) : List (List Key × Addr × Value) → List (D × D) → Prop
  | nil : KF K I [] []
  | cons {ns : List Int} {b : Addr} {u : Value} {v : V} {d : D} {xs : List (List Key × Addr × Value)} {kvs : List (D × D)} : SqT K I b (ns.map V.int) → RelV v u → R0 v d → KF K I xs kvs → KF K I ((kI ns, b, u) :: xs) ((.tuple (ns.map PyData.int), d) :: kvs)
mutual
inductive Rp (K : Fg) (I : Hp) : V → D → Prop
  | non : Rp K I .non .none
  | bl (b : Bool) : Rp K I (.bl b) (.bool b)
  | int (i : Int) : Rp K I (.int i) (.int i)
  | str (x : Str) : Rp K I (.str x) (.str x)
  | lst {a : Addr} {vs : List V} {ds : List D} : I a = some (.lst vs) → Rps K I vs ds → Rp K I (.ref a) (.list ds)
  | tup {a : Addr} {vs : List V} {ds : List D} : SqT K I a vs → Rps K I vs ds → Rp K I (.ref a) (.tuple ds)
  | dic {a : Addr} {w : World} {xs : List (List Key × Addr × Value)} {kvs : List (D × D)} : I a = some (dctO w a xs) → KF K I xs kvs → Rp K I (.ref a) (.dict kvs)
inductive Rps (K : Fg) (I : Hp) : List V → List D → Prop
  | nil : Rps K I [] []
  | cons {v : V} {vs : List V} {d : D} {ds : List D} : Rp K I v d → Rps K I vs ds → Rps K I (v :: vs) (d :: ds)
end
theorem Same.sqt {K : Fg} {H H' : Hp} {a : Addr} {xs : List V} (e : Same H H') (h : SqT K H a xs) : SqT K H' a xs := by
  rcases h with (h | ⟨o, h⟩) | h
  · exact .inl (.inl (e _ _ h))
  · exact .inl (.inr ⟨o, e _ _ h⟩)
  · exact .inr h
theorem KF.mono {K : Fg} {I I' : Hp} (e : Same I I') : ∀ {xs : List (List Key × Addr × Value)} {ks : List (D × D)}, KF K I xs ks → KF K I' xs ks
  | _, _, .nil => .nil
  | _, _, .cons h1 h2 h3 t => .cons (Same.sqt e h1) h2 h3 (KF.mono e t)
section
variable {K : Fg} {I I' : Hp}
theorem R0.rp {v : V} {d : D} (h : R0 v d) : Rp K I v d := by
  cases h with
  | non => exact .non
  | bl b => exact .bl b
  | int i => exact .int i
mutual
theorem Rp.mono (e : Same I I') : ∀ (d : D) (v : V), Rp K I v d → Rp K I' v d
  | .none, _, h => by cases h; exact .non
  | .bool _, _, h => by cases h; exact .bl _
  | .int _, _, h => by cases h; exact .int _
  | .str _, _, h => by cases h; exact .str _
  | .list ds, _, h => by
    cases h with
    | lst h1 h2 => exact .lst (e _ _ h1) (Rps.mono e ds _ h2)
  | .tuple ds, _, h => by
    cases h with
    | tup h1 h2 => exact .tup (Same.sqt e h1) (Rps.mono e ds _ h2)
  | .dict _, _, h => by
    cases h with
    | dic h1 h2 => exact .dic (e _ _ h1) (KF.mono e h2)
theorem Rps.mono (e : Same I I') : ∀ (ds : List D) (vs : List V), Rps K I vs ds → Rps K I' vs ds
  | [], _, h => by cases h; exact .nil
  | d :: ds, _, h => by
    cases h with
    | cons h1 h2 => exact .cons (Rp.mono e d _ h1) (Rps.mono e ds _ h2)
end
mutual
theorem Rp.dp {H : Hp} (e : Same I H) : ∀ (d : D) (v : V), d.canLay0 = true → Rp K I v d → Dp K H v d
  | .none, _, _, h => by cases h; exact .non
  | .bool _, _, _, h => by cases h; exact .bl _
  | .int _, _, _, h => by cases h; exact .int _
  | .str _, _, _, h => by cases h; exact .str _
  | .list ds, _, c, h => by
    cases h with
    | lst h1 h2 => exact .lst (SqL.of (e _ _ h1)) (Rps.dp e ds _ (by simpa [PyData.canLay0] using c) h2)
  | .tuple ds, _, c, h => by
    cases h with
    | tup h1 h2 => exact .tup (Same.sqt e h1) (Rps.dp e ds _ (by simpa [PyData.canLay0] using c) h2)
  | .dict _, _, c, h => by simp [PyData.canLay0] at c
theorem Rps.dp {H : Hp} (e : Same I H) : ∀ (ds : List D) (vs : List V), PyData.canLayAll0 ds = true → Rps K I vs ds → DpAll K H vs ds
  | [], _, _, h => by cases h; exact .nil
  | d :: ds, _, c, h => by
    have c : (d.canLay0 && PyData.canLayAll0 ds) = true := by simpa [PyData.canLayAll0] using c
    rw [Bool.and_eq_true] at c
    cases h with
    | cons h1 h2 => exact .cons (Rp.dp e d _ c.1 h1) (Rps.dp e ds _ c.2 h2)
end
theorem Rps.length : ∀ {vs : List V} {ds : List D}, Rps K I vs ds → vs.length = ds.length
  | _, _, .nil => rfl
  | _, _, .cons _ t => by rw [List.length_cons, List.length_cons, Rps.length t]
theorem Rps.get : ∀ {vs : List V} {ds : List D} {i : Nat} {x : V}, Rps K I vs ds → vs[i]? = some x → ∃ d, ds[i]? = some d ∧ Rp K I x d
  | _, _, _, _, .nil, e => by simp at e
  | _, _, 0, _, .cons r _, e => by simp at e; subst e; exact ⟨_, rfl, r⟩
  | _, _, i + 1, x, .cons _ t, e => by
    obtain ⟨u, h1, h2⟩ := Rps.get (i := i) (x := x) t (by simpa using e)
    exact ⟨u, by simpa using h1, h2⟩
theorem Rps.got : ∀ {vs : List V} {ds : List D} {i : Nat} {d : D}, Rps K I vs ds → ds[i]? = some d → ∃ x, vs[i]? = some x ∧ Rp K I x d
  | _, _, _, _, .nil, e => by simp at e
  | _, _, 0, _, .cons r _, e => by simp at e; subst e; exact ⟨_, rfl, r⟩
  | _, _, i + 1, x, .cons _ t, e => by
    obtain ⟨u, h1, h2⟩ := Rps.got (i := i) (d := x) t (by simpa using e)
    exact ⟨u, by simpa using h1, h2⟩
theorem Rps.append : ∀ {vs ws : List V} {ds es : List D}, Rps K I vs ds → Rps K I ws es → Rps K I (vs ++ ws) (ds ++ es)
  | _, _, _, _, .nil, s => s
  | _, _, _, _, .cons r t, s => .cons r (Rps.append t s)
theorem Rps.take : ∀ {vs : List V} {ds : List D} (n : Nat), Rps K I vs ds → Rps K I (vs.take n) (ds.take n)
  | _, _, 0, _ => .nil
  | _, _, _ + 1, .nil => .nil
  | _, _, n + 1, .cons r t => .cons r (Rps.take n t)
theorem Rps.drop : ∀ {vs : List V} {ds : List D} (n : Nat), Rps K I vs ds → Rps K I (vs.drop n) (ds.drop n)
  | _, _, 0, r => r
  | _, _, _ + 1, .nil => .nil
  | _, _, n + 1, .cons _ t => Rps.drop n t
theorem Rps.set {x : V} {d : D} (r : Rp K I x d) : ∀ {vs : List V} {ds : List D} (i : Nat), Rps K I vs ds → Rps K I (vs.set i x) (ds.set i d)
  | _, _, _, .nil => .nil
  | _, _, 0, .cons _ t => .cons r t
  | _, _, i + 1, .cons q t => .cons q (Rps.set r i t)
theorem Rps.rep {vs : List V} {ds : List D} (r : Rps K I vs ds) : ∀ n : Nat, Rps K I (List.replicate n vs).flatten (List.replicate n ds).flatten
  | 0 => .nil
  | n + 1 => by
    rw [List.replicate_succ, List.replicate_succ, List.flatten_cons, List.flatten_cons]
    exact Rps.append r (Rps.rep r n)
/-- ints as ints -/
theorem Rps.ints : ∀ {vs : List V} {ns : List Int}, Rps K I vs (ns.map PyData.int) → vs = ns.map V.int
  | _, [], h => by cases h; rfl
  | _, n :: ns, h => by
    cases h with
    | cons h1 h2 => cases h1; rw [List.map_cons, Rps.ints h2]
theorem Rps.ofInts : ∀ (ns : List Int), Rps K I (ns.map V.int) (ns.map PyData.int)
  | [] => .nil
  | n :: ns => .cons (.int n) (Rps.ofInts ns)
theorem Rps.bools : ∀ {vs : List V} {ns : List Bool}, Rps K I vs (ns.map PyData.bool) → vs = ns.map V.bl
  | _, [], h => by cases h; rfl
  | _, n :: ns, h => by
    cases h with
    | cons h1 h2 => cases h1; rw [List.map_cons, Rps.bools h2]
end
/-! ### worlds -/
structure Gr (m : Option Addr) (I H I' H' : Hp) : Prop where
  ii : Same I I'
  ih : Same I' H'
  hh : ∀ a o, H a = some o → m ≠ some a → H' a = some o
  fr : ∀ a, I a = none → H a ≠ none → I' a = none
  th : ∀ a, H a ≠ none → H' a ≠ none
/-- the draws' list at s: the numbers, the cell, the place -/
def Strm (I H : Hp) (s : Addr) : Prop := I s = none ∧ ∃ (l : Addr) (c k : Int) (ns : List Int), H s = some (.lst [.ref l, .int c, .int k]) ∧ I l = some (.lst (ns.map V.int)) ∧ 0 ≤ k
inductive KD (K : Fg) (I : Hp) : List (List Key × Addr × Value) → List (List Key × D) → Prop
  | nil : KD K I [] []
  | cons {k : List Key} {b : Addr} {u : Value} {v : V} {d : D} {xs : List (List Key × Addr × Value)} {ks : List (List Key × D)} : SqT K I b (k.map kV) → RelV v u → Rp K I v d → KD K I xs ks → KD K I ((k, b, u) :: xs) ((k, d) :: ks)
theorem KD.mono {K : Fg} {I I' : Hp} (e : Same I I') : ∀ {xs : List (List Key × Addr × Value)} {ks : List (List Key × D)}, KD K I xs ks → KD K I' xs ks
  | _, _, .nil => .nil
  | _, _, .cons h1 h2 h3 t => .cons (Same.sqt e h1) h2 (Rp.mono e _ _ h3) (KD.mono e t)
/-- a dict of one's own whose keys are ints -/
inductive KDI (K : Fg) (I : Hp) : List (Key × V) → List (Int × D) → Prop
  | nil : KDI K I [] []
  | cons {i : Int} {v : V} {d : D} {xs : List (Key × V)} {ks : List (Int × D)} : Rp K I v d → KDI K I xs ks → KDI K I ((.inl i, v) :: xs) ((i, d) :: ks)
theorem KDI.mono {K : Fg} {I I' : Hp} (e : Same I I') : ∀ {xs : List (Key × V)} {ks : List (Int × D)}, KDI K I xs ks → KDI K I' xs ks
  | _, _, .nil => .nil
  | _, _, .cons h t => .cons (Rp.mono e _ _ h) (KDI.mono e t)
/-- rows of one's own -/
inductive MR (K : Fg) (H0 I H : Hp) : List Addr → List (List D) → Prop
  | nil : MR K H0 I H [] []
  | cons {b : Addr} {vs : List V} {ds : List D} {bs : List Addr} {rows : List (List D)} : H0 b = none → I b = none → H b = some (.lst vs) → Rps K I vs ds → b ∉ bs → MR K H0 I H bs rows → MR K H0 I H (b :: bs) (ds :: rows)
theorem MR.stays {K : Fg} {H0 I H I' H' : Hp} {bs : List Addr} {rows : List (List D)} (ii : Same I I') (m : MR K H0 I H bs rows) (h : ∀ b ∈ bs, H0 b = none → I b = none → H b ≠ none → I' b = none ∧ H' b = H b) : MR K H0 I' H' bs rows := by
  induction m with
  | nil => exact .nil
  | @cons b vs ds bs rows h1 h2 h3 h4 h5 t ih =>
    obtain ⟨g1, g2⟩ := h b List.mem_cons_self h1 h2 (by rw [h3]; exact fun z => nomatch z)
    exact .cons h1 g1 (g2.trans h3) (Rps.mono ii _ _ h4) h5 (ih fun c hc => h c (List.mem_cons_of_mem _ hc))
theorem MR.live {K : Fg} {H0 I H : Hp} {bs : List Addr} {rows : List (List D)} (m : MR K H0 I H bs rows) : ∀ b ∈ bs, H0 b = none ∧ I b = none ∧ ∃ vs, H b = some (.lst vs) := by
  induction m with
  | nil => exact fun b hb => absurd hb List.not_mem_nil
  | @cons b vs ds bs rows h1 h2 h3 h4 h5 t ih =>
    intro c hc
    rcases List.mem_cons.mp hc with rfl | hc
    · exact ⟨h1, h2, _, h3⟩
    · exact ih c hc
/-- what is lent to a function: a list or a dict that another one owns -/
inductive Lnt where
  | l (ds : List D) | d (w : World) (ks : List (List Key × D))
def LntR (K : Fg) (I H : Hp) (a : Addr) : Lnt → Prop
  | .l ds => ∃ vs, H a = some (.lst vs) ∧ Rps K I vs ds
  | .d w ks => ∃ xs, H a = some (dctO w a xs) ∧ KD K I xs ks
theorem LntR.stays {K : Fg} {I I' H H' : Hp} {a : Addr} {x : Lnt} (h : LntR K I H a x) (ii : Same I I') (k : ∀ o, H a = some o → H' a = some o) : LntR K I' H' a x := by
  cases x with
  | l ds => obtain ⟨vs, h1, h2⟩ := h; exact ⟨vs, k _ h1, Rps.mono ii _ _ h2⟩
  | d w ks => obtain ⟨xs, h1, h2⟩ := h; exact ⟨xs, k _ h1, KD.mono ii h2⟩
inductive Sl where
  | dat (d : D) | own (ds : List D) | strm | dct (w : World) (ks : List (List Key × D)) | dki (ks : List (Int × D)) | mat (rows : List (List D)) | lnt (x : Lnt) | rng (n : Int)
abbrev Ev := List (Option Sl)
structure P0 where
  m : Option Addr
  I0 : Hp
  H0 : Hp
  B : Hp
/-- a step of the world -/
structure Stp (p : P0) (I H I' H' : Hp) : Prop where
  gr : Gr p.m I H I' H'
  st : ∀ s, p.m = some s → Strm I H s → Strm I' H' s
def SlR (K : Fg) (p : P0) (I H : Hp) : Sl → V → Prop
  | .dat d, v => Rp K I v d
  | .own ds, v => ∃ a vs, v = .ref a ∧ p.H0 a = none ∧ I a = none ∧ H a = some (.lst vs) ∧ Rps K I vs ds
  | .strm, v => ∃ a, v = .ref a ∧ p.m = some a
  | .dct w ks, v => ∃ a xs, v = .ref a ∧ p.H0 a = none ∧ I a = none ∧ H a = some (dctO w a xs) ∧ KD K I xs ks
  | .dki ks, v => ∃ a xs, v = .ref a ∧ p.H0 a = none ∧ I a = none ∧ H a = some (.dK xs) ∧ KDI K I xs ks
  | .rng n, v => ∃ a, v = .ref a ∧ I a = some (.rng 0 n)
  | .mat rows, v => ∃ (a : Addr) (bs : List Addr), v = .ref a ∧ p.H0 a = none ∧ I a = none ∧ H a = some (.lst (bs.map V.ref)) ∧ a ∉ bs ∧ MR K p.H0 I H bs rows
  | .lnt x, v => ∃ a, v = .ref a ∧ p.H0 a ≠ none ∧ p.m ≠ some a ∧ LntR K I H a x
/-- the cells that a name's own lists take -/
def Cell (x : Sl) (v : V) (H : Hp) (c : Addr) : Prop := match x with
  | .own _ => v = .ref c
  | .mat _ => v = .ref c ∨ ∃ (a : Addr) (bs : List Addr), v = .ref a ∧ H a = some (.lst (bs.map V.ref)) ∧ c ∈ bs
  | _ => False
def isMat : Sl → Bool | .mat _ => true | _ => false
/-- what two names own is apart, where one is a table of rows -/
def SepM (env : Ev) (σ : L2.St) (H : Hp) : Prop := ∀ (i j : Nat) (x y : Sl) (u v : V) (c : Addr), i ≠ j → (isMat x || isMat y) = true → env[i]? = some (some x) → env[j]? = some (some y) → σ[i]? = some (some u) → σ[j]? = some (some v) → Cell x u H c → ¬ Cell y v H c
/-- dicts at two names are two dicts -/
def SepD (env : Ev) (σ : L2.St) : Prop := ∀ (i j : Nat) (w w' : World) (x y : List (List Key × D)) (a : Addr), i ≠ j → env[i]? = some (some (.dct w x)) → env[j]? = some (some (.dct w' y)) → σ[i]? = some (some (.ref a)) → σ[j]? ≠ some (some (.ref a))
structure Rel (K : Fg) (p : P0) (env : Ev) (σ : L2.St) (I H : Hp) : Prop where
  gr : Gr p.m p.I0 p.H0 I H
  sl : ∀ (i : Nat) (x : Sl), env[i]? = some (some x) → ∃ v : V, σ[i]? = some (some v) ∧ SlR K p I H x v
  sep : ∀ (i j : Nat) (x y : List D) (a : Addr), i ≠ j → env[i]? = some (some (.own x)) → env[j]? = some (some (.own y)) → σ[i]? = some (some (.ref a)) → σ[j]? ≠ some (some (.ref a))
  st : ∀ s, p.m = some s → p.H0 s ≠ none ∧ Strm I H s
  bs : Same p.B I
  sd : SepD env σ
  sm : SepM env σ H
theorem Gr.refl {m : Option Addr} {I H : Hp} (e : Same I H) : Gr m I H I H := ⟨Same.refl _, e, fun _ _ h _ => h, fun _ h _ => h, fun _ h => h⟩
theorem Gr.trans {m : Option Addr} {I H I1 H1 I2 H2 : Hp} (a : Gr m I H I1 H1) (b : Gr m I1 H1 I2 H2) : Gr m I H I2 H2 :=
  ⟨a.ii.trans b.ii, b.ih, fun c o h n => b.hh c o (a.hh c o h n) n, fun c h n => b.fr c (a.fr c h n) (a.th c n), fun c h => b.th c (a.th c h)⟩
theorem Gr.weak {m : Option Addr} {I H I1 H1 : Hp} (a : Gr none I H I1 H1) : Gr m I H I1 H1 :=
  ⟨a.ii, a.ih, fun c o h _ => a.hh c o h (fun q => nomatch q), a.fr, a.th⟩
theorem Gr.new {m : Option Addr} {I H : Hp} {p : Addr} {o : HO} (e : Same I H) (hp : H p = none) : Gr m I H (upd I p o) (upd H p o) := by
  have ip : I p = none := Same.free e hp
  refine ⟨fun b u h => ?_, fun b u h => ?_, fun b u h _ => ?_, fun b h n => ?_, fun b h => ?_⟩
  · rw [upd_ne (ne_of_none h ip)]; exact h
  · by_cases hb : b = p
    · subst hb; rw [upd_same] at h ⊢; exact h
    · rw [upd_ne hb] at h ⊢; exact e _ _ h
  · rw [upd_ne (ne_of_none h hp)]; exact h
  · have hb : b ≠ p := fun q => n (by rw [q]; exact hp)
    rw [upd_ne hb]; exact h
  · have hb : b ≠ p := fun q => h (by rw [q]; exact hp)
    rw [upd_ne hb]; exact h
/-- a new thing of one's own -/
theorem Gr.fresh {m : Option Addr} {I H : Hp} {p : Addr} {o : HO} (e : Same I H) (hp : H p = none) : Gr m I H I (upd H p o) := by
  refine ⟨Same.refl _, fun b u h => ?_, fun b u h _ => ?_, fun b h n => h, fun b h => ?_⟩
  · rw [upd_ne (ne_of_none (e _ _ h) hp)]; exact e _ _ h
  · rw [upd_ne (ne_of_none h hp)]; exact h
  · have hb : b ≠ p := fun q => h (by rw [q]; exact hp)
    rw [upd_ne hb]; exact h
theorem Strm.grow {I H I' H' : Hp} {s : Addr} (g : Gr none I H I' H') (h : Strm I H s) : Strm I' H' s := by
  obtain ⟨h0, l, c, k, ns, h1, h2, h3⟩ := h
  exact ⟨g.fr _ h0 (by rw [h1]; exact fun q => nomatch q), l, c, k, ns, g.hh _ _ h1 (fun q => nomatch q), g.ii _ _ h2, h3⟩
theorem Stp.refl {p : P0} {I H : Hp} (e : Same I H) : Stp p I H I H := ⟨Gr.refl e, fun _ _ h => h⟩
theorem Stp.trans {p : P0} {I H I1 H1 I2 H2 : Hp} (a : Stp p I H I1 H1) (b : Stp p I1 H1 I2 H2) : Stp p I H I2 H2 :=
  ⟨a.gr.trans b.gr, fun s e h => b.st s e (a.st s e h)⟩
theorem Stp.of {p : P0} {I H I1 H1 : Hp} (a : Gr none I H I1 H1) : Stp p I H I1 H1 := ⟨a.weak, fun _ _ h => h.grow a⟩
theorem Stp.ii {p : P0} {I H I1 H1 : Hp} (a : Stp p I H I1 H1) : Same I I1 := a.gr.ii
theorem Stp.ih {p : P0} {I H I1 H1 : Hp} (a : Stp p I H I1 H1) : Same I1 H1 := a.gr.ih
theorem refs_inj : ∀ {bs cs : List Addr}, bs.map V.ref = cs.map V.ref → bs = cs
  | [], [], _ => rfl
  | [], _ :: _, h => by simp at h
  | _ :: _, [], h => by simp at h
  | b :: bs, c :: cs, h => by
    rw [List.map_cons, List.map_cons] at h
    injection h with h1 h2
    injection h1 with h1
    rw [h1, refs_inj h2]
theorem cell_to {x : Sl} {v : V} {H H' : Hp} {c : Addr} (k : isMat x = true → ∀ a, v = .ref a → H' a = H a) (h : Cell x v H' c) : Cell x v H c := by
  cases x with
  | mat rows =>
    rcases h with h | ⟨a, bs, e1, e2, e3⟩
    · exact .inl h
    · exact .inr ⟨a, bs, e1, by rw [← k rfl a e1]; exact e2, e3⟩
  | own ds => exact h
  | dat d => exact h
  | rng _ => exact h
  | strm => exact h
  | dct w ks => exact h
  | dki ks => exact h
  | lnt x => exact h
theorem cell_live {K : Fg} {p : P0} {I H : Hp} {x : Sl} {v : V} {c : Addr} (s : SlR K p I H x v) (h : Cell x v H c) : p.H0 c = none ∧ I c = none ∧ ∃ vs, H c = some (.lst vs) := by
  cases x with
  | mat rows =>
    obtain ⟨a, bs, rfl, e2, e3, e4, e5, e6⟩ := s
    rcases h with h | ⟨a', bs', f1, f2, f3⟩
    · cases h
      exact ⟨e2, e3, _, e4⟩
    · cases f1
      rw [e4] at f2
      have f2 := HO.lst.inj (Option.some.inj f2)
      have : bs = bs' := refs_inj f2
      subst this
      exact e6.live c f3
  | own ds =>
    obtain ⟨a, vs, rfl, e2, e3, e4, e5⟩ := s
    cases h
    exact ⟨e2, e3, _, e4⟩
  | dat d => exact h.elim
  | rng _ => exact h.elim
  | strm => exact h.elim
  | dct w ks => exact h.elim
  | dki ks => exact h.elim
  | lnt x => exact h.elim
theorem SepM.keep {env : Ev} {σ : L2.St} {H H' : Hp} (h : SepM env σ H) (k : ∀ (i : Nat) (x : Sl) (u : V) (a : Addr), env[i]? = some (some x) → isMat x = true → σ[i]? = some (some u) → u = .ref a → H' a = H a) : SepM env σ H' :=
  fun i j x y u v c n hm e1 e2 s1 s2 c1 c2 => h i j x y u v c n hm e1 e2 s1 s2 (cell_to (fun m a e => k i x u a e1 m s1 e) c1) (cell_to (fun m a e => k j y v a e2 m s2 e) c2)
section
variable {K : Fg} {p : P0} {env : Ev} {σ : L2.St} {I H I' H' : Hp}
theorem Rel.same (r : Rel K p env σ I H) : Same I H := r.gr.ih
theorem Rel.stp (r : Rel K p env σ I H) (s : Stp p I H I' H') : Rel K p env σ I' H' := by
  refine ⟨r.gr.trans s.gr, fun i x e => ?_, r.sep, fun a e => ⟨(r.st a e).1, s.st a e (r.st a e).2⟩, r.bs.trans s.ii, r.sd, r.sm.keep fun i x u a e hm su eu => ?_⟩
  rotate_left
  · obtain ⟨v, hv, h⟩ := r.sl i x e
    rw [su] at hv
    cases hv
    cases x <;> first | (cases hm) | skip
    obtain ⟨a', bs, e1, e2, e3, e4, _, _⟩ := h
    rw [eu] at e1
    cases e1
    have ne : p.m ≠ some a := fun q => (r.st a q).1 e2
    rw [s.gr.hh a _ e4 ne, e4]
  obtain ⟨v, hv, h⟩ := r.sl i x e
  refine ⟨v, hv, ?_⟩
  cases x with
  | dat d => exact Rp.mono s.ii d v h
  | rng _ => obtain ⟨a_, e1_, e2_⟩ := h; exact ⟨a_, e1_, (s.ii) _ _ e2_⟩
  | own ds =>
    obtain ⟨a, vs, e1, e2, e3, e4, e5⟩ := h
    have ne : p.m ≠ some a := fun q => (r.st a q).1 e2
    exact ⟨a, vs, e1, e2, s.gr.fr a e3 (by rw [e4]; exact fun q => nomatch q), s.gr.hh a _ e4 ne, Rps.mono s.ii ds vs e5⟩
  | strm => exact h
  | lnt x =>
    obtain ⟨a, e1, e2, e3, e4⟩ := h
    exact ⟨a, e1, e2, e3, e4.stays s.ii fun o q => s.gr.hh a o q e3⟩
  | dct w ks =>
    obtain ⟨a, vs, e1, e2, e3, e4, e5⟩ := h
    have ne : p.m ≠ some a := fun q => (r.st a q).1 e2
    exact ⟨a, vs, e1, e2, s.gr.fr a e3 (by rw [e4]; exact fun q => nomatch q), s.gr.hh a _ e4 ne, KD.mono s.ii e5⟩
  | dki ks =>
    obtain ⟨a, vs, e1, e2, e3, e4, e5⟩ := h
    have ne : p.m ≠ some a := fun q => (r.st a q).1 e2
    exact ⟨a, vs, e1, e2, s.gr.fr a e3 (by rw [e4]; exact fun q => nomatch q), s.gr.hh a _ e4 ne, KDI.mono s.ii e5⟩
  | mat rows =>
    obtain ⟨a, bs, e1, e2, e3, e4, e5, e6⟩ := h
    have ne : ∀ b, p.H0 b = none → p.m ≠ some b := fun b z q => (r.st b q).1 z
    refine ⟨a, bs, e1, e2, s.gr.fr a e3 (by rw [e4]; exact fun q => nomatch q), s.gr.hh a _ e4 (ne a e2), e5, e6.stays s.ii fun b hb z1 z2 z3 => ⟨s.gr.fr b z2 z3, ?_⟩⟩
    cases hz : H b with
    | none => exact absurd hz z3
    | some o => exact s.gr.hh b o hz (ne b z1)
theorem Rel.grow (r : Rel K p env σ I H) (g : Gr none I H I' H') : Rel K p env σ I' H' := r.stp (.of g)
theorem getSet {α : Type} {l : List α} {i j : Nat} {x y : α} (h : (l.set i x)[j]? = some y) : (i = j ∧ y = x ∧ i < l.length) ∨ (i ≠ j ∧ l[j]? = some y) := by
  by_cases e : i = j
  · subst e
    by_cases q : i < l.length
    · rw [List.getElem?_set_self q] at h
      exact .inl ⟨rfl, (Option.some.inj h).symm, q⟩
    · rw [List.getElem?_eq_none (by rw [List.length_set]; omega)] at h; cases h
  · rw [List.getElem?_set_ne e] at h
    exact .inr ⟨e, h⟩
end
theorem SepD.set {env : Ev} {σ : L2.St} (h : SepD env σ) (i : Nat) (x : Option Sl) (v : Option V) (hx : ∀ w ks, x ≠ some (.dct w ks)) : SepD (env.set i x) (σ.set i v) := by
  intro j k w w' y z a n e1 e2 e3 e4
  rcases getSet e1 with ⟨_, q, _⟩ | ⟨n1, q1⟩
  · exact hx _ _ q.symm
  · rcases getSet e2 with ⟨_, q, _⟩ | ⟨n2, q2⟩
    · exact hx _ _ q.symm
    · rw [List.getElem?_set_ne n1] at e3
      rw [List.getElem?_set_ne n2] at e4
      exact h j k w w' y z a n q1 q2 e3 e4
theorem SepD.setE {env : Ev} {σ : L2.St} (h : SepD env σ) (i : Nat) (x : Option Sl) (hx : ∀ w ks, x ≠ some (.dct w ks)) : SepD (env.set i x) σ := by
  intro j k w w' y z a n e1 e2 e3 e4
  rcases getSet e1 with ⟨_, q, _⟩ | ⟨n1, q1⟩
  · exact hx _ _ q.symm
  · rcases getSet e2 with ⟨_, q, _⟩ | ⟨n2, q2⟩
    · exact hx _ _ q.symm
    · exact h j k w w' y z a n q1 q2 e3 e4
theorem SepM.set {env : Ev} {σ : L2.St} {H : Hp} (h : SepM env σ H) (i : Nat) (x : Option Sl) (v : Option V) (hx : ∀ y, x = some y → ∀ (u : V) (c : Addr), ¬ Cell y u H c) : SepM (env.set i x) (σ.set i v) H := by
  intro j k y z u1 u2 c n hm e1 e2 e3 e4 c1 c2
  rcases getSet e1 with ⟨_, q, _⟩ | ⟨n1, q1⟩
  · exact hx y q.symm u1 c c1
  · rcases getSet e2 with ⟨_, q, _⟩ | ⟨n2, q2⟩
    · exact hx z q.symm u2 c c2
    · rw [List.getElem?_set_ne n1] at e3
      rw [List.getElem?_set_ne n2] at e4
      exact h j k y z u1 u2 c n hm q1 q2 e3 e4 c1 c2
theorem SepM.setE {env : Ev} {σ : L2.St} {H : Hp} (h : SepM env σ H) (i : Nat) (x : Option Sl) (hx : ∀ y, x = some y → ∀ (u : V) (c : Addr), Cell y u H c → ∃ w, env[i]? = some (some w) ∧ Cell w u H c ∧ isMat w = isMat y) : SepM (env.set i x) σ H := by
  intro j k y z u1 u2 c n hm e1 e2 e3 e4 c1 c2
  rcases getSet e1 with ⟨rfl, q, _⟩ | ⟨n1, q1⟩
  · obtain ⟨w, ew, cw, mw⟩ := hx y q.symm u1 c c1
    rcases getSet e2 with ⟨rfl, q', _⟩ | ⟨n2, q2⟩
    · exact n rfl
    · exact h _ k w z u1 u2 c n (by rw [mw]; exact hm) ew q2 e3 e4 cw c2
  · rcases getSet e2 with ⟨rfl, q, _⟩ | ⟨n2, q2⟩
    · obtain ⟨w, ew, cw, mw⟩ := hx z q.symm u2 c c2
      exact h j _ y w u1 u2 c n (by rw [mw]; exact hm) q1 ew e3 e4 c1 cw
    · exact h j k y z u1 u2 c n hm q1 q2 e3 e4 c1 c2
structure RelL (K : Fg) (p : P0) (env : Ev) (σ : L2.St) (I H : Hp) : Prop where
  r : Rel K p env σ I H
  len : env.length = σ.length
theorem RelL.stp {K : Fg} {p : P0} {env : Ev} {σ : L2.St} {I H I' H' : Hp} (r : RelL K p env σ I H) (s : Stp p I H I' H') : RelL K p env σ I' H' := ⟨r.r.stp s, r.len⟩
theorem RelL.same {K : Fg} {p : P0} {env : Ev} {σ : L2.St} {I H : Hp} (r : RelL K p env σ I H) : Same I H := r.r.gr.ih
section
variable {K : Fg} {p : P0} {env : Ev} {σ : L2.St} {I H I' H' : Hp}
theorem RelL.rebase (r : RelL K p env σ I H) {B : Hp} (h : Same B I) : RelL K { p with B := B } env σ I H :=
  ⟨⟨r.r.gr, r.r.sl, r.r.sep, r.r.st, h, r.r.sd, r.r.sm⟩, r.len⟩
/-- a name is given data -/
theorem RelL.setDat (r : RelL K p env σ I H) {v : V} {d : D} (h : Rp K I v d) (i : Nat) : RelL K p (env.set i (some (.dat d))) (σ.set i (some v)) I H := by
  refine ⟨⟨r.r.gr, fun j x e => ?_, fun j k x y a n e1 e2 e3 e4 => ?_, r.r.st, r.r.bs, r.r.sd.set _ _ _ (fun _ _ z => nomatch z), r.r.sm.set _ _ _ (fun _ z _ _ c => by cases z; exact c)⟩, by rw [List.length_set, List.length_set]; exact r.len⟩
  · rcases getSet e with ⟨rfl, q, hl⟩ | ⟨n, q⟩
    · cases q
      exact ⟨v, List.getElem?_set_self (by rw [← r.len]; exact hl), h⟩
    · obtain ⟨u, hu, q⟩ := r.r.sl j x q
      exact ⟨u, by rw [List.getElem?_set_ne n]; exact hu, q⟩
  · rcases getSet e1 with ⟨_, q, _⟩ | ⟨n1, q1⟩
    · cases q
    · rcases getSet e2 with ⟨_, q, _⟩ | ⟨n2, q2⟩
      · cases q
      · rw [List.getElem?_set_ne n1] at e3
        rw [List.getElem?_set_ne n2] at e4
        exact r.r.sep j k x y a n q1 q2 e3 e4
/-- a name is given a list of its own -/
theorem RelL.setOwn (r : RelL K p env σ I H) {a : Addr} {vs : List V} {ds : List D} (h0 : p.H0 a = none) (h1 : I a = none) (h2 : H a = some (.lst vs)) (h3 : Rps K I vs ds)
    (hn : ∀ (j : Nat) (x : List D), env[j]? = some (some (.own x)) → σ[j]? ≠ some (some (.ref a))) (hc : ∀ (j : Nat) (x : Sl) (v : V), env[j]? = some (some x) → isMat x = true → σ[j]? = some (some v) → ¬ Cell x v H a) (i : Nat) : RelL K p (env.set i (some (.own ds))) (σ.set i (some (.ref a))) I H := by
  refine ⟨⟨r.r.gr, fun j x e => ?_, fun j k x y b n e1 e2 e3 e4 => ?_, r.r.st, r.r.bs, r.r.sd.set _ _ _ (fun _ _ z => nomatch z), fun j k y z u1 u2 c n hm e1 e2 e3 e4 c1 c2 => ?_⟩, by rw [List.length_set, List.length_set]; exact r.len⟩
  rotate_left
  rotate_left
  · rcases getSet e1 with ⟨rfl, q, hl⟩ | ⟨n1, q1⟩
    · rw [List.getElem?_set_self (by rw [← r.len]; exact hl)] at e3
      cases e3
      cases q
      cases c1
      rcases getSet e2 with ⟨z, _, _⟩ | ⟨n2, q2⟩
      · exact n z
      · rw [List.getElem?_set_ne n2] at e4
        exact hc k z u2 q2 (by simpa [isMat] using hm) e4 c2
    · rw [List.getElem?_set_ne n1] at e3
      rcases getSet e2 with ⟨rfl, q, hl⟩ | ⟨n2, q2⟩
      · rw [List.getElem?_set_self (by rw [← r.len]; exact hl)] at e4
        cases e4
        cases q
        cases c2
        exact hc j y u1 q1 (by simpa [isMat] using hm) e3 c1
      · rw [List.getElem?_set_ne n2] at e4
        exact r.r.sm j k y z u1 u2 c n hm q1 q2 e3 e4 c1 c2
  · rcases getSet e with ⟨rfl, q, hl⟩ | ⟨n, q⟩
    · cases q
      exact ⟨_, List.getElem?_set_self (by rw [← r.len]; exact hl), a, vs, rfl, h0, h1, h2, h3⟩
    · obtain ⟨u, hu, q⟩ := r.r.sl j x q
      exact ⟨u, by rw [List.getElem?_set_ne n]; exact hu, q⟩
  · rcases getSet e1 with ⟨rfl, q, hl⟩ | ⟨n1, q1⟩
    · rw [List.getElem?_set_self (by rw [← r.len]; exact hl)] at e3
      cases e3
      rcases getSet e2 with ⟨z, _, _⟩ | ⟨n2, q2⟩
      · exact n z
      · rw [List.getElem?_set_ne n2] at e4
        exact hn k y q2 e4
    · rw [List.getElem?_set_ne n1] at e3
      rcases getSet e2 with ⟨rfl, q, hl⟩ | ⟨n2, q2⟩
      · rw [List.getElem?_set_self (by rw [← r.len]; exact hl)] at e4
        cases e4
        exact hn j x q1 e3
      · rw [List.getElem?_set_ne n2] at e4
        exact r.r.sep j k x y b n q1 q2 e3 e4
/-- the own list at a is changed -/
theorem RelL.mutOwn (r : RelL K p env σ I H) {i : Nat} {ds ds' : List D} {a : Addr} {vs' : List V} (e : env[i]? = some (some (.own ds))) (hv : σ[i]? = some (some (.ref a))) (h : Rps K I vs' ds') :
    RelL K p (env.set i (some (.own ds'))) σ I (upd H a (.lst vs')) := by
  obtain ⟨v, hv2, a, vs, e1, e2, e3, e4, e5⟩ := r.r.sl i _ e
  rw [hv] at hv2; cases hv2; cases e1
  have nI : ∀ b o, I b = some o → b ≠ a := fun b o q => ne_of_none q e3
  have nm : p.m ≠ some a := fun q => (r.r.st _ q).1 e2
  have hmat : ∀ (j : Nat) (x : Sl) (v : V), env[j]? = some (some x) → isMat x = true → σ[j]? = some (some v) → ¬ Cell x v H a := fun j x v f1 m f2 c =>
    r.r.sm i j (.own ds) x (.ref a) v a (fun z => by subst z; rw [e] at f1; cases f1; cases m) (by rw [m]; simp [isMat]) e f1 hv f2 rfl c
  refine ⟨⟨⟨r.r.gr.ii, fun b o q => by rw [upd_ne (nI b o q)]; exact r.r.gr.ih b o q, fun b o q n => ?_, r.r.gr.fr, fun b q => ?_⟩, fun j x q => ?_, fun j k x y b n q1 q2 q3 q4 => ?_, fun s q => ⟨(r.r.st s q).1, ?_⟩, r.r.bs, r.r.sd.setE _ _ (fun _ _ z => nomatch z),
      (r.r.sm.setE i (some (.own ds')) (fun y z u c cc => by cases z; exact ⟨_, e, cc, rfl⟩)).keep fun j x u b q m su eu => upd_ne fun z => by
        rcases getSet q with ⟨rfl, w, _⟩ | ⟨_, q⟩
        · cases w; cases m
        · subst z
          refine hmat j x u q m su ?_
          cases x <;> first | (cases m) | skip
          exact .inl eu⟩,
    by rw [List.length_set]; exact r.len⟩
  · rw [upd_ne (ne_of_none q e2)]; exact r.r.gr.hh b o q n
  · by_cases hb : b = a
    · rw [hb, upd_same]; exact fun q => nomatch q
    · rw [upd_ne hb]; exact r.r.gr.th b q
  · rcases getSet q with ⟨rfl, z, hl⟩ | ⟨n, z⟩
    · cases z
      exact ⟨_, hv, a, vs', rfl, e2, e3, upd_same, h⟩
    · obtain ⟨u, hu, z2⟩ := r.r.sl j x z
      refine ⟨u, hu, ?_⟩
      cases x with
      | dat d => exact z2
      | rng _ => exact z2
      | own es =>
        obtain ⟨b, ws, f1, f2, f3, f4, f5⟩ := z2
        subst f1
        have nb : b ≠ a := fun w => r.r.sep i j ds es a n e z hv (by rw [← w]; exact hu)
        exact ⟨b, ws, rfl, f2, f3, by rw [upd_ne nb]; exact f4, f5⟩
      | strm => exact z2
      | lnt x =>
        obtain ⟨b, f1, f2, f3, f4⟩ := z2
        have nb : b ≠ a := fun w => f2 (by rw [w]; exact e2)
        exact ⟨b, f1, f2, f3, f4.stays (Same.refl _) fun o q => by rw [upd_ne nb]; exact q⟩
      | dct w ks =>
        obtain ⟨b, ws, f1, f2, f3, f4, f5⟩ := z2
        subst f1
        have nb : b ≠ a := fun w => by
          rw [w, e4] at f4
          exact nomatch f4
        exact ⟨b, ws, rfl, f2, f3, by rw [upd_ne nb]; exact f4, f5⟩
      | dki ks =>
        obtain ⟨b, ws, f1, f2, f3, f4, f5⟩ := z2
        subst f1
        have nb : b ≠ a := fun w => by
          rw [w, e4] at f4
          exact nomatch f4
        exact ⟨b, ws, rfl, f2, f3, by rw [upd_ne nb]; exact f4, f5⟩
      | mat rows =>
        obtain ⟨b, bs, f1, f2, f3, f4, f5, f6⟩ := z2
        subst f1
        have nb : b ≠ a := fun w => hmat j _ _ z rfl hu (.inl (by rw [w]))
        refine ⟨b, bs, rfl, f2, f3, by rw [upd_ne nb]; exact f4, f5, f6.stays (Same.refl _) fun c hc z1 z2 z3 => ⟨z2, upd_ne fun w => ?_⟩⟩
        exact hmat j _ _ z rfl hu (.inr ⟨b, bs, rfl, f4, by rw [← w]; exact hc⟩)
  · have own : ∀ (l : Nat) (x : List D), (env.set i (some (Sl.own ds')))[l]? = some (some (Sl.own x)) → ∃ y : List D, env[l]? = some (some (Sl.own y)) := fun l x w => by
      rcases getSet w with ⟨rfl, _, _⟩ | ⟨_, w⟩
      · exact ⟨_, e⟩
      · exact ⟨_, w⟩
    obtain ⟨x2, w1⟩ := own j x q1
    obtain ⟨y2, w2⟩ := own k y q2
    exact r.r.sep j k x2 y2 b n w1 w2 q3 q4
  · obtain ⟨f0, l, c, k, ns, f1, f2, f3⟩ := (r.r.st s q).2
    have ns2 : s ≠ a := fun w => nm (by rw [q, w])
    exact ⟨f0, l, c, k, ns, by rw [upd_ne ns2]; exact f1, f2, f3⟩
/-- an own list becomes data -/
theorem RelL.freeze (r : RelL K p env σ I H) {i : Nat} {ds : List D} (e : env[i]? = some (some (.own ds))) : ∃ I', Same I I' ∧ RelL K p (env.set i (some (.dat (.list ds)))) σ I' H := by
  obtain ⟨v, hv, a, vs, rfl, e2, e3, e4, e5⟩ := r.r.sl i _ e
  have ii : Same I (upd I a (.lst vs)) := fun b o q => by rw [upd_ne (ne_of_none q e3)]; exact q
  have nm : p.m ≠ some a := fun q => (r.r.st _ q).1 e2
  have hmat : ∀ (j : Nat) (x : Sl) (v : V), env[j]? = some (some x) → isMat x = true → σ[j]? = some (some v) → ¬ Cell x v H a := fun j x v f1 m f2 c =>
    r.r.sm i j (.own ds) x (.ref a) v a (fun z => by subst z; rw [e] at f1; cases f1; cases m) (by rw [m]; simp [isMat]) e f1 hv f2 rfl c
  refine ⟨upd I a (.lst vs), ii, ⟨⟨r.r.gr.ii.trans ii, fun b o q => ?_, r.r.gr.hh, fun b q n => ?_, r.r.gr.th⟩, fun j x q => ?_, fun j k x y b n q1 q2 q3 q4 => ?_, fun s q => ⟨(r.r.st s q).1, ?_⟩, r.r.bs.trans ii, r.r.sd.setE _ _ (fun _ _ z => nomatch z), r.r.sm.setE _ _ (fun y z u c cc => by cases z; exact cc.elim)⟩, by rw [List.length_set]; exact r.len⟩
  · by_cases hb : b = a
    · subst hb; rw [upd_same] at q; cases q; exact e4
    · rw [upd_ne hb] at q; exact r.r.gr.ih b o q
  · have hb : b ≠ a := fun w => n (by rw [w]; exact e2)
    rw [upd_ne hb]; exact r.r.gr.fr b q n
  · rcases getSet q with ⟨rfl, z, hl⟩ | ⟨n, z⟩
    · cases z
      exact ⟨_, hv, .lst upd_same (Rps.mono ii ds vs e5)⟩
    · obtain ⟨u, hu, z2⟩ := r.r.sl j x z
      refine ⟨u, hu, ?_⟩
      cases x with
      | dat d => exact Rp.mono ii d u z2
      | rng _ => obtain ⟨a_, e1_, e2_⟩ := z2; exact ⟨a_, e1_, (ii) _ _ e2_⟩
      | own es =>
        obtain ⟨b, ws, f1, f2, f3, f4, f5⟩ := z2
        subst f1
        have nb : b ≠ a := fun w => r.r.sep i j ds es a n e z hv (by rw [← w]; exact hu)
        exact ⟨b, ws, rfl, f2, by rw [upd_ne nb]; exact f3, f4, Rps.mono ii es ws f5⟩
      | strm => exact z2
      | lnt x =>
        obtain ⟨b, f1, f2, f3, f4⟩ := z2
        exact ⟨b, f1, f2, f3, f4.stays ii fun o q => q⟩
      | dct w ks =>
        obtain ⟨b, ws, f1, f2, f3, f4, f5⟩ := z2
        subst f1
        have nb : b ≠ a := fun w => by
          rw [w, e4] at f4
          exact nomatch f4
        exact ⟨b, ws, rfl, f2, by rw [upd_ne nb]; exact f3, f4, KD.mono ii f5⟩
      | dki ks =>
        obtain ⟨b, ws, f1, f2, f3, f4, f5⟩ := z2
        subst f1
        have nb : b ≠ a := fun w => by
          rw [w, e4] at f4
          exact nomatch f4
        exact ⟨b, ws, rfl, f2, by rw [upd_ne nb]; exact f3, f4, KDI.mono ii f5⟩
      | mat rows =>
        obtain ⟨b, bs, f1, f2, f3, f4, f5, f6⟩ := z2
        subst f1
        have nb : b ≠ a := fun w => hmat j _ _ z rfl hu (.inl (by rw [w]))
        refine ⟨b, bs, rfl, f2, by rw [upd_ne nb]; exact f3, f4, f5, f6.stays ii fun c hc z1 z2 z3 => ⟨?_, rfl⟩⟩
        rw [upd_ne fun w => hmat j _ _ z rfl hu (.inr ⟨b, bs, rfl, f4, by rw [← w]; exact hc⟩)]
        exact z2
  · rcases getSet q1 with ⟨_, z, _⟩ | ⟨n1, z1⟩
    · cases z
    · rcases getSet q2 with ⟨_, z, _⟩ | ⟨n2, z2⟩
      · cases z
      · exact r.r.sep j k x y b n z1 z2 q3 q4
  · obtain ⟨f0, l, c, k, ns, f1, f2, f3⟩ := (r.r.st s q).2
    have ns2 : s ≠ a := fun w => nm (by rw [q, w])
    exact ⟨by rw [upd_ne ns2]; exact f0, l, c, k, ns, f1, ii _ _ f2, f3⟩
/-- a cell that nobody here knows is changed -/
theorem RelL.beside (r : RelL K p env σ I H) {a : Addr} {o : HO} (h0 : p.H0 a = none) (h1 : I a = none) (hx : ∀ w xs, H a ≠ some (dctO w a xs)) (hx2 : ∀ xs, H a ≠ some (.dK xs)) (hmat : ∀ (j : Nat) (x : Sl) (v : V), env[j]? = some (some x) → isMat x = true → σ[j]? = some (some v) → ¬ Cell x v H a) (hn : ∀ (j : Nat) (x : List D), env[j]? = some (some (.own x)) → σ[j]? ≠ some (some (.ref a))) : RelL K p env σ I (upd H a o) := by
  have nm : p.m ≠ some a := fun q => (r.r.st _ q).1 h0
  refine ⟨⟨⟨r.r.gr.ii, fun b u q => by rw [upd_ne (ne_of_none q h1)]; exact r.r.gr.ih b u q, fun b u q n => by rw [upd_ne (ne_of_none q h0)]; exact r.r.gr.hh b u q n, r.r.gr.fr, fun b q => ?_⟩, fun j x q => ?_, r.r.sep, fun s q => ⟨(r.r.st s q).1, ?_⟩, r.r.bs, r.r.sd, r.r.sm.keep fun j x u b q m su eu => upd_ne fun z => by
      subst z
      refine hmat j x u q m su ?_
      cases x <;> first | (cases m) | skip
      exact .inl eu⟩, r.len⟩
  · by_cases hb : b = a
    · rw [hb, upd_same]; exact fun q => nomatch q
    · rw [upd_ne hb]; exact r.r.gr.th b q
  · obtain ⟨u, hu, z2⟩ := r.r.sl j x q
    refine ⟨u, hu, ?_⟩
    cases x with
    | dat d => exact z2
    | rng _ => exact z2
    | own es =>
      obtain ⟨b, ws, f1, f2, f3, f4, f5⟩ := z2
      subst f1
      have nb : b ≠ a := fun w => hn j es q (by rw [← w]; exact hu)
      exact ⟨b, ws, rfl, f2, f3, by rw [upd_ne nb]; exact f4, f5⟩
    | strm => exact z2
    | lnt x =>
      obtain ⟨b, f1, f2, f3, f4⟩ := z2
      have nb : b ≠ a := fun w => f2 (by rw [w]; exact h0)
      exact ⟨b, f1, f2, f3, f4.stays (Same.refl _) fun o q => by rw [upd_ne nb]; exact q⟩
    | dct w ks =>
      obtain ⟨b, ws, f1, f2, f3, f4, f5⟩ := z2
      subst f1
      have nb : b ≠ a := fun z => by
        subst z
        exact hx _ _ f4
      exact ⟨b, ws, rfl, f2, f3, by rw [upd_ne nb]; exact f4, f5⟩
    | dki ks =>
      obtain ⟨b, ws, f1, f2, f3, f4, f5⟩ := z2
      subst f1
      have nb : b ≠ a := fun z => by
        subst z
        exact hx2 _ f4
      exact ⟨b, ws, rfl, f2, f3, by rw [upd_ne nb]; exact f4, f5⟩
    | mat rows =>
      obtain ⟨b, bs, f1, f2, f3, f4, f5, f6⟩ := z2
      subst f1
      have nb : b ≠ a := fun w => hmat j _ _ q rfl hu (.inl (by rw [w]))
      refine ⟨b, bs, rfl, f2, f3, by rw [upd_ne nb]; exact f4, f5, f6.stays (Same.refl _) fun c hc z1 z2 z3 => ⟨z2, upd_ne fun w => ?_⟩⟩
      exact hmat j _ _ q rfl hu (.inr ⟨b, bs, rfl, f4, by rw [← w]; exact hc⟩)
  · obtain ⟨f0, l, c, k, ns, f1, f2, f3⟩ := (r.r.st s q).2
    have ns2 : s ≠ a := fun w => nm (by rw [q, w])
    exact ⟨f0, l, c, k, ns, by rw [upd_ne ns2]; exact f1, f2, f3⟩
theorem RelL.cellBack (r : RelL K p env σ I H) (s : Stp p I H I' H') {j : Nat} {x : Sl} {v : V} {c : Addr} (e : env[j]? = some (some x)) (sv : σ[j]? = some (some v)) (h : Cell x v H' c) : Cell x v H c := by
  obtain ⟨u, hu, sl⟩ := r.r.sl j x e
  rw [sv] at hu
  cases hu
  refine cell_to (fun m a ea => ?_) h
  cases x <;> first | (cases m) | skip
  obtain ⟨a', bs, e1, e2, e3, e4, _, _⟩ := sl
  rw [ea] at e1
  cases e1
  rw [s.gr.hh a _ e4 (fun q => (r.r.st a q).1 e2), e4]
theorem RelL.freshCell (r : RelL K p env σ I H) (s : Stp p I H I' H') {l : Addr} (h0 : H l = none) : ∀ (j : Nat) (x : Sl) (v : V), env[j]? = some (some x) → isMat x = true → σ[j]? = some (some v) → ¬ Cell x v H' l := by
  intro j x v e m sv c
  have c' := r.cellBack s e sv c
  obtain ⟨u, hu, sl⟩ := r.r.sl j x e
  rw [sv] at hu
  cases hu
  obtain ⟨_, _, vs, hv⟩ := cell_live sl c'
  rw [h0] at hv
  cases hv
theorem RelL.freshCellU (r : RelL K p env σ I H) {l : Addr} {o : HO} (h0 : H l = none) : ∀ (j : Nat) (x : Sl) (v : V), env[j]? = some (some x) → isMat x = true → σ[j]? = some (some v) → ¬ Cell x v (upd H l o) l := by
  intro j x v e m sv c
  obtain ⟨u, hu, sl⟩ := r.r.sl j x e
  rw [sv] at hu
  cases hu
  have c' : Cell x v H l := cell_to (fun m a ea => upd_ne fun z => by
    subst z
    cases x <;> first | (cases m) | skip
    obtain ⟨a', bs, e1, e2, e3, e4, _, _⟩ := sl
    rw [ea] at e1
    cases e1
    rw [h0] at e4
    cases e4) c
  obtain ⟨_, _, vs, hv⟩ := cell_live sl c'
  rw [h0] at hv
  cases hv
def wipeE (env : Ev) : List Nat → Ev
  | [] => env
  | v :: vs => (wipeE env vs).set v none
theorem RelL.wipe (r : RelL K p env σ I H) : ∀ vs : List Nat, RelL K p (wipeE env vs) (wipe σ vs) I H
  | [] => r
  | v :: vs => by
    have q := RelL.wipe r vs
    refine ⟨⟨q.r.gr, fun j x e => ?_, fun j k x y a n e1 e2 e3 e4 => ?_, q.r.st, q.r.bs, by unfold wipeE L2.wipe; exact q.r.sd.set _ _ _ (fun _ _ z => nomatch z), by unfold wipeE L2.wipe; exact q.r.sm.set _ _ _ (fun _ z => nomatch z)⟩, by unfold wipeE L2.wipe; rw [List.length_set, List.length_set]; exact q.len⟩
    · unfold wipeE at e
      rcases getSet e with ⟨_, z, _⟩ | ⟨n, z⟩
      · cases z
      · obtain ⟨u, hu, z2⟩ := q.r.sl j x z
        exact ⟨u, by unfold L2.wipe; rw [List.getElem?_set_ne n]; exact hu, z2⟩
    · unfold wipeE at e1 e2
      unfold L2.wipe at e3 e4
      rcases getSet e1 with ⟨_, z, _⟩ | ⟨n1, z1⟩
      · cases z
      · rcases getSet e2 with ⟨_, z, _⟩ | ⟨n2, z2⟩
        · cases z
        · rw [List.getElem?_set_ne n1] at e3
          rw [List.getElem?_set_ne n2] at e4
          exact q.r.sep j k x y a n z1 z2 e3 e4
theorem wipe_set {i : Nat} {x : Option V} : ∀ {vs : List Nat} {σ : L2.St}, i ∈ vs → L2.wipe (σ.set i x) vs = L2.wipe σ vs
  | [], _, h => absurd h (by simp)
  | v :: vs, σ, h => by
    unfold L2.wipe
    by_cases hi : i ∈ vs
    · rw [wipe_set hi]
    · have e : i = v := by
        rcases List.mem_cons.mp h with h | h
        · exact h
        · exact absurd h hi
      subst e
      have : ∀ (us : List Nat) (τ : L2.St), i ∉ us → L2.wipe (τ.set i x) us = (L2.wipe τ us).set i x := by
        intro us
        induction us with
        | nil => intro τ _; rfl
        | cons u us ih =>
          intro τ hu
          unfold L2.wipe
          rw [ih τ (fun z => hu (List.mem_cons_of_mem _ z)), List.set_comm _ _ (fun z => hu (by rw [← z]; exact List.mem_cons_self))]
      rw [this vs σ hi, List.set_set]
end
end Z2
namespace Z2
open PySem L2
abbrev T2E := Ev → (D → Prop) → Prop
abbrev T2T := Ev → (Bool → Prop) → Prop
abbrev T2A := Ev → (List D → Prop) → Prop
abbrev R1D := D → (D → Prop) → Prop
abbrev R2D := D → D → (D → Prop) → Prop
abbrev RCD := List D → (D → Prop) → Prop
def SE (K : Fg) (te : TE) (t : T2E) : Prop := ∀ (p : P0) (env : Ev) (σ : L2.St) (I H : Hp) (Q2 : D → Prop) (Q : VK), RelL K p env σ I H → t env Q2 →
  (∀ d v I' H', Q2 d → Stp p I H I' H' → Rp K I' v d → Q v H') → te σ H Q
def SA (K : Fg) (n : Nat) (ta : TA) (t : T2A) : Prop := ∀ (p : P0) (env : Ev) (σ : L2.St) (I H : Hp) (Q2 : List D → Prop) (Q : List V → Hp → Prop), RelL K p env σ I H → t env Q2 →
  (∀ ds vs I' H', Q2 ds → vs.length = n → Stp p I H I' H' → Rps K I' vs ds → Q vs H') → ta σ H Q
def ST (K : Fg) (tt : TT) (t : T2T) : Prop := ∀ (p : P0) (env : Ev) (σ : L2.St) (I H : Hp) (Q2 : Bool → Prop) (Q : Bool → Hp → Prop), RelL K p env σ I H → t env Q2 →
  (∀ b I' H', Q2 b → Stp p I H I' H' → Q b H') → tt σ H Q
/-- a list that is new -/
def SO (K : Fg) (te : TE) (t : T2A) : Prop := ∀ (p : P0) (env : Ev) (σ : L2.St) (I H : Hp) (Q2 : List D → Prop) (Q : VK), RelL K p env σ I H → t env Q2 →
  (∀ ds a vs I' H', Q2 ds → Stp p I H I' H' → H a = none → I' a = none → H' a = some (.lst vs) → Rps K I' vs ds → Q (.ref a) H') → te σ H Q
theorem Stp.lay {p : P0} {I H I' H' : Hp} {a : Addr} {vs : List V} (s : Stp p I H I' H') (h0 : H a = none) (h1 : I' a = none) (h2 : H' a = some (.lst vs)) : Stp p I H (upd I' a (.lst vs)) H' ∧ Same I' (upd I' a (.lst vs)) := by
  have ii : Same I' (upd I' a (.lst vs)) := fun b o q => by rw [upd_ne (ne_of_none q h1)]; exact q
  refine ⟨⟨⟨s.ii.trans ii, fun b o q => ?_, s.gr.hh, fun b q n => ?_, s.gr.th⟩, fun c e h => ?_⟩, ii⟩
  · by_cases hb : b = a
    · subst hb; rw [upd_same] at q; cases q; exact h2
    · rw [upd_ne hb] at q; exact s.ih b o q
  · have hb : b ≠ a := fun w => n (by rw [w]; exact h0)
    rw [upd_ne hb]; exact s.gr.fr b q n
  · obtain ⟨f0, l, x, k, ns, f1, f2, f3⟩ := s.st c e h
    have hc : c ≠ a := fun w => by
      obtain ⟨_, _, _, _, _, g1, _⟩ := h
      rw [w, h0] at g1; cases g1
    exact ⟨by rw [upd_ne hc]; exact f0, l, x, k, ns, f1, ii _ _ f2, f3⟩
def tList (t : T2A) : T2E := fun env Q => t env fun ds => Q (.list ds)
theorem se_own {K : Fg} {te : TE} {t : T2A} (h : SO K te t) : SE K te (tList t) := by
  intro p env σ I H Q2 Q r q k
  refine h p env σ I H _ Q r q fun ds a vs I' H' q2 s h0 h1 h2 h3 => ?_
  obtain ⟨s2, ii⟩ := s.lay h0 h1 h2
  exact k _ _ _ _ q2 s2 (.lst upd_same (Rps.mono ii ds vs h3))
/-! ### names, constants -/
def dVar (i : Nat) : T2E := fun env Q => match env[i]? with | some (some (.dat d)) => Q d | _ => False
def dC (d : D) : T2E := fun _ Q => Q d
theorem se_var {K : Fg} (i : Nat) : SE K (tVar i) (dVar i) := by
  intro p env σ I H Q2 Q r q k
  unfold dVar at q
  cases e : env[i]? with
  | none => rw [e] at q; exact q.elim
  | some o =>
    cases o with
    | none => rw [e] at q; exact q.elim
    | some x =>
      cases x with
      | own _ => rw [e] at q; exact q.elim
      | strm => rw [e] at q; exact q.elim
      | dct _ _ => rw [e] at q; exact q.elim
      | dki _ => rw [e] at q; exact q.elim
      | rng _ => rw [e] at q; exact q.elim
      | lnt _ => rw [e] at q; exact q.elim
      | mat _ => rw [e] at q; exact q.elim
      | dat d =>
        rw [e] at q
        obtain ⟨v, hv, h⟩ := r.r.sl i _ e
        exact ⟨v, hv, k d v I H q (.refl r.same) h⟩
theorem se_int {K : Fg} {n : Int} : SE K (tC (.int n)) (dC (.int n)) := fun _ _ _ I H _ _ r q k => k _ _ I H q (.refl r.same) (.int n)
theorem se_bl {K : Fg} {n : Bool} : SE K (tC (.bl n)) (dC (.bool n)) := fun _ _ _ I H _ _ r q k => k _ _ I H q (.refl r.same) (.bl n)
theorem se_non {K : Fg} : SE K (tC .non) (dC .none) := fun _ _ _ I H _ _ r q k => k _ _ I H q (.refl r.same) .non
theorem se_str {K : Fg} {x : Str} : SE K (tC (.str x)) (dC (.str x)) := fun _ _ _ I H _ _ r q k => k _ _ I H q (.refl r.same) (.str x)
/-! ### operators -/
def Sim1 (K : Fg) (r : V → Hp → VK → Prop) (r2 : R1D) : Prop := ∀ (I H : Hp) (x : V) (dx : D) (Q2 : D → Prop) (Q : VK), Same I H → Rp K I x dx → r2 dx Q2 →
  (∀ d v I' H', Q2 d → Gr none I H I' H' → Rp K I' v d → Q v H') → r x H Q
def Sim2 (K : Fg) (r : R2) (r2 : R2D) : Prop := ∀ (I H : Hp) (x y : V) (dx dy : D) (Q2 : D → Prop) (Q : VK), Same I H → Rp K I x dx → Rp K I y dy → r2 dx dy Q2 →
  (∀ d v I' H', Q2 d → Gr none I H I' H' → Rp K I' v d → Q v H') → r x y H Q
def SimC (K : Fg) (r : List V → Hp → VK → Prop) (r2 : RCD) : Prop := ∀ (I H : Hp) (vs : List V) (ds : List D) (Q2 : D → Prop) (Q : VK), Same I H → Rps K I vs ds → r2 ds Q2 →
  (∀ d v I' H', Q2 d → Gr none I H I' H' → Rp K I' v d → Q v H') → r vs H Q
/-- a call that hands back a new list -/
def SimCO (K : Fg) (r : List V → Hp → VK → Prop) (r2 : List D → (List D → Prop) → Prop) : Prop := ∀ (I H : Hp) (vs : List V) (ds : List D) (Q2 : List D → Prop) (Q : VK), Same I H → Rps K I vs ds → r2 ds Q2 →
  (∀ es a ws, Q2 es → H a = none → Rps K I ws es → Q (.ref a) (upd H a (.lst ws))) → r vs H Q
def Sim2O (K : Fg) (r : R2) (r2 : D → D → (List D → Prop) → Prop) : Prop := ∀ (I H : Hp) (x y : V) (dx dy : D) (Q2 : List D → Prop) (Q : VK), Same I H → Rp K I x dx → Rp K I y dy → r2 dx dy Q2 →
  (∀ es a ws, Q2 es → H a = none → Rps K I ws es → Q (.ref a) (upd H a (.lst ws))) → r x y H Q
def dOp (r : R2D) (a b : T2E) : T2E := fun env Q => a env fun x => b env fun y => r x y Q
def dOpO (r : D → D → (List D → Prop) → Prop) (a b : T2E) : T2A := fun env Q => a env fun x => b env fun y => r x y Q
def dUn (r : R1D) (a : T2E) : T2E := fun env Q => a env fun x => r x Q
def dCB (r : RCD) (a : T2A) : T2E := fun env Q => a env fun ds => r ds Q
def dCBO (r : List D → (List D → Prop) → Prop) (a : T2A) : T2A := fun env Q => a env fun ds => r ds Q
section
variable {K : Fg} {ta tb tc : TE} {a b c : T2E} {r : R2} {r2 : R2D}
theorem se_op (h : Sim2 K r r2) (ha : SE K ta a) (hb : SE K tb b) : SE K (tOp r ta tb) (dOp r2 a b) := by
  intro p env σ I H Q2 Q rl q k
  refine ha p env σ I H _ _ rl q fun d v I1 H1 q1 s1 h1 => ?_
  refine hb p env σ I1 H1 _ _ (rl.stp s1) q1 fun e w I3 H3 q3 s3 h3 => ?_
  exact h I3 H3 v w d e Q2 Q s3.ih (Rp.mono s3.ii d v h1) h3 q3 fun d' v' I' H' q' g r' => k d' v' I' H' q' ((s1.trans s3).trans (.of g)) r'
theorem se_un {r : V → Hp → VK → Prop} {r2 : R1D} (h : Sim1 K r r2) (ha : SE K ta a) : SE K (tUn r ta) (dUn r2 a) := by
  intro p env σ I H Q2 Q rl q k
  refine ha p env σ I H _ _ rl q fun d v I1 H1 q1 s1 h1 => ?_
  exact h I1 H1 v d Q2 Q s1.ih h1 q1 fun d' v' I' H' q' g r' => k d' v' I' H' q' (s1.trans (.of g)) r'
theorem se_cb {r : List V → Hp → VK → Prop} {r2 : RCD} {n : Nat} {t : TA} {u : T2A} (h : SimC K r r2) (ha : SA K n t u) : SE K (tCB r t) (dCB r2 u) := by
  intro p env σ I H Q2 Q rl q k
  refine ha p env σ I H _ _ rl q fun ds vs I1 H1 q1 hl s1 h1 => ?_
  exact h I1 H1 vs ds Q2 Q s1.ih h1 q1 fun d' v' I' H' q' g r' => k d' v' I' H' q' (s1.trans (.of g)) r'
theorem Stp.fresh {p : P0} {I H : Hp} {a : Addr} {o : HO} (e : Same I H) (h : H a = none) : Stp p I H I (upd H a o) := .of (Gr.fresh e h)
theorem so_cb {r : List V → Hp → VK → Prop} {r2 : List D → (List D → Prop) → Prop} {n : Nat} {t : TA} {u : T2A} (h : SimCO K r r2) (ha : SA K n t u) : SO K (tCB r t) (dCBO r2 u) := by
  intro p env σ I H Q2 Q rl q k
  refine ha p env σ I H _ _ rl q fun ds vs I1 H1 q1 hl s1 h1 => ?_
  refine h I1 H1 vs ds Q2 Q s1.ih h1 q1 fun es l ws q' h0 r' => ?_
  have hn : H l = none := by
    cases e : H l with
    | none => rfl
    | some o => exact absurd h0 (s1.gr.th l (by rw [e]; exact fun z => nomatch z))
  exact k es l ws I1 _ q' (s1.trans (Stp.fresh s1.ih h0)) hn (Same.free s1.ih h0) upd_same r'
theorem so_op {r2 : D → D → (List D → Prop) → Prop} (h : Sim2O K r r2) (ha : SE K ta a) (hb : SE K tb b) : SO K (tOp r ta tb) (dOpO r2 a b) := by
  intro p env σ I H Q2 Q rl q k
  refine ha p env σ I H _ _ rl q fun d v I1 H1 q1 s1 h1 => ?_
  refine hb p env σ I1 H1 _ _ (rl.stp s1) q1 fun e w I3 H3 q3 s3 h3 => ?_
  refine h I3 H3 v w d e Q2 Q s3.ih (Rp.mono s3.ii d v h1) h3 q3 fun es l ws q' h0 r' => ?_
  have s := s1.trans s3
  have hn : H l = none := by
    cases e : H l with
    | none => rfl
    | some o => exact absurd h0 (s.gr.th l (by rw [e]; exact fun z => nomatch z))
  exact k es l ws I3 _ q' (s.trans (Stp.fresh s3.ih h0)) hn (Same.free s3.ih h0) upd_same r'
/-! arguments, displays -/
def dNil : T2A := fun _ Q => Q []
def dCons (a : T2E) (t : T2A) : T2A := fun env Q => a env fun x => t env fun xs => Q (x :: xs)
theorem sa_nil : SA K 0 tNil dNil := fun _ _ _ I H _ _ r q k => k _ _ I H q rfl (.refl r.same) .nil
theorem sa_cons {n : Nat} {t : TA} {u : T2A} (ha : SE K ta a) (ht : SA K n t u) : SA K (n + 1) (tCons ta t) (dCons a u) := by
  intro p env σ I H Q2 Q rl q k
  refine ha p env σ I H _ _ rl q fun d v I1 H1 q1 s1 h1 => ?_
  refine ht p env σ I1 H1 _ _ (rl.stp s1) q1 fun ds vs I3 H3 q3 hl s3 h3 => ?_
  exact k _ _ I3 H3 q3 (by rw [List.length_cons, hl]) (s1.trans s3) (.cons (Rp.mono s3.ii d v h1) h3)
def dTup (t : T2A) : T2E := fun env Q => t env fun ds => Q (.tuple ds)
theorem le_line {n : Nat} (h : n ≤ 1000000) : n ≤ sizeLine := Nat.le_trans h (by decide)
theorem lt_line {n : Nat} (h : n < 1000000) : n < sizeLine := Nat.lt_of_lt_of_le h (by decide)
theorem se_tup {n : Nat} {t : TA} {u : T2A} (ht : SA K n t u) (hn : n ≤ 1000000 := by decide) : SE K (tTup t) (dTup u) := by
  intro p env σ I H Q2 Q rl q k
  refine ht p env σ I H _ _ rl q fun ds vs I1 H1 q1 hl s1 h1 => ⟨le_line (by rw [hl]; exact hn), fun l h0 => ?_⟩
  have g := Gr.new (m := none) (o := .tup vs) s1.ih h0
  exact k _ _ _ _ q1 (s1.trans (.of g)) (.tup (SqT.of upd_same) (Rps.mono g.ii ds vs h1))
theorem so_lst {n : Nat} {t : TA} {u : T2A} (ht : SA K n t u) (hn : n ≤ 1000000 := by decide) : SO K (tLst t) u := by
  intro p env σ I H Q2 Q rl q k
  refine ht p env σ I H _ _ rl q fun ds vs I1 H1 q1 hl s1 h1 => ⟨le_line (by rw [hl]; exact hn), fun l h0 => ?_⟩
  have hn : H l = none := by
    cases e : H l with
    | none => rfl
    | some o => exact absurd h0 (s1.gr.th l (by rw [e]; exact fun z => nomatch z))
  exact k ds l vs I1 _ q1 (s1.trans (Stp.fresh s1.ih h0)) hn (Same.free s1.ih h0) upd_same h1
theorem se_lst {n : Nat} {t : TA} {u : T2A} (ht : SA K n t u) (hn : n ≤ 1000000 := by decide) : SE K (tLst t) (tList u) := se_own (so_lst ht hn)
/-! tests -/
def dB (a : T2E) : T2T := fun env Q => a env fun d => match d with | .bool b => Q b | _ => False
theorem st_test (ha : SE K ta a) : ST K (tTest ta) (dB a) := by
  intro p env σ I H Q2 Q rl q k
  refine ha p env σ I H _ _ rl q fun d v I1 H1 q1 s1 h1 => ?_
  cases d <;> first | exact q1.elim | skip
  cases h1
  exact ⟨_, rfl, k _ _ _ q1 s1⟩
theorem st_b (ha : SE K ta a) : ST K (tB ta) (dB a) := by
  intro p env σ I H Q2 Q rl q k
  refine ha p env σ I H _ _ rl q fun d v I1 H1 q1 s1 h1 => ?_
  cases d <;> first | exact q1.elim | skip
  cases h1
  exact ⟨_, rfl, k _ _ _ q1 s1⟩
variable {t u : TT} {t2 u2 : T2T}
def dAnd (t u : T2T) : T2T := fun env Q => t env fun c => if c = true then u env Q else Q false
def dOr (t u : T2T) : T2T := fun env Q => t env fun c => if c = true then Q true else u env Q
def dNot (t : T2T) : T2T := fun env Q => t env fun c => Q (!c)
theorem st_and (h1 : ST K t t2) (h2 : ST K u u2) : ST K (tAnd t u) (dAnd t2 u2) := by
  intro p env σ I H Q2 Q rl q k
  refine h1 p env σ I H _ _ rl q fun c I1 H1 q1 s1 => ?_
  cases c with
  | true =>
    rw [if_pos rfl] at q1 ⊢
    exact h2 p env σ I1 H1 _ _ (rl.stp s1) q1 fun c I2 H2 q2 s2 => k c I2 H2 q2 (s1.trans s2)
  | false =>
    rw [if_neg Bool.false_ne_true] at q1 ⊢
    exact k _ _ _ q1 s1
theorem st_or (h1 : ST K t t2) (h2 : ST K u u2) : ST K (tOr t u) (dOr t2 u2) := by
  intro p env σ I H Q2 Q rl q k
  refine h1 p env σ I H _ _ rl q fun c I1 H1 q1 s1 => ?_
  cases c with
  | false =>
    rw [if_neg Bool.false_ne_true] at q1 ⊢
    exact h2 p env σ I1 H1 _ _ (rl.stp s1) q1 fun c I2 H2 q2 s2 => k c I2 H2 q2 (s1.trans s2)
  | true =>
    rw [if_pos rfl] at q1 ⊢
    exact k _ _ _ q1 s1
theorem st_not (h1 : ST K t t2) : ST K (tNot t) (dNot t2) := by
  intro p env σ I H Q2 Q rl q k
  exact h1 p env σ I H _ _ rl q fun c I1 H1 q1 s1 => k _ _ _ q1 s1
theorem st_yes : ST K tYes (fun _ Q => Q true) := fun _ _ _ I H _ _ r q k => k _ I H q (.refl r.same)
/-- and, or, not as values -/
def dAndV (a b : T2E) : T2E := fun env Q => a env fun d => match d with | .bool c => if c = true then b env Q else Q (.bool false) | _ => False
def dOrV (a b : T2E) : T2E := fun env Q => a env fun d => match d with | .bool c => if c = true then Q (.bool true) else b env Q | _ => False
def dNotV (a : T2E) : T2E := fun env Q => a env fun d => match d with | .bool c => Q (.bool (!c)) | _ => False
theorem se_and (ha : SE K ta a) (hb : SE K tb b) : SE K (tAndV ta tb) (dAndV a b) := by
  intro p env σ I H Q2 Q rl q k
  refine ha p env σ I H _ _ rl q fun d v I1 H1 q1 s1 h1 => ?_
  cases d <;> first | exact q1.elim | skip
  rename_i c
  cases h1
  refine ⟨c, rfl, ?_⟩
  cases c with
  | true =>
    dsimp only at q1
    rw [if_pos rfl] at q1 ⊢
    exact hb p env σ I1 H1 _ _ (rl.stp s1) q1 fun d v I2 H2 q2 s2 h2 => k d v I2 H2 q2 (s1.trans s2) h2
  | false =>
    dsimp only at q1
    rw [if_neg Bool.false_ne_true] at q1 ⊢
    exact k _ _ _ _ q1 s1 (.bl _)
theorem se_or (ha : SE K ta a) (hb : SE K tb b) : SE K (tOrV ta tb) (dOrV a b) := by
  intro p env σ I H Q2 Q rl q k
  refine ha p env σ I H _ _ rl q fun d v I1 H1 q1 s1 h1 => ?_
  cases d <;> first | exact q1.elim | skip
  rename_i c
  cases h1
  refine ⟨c, rfl, ?_⟩
  cases c with
  | false =>
    dsimp only at q1
    rw [if_neg Bool.false_ne_true] at q1 ⊢
    exact hb p env σ I1 H1 _ _ (rl.stp s1) q1 fun d v I2 H2 q2 s2 h2 => k d v I2 H2 q2 (s1.trans s2) h2
  | true =>
    dsimp only at q1
    rw [if_pos rfl] at q1 ⊢
    exact k _ _ _ _ q1 s1 (.bl _)
theorem se_not (ha : SE K ta a) : SE K (tNotV ta) (dNotV a) := by
  intro p env σ I H Q2 Q rl q k
  refine ha p env σ I H _ _ rl q fun d v I1 H1 q1 s1 h1 => ?_
  cases d <;> first | exact q1.elim | skip
  rename_i c
  cases h1
  exact ⟨c, rfl, k _ _ _ _ q1 s1 (.bl _)⟩
def dIf (t : T2T) (a b : T2E) : T2E := fun env Q => t env fun c => if c = true then a env Q else b env Q
theorem se_if (h1 : ST K t t2) (ha : SE K ta a) (hb : SE K tb b) : SE K (tIf t ta tb) (dIf t2 a b) := by
  intro p env σ I H Q2 Q rl q k
  refine h1 p env σ I H _ _ rl q fun c I1 H1 q1 s1 => ?_
  cases c with
  | true =>
    rw [if_pos rfl] at q1 ⊢
    exact ha p env σ I1 H1 _ _ (rl.stp s1) q1 fun d v I2 H2 q2 s2 h2 => k d v I2 H2 q2 (s1.trans s2) h2
  | false =>
    rw [if_neg Bool.false_ne_true] at q1 ⊢
    exact hb p env σ I1 H1 _ _ (rl.stp s1) q1 fun d v I2 H2 q2 s2 h2 => k d v I2 H2 q2 (s1.trans s2) h2
def dChain (r r' : R2D) (a b c : T2E) : T2E := fun env Q => a env fun x => b env fun y => r x y fun z => match z with | .bool k => if k = true then c env fun w => r' y w Q else Q (.bool false) | _ => False
theorem se_chain {r' : R2} {r2' : R2D} (h : Sim2 K r r2) (h' : Sim2 K r' r2') (ha : SE K ta a) (hb : SE K tb b) (hc : SE K tc c) : SE K (tChain r r' ta tb tc) (dChain r2 r2' a b c) := by
  intro p env σ I H Q2 Q rl q k
  refine ha p env σ I H _ _ rl q fun d v I1 H1 q1 s1 h1 => ?_
  refine hb p env σ I1 H1 _ _ (rl.stp s1) q1 fun e w I3 H3 q3 s3 h3 => ?_
  refine h I3 H3 v w d e _ _ s3.ih (Rp.mono s3.ii d v h1) h3 q3 fun z zv I4 H4 q4 g4 r4 => ?_
  cases z <;> first | exact q4.elim | skip
  rename_i c
  cases r4
  have s4 := (s1.trans s3).trans (Stp.of g4)
  refine ⟨c, rfl, ?_⟩
  cases c with
  | false =>
    dsimp only at q4
    rw [if_neg Bool.false_ne_true] at q4 ⊢
    exact k _ _ _ _ q4 s4 (.bl _)
  | true =>
    dsimp only at q4
    rw [if_pos rfl] at q4 ⊢
    refine hc p env σ I4 H4 _ _ (rl.stp s4) q4 fun f u I5 H5 q5 s5 h5 => ?_
    exact h' I5 H5 w u e f Q2 Q s5.ih (Rp.mono (g4.ii.trans s5.ii) e w h3) h5 q5 fun d' v' I' H' q' g r' => k d' v' I' H' q' ((s4.trans s5).trans (.of g)) r'
end
/-! ### the operators by values -/
section
variable {K : Fg}
def d2I (g : Int → Int → D) : R2D := fun x y Q => match x, y with | .int i, .int j => Q (g i j) | _, _ => False
def d2IC (C : Int → Int → Prop) (g : Int → Int → D) : R2D := fun x y Q => match x, y with | .int i, .int j => C i j ∧ Q (g i j) | _, _ => False
theorem s2_int {g : Int → Int → Int} : Sim2 K (rI0 fun i j => .int (g i j)) (d2I fun i j => .int (g i j)) := by
  intro I H x y dx dy Q2 Q e hx hy q k
  unfold d2I at q
  split at q
  · cases hx; cases hy; exact ⟨_, _, rfl, rfl, k _ _ I H q (.refl e) (.int _)⟩
  · exact q.elim
theorem s2_bool {g : Int → Int → Bool} : Sim2 K (rI0 fun i j => .bl (g i j)) (d2I fun i j => .bool (g i j)) := by
  intro I H x y dx dy Q2 Q e hx hy q k
  unfold d2I at q
  split at q
  · cases hx; cases hy; exact ⟨_, _, rfl, rfl, k _ _ I H q (.refl e) (.bl _)⟩
  · exact q.elim
theorem s2_intC {C : Int → Int → Prop} {g : Int → Int → Int} : Sim2 K (rI C fun i j => .int (g i j)) (d2IC C fun i j => .int (g i j)) := by
  intro I H x y dx dy Q2 Q e hx hy q k
  unfold d2IC at q
  split at q
  · cases hx; cases hy; exact ⟨_, _, rfl, rfl, q.1, k _ _ I H q.2 (.refl e) (.int _)⟩
  · exact q.elim
theorem Rps.nil_iff {I : Hp} {vs : List V} {ds : List D} (h : Rps K I vs ds) : vs = [] ↔ ds = [] := by
  cases h with
  | nil => simp
  | cons _ _ => simp
/-- t + u of tuples -/
def dCatT : R2D := fun x y Q => match x, y with | .tuple xs, .tuple ys => xs.length + ys.length ≤ 1000000 ∧ Q (.tuple (xs ++ ys)) | _, _ => False
theorem s2_catT : Sim2 K (rCatA K) dCatT := by
  intro I H x y dx dy Q2 Q e hx hy q k
  unfold dCatT at q
  split at q
  · obtain ⟨hl, q⟩ := q
    cases hx with
    | tup h1 h2 =>
      cases hy with
      | tup h3 h4 =>
        rename_i a vs b ws
        refine ⟨a, b, vs, ws, rfl, rfl, Same.sqt e h1, Same.sqt e h3, le_line (by rw [h2.length, h4.length]; exact hl), fun z => ?_, fun z z2 => ?_, fun z z2 l h0 => ?_⟩
        · subst z
          cases h2
          exact k _ _ I H q (.refl e) (.tup h3 h4)
        · subst z2
          cases h4
          rw [List.append_nil] at q
          exact k _ _ I H q (.refl e) (.tup h1 h2)
        · have g := Gr.new (m := none) (o := .tup (vs ++ ws)) e h0
          exact k _ _ _ _ q g (.tup (SqT.of upd_same) (Rps.append (Rps.mono g.ii _ _ h2) (Rps.mono g.ii _ _ h4)))
  · exact q.elim
/-- xs + ys of lists -/
def dCatL : D → D → (List D → Prop) → Prop := fun x y Q => match x, y with | .list xs, .list ys => xs.length + ys.length ≤ 1000000 ∧ Q (xs ++ ys) | _, _ => False
theorem s2_catL : Sim2O K rCat dCatL := by
  intro I H x y dx dy Q2 Q e hx hy q k
  unfold dCatL at q
  split at q
  · obtain ⟨hl, q⟩ := q
    cases hx with
    | lst h1 h2 =>
      cases hy with
      | lst h3 h4 =>
        rename_i a vs b ws
        exact ⟨a, b, vs, ws, rfl, rfl, e _ _ h1, e _ _ h3, le_line (by rw [h2.length, h4.length]; exact hl), fun l h0 => k _ l _ q h0 (Rps.append h2 h4)⟩
  · exact q.elim
/-- xs * n of lists -/
def dRepL : D → D → (List D → Prop) → Prop := fun x y Q => match x, y with | .list xs, .int n => -1000000 ≤ n ∧ n ≤ 1000000 ∧ xs.length * n.toNat ≤ 1000000 ∧ Q (List.replicate n.toNat xs).flatten | _, _ => False
theorem s2_repL : Sim2O K rRep dRepL := by
  intro I H x y dx dy Q2 Q e hx hy q k
  unfold dRepL at q
  split at q
  · obtain ⟨n1, n2, hl, q⟩ := q
    cases hx with
    | lst h1 h2 =>
      cases hy
      rename_i a vs
      exact ⟨a, _, vs, rfl, rfl, e _ _ h1, by omega, by omega, le_line (by rw [h2.length]; exact hl), fun l h0 => k _ l _ q h0 (Rps.rep h2 _)⟩
  · exact q.elim
/-- t * n of tuples -/
def dRepT : R2D := fun x y Q => match x, y with | .tuple xs, .int n => xs ≠ [] ∧ 2 ≤ n ∧ n ≤ 1000 ∧ xs.length ≤ 1000 ∧ Q (.tuple (List.replicate n.toNat xs).flatten) | _, _ => False
theorem s2_repT : Sim2 K (rRepT K) dRepT := by
  intro I H x y dx dy Q2 Q e hx hy q k
  unfold dRepT at q
  split at q
  · obtain ⟨hn, n1, n2, hl, q⟩ := q
    cases hx with
    | tup h1 h2 =>
      cases hy
      rename_i a vs
      refine ⟨a, _, vs, rfl, rfl, Same.sqt e h1, fun z => hn ((Rps.nil_iff h2).mp z), n1, n2, by rw [h2.length]; exact hl, fun l h0 => ?_⟩
      exact k _ _ _ _ q (Gr.new e h0) (.tup (SqT.of upd_same) (Rps.rep (Rps.mono (Gr.new (m := none) e h0).ii _ _ h2) _))
  · exact q.elim
/-- == and != -/
def dEq : R2D := fun x y Q => SeqAt.shaped x = true ∧ SeqAt.shaped y = true ∧ Q (.bool (PyData.eqv x y))
def dNe : R2D := fun x y Q => SeqAt.shaped x = true ∧ SeqAt.shaped y = true ∧ Q (.bool (!PyData.eqv x y))
theorem s2_eq : Sim2 K (rEqD K) dEq := fun I H x y dx dy Q2 Q e hx hy q k => ⟨dx, dy, Rp.dp e dx x (SeqAt.canLay_of_shaped q.1) hx, Rp.dp e dy y (SeqAt.canLay_of_shaped q.2.1) hy, q.1, q.2.1, k _ _ I H q.2.2 (.refl e) (.bl _)⟩
theorem s2_ne : Sim2 K (rNeD K) dNe := fun I H x y dx dy Q2 Q e hx hy q k => ⟨dx, dy, Rp.dp e dx x (SeqAt.canLay_of_shaped q.1) hx, Rp.dp e dy y (SeqAt.canLay_of_shaped q.2.1) hy, q.1, q.2.1, k _ _ I H q.2.2 (.refl e) (.bl _)⟩
/-- is None -/
def isNone : D → Bool | .none => true | _ => false
theorem Rp.isNone {I : Hp} {v : V} {d : D} (h : Rp K I v d) : decide (v = V.non) = isNone d := by
  cases h with
  | non => exact decide_eq_true rfl
  | bl _ => exact decide_eq_false (fun q => nomatch q)
  | int _ => exact decide_eq_false (fun q => nomatch q)
  | str _ => exact decide_eq_false (fun q => nomatch q)
  | lst _ _ => exact decide_eq_false (fun q => nomatch q)
  | tup _ _ => exact decide_eq_false (fun q => nomatch q)
  | dic _ _ => exact decide_eq_false (fun q => nomatch q)
def dIsN : R2D := fun x y Q => match y with | .none => Q (.bool (isNone x)) | _ => False
def dNotN : R2D := fun x y Q => match y with | .none => Q (.bool (!isNone x)) | _ => False
theorem s2_isN : Sim2 K (fun x y H Q => y = .non ∧ Q (.bl (decide (x = .non))) H) dIsN := by
  intro I H x y dx dy Q2 Q e hx hy q k
  unfold dIsN at q
  split at q
  · cases hy
    refine ⟨rfl, ?_⟩
    rw [Rp.isNone hx]
    exact k _ _ I H q (.refl e) (.bl _)
  · exact q.elim
theorem s2_notN : Sim2 K (fun x y H Q => y = .non ∧ Q (.bl (!decide (x = .non))) H) dNotN := by
  intro I H x y dx dy Q2 Q e hx hy q k
  unfold dNotN at q
  split at q
  · cases hy
    refine ⟨rfl, ?_⟩
    rw [Rp.isNone hx]
    exact k _ _ I H q (.refl e) (.bl _)
  · exact q.elim
/-- is of bools -/
def dIsB : R2D := fun x y Q => match x, y with | .bool a, .bool b => Q (.bool (decide (a = b))) | _, _ => False
theorem s2_isB : Sim2 K rIsB dIsB := by
  intro I H x y dx dy Q2 Q e hx hy q k
  unfold dIsB at q
  split at q
  · cases hx; cases hy; exact ⟨_, _, rfl, rfl, k _ _ I H q (.refl e) (.bl _)⟩
  · exact q.elim
/-- x in xs, flat things -/
def flatD : D → Bool | .none => true | .bool _ => true | .int _ => true | .str _ => true | _ => false
theorem Rp.flat {I : Hp} {v : V} {d : D} (h : Rp K I v d) (f : flatD d = true) : flatV v = true := by
  cases h <;> first | rfl | exact nomatch f
theorem Rps.flat {I : Hp} : ∀ {vs : List V} {ds : List D}, Rps K I vs ds → ds.all flatD = true → vs.all flatV = true
  | _, _, .nil, _ => rfl
  | _, _, .cons r t, f => by
    rw [List.all_cons, Bool.and_eq_true] at f ⊢
    exact ⟨Rp.flat r f.1, Rps.flat t f.2⟩
def seqOf : D → Option (List D) | .list xs => some xs | .tuple xs => some xs | _ => none
theorem Rp.seq {I H : Hp} {v : V} {d : D} {ds : List D} (e : Same I H) (h : Rp K I v d) (q : seqOf d = some ds) : ∃ a vs, v = .ref a ∧ (SqL K H a vs ∨ SqT K H a vs) ∧ Rps K I vs ds := by
  cases h with
  | lst h1 h2 => cases q; exact ⟨_, _, rfl, .inl (SqL.of (e _ _ h1)), h2⟩
  | tup h1 h2 => cases q; exact ⟨_, _, rfl, .inr (Same.sqt e h1), h2⟩
  | _ => cases q
/-- x in xs -/
theorem eqV_of {I : Hp} {v w : V} {d e : D} (h : Rp K I v d) (h2 : Rp K I w e) (f : flatD d = true) (f2 : flatD e = true) : eqV v w = PyData.eqv d e := by
  cases h <;> cases h2 <;> first | rfl | exact nomatch f | exact nomatch f2
theorem any_of {I : Hp} {w : V} {e : D} (h2 : Rp K I w e) (f2 : flatD e = true) : ∀ {vs : List V} {ds : List D}, Rps K I vs ds → ds.all flatD = true → inV w vs = ds.any fun d => PyData.eqv d e
  | _, _, .nil, _ => rfl
  | v :: vs, d :: ds, .cons r t, f => by
    rw [List.all_cons, Bool.and_eq_true] at f
    have q := any_of h2 f2 t f.2
    unfold inV at q ⊢
    rw [List.any_cons, List.any_cons, q, eqV_of r h2 f.1 f2]
def dIn (neg : Bool) : R2D := fun x y Q => match seqOf y with | some ds => flatD x = true ∧ ds.all flatD = true ∧ Q (.bool (if neg then !(ds.any fun d => PyData.eqv d x) else ds.any fun d => PyData.eqv d x)) | none => False
theorem s2_in {neg : Bool} : Sim2 K (rIn K neg) (dIn neg) := by
  intro I H x y dx dy Q2 Q e hx hy q k
  unfold dIn at q
  split at q
  · rename_i ds e2
    obtain ⟨f1, f2, q⟩ := q
    obtain ⟨a, vs, rfl, h1, h2⟩ := Rp.seq e hy e2
    refine ⟨a, vs, rfl, h1, Rp.flat hx f1, Rps.flat h2 f2, ?_⟩
    rw [any_of hx f1 h2 f2]
    exact k _ _ I H q (.refl e) (.bl _)
  · exact q.elim
/-! ### subscripts, slices -/
def dIx : R2D := fun x y Q => match y with
  | .int i => (match seqOf x with | some ds => (match atI ds i with | some d => Q d | none => False) | none => False)
  | _ => False
theorem atI_rp {I : Hp} {vs : List V} {ds : List D} {i : Int} {d : D} (h : Rps K I vs ds) (e : atI ds i = some d) : ∃ v, atI vs i = some v ∧ Rp K I v d := by
  unfold atI at e ⊢
  rw [h.length]
  cases q : ixN ds.length i with
  | none => rw [q] at e; cases e
  | some j =>
    rw [q] at e
    exact h.got e
theorem s2_ix : Sim2 K (rIx K) dIx := by
  intro I H x y dx dy Q2 Q e hx hy q k
  unfold dIx at q
  split at q
  · rename_i i
    split at q
    · rename_i ds e2
      split at q
      · rename_i d e3
        obtain ⟨a, vs, rfl, h1, h2⟩ := Rp.seq e hx e2
        obtain ⟨v, h3, h4⟩ := atI_rp h2 e3
        cases hy
        rcases h1 with h1 | h1
        · exact .inl ⟨a, vs, i, v, rfl, rfl, h1, h3, k _ _ I H q (.refl e) h4⟩
        · exact .inr (.inl ⟨a, vs, i, v, rfl, rfl, h1, h3, k _ _ I H q (.refl e) h4⟩)
      · exact q.elim
    · exact q.elim
  · exact q.elim
def cutD (ds : List D) (lo hi : Option Int) : List D := (ds.drop (HT.sIx ds.length 0 lo)).take (HT.sIx ds.length ds.length hi - HT.sIx ds.length 0 lo)
theorem Rps.cut {I : Hp} {vs : List V} {ds : List D} (h : Rps K I vs ds) (lo hi : Option Int) : Rps K I (cutV vs lo hi) (cutD ds lo hi) := by
  unfold cutV cutD
  rw [h.length]
  exact (h.drop _).take _
abbrev T2O := Ev → (Option Int → Prop) → Prop
def SOp (K : Fg) (to : TO) (t : T2O) : Prop := ∀ (p : P0) (env : Ev) (σ : L2.St) (I H : Hp) (Q2 : Option Int → Prop) (Q : Option Int → Hp → Prop), RelL K p env σ I H → t env Q2 →
  (∀ o I' H', Q2 o → Stp p I H I' H' → Q o H') → to σ H Q
def dNoPart : T2O := fun _ Q => Q none
def dPart (a : T2E) : T2O := fun env Q => a env fun d => match d with | .int i => Q (some i) | _ => False
theorem sop_none : SOp K tNoPart dNoPart := fun _ _ _ I H _ _ r q k => k _ I H q (.refl r.same)
theorem sop_some {ta : TE} {a : T2E} (ha : SE K ta a) : SOp K (tPart ta) (dPart a) := by
  intro p env σ I H Q2 Q rl q k
  refine ha p env σ I H _ _ rl q fun d v I1 H1 q1 s1 h1 => ?_
  cases d <;> first | exact q1.elim | skip
  cases h1
  exact ⟨_, rfl, k _ _ _ q1 s1⟩
/-- t[lo:hi] of a tuple -/
def dSlT (a : T2E) (l u : T2O) : T2E := fun env Q => a env fun x => l env fun lo => u env fun hi => match x with | .tuple ds => Q (.tuple (cutD ds lo hi)) | _ => False
theorem cut_whole {α : Type} {xs : List α} {lo hi : Option Int} (h : HT.sIx xs.length 0 lo = 0 ∧ HT.sIx xs.length xs.length hi = xs.length) : (xs.drop (HT.sIx xs.length 0 lo)).take (HT.sIx xs.length xs.length hi - HT.sIx xs.length 0 lo) = xs := by
  rw [h.1, h.2]
  simp
theorem se_slT {ta : TE} {a : T2E} {tl tu : TO} {l u : T2O} (ha : SE K ta a) (hl : SOp K tl l) (hu : SOp K tu u) : SE K (tSl (rSlA K) ta tl tu) (dSlT a l u) := by
  intro p env σ I H Q2 Q rl q k
  refine ha p env σ I H _ _ rl q fun d v I1 H1 q1 s1 h1 => ?_
  refine hl p env σ I1 H1 _ _ (rl.stp s1) q1 fun lo I2 H2 q2 s2 => ?_
  refine hu p env σ I2 H2 _ _ (rl.stp (s1.trans s2)) q2 fun hi I3 H3 q3 s3 => ?_
  have s := (s1.trans s2).trans s3
  have h := Rp.mono (s2.trans s3).ii d v h1
  cases d <;> first | exact q3.elim | skip
  cases h with
  | tup e1 e2 =>
    rename_i ds a vs
    refine ⟨a, vs, rfl, Same.sqt s3.ih e1, fun w => ?_, fun w l h0 => ?_⟩
    · refine k _ _ I3 H3 q3 s (.tup e1 ?_)
      have z : cutD ds lo hi = ds := by unfold cutD; rw [e2.length] at w; exact cut_whole w
      rw [z]; exact e2
    · have g := Gr.new (m := none) (o := .tup (cutV vs lo hi)) s3.ih h0
      exact k _ _ _ _ q3 (s.trans (.of g)) (.tup (SqT.of upd_same) (Rps.cut (Rps.mono g.ii _ _ e2) _ _))
/-- xs[lo:hi] of a list -/
def dSlL (a : T2E) (l u : T2O) : T2A := fun env Q => a env fun x => l env fun lo => u env fun hi => match x with | .list ds => Q (cutD ds lo hi) | _ => False
theorem so_slL {ta : TE} {a : T2E} {tl tu : TO} {l u : T2O} (ha : SE K ta a) (hl : SOp K tl l) (hu : SOp K tu u) : SO K (tSl (rSlL K) ta tl tu) (dSlL a l u) := by
  intro p env σ I H Q2 Q rl q k
  refine ha p env σ I H _ _ rl q fun d v I1 H1 q1 s1 h1 => ?_
  refine hl p env σ I1 H1 _ _ (rl.stp s1) q1 fun lo I2 H2 q2 s2 => ?_
  refine hu p env σ I2 H2 _ _ (rl.stp (s1.trans s2)) q2 fun hi I3 H3 q3 s3 => ?_
  have s := (s1.trans s2).trans s3
  have h := Rp.mono (s2.trans s3).ii d v h1
  cases d <;> first | exact q3.elim | skip
  cases h with
  | lst e1 e2 =>
    rename_i ds a vs
    refine ⟨a, vs, rfl, SqL.of (s3.ih _ _ e1), fun l h0 => ?_⟩
    have hn : H l = none := by
      cases e : H l with
      | none => rfl
      | some o => exact absurd h0 (s.gr.th l (by rw [e]; exact fun z => nomatch z))
    exact k _ l _ I3 _ q3 (s.trans (Stp.fresh s3.ih h0)) hn (Same.free s3.ih h0) upd_same (Rps.cut e2 _ _)
/-! ### built-in calls -/
def dLen : RCD := fun ds Q => match ds with | [x] => (match seqOf x with | some xs => Q (.int xs.length) | none => False) | _ => False
theorem Rps.one {I : Hp} {vs : List V} {d : D} (h : Rps K I vs [d]) : ∃ v, vs = [v] ∧ Rp K I v d := by
  cases h with
  | cons h1 h2 => cases h2; exact ⟨_, rfl, h1⟩
theorem Rps.two {I : Hp} {vs : List V} {d e : D} (h : Rps K I vs [d, e]) : ∃ v w, vs = [v, w] ∧ Rp K I v d ∧ Rp K I w e := by
  cases h with
  | cons h1 h2 =>
    obtain ⟨w, rfl, h3⟩ := h2.one
    exact ⟨_, _, rfl, h1, h3⟩
theorem sc_len : SimC K (fun xs H Q => ∃ p ys, xs = [.ref p] ∧ (SqL K H p ys ∨ SqT K H p ys) ∧ Q (.int ys.length) H) dLen := by
  intro I H vs ds Q2 Q e h q k
  unfold dLen at q
  split at q
  · rename_i x
    split at q
    · rename_i xs e2
      obtain ⟨v, rfl, h1⟩ := h.one
      obtain ⟨a, ws, rfl, h2, h3⟩ := Rp.seq e h1 e2
      refine ⟨a, ws, rfl, h2, ?_⟩
      rw [h3.length]
      exact k _ _ I H q (.refl e) (.int _)
    · exact q.elim
  · exact q.elim
/-- tuple(xs) -/
def dTupOf : RCD := fun ds Q => match ds with | [x] => (match seqOf x with | some xs => Q (.tuple xs) | none => False) | _ => False
theorem sc_tuple : SimC K (fun xs H Q => ∃ p ys, xs = [.ref p] ∧ ((SqL K H p ys ∧ ∀ l, H l = none → Q (.ref l) (upd H l (.tup ys))) ∨ (SqT K H p ys ∧ Q (.ref p) H))) dTupOf := by
  intro I H vs ds Q2 Q e h q k
  unfold dTupOf at q
  split at q
  · rename_i x
    split at q
    · rename_i xs e2
      obtain ⟨v, rfl, h1⟩ := h.one
      cases h1 with
      | lst e3 e4 =>
        rename_i a ws ds
        cases e2
        refine ⟨a, ws, rfl, .inl ⟨SqL.of (e _ _ e3), fun l h0 => ?_⟩⟩
        have g := Gr.new (m := none) (o := .tup ws) e h0
        exact k _ _ _ _ q g (.tup (SqT.of upd_same) (Rps.mono g.ii _ _ e4))
      | tup e3 e4 =>
        rename_i a ws ds
        cases e2
        exact ⟨a, ws, rfl, .inr ⟨Same.sqt e e3, k _ _ I H q (.refl e) (.tup e3 e4)⟩⟩
      | _ => cases e2
    · exact q.elim
  · exact q.elim
/-- list(xs) -/
def dListOf : List D → (List D → Prop) → Prop := fun ds Q => match ds with | [x] => (match seqOf x with | some xs => Q xs | none => False) | _ => False
theorem sc_list : SimCO K (fun xs H Q => ∃ p ys, xs = [.ref p] ∧ (SqL K H p ys ∨ SqT K H p ys) ∧ ∀ l, H l = none → Q (.ref l) (upd H l (.lst ys))) dListOf := by
  intro I H vs ds Q2 Q e h q k
  unfold dListOf at q
  split at q
  · rename_i x
    split at q
    · rename_i xs e2
      obtain ⟨v, rfl, h1⟩ := h.one
      obtain ⟨a, ws, rfl, h2, h3⟩ := Rp.seq e h1 e2
      exact ⟨a, ws, rfl, h2, fun l h0 => k _ l _ q h0 h3⟩
    · exact q.elim
  · exact q.elim
def dInt1 (g : Int → D) : RCD := fun ds Q => match ds with | [.int i] => Q (g i) | _ => False
theorem sc_abs : SimC K (fun xs H Q => ∃ i, xs = [.int i] ∧ Q (.int (if i < 0 then -i else i)) H) (dInt1 fun i => .int (if i < 0 then -i else i)) := by
  intro I H vs ds Q2 Q e h q k
  unfold dInt1 at q
  split at q
  · obtain ⟨v, rfl, h1⟩ := h.one
    cases h1
    exact ⟨_, rfl, k _ _ I H q (.refl e) (.int _)⟩
  · exact q.elim
def dIntOf : RCD := fun ds Q => match ds with | [.int i] => Q (.int i) | [.bool b] => Q (.int (if b then 1 else 0)) | _ => False
theorem sc_int : SimC K (fun xs H Q => (∃ i, xs = [.int i] ∧ Q (.int i) H) ∨ ∃ k, xs = [.bl k] ∧ Q (.int (if k then 1 else 0)) H) dIntOf := by
  intro I H vs ds Q2 Q e h q k
  unfold dIntOf at q
  split at q
  · obtain ⟨v, rfl, h1⟩ := h.one
    cases h1
    exact .inl ⟨_, rfl, k _ _ I H q (.refl e) (.int _)⟩
  · obtain ⟨v, rfl, h1⟩ := h.one
    cases h1
    exact .inr ⟨_, rfl, k _ _ I H q (.refl e) (.int _)⟩
  · exact q.elim
def dInt2 (g : Int → Int → Int) : RCD := fun ds Q => match ds with | [.int i, .int j] => Q (.int (g i j)) | _ => False
theorem sc_max2 : SimC K (fun xs H Q => ∃ i j, xs = [.int i, .int j] ∧ Q (.int (if j > i then j else i)) H) (dInt2 fun i j => if j > i then j else i) := by
  intro I H vs ds Q2 Q e h q k
  unfold dInt2 at q
  split at q
  · obtain ⟨v, w, rfl, h1, h2⟩ := h.two
    cases h1; cases h2
    exact ⟨_, _, rfl, k _ _ I H q (.refl e) (.int _)⟩
  · exact q.elim
theorem sc_min2 : SimC K (fun xs H Q => ∃ i j, xs = [.int i, .int j] ∧ Q (.int (if j < i then j else i)) H) (dInt2 fun i j => if j < i then j else i) := by
  intro I H vs ds Q2 Q e h q k
  unfold dInt2 at q
  split at q
  · obtain ⟨v, w, rfl, h1, h2⟩ := h.two
    cases h1; cases h2
    exact ⟨_, _, rfl, k _ _ I H q (.refl e) (.int _)⟩
  · exact q.elim
/-- a text of an int: whatever it is, it is a text -/
def dStrOf : RCD := fun ds Q => match ds with | [.int i] => i.natAbs.log2 < 1920 ∧ Q (.str (toString i : Str)) | _ => False
theorem sc_str : SimC K (fun xs H Q => ∃ i, xs = [.int i] ∧ i.natAbs.log2 < 1920 ∧ Q (.str (toString i)) H) dStrOf := by
  intro I H vs ds Q2 Q e h q k
  unfold dStrOf at q
  split at q
  · obtain ⟨v, rfl, h1⟩ := h.one
    cases h1
    exact ⟨_, rfl, q.1, k _ _ I H q.2 (.refl e) (.str _)⟩
  · exact q.elim
def allBool : List D → Option (List Bool)
  | [] => some []
  | .bool b :: ds => (allBool ds).map (b :: ·)
  | _ :: _ => none
def allInt : List D → Option (List Int)
  | [] => some []
  | .int b :: ds => (allInt ds).map (b :: ·)
  | _ :: _ => none
theorem allBool_of : ∀ {ds : List D} {bs : List Bool}, allBool ds = some bs → ds = bs.map PyData.bool
  | [], _, h => by cases h; rfl
  | .bool b :: ds, bs, h => by
    unfold allBool at h
    cases e : allBool ds with
    | none => rw [e] at h; cases h
    | some cs =>
      rw [e] at h
      cases h
      rw [allBool_of e]; rfl
  | .none :: _, _, h => by cases h
  | .int _ :: _, _, h => by cases h
  | .str _ :: _, _, h => by cases h
  | .list _ :: _, _, h => by cases h
  | .tuple _ :: _, _, h => by cases h
  | .dict _ :: _, _, h => by cases h
theorem allInt_of : ∀ {ds : List D} {bs : List Int}, allInt ds = some bs → ds = bs.map PyData.int
  | [], _, h => by cases h; rfl
  | .int b :: ds, bs, h => by
    unfold allInt at h
    cases e : allInt ds with
    | none => rw [e] at h; cases h
    | some cs =>
      rw [e] at h
      cases h
      rw [allInt_of e]; rfl
  | .none :: _, _, h => by cases h
  | .bool _ :: _, _, h => by cases h
  | .str _ :: _, _, h => by cases h
  | .list _ :: _, _, h => by cases h
  | .tuple _ :: _, _, h => by cases h
  | .dict _ :: _, _, h => by cases h
def dBools (g : List Bool → Bool) : RCD := fun ds Q => match ds with | [.list xs] => (match allBool xs with | some bs => Q (.bool (g bs)) | none => False) | _ => False
theorem sc_all : SimC K (rAll K) (dBools fun bs => bs.all id) := by
  intro I H vs ds Q2 Q e h q k
  unfold dBools at q
  split at q
  · split at q
    · rename_i xs bs e2
      obtain ⟨v, rfl, h1⟩ := h.one
      cases h1 with
      | lst h3 h4 =>
        rename_i a ws
        have z := allBool_of e2
        subst z
        have z := h4.bools
        subst z
        exact ⟨a, bs, rfl, SqL.of (e _ _ h3), k _ _ I H q (.refl e) (.bl _)⟩
    · exact q.elim
  · exact q.elim
theorem sc_any : SimC K (rAny K) (dBools fun bs => bs.any id) := by
  intro I H vs ds Q2 Q e h q k
  unfold dBools at q
  split at q
  · split at q
    · rename_i xs bs e2
      obtain ⟨v, rfl, h1⟩ := h.one
      cases h1 with
      | lst h3 h4 =>
        rename_i a ws
        have z := allBool_of e2
        subst z
        have z := h4.bools
        subst z
        exact ⟨a, bs, rfl, SqL.of (e _ _ h3), k _ _ I H q (.refl e) (.bl _)⟩
    · exact q.elim
  · exact q.elim
def dSum : RCD := fun ds Q => match ds with | [.list xs] => (match allInt xs with | some bs => Q (.int bs.sum) | none => False) | _ => False
theorem sc_sum : SimC K (rSum K) dSum := by
  intro I H vs ds Q2 Q e h q k
  unfold dSum at q
  split at q
  · split at q
    · rename_i xs bs e2
      obtain ⟨v, rfl, h1⟩ := h.one
      cases h1 with
      | lst h3 h4 =>
        rename_i a ws
        have z := allInt_of e2
        subst z
        have z := h4.ints
        subst z
        exact ⟨a, bs, rfl, SqL.of (e _ _ h3), k _ _ I H q (.refl e) (.int _)⟩
    · exact q.elim
  · exact q.elim
/-- sorted(xs) of ints -/
def dSorted : List D → (List D → Prop) → Prop := fun ds Q => match ds with
  | [.list xs] => (match allInt xs with | some ns => ns.length < 64 ∧ ∀ ns' : List Int, ns'.Perm ns → ns'.Pairwise (· ≤ ·) → Q (ns'.map PyData.int) | none => False) | _ => False
theorem sc_sorted : SimCO K (rSorted K) dSorted := by
  intro I H vs ds Q2 Q e h q k
  unfold dSorted at q
  split at q
  · split at q
    · rename_i xs bs e2
      obtain ⟨v, rfl, h1⟩ := h.one
      cases h1 with
      | lst h3 h4 =>
        rename_i a ws
        have z := allInt_of e2
        subst z
        have z := h4.ints
        subst z
        exact ⟨a, bs, rfl, SqL.of (e _ _ h3), q.1, fun ns' l hp hw h0 => k _ l _ (q.2 ns' hp hw) h0 (Rps.ofInts _)⟩
    · exact q.elim
  · exact q.elim
/-! ### isinstance -/
def tyD : D → String
  | .none => "NoneType" | .bool _ => "bool" | .int _ => "int" | .str _ => "str" | .list _ => "list" | .tuple _ => "tuple" | .dict _ => "dict"
theorem Rp.ty {I H : Hp} {v : V} {d : D} (e : Same I H) (h : Rp K I v d) : TyX K H v (.type (tyD d)) ∨ (tyD d = "dict" ∧ ∃ a w xs, v = .ref a ∧ H a = some (dctO w a xs)) := by
  cases h with
  | non => exact .inl (.base .non)
  | bl b => exact .inl (.base (.bl b))
  | int b => exact .inl (.base (.int b))
  | str b => exact .inl (.base (.str b))
  | lst h1 h2 => exact .inl (.base (.lst (e _ _ h1)))
  | tup h1 h2 =>
    rcases Same.sqt e h1 with (h | ⟨o, h⟩) | ⟨o, its, n, hk, hc, _⟩
    · exact .inl (.base (.tup h))
    · exact .inl (.fTuple h)
    · exact .inl (.kTuple hk hc)
  | dic h1 h2 => exact .inr ⟨rfl, _, _, _, rfl, e _ _ h1⟩
end
/-- isinstance, also of a dict of one's own -/
def rIsi2 (K : Fg) : List V → Hp → VK → Prop := fun xs H Q => rIsi K xs H Q ∨ ∃ (a : Addr) (w : World) (ys : List (List Key × Addr × Value)) (c : V) (u : Value) (b : Bool), xs = [.ref a, c] ∧ ClsV c u ∧ H a = some (dctO w a ys) ∧ PySem.W.kitOne K (.type "dict") u = some b ∧ Q (.bl b) H
theorem call_isi2 {X : Cx} : CallR X (.builtin "isinstance") (rIsi2 X.K) := by
  intro pins s σ H xs us Q I r h
  rcases h with h | ⟨a, w, ys, c, u, b, rfl, k, ea, e, q⟩
  · exact call_isi pins s σ H xs us Q I r h
  · obtain ⟨u1, u2, rfl, r1, r2⟩ := vals2 r
    have e2 := k.eq r2
    subst e2
    cases (show u1 = Value.ref a from r1)
    obtain ⟨⟨z1, z2, o, es, ep, h1, h2, _⟩, _, _⟩ := (show ObjOk X.prog X.w H s.heap a (dctO w a ys) from I.hok a _ ea)
    exact PySem.W.kia_one PySem.W.kitx_dict I.kIn ⟨o, h1, h2.1⟩ e (fun z => nomatch z) fun tk => ⟨.bl b, H, I.tok tk, rfl, q⟩
def isT (T : String) : D → Bool
  | .bool _ => T == "bool" || T == "int" | d => T == tyD d
def tyTab (K : Fg) (T : String) : Prop := PySem.W.kitOne K (.type "NoneType") (.type T) = some (T == "NoneType") ∧ PySem.W.kitOne K (.type "bool") (.type T) = some (T == "bool" || T == "int") ∧ PySem.W.kitOne K (.type "int") (.type T) = some (T == "int") ∧
  PySem.W.kitOne K (.type "str") (.type T) = some (T == "str") ∧ PySem.W.kitOne K (.type "list") (.type T) = some (T == "list") ∧ PySem.W.kitOne K (.type "tuple") (.type T) = some (T == "tuple") ∧ PySem.W.kitOne K (.type "dict") (.type T) = some (T == "dict")
theorem tyTab_is {K : Fg} {T : String} (t : tyTab K T) (d : D) : PySem.W.kitOne K (.type (tyD d)) (.type T) = some (isT T d) := by
  obtain ⟨h1, h2, h3, h4, h5, h6, h7⟩ := t
  cases d <;> assumption
def dIsi (T : String) (a : T2E) : T2E := fun env Q => a env fun d => Q (.bool (isT T d))
theorem se_isi {K : Fg} {T : String} {ta : TE} {a : T2E} (t : tyTab K T) (ha : SE K ta a) : SE K (tCB (rIsi2 K) (tCons ta (tCons (tC (.ty T)) tNil))) (dIsi T a) := by
  intro p env σ I H Q2 Q rl q k
  refine ha p env σ I H _ _ rl q fun d v I1 H1 q1 s1 h1 => ?_
  have tt := tyTab_is t d
  rcases Rp.ty s1.ih h1 with z | ⟨z, a, w, ys, rfl, z2⟩
  · exact .inl ⟨v, .ty T, _, _, isT T d, rfl, .ty T, z, tt, k _ _ _ _ q1 s1 (.bl _)⟩
  · rw [z] at tt
    exact .inr ⟨a, w, ys, .ty T, _, isT T d, rfl, .ty T, z2, tt, k _ _ _ _ q1 s1 (.bl _)⟩
end Z2
namespace Z2
open PySem L2
structure Ends2 where
  nx : Ev → Prop
  rt : D → Prop
  bk : Ev → Prop := fun _ => False
  ct : Ev → Prop := fun _ => False
  rd : World → List (List Key × D) → Prop := fun _ _ => False
abbrev T2S := Ends2 → Ev → Prop
structure EndsR (K : Fg) (p : P0) (D2 : Ends2) (E : Ends) : Prop where
  nx : ∀ env σ I H, D2.nx env → RelL K p env σ I H → E.nx σ H
  rt : ∀ d v I H, D2.rt d → Gr p.m p.I0 p.H0 I H → (∀ s, p.m = some s → Strm I H s) → Rp K I v d → E.rt v H
  bk : ∀ env σ I H, D2.bk env → RelL K p env σ I H → E.bk σ H
  ct : ∀ env σ I H, D2.ct env → RelL K p env σ I H → E.ct σ H
  rd : ∀ w ks a xs I H, D2.rd w ks → Gr p.m p.I0 p.H0 I H → p.H0 a = none → I a = none → H a = some (dctO w a xs) → KD K I xs ks → E.rt (.ref a) H
def SS (K : Fg) (ts : TS) (t : T2S) : Prop := ∀ (p : P0) (env : Ev) (σ : L2.St) (I H : Hp) (D2 : Ends2) (E : Ends), RelL K p env σ I H → t D2 env → EndsR K p D2 E → ts E σ H
theorem RelL.grow' {K : Fg} {p : P0} {env : Ev} {σ : L2.St} {I H I' H' : Hp} (r : RelL K p env σ I H) (g : Gr none I H I' H') : RelL K p env σ I' H' := r.stp (.of g)
theorem wipe_wipe (σ : L2.St) (vs : List Nat) : L2.wipe (L2.wipe σ vs) vs = L2.wipe σ vs := by
  refine List.ext_getElem? fun i => ?_
  by_cases h : i ∈ vs
  · have : ∀ (us : List Nat) (τ : L2.St), i ∈ us → (L2.wipe τ us)[i]? = if i < τ.length then some none else none := by
      intro us
      induction us with
      | nil => intro τ h; exact absurd h (by simp)
      | cons u us ih =>
        intro τ h
        unfold L2.wipe
        by_cases hu : u = i
        · subst hu
          by_cases hl : u < τ.length
          · rw [if_pos hl, List.getElem?_set_self (by rw [wipe_length]; exact hl)]
          · rw [if_neg hl, List.getElem?_eq_none (by rw [List.length_set, wipe_length]; omega)]
        · rw [List.getElem?_set_ne hu]
          exact ih τ (by
            rcases List.mem_cons.mp h with h | h
            · exact absurd h.symm hu
            · exact h)
    rw [this vs _ h, this vs _ h, wipe_length]
  · rw [wipe_out h]
/-! ### targets -/
abbrev T2G := D → Ev → (Ev → Prop) → Prop
abbrev T2Gs := List D → Ev → (Ev → Prop) → Prop
def SG (K : Fg) (vs : List Nat) (g : TG) (t : T2G) : Prop := ∀ (p : P0) (env : Ev) (σ : L2.St) (I H : Hp) (v : V) (d : D) (Q2 : Ev → Prop) (Q : L2.St → Hp → Prop), RelL K p env σ I H → Rp K I v d → t d env Q2 →
  (∀ env' σ' I' H', Q2 env' → RelL K p env' σ' I' H' → Stp p I H I' H' → L2.wipe σ' vs = L2.wipe σ vs → Q σ' H') → g v σ H Q
def SGs (K : Fg) (n : Nat) (vs : List Nat) (g : TGs) (t : T2Gs) : Prop := ∀ (p : P0) (env : Ev) (σ : L2.St) (I H : Hp) (xs : List V) (ds : List D) (Q2 : Ev → Prop) (Q : L2.St → Hp → Prop), RelL K p env σ I H → Rps K I xs ds → t ds env Q2 →
  (∀ env' σ' I' H', Q2 env' → RelL K p env' σ' I' H' → Stp p I H I' H' → L2.wipe σ' vs = L2.wipe σ vs → Q σ' H') → g xs σ H Q
def gN (i : Nat) : T2G := fun d env Q => Q (env.set i (some (.dat d)))
section
variable {K : Fg} {vs : List Nat}
theorem sg_name (i : Nat) (h : i ∈ vs := by decide) : SG K vs (gName i) (gN i) := fun p env σ I H v d Q2 Q r hv q k => k _ _ I H q (r.setDat hv i) (.refl r.same) (wipe_set h)
def gsNil : T2Gs := fun ds env Q => match ds with | [] => Q env | _ => False
def gsCons (t : T2G) (u : T2Gs) : T2Gs := fun ds env Q => match ds with | d :: es => t d env fun env' => u es env' Q | _ => False
theorem sgs_nil : SGs K 0 vs gNil gsNil := by
  intro p env σ I H xs ds Q2 Q r h q k
  unfold gsNil at q
  split at q
  · cases h; exact ⟨rfl, k _ _ I H q r (.refl r.same) rfl⟩
  · exact q.elim
theorem sgs_cons {n : Nat} {g : TG} {gs : TGs} {t : T2G} {u : T2Gs} (h1 : SG K vs g t) (h2 : SGs K n vs gs u) : SGs K (n + 1) vs (gCons g gs) (gsCons t u) := by
  intro p env σ I H xs ds Q2 Q r h q k
  unfold gsCons at q
  split at q
  · cases h with
    | cons a b =>
      rename_i d es v ws
      refine ⟨v, ws, rfl, h1 p env σ I H v d _ _ r a q fun env1 σ1 I1 H1 q1 r1 s1 w1 => ?_⟩
      exact h2 p env1 σ1 I1 H1 ws es _ _ r1 (Rps.mono s1.ii _ _ b) q1 fun env2 σ2 I2 H2 q2 r2 s2 w2 => k _ _ _ _ q2 r2 (s1.trans s2) (w2.trans w1)
  · exact q.elim
/-- a, b = t, a tuple -/
def gT (n : Nat) (t : T2Gs) : T2G := fun d env Q => match d with | .tuple ds => ds.length = n ∧ t ds env Q | .list ds => ds.length = n ∧ t ds env Q | _ => False
/-- a tuple or a list, unpacked -/
def gSq (K : Fg) (n : Nat) (t : TGs) : TG := fun v σ H Q => gTup K n t v σ H Q ∨ gUnl K n t v σ H Q
theorem pg_sq {X : Cx} {pos : Pos} {es : List Expr} {k : Nat} {t : TGs} {n : Nat} (hc : X.calm = true) (h : PGs X es t) (e1 : (assignEach es X.env).length = n := by rfl) (e2 : List.findIdx? (fun x => x.fst) (assignEach es X.env) = none := by rfl) : PG X (.Tuple es k pos) (gSq X.K n t) :=
  ⟨fun pins s σ H v u Q I r q => q.elim (fun q => (pg_tup hc h e1 e2).run pins s σ H v u Q I r q) (fun q => (pg_unl hc h e1 e2).run pins s σ H v u Q I r q)⟩
theorem sg_tup {n : Nat} {gs : TGs} {t : T2Gs} (h : SGs K n vs gs t) : SG K vs (gSq K n gs) (gT n t) := by
  intro p env σ I H v d Q2 Q r hv q k
  unfold gT at q
  split at q
  · cases hv with
    | tup h1 h2 =>
      exact .inl ⟨_, _, rfl, Same.sqt r.same h1, by rw [h2.length]; exact q.1, h p env σ I H _ _ _ _ r h2 q.2 k⟩
  · cases hv with
    | lst h1 h2 =>
      exact .inr ⟨_, _, rfl, SqL.of (r.same _ _ h1), by rw [h2.length]; exact q.1, h p env σ I H _ _ _ _ r h2 q.2 k⟩
  · exact q.elim
end
/-! ### what is walked -/
abbrev T2I := Ev → (List D → Prop) → Prop
structure ItR (K : Fg) (I : Hp) (J : It) (ds : List D) : Prop where
  go : ∀ i I' H', Same I I' → Same I' H' → i < ds.length → J.go i H'
  stop : ∀ i I' H', Same I I' → Same I' H' → i = ds.length → J.stop i H'
  yld : ∀ i x I' H' H'', Same I I' → Same I' H' → i < ds.length → J.yld i H' x H'' → ∃ I'' d, Gr none I' H' I'' H'' ∧ ds[i]? = some d ∧ Rp K I'' x d
def SI (K : Fg) (wi : TI) (t : T2I) : Prop := ∀ (p : P0) (env : Ev) (σ : L2.St) (I H : Hp) (Q2 : List D → Prop) (R : It → Hp → Prop), RelL K p env σ I H → t env Q2 →
  (∀ ds J I' H', Q2 ds → Stp p I H I' H' → ItR K I' J ds → R J H') → wi σ H R
section
variable {K : Fg}
theorem itr_list {I : Hp} {a : Addr} {vs : List V} {ds : List D} (h : I a = some (.lst vs)) (r : Rps K I vs ds) : ItR K I (Itl K a) ds where
  go := fun i I' H' e1 e2 hi => by
    obtain ⟨v, hv, _⟩ := r.got (List.getElem?_eq_getElem hi)
    exact ⟨vs, v, SqL.of (e2 _ _ (e1 _ _ h)), hv⟩
  stop := fun i I' H' e1 e2 hi => ⟨vs, SqL.of (e2 _ _ (e1 _ _ h)), by rw [r.length]; omega⟩
  yld := fun i x I' H' H'' e1 e2 hi y => by
    obtain ⟨rfl, y⟩ := y
    obtain ⟨d, hd, q⟩ := r.get (y vs (SqL.of (e2 _ _ (e1 _ _ h))))
    exact ⟨I', d, .refl e2, hd, Rp.mono e1 _ _ q⟩
theorem itr_tup {I : Hp} {a : Addr} {vs : List V} {ds : List D} (h : SqT K I a vs) (r : Rps K I vs ds) : ItR K I (Itt K a) ds where
  go := fun i I' H' e1 e2 hi => by
    obtain ⟨v, hv, _⟩ := r.got (List.getElem?_eq_getElem hi)
    exact ⟨vs, v, Same.sqt e2 (Same.sqt e1 h), hv⟩
  stop := fun i I' H' e1 e2 hi => ⟨vs, Same.sqt e2 (Same.sqt e1 h), by rw [r.length]; omega⟩
  yld := fun i x I' H' H'' e1 e2 hi y => by
    obtain ⟨rfl, y⟩ := y
    obtain ⟨d, hd, q⟩ := r.get (y vs (Same.sqt e2 (Same.sqt e1 h)))
    exact ⟨I', d, .refl e2, hd, Rp.mono e1 _ _ q⟩
def dRange (lo : Int) (n : Nat) : List D := (List.range n).map fun (i : Nat) => PyData.int (lo + i)
theorem itr_range {I : Hp} (lo : Int) (n : Nat) : ItR K I (Itr lo n) (dRange lo n) where
  go := fun i I' H' e1 e2 hi => by
    unfold dRange at hi
    rw [List.length_map, List.length_range] at hi
    exact hi
  stop := fun i I' H' e1 e2 hi => by
    unfold dRange at hi
    rw [List.length_map, List.length_range] at hi
    show _ ≤ _
    omega
  yld := fun i x I' H' H'' e1 e2 hi y => by
    obtain ⟨rfl, rfl⟩ := y
    refine ⟨I', .int (lo + i), .refl e2, ?_, .int _⟩
    unfold dRange at hi ⊢
    rw [List.length_map, List.length_range] at hi
    rw [List.getElem?_map, List.getElem?_range hi]
    rfl
def dEnum (ds : List D) : List D := (List.range ds.length).map fun i => PyData.tuple [.int (i : Nat), ds.getD i .none]
theorem itr_enum {I : Hp} {a : Addr} {vs : List V} {ds : List D} (h : I a = some (.lst vs)) (r : Rps K I vs ds) : ItR K I (Ite K a) (dEnum ds) where
  go := fun i I' H' e1 e2 hi => by
    unfold dEnum at hi
    rw [List.length_map, List.length_range] at hi
    obtain ⟨v, hv, _⟩ := r.got (List.getElem?_eq_getElem hi)
    exact ⟨vs, v, SqL.of (e2 _ _ (e1 _ _ h)), hv⟩
  stop := fun i I' H' e1 e2 hi => by
    unfold dEnum at hi
    rw [List.length_map, List.length_range] at hi
    exact ⟨vs, SqL.of (e2 _ _ (e1 _ _ h)), by rw [r.length]; omega⟩
  yld := fun i x I' H' H'' e1 e2 hi y => by
    obtain ⟨T, u, rfl, h0, rfl, y⟩ := y
    obtain ⟨d, hd, q⟩ := r.get (y vs (SqL.of (e2 _ _ (e1 _ _ h))))
    have g := Gr.new (m := none) (o := .tup [.int (i : Nat), u]) e2 h0
    refine ⟨_, .tuple [.int (i : Nat), d], g, ?_, .tup (SqT.of upd_same) (.cons (.int _) (.cons (Rp.mono (e1.trans g.ii) _ _ q) .nil))⟩
    unfold dEnum at hi ⊢
    rw [List.length_map, List.length_range] at hi
    rw [List.getElem?_map, List.getElem?_range hi]
    simp [List.getD_eq_getElem?_getD, hd]
def dZip : List D → List D → List D
  | x :: xs, y :: ys => .tuple [x, y] :: dZip xs ys
  | _, _ => []
theorem dZip_get : ∀ {xs ys : List D} {i : Nat} {x y : D}, xs[i]? = some x → ys[i]? = some y → (dZip xs ys)[i]? = some (.tuple [x, y])
  | [], _, _, _, _, h, _ => by simp at h
  | _ :: _, [], _, _, _, _, h => by simp at h
  | _ :: _, _ :: _, 0, _, _, h, h2 => by simp at h h2; subst h h2; rfl
  | _ :: xs, _ :: ys, i + 1, _, _, h, h2 => by
    have := dZip_get (xs := xs) (ys := ys) (i := i) (by simpa using h) (by simpa using h2)
    simpa [dZip] using this
theorem dZip_len : ∀ {xs ys : List D}, (dZip xs ys).length = min xs.length ys.length
  | [], _ => by simp [dZip]
  | _ :: _, [] => by simp [dZip]
  | _ :: xs, _ :: ys => by simp [dZip, dZip_len (xs := xs) (ys := ys), Nat.succ_min_succ]
theorem itr_zipT {I : Hp} {a b : Addr} {vs ws : List V} {ds es : List D} (h : SqT K I a vs) (r : Rps K I vs ds) (h2 : SqT K I b ws) (r2 : Rps K I ws es) : ItR K I (RZ.ItzT K a b) (dZip ds es) where
  go := fun i I' H' e1 e2 hi => by
    rw [dZip_len] at hi
    obtain ⟨v, hv, _⟩ := r.got (List.getElem?_eq_getElem (show i < ds.length by omega))
    obtain ⟨w, hw, _⟩ := r2.got (List.getElem?_eq_getElem (show i < es.length by omega))
    exact ⟨vs, ws, v, w, Same.sqt e2 (Same.sqt e1 h), Same.sqt e2 (Same.sqt e1 h2), hv, hw⟩
  stop := fun i I' H' e1 e2 hi => by
    rw [dZip_len] at hi
    refine ⟨vs, ws, Same.sqt e2 (Same.sqt e1 h), Same.sqt e2 (Same.sqt e1 h2), ?_⟩
    rw [r.length, r2.length]
    omega
  yld := fun i x I' H' H'' e1 e2 hi y => by
    obtain ⟨T, u, z, rfl, h0, rfl, y1, y2⟩ := y
    obtain ⟨d, hd, q⟩ := r.get (y1 vs (Same.sqt e2 (Same.sqt e1 h)))
    obtain ⟨d2, hd2, q2⟩ := r2.get (y2 ws (Same.sqt e2 (Same.sqt e1 h2)))
    have g := Gr.new (m := none) (o := .tup [u, z]) e2 h0
    exact ⟨_, .tuple [d, d2], g, dZip_get hd hd2, .tup (SqT.of upd_same) (.cons (Rp.mono (e1.trans g.ii) _ _ q) (.cons (Rp.mono (e1.trans g.ii) _ _ q2) .nil))⟩
theorem itr_zipL {I : Hp} {a b : Addr} {vs ws : List V} {ds es : List D} (h : I a = some (.lst vs)) (r : Rps K I vs ds) (h2 : I b = some (.lst ws)) (r2 : Rps K I ws es) : ItR K I (Itz K a b) (dZip ds es) where
  go := fun i I' H' e1 e2 hi => by
    rw [dZip_len] at hi
    obtain ⟨v, hv, _⟩ := r.got (List.getElem?_eq_getElem (show i < ds.length by omega))
    obtain ⟨w, hw, _⟩ := r2.got (List.getElem?_eq_getElem (show i < es.length by omega))
    exact ⟨vs, ws, v, w, SqL.of (e2 _ _ (e1 _ _ h)), SqL.of (e2 _ _ (e1 _ _ h2)), hv, hw⟩
  stop := fun i I' H' e1 e2 hi => by
    rw [dZip_len] at hi
    refine ⟨vs, ws, SqL.of (e2 _ _ (e1 _ _ h)), SqL.of (e2 _ _ (e1 _ _ h2)), ?_⟩
    rw [r.length, r2.length]
    omega
  yld := fun i x I' H' H'' e1 e2 hi y => by
    obtain ⟨T, u, z, rfl, h0, rfl, y1, y2⟩ := y
    obtain ⟨d, hd, q⟩ := r.get (y1 vs (SqL.of (e2 _ _ (e1 _ _ h))))
    obtain ⟨d2, hd2, q2⟩ := r2.get (y2 ws (SqL.of (e2 _ _ (e1 _ _ h2))))
    have g := Gr.new (m := none) (o := .tup [u, z]) e2 h0
    exact ⟨_, .tuple [d, d2], g, dZip_get hd hd2, .tup (SqT.of upd_same) (.cons (Rp.mono (e1.trans g.ii) _ _ q) (.cons (Rp.mono (e1.trans g.ii) _ _ q2) .nil))⟩
def diL (a : T2E) : T2I := fun env Q => a env fun d => match d with | .list ds => Q ds | _ => False
def diT (a : T2E) : T2I := fun env Q => a env fun d => match d with | .tuple ds => Q ds | _ => False
theorem si_list {ta : TE} {a : T2E} (ha : SE K ta a) : SI K (iList K ta) (diL a) := by
  intro p env σ I H Q2 R rl q k
  refine ha p env σ I H _ _ rl q fun d v I1 H1 q1 s1 h1 => ?_
  cases d <;> first | exact q1.elim | skip
  cases h1 with
  | lst h2 h3 => exact ⟨_, rfl, ⟨_, SqL.of (s1.ih _ _ h2)⟩, k _ _ _ _ q1 s1 (itr_list h2 h3)⟩
theorem si_tup {ta : TE} {a : T2E} (ha : SE K ta a) : SI K (iTup K ta) (diT a) := by
  intro p env σ I H Q2 R rl q k
  refine ha p env σ I H _ _ rl q fun d v I1 H1 q1 s1 h1 => ?_
  cases d <;> first | exact q1.elim | skip
  cases h1 with
  | tup h2 h3 => exact ⟨_, rfl, ⟨_, Same.sqt s1.ih h2⟩, k _ _ _ _ q1 s1 (itr_tup h2 h3)⟩
def diR1 (t : T2A) : T2I := fun env Q => t env fun ds => match ds with | [.int j] => -1000000 ≤ j ∧ j ≤ 1000000 ∧ Q (dRange 0 j.toNat) | _ => False
def diR2 (t : T2A) : T2I := fun env Q => t env fun ds => match ds with | [.int i, .int j] => (-1000000 ≤ i ∧ i ≤ 1000000) ∧ (-1000000 ≤ j ∧ j ≤ 1000000) ∧ Q (dRange i (j - i).toNat) | _ => False
theorem si_range1 {n : Nat} {t : TA} {u : T2A} (h : SA K n t u) : SI K (iRng1 t) (diR1 u) := by
  intro p env σ I H Q2 R rl q k
  refine h p env σ I H _ _ rl q fun ds vs I1 H1 q1 hl s1 h1 => ?_
  split at q1
  · obtain ⟨v, rfl, h2⟩ := h1.one
    cases h2
    exact ⟨_, rfl, by omega, by omega, k _ _ _ _ q1.2.2 s1 (itr_range _ _)⟩
  · exact q1.elim
theorem si_range2 {n : Nat} {t : TA} {u : T2A} (h : SA K n t u) : SI K (iRng2 t) (diR2 u) := by
  intro p env σ I H Q2 R rl q k
  refine h p env σ I H _ _ rl q fun ds vs I1 H1 q1 hl s1 h1 => ?_
  split at q1
  · obtain ⟨v, w, rfl, h2, h3⟩ := h1.two
    cases h2
    cases h3
    obtain ⟨⟨b1, b2⟩, ⟨b3, b4⟩, q⟩ := q1
    exact ⟨_, _, rfl, ⟨by omega, by omega, by omega, by omega⟩, k _ _ _ _ q s1 (itr_range _ _)⟩
  · exact q1.elim
def diEnum (t : T2A) : T2I := fun env Q => t env fun ds => match ds with | [.list xs] => Q (dEnum xs) | _ => False
theorem si_enum {n : Nat} {t : TA} {u : T2A} (h : SA K n t u) : SI K (iEnum K t) (diEnum u) := by
  intro p env σ I H Q2 R rl q k
  refine h p env σ I H _ _ rl q fun ds vs I1 H1 q1 hl s1 h1 => ?_
  split at q1
  · obtain ⟨v, rfl, h2⟩ := h1.one
    cases h2 with
    | lst h3 h4 => exact ⟨_, _, rfl, SqL.of (s1.ih _ _ h3), k _ _ _ _ q1 s1 (itr_enum h3 h4)⟩
  · exact q1.elim
def diZip (t : T2A) : T2I := fun env Q => t env fun ds => match ds with | [.list xs, .list ys] => Q (dZip xs ys) | [.tuple xs, .tuple ys] => Q (dZip xs ys) | _ => False
theorem si_zip {n : Nat} {t : TA} {u : T2A} (h : SA K n t u) : SI K (RZ.iZipA K t) (diZip u) := by
  intro p env σ I H Q2 R rl q k
  refine h p env σ I H _ _ rl q fun ds vs I1 H1 q1 hl s1 h1 => ?_
  split at q1
  · obtain ⟨v, w, rfl, h2, h3⟩ := h1.two
    cases h2 with
    | lst h4 h5 =>
      cases h3 with
      | lst h6 h7 => exact ⟨_, _, _, _, rfl, .inl ⟨SqL.of (s1.ih _ _ h4), SqL.of (s1.ih _ _ h6), k _ _ _ _ q1 s1 (itr_zipL h4 h5 h6 h7)⟩⟩
  · obtain ⟨v, w, rfl, h2, h3⟩ := h1.two
    cases h2 with
    | tup h4 h5 =>
      cases h3 with
      | tup h6 h7 => exact ⟨_, _, _, _, rfl, .inr ⟨Same.sqt s1.ih h4, Same.sqt s1.ih h6, k _ _ _ _ q1 s1 (itr_zipT h4 h5 h6 h7)⟩⟩
  · exact q1.elim
end
/-! ### comprehensions -/
def lcD (g : T2G) (tt : T2T) (te : T2E) (env : Ev) : List D → (List D → Prop) → Prop
  | [], Q => Q []
  | d :: ds, Q => g d env fun env1 => tt env1 fun b => if b = true then te env1 fun y => lcD g tt te env ds fun ys => Q (y :: ys) else lcD g tt te env ds Q
def dLc (ti : T2I) (g : T2G) (tt : T2T) (te : T2E) (vs : List Nat) : T2A := fun env Q => ti env fun ds => ds.length ≤ 1000000 ∧ lcD g tt te (wipeE env vs) ds Q
section
variable {K : Fg}
theorem so_lc {wi : TI} {g : TG} {tt : TT} {te : TE} {ti : T2I} {g2 : T2G} {tt2 : T2T} {te2 : T2E} {vs : List Nat} (hi : SI K wi ti) (hg : SG K vs g g2) (ht : ST K tt tt2) (he : SE K te te2) : SO K (tLc wi g tt te vs) (dLc ti g2 tt2 te2 vs) := by
  intro p env σ I H Q2 Q rl q k
  refine hi p env σ I H _ _ rl q fun ds J I1 H1 ⟨hlen, q1⟩ s1 it => ?_
  intro D hD
  have rl1 := rl.stp s1
  have hD0 : p.H0 D = none := by
    cases e : p.H0 D with
    | none => rfl
    | some o => exact absurd hD (rl1.r.gr.th D (by rw [e]; exact fun z => nomatch z))
  have hDI : I1 D = none := Same.free s1.ih hD
  have hDH : H D = none := by
    cases e : H D with
    | none => rfl
    | some o => exact absurd hD (s1.gr.th D (by rw [e]; exact fun z => nomatch z))
  have hm : p.m ≠ some D := fun e => (rl1.r.st D e).1 hD0
  have hown : ∀ (j : Nat) (x : List PyData), env[j]? = some (some (Sl.own x)) → σ[j]? ≠ some (some (V.ref D)) := fun j x e z => by
    obtain ⟨v, hv, a, ws, rfl, _, _, e4, _⟩ := rl1.r.sl j _ e
    rw [hv] at z
    cases z
    rw [hD] at e4; cases e4
  refine ⟨fun i m H' => m = ds.length - i ∧ i ≤ ds.length ∧ ∃ I' acc ys, RelL K p env σ I' H' ∧ Stp p I1 H1 I' H' ∧ I' D = none ∧ H' D = some (.lst acc) ∧ Rps K I' acc ys ∧ acc.length ≤ i ∧ lcD g2 tt2 te2 (wipeE env vs) (ds.drop i) fun zs => Q2 (ys ++ zs),
    ⟨ds.length, by simp, Nat.zero_le _, I1, [], [], rl1.beside hD0 hDI (fun _ _ z => by rw [hD] at z; cases z) (fun _ z => by rw [hD] at z; cases z) (rl1.freshCell (.refl rl1.same) hD) hown, Stp.fresh s1.ih hD, hDI, upd_same, .nil, Nat.le_refl _, q1⟩, ?_⟩
  rintro i m H' ⟨rfl, hi', I', acc, ys, r', st', hDI', hDH', rp, hacc, q'⟩
  by_cases hlt : i < ds.length
  · refine .inr ⟨it.go i I' H' st'.ii st'.ih hlt, fun H'' => ∃ I'' acc ys, RelL K p env σ I'' H'' ∧ Stp p I1 H1 I'' H'' ∧ I'' D = none ∧ H'' D = some (.lst acc) ∧ Rps K I'' acc ys ∧ acc.length ≤ i + 1 ∧ lcD g2 tt2 te2 (wipeE env vs) (ds.drop (i + 1)) fun zs => Q2 (ys ++ zs),
      fun H'' z => ⟨ds.length - (i + 1), by omega, rfl, by omega, z⟩, fun x H2 y => ?_⟩
    obtain ⟨I2, d, g1, hd, rd⟩ := it.yld i x I' H' H2 st'.ii st'.ih hlt y
    have hdrop : ds.drop i = d :: ds.drop (i + 1) := by
      have hdd : ds[i] = d := Option.some.inj ((List.getElem?_eq_getElem hlt).symm.trans hd)
      rw [List.drop_eq_getElem_cons hlt, hdd]
    rw [hdrop] at q'
    have st2 := st'.trans (Stp.of (p := p) g1)
    have r2 := r'.grow' g1
    have q2 : g2 d (wipeE env vs) (fun env1 => tt2 env1 fun b => if b = true then te2 env1 fun y => lcD g2 tt2 te2 (wipeE env vs) (ds.drop (i + 1)) fun zs => Q2 (ys ++ (y :: zs)) else lcD g2 tt2 te2 (wipeE env vs) (ds.drop (i + 1)) fun zs => Q2 (ys ++ zs)) := q'
    have keepD : ∀ {I3 H3 I4 H4}, Stp p I3 H3 I4 H4 → I3 D = none → H3 D = some (.lst acc) → I4 D = none ∧ H4 D = some (.lst acc) := fun s a b =>
      ⟨s.gr.fr D a (by rw [b]; exact fun z => nomatch z), s.gr.hh D _ b hm⟩
    obtain ⟨d2, d3⟩ := keepD (Stp.of (p := p) g1) hDI' hDH'
    refine hg p (wipeE env vs) (L2.wipe σ vs) I2 H2 x d _ _ (r2.wipe vs) rd q2 fun env1 σ1 I3 H3 q3 r3 s3 w3 => ⟨by rw [w3]; exact wipe_wipe σ vs, ?_⟩
    obtain ⟨d4, d5⟩ := keepD s3 d2 d3
    refine ht p env1 σ1 I3 H3 _ _ r3 q3 fun b I4 H4 q4 s4 => ?_
    obtain ⟨d6, d7⟩ := keepD s4 d4 d5
    have s34 := s3.trans s4
    cases b with
    | false =>
      rw [if_neg Bool.false_ne_true] at q4 ⊢
      exact ⟨I4, acc, ys, r2.stp s34, st2.trans s34, d6, d7, Rps.mono (g1.ii.trans s34.ii) _ _ rp, by omega, q4⟩
    | true =>
      rw [if_pos rfl] at q4 ⊢
      refine he p env1 σ1 I4 H4 _ _ (r3.stp s4) q4 fun e v I5 H5 q5 s5 r5 => ?_
      obtain ⟨d8, d9⟩ := keepD s5 d6 d7
      have s35 := s34.trans s5
      have st5 := st2.trans s35
      have r6 := (r2.stp s35)
      refine ⟨acc, d9, Nat.lt_of_le_of_lt hacc (Nat.lt_of_lt_of_le hlt (le_line hlen)), I5, acc ++ [v], ys ++ [e], r6.beside hD0 d8 (fun _ _ z => by rw [d9] at z; exact nomatch z) (fun _ z => by rw [d9] at z; exact nomatch z) (rl1.freshCell st5 hD) hown, ⟨⟨st5.ii, fun b o z => by rw [upd_ne (ne_of_none z d8)]; exact st5.ih b o z, fun b o z n => ?_, st5.gr.fr, fun b z => ?_⟩, fun s e1 e2 => ?_⟩, d8, upd_same,
        Rps.append (Rps.mono (g1.ii.trans s35.ii) _ _ rp) (.cons r5 .nil), by rw [List.length_append, List.length_singleton]; omega, ?_⟩
      · have hb : b ≠ D := fun w => by rw [w, hD] at z; cases z
        rw [upd_ne hb]; exact st5.gr.hh b o z n
      · have hb : b ≠ D := fun w => z (by rw [w]; exact hD)
        rw [upd_ne hb]; exact st5.gr.th b z
      · obtain ⟨f0, l, c, n, ns, f1, f2, f3⟩ := st5.st s e1 e2
        have hs : s ≠ D := fun w => hm (by rw [e1, w])
        exact ⟨f0, l, c, n, ns, by rw [upd_ne hs]; exact f1, f2, f3⟩
      · have ee : ∀ zs : List PyData, (ys ++ [e]) ++ zs = ys ++ (e :: zs) := fun zs => by rw [List.append_assoc]; rfl
        simp only [ee]
        exact q5
  · have hi2 : i = ds.length := by omega
    subst hi2
    rw [List.drop_length] at q'
    have q' : Q2 (ys ++ []) := q'
    rw [List.append_nil] at q'
    exact .inl ⟨it.stop _ I' H' st'.ii st'.ih rfl, k ys D acc I' H' q' (s1.trans st') hDH hDI' hDH' rp⟩
end
end Z2
namespace Z2
open PySem PySem.Spec PyProof.Rows L2
def dSeq (t u : T2S) : T2S := fun E env => t { E with nx := u E } env
def dNext : T2S := fun E env => E.nx env
def dAsg (t : T2E) (g : T2G) : T2S := fun E env => t env fun d => g d env E.nx
def dAsgO (t : T2A) (i : Nat) : T2S := fun E env => t env fun ds => E.nx (env.set i (some (.own ds)))
def dDrop (t : T2E) : T2S := fun E env => t env fun _ => E.nx env
def dRet (t : T2E) : T2S := fun E env => t env E.rt
def dRetN : T2S := fun E _ => E.rt .none
def dIfS (c : T2T) (t u : T2S) : T2S := fun E env => c env fun b => if b = true then t E env else u E env
def dNever : T2S := fun _ _ => False
def dBreak : T2S := fun E env => E.bk env
def dCont : T2S := fun E env => E.ct env
def forD (g : T2G) (tb : T2S) (E : Ends2) : List D → Ev → Prop
  | [] => E.nx
  | d :: ds => fun env => g d env fun env1 => tb { E with nx := forD g tb E ds, ct := forD g tb E ds, bk := E.nx } env1
def dFor (ti : T2I) (g : T2G) (tb : T2S) : T2S := fun E env => ti env fun ds => forD g tb E ds env
def dFrz (i : Nat) (t : T2S) : T2S := fun E env => match env[i]? with | some (some (.own ds)) => t E (env.set i (some (.dat (.list ds)))) | some (some (.dat _)) => t E env | _ => False
def dApp (i : Nat) (t : T2E) : T2S := fun E env => match env[i]? with | some (some (.own ds)) => t env fun d => ds.length < 1000000 ∧ E.nx (env.set i (some (.own (ds ++ [d])))) | _ => False
def dExt (i : Nat) (t : T2E) : T2S := fun E env => match env[i]? with | some (some (.own ds)) => t env fun d => (match d with | .list es => ds.length + es.length ≤ 1000000 ∧ E.nx (env.set i (some (.own (ds ++ es)))) | _ => False) | _ => False
def dSetIx (i : Nat) (t u : T2E) : T2S := fun E env => match env[i]? with
  | some (some (.own ds)) => t env fun d => u env fun k => (match k with | .int j => (match ixN ds.length j with | some n => E.nx (env.set i (some (.own (ds.set n d)))) | none => False) | _ => False)
  | _ => False
section
variable {K : Fg} {ts us : TS} {t u : T2S} {te tf : TE} {t2 u2 : T2E}
theorem ss_seq (h1 : SS K ts t) (h2 : SS K us u) : SS K (tSeq ts us) (dSeq t u) := fun p env σ I H D2 E r q e =>
  h1 p env σ I H _ _ r q ⟨fun env' σ' I' H' q' r' => h2 p env' σ' I' H' _ _ r' q' e, e.rt, e.bk, e.ct, e.rd⟩
theorem ss_next : SS K tNext dNext := fun p env σ I H D2 E r q e => e.nx _ _ _ _ q r
theorem ss_never : SS K tNever dNever := fun p env σ I H D2 E r q e => q.elim
theorem ss_break : SS K tBreak dBreak := fun p env σ I H D2 E r q e => e.bk _ _ _ _ q r
theorem ss_cont : SS K tCont dCont := fun p env σ I H D2 E r q e => e.ct _ _ _ _ q r
theorem ss_asg {vs : List Nat} {g : TG} {g2 : T2G} (h : SE K te t2) (hg : SG K vs g g2) : SS K (tAsg te g) (dAsg t2 g2) := fun p env σ I H D2 E r q e =>
  h p env σ I H _ _ r q fun d v I' H' q' s rp => hg p env σ I' H' v d _ _ (r.stp s) rp q' fun env' σ' I2 H2 q2 r2 _ _ => e.nx _ _ _ _ q2 r2
theorem ss_set {i : Nat} (h : SE K te t2) : SS K (tAsg te (gName i)) (dAsg t2 (gN i)) := ss_asg (vs := [i]) h (sg_name i (List.mem_singleton.mpr rfl))
theorem ss_asgO {i : Nat} {a : T2A} (h : SO K te a) : SS K (tAsg te (gName i)) (dAsgO a i) := fun p env σ I H D2 E r q e =>
  h p env σ I H _ _ r q fun ds l vs I' H' q' s h0 h1 h2 h3 => by
    have r' := r.stp s
    refine e.nx _ _ _ _ q' (r'.setOwn ?_ h1 h2 h3 (fun j x e z => ?_) ?_ i)
    · cases e0 : p.H0 l with
      | none => rfl
      | some o => exact absurd h0 (r.r.gr.th l (by rw [e0]; exact fun z => nomatch z))
    · obtain ⟨v, hv, a, ws, rfl, _, _, e4, _⟩ := r.r.sl j _ e
      rw [hv] at z
      cases z
      rw [h0] at e4; cases e4
    · exact r.freshCell s h0
theorem ss_drop (h : SE K te t2) : SS K (tDrop te) (dDrop t2) := fun p env σ I H D2 E r q e =>
  h p env σ I H _ _ r q fun d v I' H' q' s rp => e.nx _ _ _ _ q' (r.stp s)
theorem ss_ret (h : SE K te t2) : SS K (tRet te) (dRet t2) := fun p env σ I H D2 E r q e =>
  h p env σ I H _ _ r q fun d v I' H' q' s rp => e.rt d v I' H' q' (r.r.gr.trans s.gr) (fun a ea => s.st a ea (r.r.st a ea).2) rp
theorem ss_retN : SS K tRetN dRetN := fun p env σ I H D2 E r q e => e.rt _ _ _ _ q r.r.gr (fun a ea => (r.r.st a ea).2) .non
theorem ss_if {c : TT} {c2 : T2T} (h : ST K c c2) (h1 : SS K ts t) (h2 : SS K us u) : SS K (tIfS c ts us) (dIfS c2 t u) := by
  intro p env σ I H D2 E r q e
  refine h p env σ I H _ _ r q fun b I' H' q' s => ?_
  cases b with
  | true =>
    rw [if_pos rfl] at q' ⊢
    exact h1 p env σ I' H' _ _ (r.stp s) q' e
  | false =>
    rw [if_neg Bool.false_ne_true] at q' ⊢
    exact h2 p env σ I' H' _ _ (r.stp s) q' e
theorem ss_frz (i : Nat) (h : SS K ts t) : SS K ts (dFrz i t) := by
  intro p env σ I H D2 E r q e
  unfold dFrz at q
  split at q
  · rename_i ds e2
    obtain ⟨I', _, r'⟩ := r.freeze e2
    exact h p _ σ I' H _ _ r' q e
  · exact h p _ σ I H _ _ r q e
  · exact q.elim
theorem ss_for {wi : TI} {g : TG} {ti : T2I} {g2 : T2G} {vs : List Nat} (hi : SI K wi ti) (hg : SG K vs g g2) (hb : SS K ts t) : SS K (tFor wi g ts) (dFor ti g2 t) := by
  intro p env σ I H D2 E r q e
  refine hi p env σ I H _ _ r q fun ds J I1 H1 q1 s1 it => ?_
  refine ⟨fun i m σ' H' => m = ds.length - i ∧ i ≤ ds.length ∧ ∃ env' I', RelL K p env' σ' I' H' ∧ Same I1 I' ∧ forD g2 t D2 (ds.drop i) env', ⟨ds.length, by simp, Nat.zero_le _, env, I1, r.stp s1, Same.refl _, q1⟩, ?_⟩
  rintro i m σ' H' ⟨rfl, hi', env', I', r', ii, q'⟩
  by_cases hlt : i < ds.length
  · refine .inr ⟨it.go i I' H' ii r'.same hlt, fun σ2 H2 => ∃ env2 I2, RelL K p env2 σ2 I2 H2 ∧ Same I1 I2 ∧ forD g2 t D2 (ds.drop (i + 1)) env2, fun σ2 H2 z => ⟨ds.length - (i + 1), by omega, rfl, by omega, z⟩, fun x H2 y => ?_⟩
    obtain ⟨I2, d, g1, hd, rd⟩ := it.yld i x I' H' H2 ii r'.same hlt y
    have hdrop : ds.drop i = d :: ds.drop (i + 1) := by
      have hdd : ds[i] = d := Option.some.inj ((List.getElem?_eq_getElem hlt).symm.trans hd)
      rw [List.drop_eq_getElem_cons hlt, hdd]
    rw [hdrop] at q'
    refine hg p env' σ' I2 H2 x d _ _ (r'.grow' g1) rd q' fun env3 σ3 I3 H3 q3 r3 s3 _ => ?_
    have i3 := (ii.trans g1.ii).trans s3.ii
    have back : ∀ {env σ I H}, RelL K { p with B := I1 } env σ I H → RelL K p env σ I H ∧ Same I1 I := fun {env σ I H} z => ⟨z.rebase ((r.stp s1).r.bs.trans z.r.bs), z.r.bs⟩
    exact hb { p with B := I1 } env3 σ3 I3 H3 _ _ (r3.rebase i3) q3 ⟨fun env4 σ4 I4 H4 q4 r4 => ⟨env4, I4, (back r4).1, (back r4).2, q4⟩, e.rt, fun env4 σ4 I4 H4 q4 r4 => e.nx _ _ _ _ q4 (back r4).1,
      fun env4 σ4 I4 H4 q4 r4 => ⟨env4, I4, (back r4).1, (back r4).2, q4⟩, e.rd⟩
  · have hi2 : i = ds.length := by omega
    subst hi2
    rw [List.drop_length] at q'
    exact .inl ⟨it.stop _ I' H' ii r'.same rfl, e.nx _ _ _ _ q' r'⟩
/-! own lists that change -/
theorem ss_app (i : Nat) (h : SE K te t2) : SS K (tDrop (tBM K "list" rAppend (tVar i) (tCons te tNil))) (dApp i t2) := by
  intro p env σ I H D2 E r q e
  unfold dApp at q
  split at q
  · rename_i ds e2
    obtain ⟨v, hv, a, vs, rfl, _, _, e4, e5⟩ := r.r.sl i _ e2
    refine ⟨_, hv, .inl ⟨rfl, _, SqL.of e4⟩, h p env σ I H _ _ r q fun d v I1 H1 ⟨hl, q1⟩ s1 r1 => ?_⟩
    have r' := r.stp s1
    obtain ⟨v', hv', a', ws, rfl, _, _, f4, f5⟩ := r'.r.sl i _ e2
    rw [hv] at hv'; cases hv'
    refine ⟨a, ws, v, rfl, rfl, f4, lt_line (by rw [f5.length]; exact hl), ?_⟩
    exact e.nx _ _ _ _ q1 (r'.mutOwn e2 hv (Rps.append f5 (.cons r1 .nil)))
  · exact q.elim
theorem ss_ext (i : Nat) (h : SE K te t2) : SS K (tDrop (tBM K "list" rExtend (tVar i) (tCons te tNil))) (dExt i t2) := by
  intro p env σ I H D2 E r q e
  unfold dExt at q
  split at q
  · rename_i ds e2
    obtain ⟨v, hv, a, vs, rfl, _, _, e4, e5⟩ := r.r.sl i _ e2
    refine ⟨_, hv, .inl ⟨rfl, _, SqL.of e4⟩, h p env σ I H _ _ r q fun d v I1 H1 q1 s1 r1 => ?_⟩
    have r' := r.stp s1
    obtain ⟨v', hv', a', ws, rfl, _, _, f4, f5⟩ := r'.r.sl i _ e2
    rw [hv] at hv'; cases hv'
    split at q1
    · obtain ⟨hl, q1⟩ := q1
      cases r1 with
      | lst g1 g2 =>
        refine ⟨a, _, ws, _, rfl, rfl, f4, s1.ih _ _ g1, le_line (by rw [f5.length, g2.length]; exact hl), ?_⟩
        exact e.nx _ _ _ _ q1 (r'.mutOwn e2 hv (Rps.append f5 g2))
    · exact q1.elim
  · exact q.elim
theorem ss_setIx (i : Nat) (h : SE K te t2) (h2 : SE K tf u2) : SS K (tAsg te (gSub (tVar i) tf rSetL)) (dSetIx i t2 u2) := by
  intro p env σ I H D2 E r q e
  unfold dSetIx at q
  split at q
  · rename_i ds e2
    refine h p env σ I H _ _ r q fun d v I1 H1 q1 s1 r1 => ?_
    obtain ⟨w, hw, a, vs, rfl, _, _, e4, e5⟩ := r.r.sl i _ e2
    refine ⟨_, hw, h2 p env σ I1 H1 _ _ (r.stp s1) q1 fun k u I2 H2 q2 s2 rk => ?_⟩
    have r' := (r.stp s1).stp s2
    obtain ⟨v', hv', a', ws, rfl, _, _, f4, f5⟩ := r'.r.sl i _ e2
    rw [hw] at hv'; cases hv'
    split at q2
    · split at q2
      · rename_i j _ n e3
        cases rk
        refine ⟨a, ws, _, n, rfl, rfl, f4, by rw [f5.length]; exact e3, ?_⟩
        exact e.nx _ _ _ _ q2 (r'.mutOwn e2 hw (Rps.set (Rp.mono s2.ii _ _ r1) n f5))
      · exact q2.elim
    · exact q2.elim
  · exact q.elim
end
/-! ### calls, promises -/
/-- a def over data: n arguments, what it does -/
def spD (K : Fg) (n : Nat) (f : RCD) : Sp := fun vs H Q _ => ∃ (I : Hp) (ds : List D) (Q2 : D → Prop), vs.length = n ∧ Same I H ∧ Rps K I vs ds ∧ f ds Q2 ∧ ∀ d v I' H', Q2 d → Gr none I H I' H' → Rp K I' v d → Q v H'
/-- .. whose first argument is the draws' list -/
def spS (K : Fg) (n : Nat) (f : RCD) : Sp := fun vs H Q _ => ∃ (I : Hp) (a : Addr) (ws : List V) (ds : List D) (Q2 : D → Prop), vs = .ref a :: ws ∧ ws.length = n ∧ Same I H ∧ Strm I H a ∧ Rps K I ws ds ∧ f ds Q2 ∧
  ∀ d v I' H', Q2 d → Gr (some a) I H I' H' → Strm I' H' a → Rp K I' v d → Q v H'
def dCallS (i : Nat) (f : RCD) (t : T2A) : T2E := fun env Q => (match env[i]? with | some (some .strm) => True | _ => False) ∧ t env fun ds => f ds Q
section
variable {K : Fg} {n : Nat} {f : RCD} {E : XK} {ta : TA} {t : T2A}
theorem se_call (h : SA K n ta t) : SE K (tCall (spD K n f) [] E ta) (dCB f t) := by
  intro p env σ I H Q2 Q rl q k
  refine h p env σ I H _ _ rl q fun ds vs I1 H1 q1 hl s1 h1 => ?_
  rw [List.append_nil]
  exact ⟨I1, ds, Q2, hl, s1.ih, h1, q1, fun d v I' H' q' g r' => k d v I' H' q' (s1.trans (.of g)) r'⟩
theorem se_callS (i : Nat) (h : SA K n ta t) : SE K (tCall (spS K n f) [] E (tCons (tVar i) ta)) (dCallS i f t) := by
  intro p env σ I H Q2 Q rl q k
  obtain ⟨q0, q⟩ := q
  split at q0
  · rename_i e2
    obtain ⟨v, hv, a, rfl, ha⟩ := rl.r.sl i _ e2
    refine ⟨_, hv, h p env σ I H _ _ rl q fun ds vs I1 H1 q1 hl s1 h1 => ?_⟩
    show spS K n f ((V.ref a :: vs) ++ []) H1 Q E
    rw [List.append_nil]
    have r1 := rl.stp s1
    exact ⟨I1, a, vs, ds, Q2, rfl, hl, s1.ih, (r1.r.st a ha).2, h1, q1, fun d v I' H' q' g st r' => k d v I' H' q' (s1.trans ⟨by rw [ha]; exact g, fun s es _ => by rw [ha] at es; cases es; exact st⟩) r'⟩
  · exact q0.elim
end
def envD (N n : Nat) (ds : List D) : Ev := ds.map (fun d => some (.dat d)) ++ List.replicate (N - n) none
def bodyD (N n : Nat) (t : T2S) : RCD := fun ds Q => ds.length = n ∧ t { nx := fun _ => Q .none, rt := Q } (envD N n ds)
def bodyS (N n : Nat) (t : T2S) : RCD := fun ds Q => ds.length = n ∧ t { nx := fun _ => Q .none, rt := Q } (some .strm :: envD N n ds)
theorem env_get {N n : Nat} {ds : List D} {i : Nat} {x : Sl} (h : (envD N n ds)[i]? = some (some x)) : ∃ d, x = .dat d ∧ ds[i]? = some d := by
  unfold envD at h
  by_cases hi : i < ds.length
  · rw [List.getElem?_append_left (by rw [List.length_map]; exact hi), List.getElem?_map] at h
    cases e : ds[i]? with
    | none => rw [e] at h; cases h
    | some d => rw [e] at h; cases h; exact ⟨d, rfl, rfl⟩
  · rw [List.getElem?_append_right (by rw [List.length_map]; omega), List.getElem?_replicate] at h
    split at h <;> cases h
theorem start_get {N : List Str} {vs : List V} {i : Nat} {v : V} (h : vs[i]? = some v) : (L2.start N vs)[i]? = some (some v) := by
  unfold L2.start
  have hi := (List.getElem?_eq_some_iff.mp h).1
  rw [List.getElem?_append_left (by rw [List.length_map]; exact hi), List.getElem?_map, h]
  rfl
theorem body_ok {K : Fg} {N : List Str} {n : Nat} {ts : TS} {t : T2S} (h : SS K ts t) {vs : List V} {H : Hp} {Q : VK} {E : XK} (q : spD K n (bodyD N.length n t) vs H Q E) : ts { nx := fun _ H' => Q .non H', rt := Q } (L2.start N vs) H := by
  obtain ⟨I, ds, Q2, hl, e, r, ⟨hd, q⟩, k⟩ := q
  refine h ⟨none, I, H, I⟩ _ (L2.start N vs) I H _ _ ⟨⟨.refl e, fun i x z => ?_, fun i j x y a _ z _ _ => ?_, (fun s z => nomatch z), Same.refl _, fun i j w w' x y a _ z _ _ => (by obtain ⟨d, z, _⟩ := env_get z; cases z), fun i j x y u v c _ hm z1 z2 _ _ _ => by
      obtain ⟨d1, z1, _⟩ := env_get z1
      obtain ⟨d2, z2, _⟩ := env_get z2
      cases z1
      cases z2
      cases hm⟩, ?_⟩ q ⟨fun env σ I' H' q' r' => k _ _ _ _ q' r'.r.gr .non, fun d v I' H' q' g _ r' => k _ _ _ _ q' g r', fun _ _ _ _ z => z.elim, fun _ _ _ _ z => z.elim, fun _ _ _ _ _ _ z => z.elim⟩
  · obtain ⟨d, rfl, hd⟩ := env_get z
    obtain ⟨v, hv, rv⟩ := r.got hd
    exact ⟨v, start_get hv, rv⟩
  · obtain ⟨d, z, _⟩ := env_get z
    cases z
  · unfold envD L2.start
    rw [List.length_append, List.length_append, List.length_map, List.length_map, List.length_replicate, List.length_replicate, hl, hd]
theorem body_okS {K : Fg} {N : List Str} {n : Nat} {ts : TS} {t : T2S} (h : SS K ts t) {vs : List V} {H : Hp} {Q : VK} {E : XK} (q : spS K n (bodyS (N.length - 1) n t) vs H Q E) (hN : 1 ≤ N.length) : ts { nx := fun _ H' => Q .non H', rt := Q } (L2.start N vs) H := by
  obtain ⟨I, a, ws, ds, Q2, rfl, hl, e, st, r, ⟨hd, q⟩, k⟩ := q
  have hs : L2.start N (V.ref a :: ws) = some (V.ref a) :: (ws.map some ++ List.replicate (N.length - 1 - ws.length) none) := by
    unfold L2.start
    rw [List.map_cons, List.cons_append, List.length_cons, Nat.sub_add_eq, Nat.sub_right_comm]
  rw [hs]
  have hH : H a ≠ none := by
    obtain ⟨_, _, _, _, _, z, _⟩ := st
    rw [z]; exact fun w => nomatch w
  refine h ⟨some a, I, H, I⟩ _ _ I H _ _ ⟨⟨.refl e, fun i x z => ?_, fun i j x y b _ z _ _ => ?_, fun s z => by cases z; exact ⟨hH, st⟩, Same.refl _, fun i j w w' x y b _ z _ _ => (by
      cases i with
      | zero => rw [List.getElem?_cons_zero] at z; cases z
      | succ i => rw [List.getElem?_cons_succ] at z; obtain ⟨d, z, _⟩ := env_get z; cases z), fun i j x y u v c _ hm z1 z2 _ _ _ => by
      have k : ∀ (i : Nat) (x : Sl), (some Sl.strm :: envD (N.length - 1) n ds)[i]? = some (some x) → isMat x = false := fun i x z => by
        cases i with
        | zero => rw [List.getElem?_cons_zero] at z; cases z; rfl
        | succ i => rw [List.getElem?_cons_succ] at z; obtain ⟨d, z, _⟩ := env_get z; cases z; rfl
      rw [k i x z1, k j y z2] at hm
      cases hm⟩, ?_⟩ q
    ⟨fun env σ I' H' q' r' => k _ _ _ _ q' r'.r.gr (r'.r.st a rfl).2 .non, fun d v I' H' q' g s r' => k _ _ _ _ q' g (s a rfl) r', fun _ _ _ _ z => z.elim, fun _ _ _ _ z => z.elim, fun _ _ _ _ _ _ z => z.elim⟩
  · cases i with
    | zero =>
      rw [List.getElem?_cons_zero] at z ⊢
      cases z
      exact ⟨_, rfl, a, rfl, rfl⟩
    | succ i =>
      rw [List.getElem?_cons_succ] at z ⊢
      obtain ⟨d, rfl, hd⟩ := env_get z
      obtain ⟨v, hv, rv⟩ := r.got hd
      refine ⟨v, ?_, rv⟩
      have hi := (List.getElem?_eq_some_iff.mp hv).1
      rw [List.getElem?_append_left (by rw [List.length_map]; exact hi), List.getElem?_map, hv]
      rfl
  · cases i with
    | zero => rw [List.getElem?_cons_zero] at z; cases z
    | succ i =>
      rw [List.getElem?_cons_succ] at z
      obtain ⟨d, z, _⟩ := env_get z
      cases z
  · unfold envD
    rw [List.length_cons, List.length_cons, List.length_append, List.length_append, List.length_map, List.length_map, List.length_replicate, List.length_replicate, hl, hd]
section
variable {P : Program} {w : World} {K : Fg} {mg : Str → Option Value} {base : Heap}
theorem fn_ok {x qual : Str} {st : Stmt} {f : Addr} {fd : FuncData} {N ps : List Str} {k n : Nat} {t : T2S} (F : Fun K x qual st f fd) (S : FnScope N ps (defScope st)) (hn : ps.length = n)
    (hb : ∀ (cdv : Value) (A : Around) (outer : List Env) (s : Shared) (H : Hp) (Q : VK) (E : XK), Room k (A.deeper (envOfC qual (defScope st) s.heap.objs.size f cdv)) →
      ∃ ts, PSs (cxOf CX0 P w K mg base N qual (defScope st) f cdv A outer s H E).nox (defBody st) ts ∧ SS K ts t) : FnOk P w K mg base CX0 (k + 1) f fd ps (spD K n (bodyD N.length n t)) := by
  refine F.ok S (fun vs H Q E h => ?_) fun cdv A outer s H vs Q E hr h => ?_
  · obtain ⟨_, _, _, hl, _⟩ := h
    rw [hl, hn]
  · obtain ⟨ts, h1, h2⟩ := hb cdv A outer s H Q E hr
    exact ⟨ts, h1, body_ok h2 h⟩
theorem fn_okS {x qual : Str} {st : Stmt} {f : Addr} {fd : FuncData} {N ps : List Str} {k n : Nat} {t : T2S} (F : Fun K x qual st f fd) (S : FnScope N ps (defScope st)) (hn : ps.length = n + 1) (hN : 1 ≤ N.length)
    (hb : ∀ (cdv : Value) (A : Around) (outer : List Env) (s : Shared) (H : Hp) (Q : VK) (E : XK), Room k (A.deeper (envOfC qual (defScope st) s.heap.objs.size f cdv)) →
      ∃ ts, PSs (cxOf CX0 P w K mg base N qual (defScope st) f cdv A outer s H E).nox (defBody st) ts ∧ SS K ts t) : FnOk P w K mg base CX0 (k + 1) f fd ps (spS K n (bodyS (N.length - 1) n t)) := by
  refine F.ok S (fun vs H Q E h => ?_) fun cdv A outer s H vs Q E hr h => ?_
  · obtain ⟨_, _, ws, _, _, rfl, hl, _⟩ := h
    rw [List.length_cons, hl, hn]
  · obtain ⟨ts, h1, h2⟩ := hb cdv A outer s H Q E hr
    exact ⟨ts, h1, body_okS h2 h hN⟩
end
end Z2
namespace Z2
open PySem PySem.Spec PyProof.Rows L2
/-! ### operators of several kinds -/
section
variable {K : Fg}
theorem Sim2O.sim {r : R2} {r2 : D → D → (List D → Prop) → Prop} (h : Sim2O K r r2) : Sim2 K r (fun x y Q => r2 x y fun ds => Q (.list ds)) := fun I H x y dx dy Q2 Q e hx hy q k =>
  h I H x y dx dy _ Q e hx hy q fun es a ws q' h0 r' => k _ _ _ _ q' (Gr.new e h0) (.lst upd_same (Rps.mono (Gr.new (m := none) (o := .lst ws) e h0).ii _ _ r'))
def dAdd : R2D := fun x y Q => match x, y with
  | .int i, .int j => Q (.int (i + j)) | .tuple xs, .tuple ys => xs.length + ys.length ≤ 1000000 ∧ Q (.tuple (xs ++ ys)) | .list xs, .list ys => xs.length + ys.length ≤ 1000000 ∧ Q (.list (xs ++ ys)) | _, _ => False
abbrev rAddA (K : Fg) : R2 := fun x y H Q => (rI0 (fun i j => V.int (i + j)) x y H Q ∨ rCatA K x y H Q) ∨ rCat x y H Q
theorem op_addA {X : Cx} : OpR X (binaryOp .Add) (rAddA X.K) := OpR.or (OpR.or op_add op_catA) op_cat
theorem s2_add : Sim2 K (rAddA K) dAdd := by
  intro I H x y dx dy Q2 Q e hx hy q k
  unfold dAdd at q
  split at q
  · exact .inl (.inl (s2_int (g := fun i j => i + j) I H x y _ _ Q2 Q e hx hy q k))
  · exact .inl (.inr (s2_catT I H x y _ _ Q2 Q e hx hy q k))
  · exact .inr (s2_catL.sim I H x y _ _ Q2 Q e hx hy q k)
  · exact q.elim
def dMul : R2D := fun x y Q => match x, y with
  | .int i, .int j => CMul i j ∧ Q (.int (i * j)) | .list xs, .int n => -1000000 ≤ n ∧ n ≤ 1000000 ∧ xs.length * n.toNat ≤ 1000000 ∧ Q (.list (List.replicate n.toNat xs).flatten)
  | .tuple xs, .int n => xs ≠ [] ∧ 2 ≤ n ∧ n ≤ 1000 ∧ xs.length ≤ 1000 ∧ Q (.tuple (List.replicate n.toNat xs).flatten) | _, _ => False
abbrev rMulA (K : Fg) : R2 := fun x y H Q => (rI CMul (fun i j => V.int (i * j)) x y H Q ∨ rRepT K x y H Q) ∨ rRep x y H Q
theorem op_mulA {X : Cx} : OpR X (binaryOp .Mult) (rMulA X.K) := OpR.or (OpR.or op_mul op_repT) op_rep
theorem s2_mul : Sim2 K (rMulA K) dMul := by
  intro I H x y dx dy Q2 Q e hx hy q k
  unfold dMul at q
  split at q
  · exact .inl (.inl (s2_intC (C := CMul) (g := fun i j => i * j) I H x y _ _ Q2 Q e hx hy q k))
  · exact .inr (s2_repL.sim I H x y _ _ Q2 Q e hx hy q k)
  · exact .inl (.inr (s2_repT I H x y _ _ Q2 Q e hx hy q k))
  · exact q.elim
def dSub : R2D := d2I fun i j => .int (i - j)
def dDiv : R2D := d2IC CDiv fun i j => .int (i / j)
def dMod : R2D := d2IC (fun _ j => 0 < j) fun i j => .int (i % j)
def dPow : R2D := d2IC CPow fun i j => .int (i ^ j.toNat)
def dLt : R2D := d2I fun i j => .bool (decide (i < j))
def dLe : R2D := d2I fun i j => .bool (decide (i ≤ j))
def dGt : R2D := d2I fun i j => .bool (decide (j < i))
def dGe : R2D := d2I fun i j => .bool (decide (j ≤ i))
theorem s2_sub : Sim2 K (rI0 fun i j => .int (i - j)) dSub := s2_int (g := fun i j => i - j)
theorem s2_div : Sim2 K (rI CDiv fun i j => .int (i / j)) dDiv := s2_intC (g := fun i j => i / j)
theorem s2_mod : Sim2 K (rI (fun _ j => 0 < j) fun i j => .int (i % j)) dMod := s2_intC (g := fun i j => i % j)
theorem s2_pow : Sim2 K (rI CPow fun i j => .int (i ^ j.toNat)) dPow := s2_intC (g := fun i j => i ^ j.toNat)
theorem s2_lt : Sim2 K (rI0 fun i j => .bl (decide (i < j))) dLt := s2_bool (g := fun i j => decide (i < j))
theorem s2_le : Sim2 K (rI0 fun i j => .bl (decide (i ≤ j))) dLe := s2_bool (g := fun i j => decide (i ≤ j))
theorem s2_gt : Sim2 K (rI0 fun i j => .bl (decide (j < i))) dGt := s2_bool (g := fun i j => decide (j < i))
theorem s2_ge : Sim2 K (rI0 fun i j => .bl (decide (j ≤ i))) dGe := s2_bool (g := fun i j => decide (j ≤ i))
def dNeg : R1D := fun x Q => match x with | .int i => Q (.int (-i)) | _ => False
theorem s1_neg : Sim1 K (rU fun i => .int (-i)) dNeg := by
  intro I H x dx Q2 Q e hx q k
  unfold dNeg at q
  split at q
  · cases hx; exact ⟨_, rfl, k _ _ I H q (.refl e) (.int _)⟩
  · exact q.elim
/-- a slice -/
def dSl (a : T2E) (l u : T2O) : T2E := fun env Q => a env fun x => l env fun lo => u env fun hi => match x with | .tuple ds => Q (.tuple (cutD ds lo hi)) | .list ds => Q (.list (cutD ds lo hi)) | _ => False
abbrev rSlAny (K : Fg) : V → Option Int → Option Int → Hp → VK → Prop := fun x lo hi H Q => rSlA K x lo hi H Q ∨ rSlL K x lo hi H Q
theorem sl_any {X : Cx} : L2.SlR X (rSlAny X.K) := L2.SlR.or sl_tupA sl_list
theorem se_sl {ta : TE} {a : T2E} {tl tu : TO} {l u : T2O} (ha : SE K ta a) (hl : SOp K tl l) (hu : SOp K tu u) : SE K (tSl (rSlAny K) ta tl tu) (dSl a l u) := by
  intro p env σ I H Q2 Q rl q k
  refine ha p env σ I H _ _ rl q fun d v I1 H1 q1 s1 h1 => ?_
  refine hl p env σ I1 H1 _ _ (rl.stp s1) q1 fun lo I2 H2 q2 s2 => ?_
  refine hu p env σ I2 H2 _ _ (rl.stp (s1.trans s2)) q2 fun hi I3 H3 q3 s3 => ?_
  have s := (s1.trans s2).trans s3
  have h := Rp.mono (s2.trans s3).ii d v h1
  cases d <;> first | exact q3.elim | skip
  · cases h with
    | lst e1 e2 =>
      rename_i ds a vs
      refine .inr ⟨a, vs, rfl, SqL.of (s3.ih _ _ e1), fun l h0 => ?_⟩
      have g := Gr.new (m := none) (o := .lst (cutV vs lo hi)) s3.ih h0
      exact k _ _ _ _ q3 (s.trans (.of g)) (.lst upd_same (Rps.cut (Rps.mono g.ii _ _ e2) _ _))
  · cases h with
    | tup e1 e2 =>
      rename_i ds a vs
      refine .inl ⟨a, vs, rfl, Same.sqt s3.ih e1, fun w => ?_, fun w l h0 => ?_⟩
      · refine k _ _ I3 H3 q3 s (.tup e1 ?_)
        have z : cutD ds lo hi = ds := by unfold cutD; rw [e2.length] at w; exact cut_whole w
        rw [z]; exact e2
      · have g := Gr.new (m := none) (o := .tup (cutV vs lo hi)) s3.ih h0
        exact k _ _ _ _ q3 (s.trans (.of g)) (.tup (SqT.of upd_same) (Rps.cut (Rps.mono g.ii _ _ e2) _ _))
/-- truth -/
def dTru (a : T2E) : T2T := fun env Q => a env fun d => match d with
  | .bool b => Q b | .none => Q false | .int i => Q (i != 0) | .list ds => Q (!ds.isEmpty) | .tuple ds => Q (!ds.isEmpty) | .str x => x.length ≤ 1000000 ∧ Q ((x.length : Int) != 0) | _ => False
theorem Rps.isEmpty {I : Hp} {vs : List V} {ds : List D} (h : Rps K I vs ds) : vs.isEmpty = ds.isEmpty := by cases h <;> rfl
theorem st_truth {ta : TE} {a : T2E} (ha : SE K ta a) : ST K (fun σ H Q => ta σ H fun x H' => ∃ k, TruV K x H' k ∧ Q k H') (dTru a) := by
  intro p env σ I H Q2 Q rl q k
  refine ha p env σ I H _ _ rl q fun d v I1 H1 q1 s1 h1 => ?_
  cases h1 with
  | non => exact ⟨_, rfl, k _ _ _ q1 s1⟩
  | bl b => exact ⟨_, rfl, k _ _ _ q1 s1⟩
  | int b => exact ⟨_, rfl, k _ _ _ q1 s1⟩
  | str b => exact ⟨_, ⟨le_line q1.1, rfl⟩, k _ _ _ q1.2 s1⟩
  | lst e1 e2 => exact ⟨_, .inl ⟨_, SqL.of (s1.ih _ _ e1), rfl⟩, by rw [e2.isEmpty]; exact k _ _ _ q1 s1⟩
  | tup e1 e2 => exact ⟨_, .inr (.inl ⟨_, Same.sqt s1.ih e1, rfl⟩), by rw [e2.isEmpty]; exact k _ _ _ q1 s1⟩
  | dic _ _ => exact q1.elim
/-- a list or a tuple, walked -/
def iSeq (K : Fg) (tl : TE) : TI := fun σ H R => tl σ H fun x H1 => (∃ a xs, x = .ref a ∧ SqL K H1 a xs ∧ R (Itl K a) H1) ∨ ∃ a xs, x = .ref a ∧ SqT K H1 a xs ∧ R (Itt K a) H1
def diS (a : T2E) : T2I := fun env Q => a env fun d => match d with | .list ds => Q ds | .tuple ds => Q ds | _ => False
theorem si_seq {ta : TE} {a : T2E} (ha : SE K ta a) : SI K (iSeq K ta) (diS a) := by
  intro p env σ I H Q2 R rl q k
  refine ha p env σ I H _ _ rl q fun d v I1 H1 q1 s1 h1 => ?_
  cases d <;> first | exact q1.elim | skip
  · cases h1 with
    | lst h2 h3 => exact .inl ⟨_, _, rfl, SqL.of (s1.ih _ _ h2), k _ _ _ _ q1 s1 (itr_list h2 h3)⟩
  · cases h1 with
    | tup h2 h3 => exact .inr ⟨_, _, rfl, Same.sqt s1.ih h2, k _ _ _ _ q1 s1 (itr_tup h2 h3)⟩
end
theorem pi_seq {X : Cx} {tg l : Expr} {tl : TE} (hl : PE X l tl) : PI X tg l (iSeq X.K tl) := ⟨fun pins s σ H R I h =>
  thn (hl.run pins s σ H _ I h) fun v s1 ⟨x, H1, I1, r1, q1⟩ => by
    have fp : ∀ b ∈ [s1.heap.objs.size], FpOk X pins H1 b := fun b hb => by
      rw [List.mem_singleton.mp hb]; exact I1.fpOk (Nat.le_refl _) (I1.hok.fresh (Nat.le_refl _))
    rcases q1 with ⟨a, xs, rfl, hq, q⟩ | ⟨a, xs, rfl, hq, q⟩
    · cases r1
      obtain ⟨its, rv, pl, _⟩ := I1.list hq
      exact wpAny_pyIter_list pl.isList ⟨_, [s1.heap.objs.size], _, _, H1, rfl, I1.kept (t' := s1.toks) fun b o e => Heap.get?_push_of_some _ e, turn_list a _, ⟨_, Heap.get?_push_size _ rfl, rfl, rfl⟩, fp, q⟩
    · cases r1
      obtain ⟨its, rv, pl, _⟩ := I1.tuple hq
      exact wpAny_pyIter_tuple (show s1.heap.IsTuple a its.toArray from pl) ⟨_, [s1.heap.objs.size], _, _, H1, rfl, I1.kept (t' := s1.toks) fun b o e => Heap.get?_push_of_some _ e, turn_tuple a _, ⟨_, Heap.get?_push_size _ rfl, rfl, rfl⟩, fp, q⟩⟩
/-! ### the text's own names -/
theorem pe_gint {X : Cx} {x : Str} {n : Int} {pos : Pos} (h : ∃ t, X.mg x = some (.int n t)) (hg : Gl X x) (hd : (x == ("__debug__" : Str)) = false := by decide) : PE X (.Name x pos) (tC (.int n)) := by
  obtain ⟨t, h⟩ := h
  exact pe_glob hg h ⟨t, rfl⟩ hd
/-- a def of the text's top -/
def Df (K : Fg) (mg : Str → Option Value) (x : Str) (st : Stmt) : Prop := ∃ f fd, Fun K x x st f fd ∧ mg x = some (.ref f)
/-- a def that keeps its promise -/
structure Fx (P : Program) (w : World) (K : Fg) (mg : Str → Option Value) (base : Heap) (k : Nat) (x : Str) (ps : List Str) (sp : Sp) : Prop where
  ex : ∃ f fd, FnOk P w K mg base CX0 k f fd ps sp ∧ mg x = some (.ref f) ∧ PySem.W.keepIn K (.ref f) = true ∧ Binds K fd ps []
section
variable {P : Program} {w : World} {K : Fg} {mg : Str → Option Value} {base : Heap} {x : Str} {ps : List Str} {sp : Sp}
theorem pe_fx {X : Cx} {k : Nat} {p pos : Pos} {e : Expr} {es : List Expr} {t : TA} (G : Fx X.prog X.w X.K X.mg X.base k x ps sp) (hr : Room k X.A) (hg : Gl X x) (ha : PA X (e :: es) t) (hdb : (x == ("__debug__" : Str)) = false := by decide)
    (he : starEach (e :: es) X.env = (false, eval e X.env) :: starEach es X.env := by rfl) (hpl : (backTo pos (starEach es X.env)).any (·.1) = false := by rfl) : PE X (.Call (.Name x p) (e :: es) [] pos) (tCall sp [] E0 t) := by
  obtain ⟨f, fd, F, hm, hk, hb⟩ := G.ex
  exact pe_call F hr hg hm hk hb .nil pass0 ha hdb he hpl
/-- how a def of the top binds -/
def BindsBy (x : Str) (st : Stmt) (ps : List Str) : Prop := ∀ (kV doc pm : Value) (an : Option Addr) (cdv ct : Value) (us : List Value), us.length = ps.length → bindArgs (PySem.W.fnOf x x (defArgs st) (defBody st) (defScope st) .none kV doc pm an cdv ct) ⟨us, []⟩ = pure (ps.zip us)
theorem fx_of {st : Stmt} {N : List Str} {k n : Nat} {t : T2S} (d : Df K mg x st) (S : FnScope N ps (defScope st)) (bb : BindsBy x st ps) (hn : ps.length = n)
    (hb : ∀ (f : Addr) (cdv : Value) (A : Around) (outer : List Env) (s : Shared) (H : Hp) (Q : VK) (E : XK), Room k (A.deeper (envOfC x (defScope st) s.heap.objs.size f cdv)) →
      ∃ ts, PSs (cxOf CX0 P w K mg base N x (defScope st) f cdv A outer s H E).nox (defBody st) ts ∧ SS K ts t) : Fx P w K mg base (k + 1) x ps (spD K n (bodyD N.length n t)) := by
  obtain ⟨f, fd, F, hm⟩ := d
  exact ⟨f, fd, fn_ok F S hn (hb f), hm, F.kp, F.binds bb⟩
theorem fx_ofS {st : Stmt} {N : List Str} {k n : Nat} {t : T2S} (d : Df K mg x st) (S : FnScope N ps (defScope st)) (bb : BindsBy x st ps) (hn : ps.length = n + 1) (hN : 1 ≤ N.length)
    (hb : ∀ (f : Addr) (cdv : Value) (A : Around) (outer : List Env) (s : Shared) (H : Hp) (Q : VK) (E : XK), Room k (A.deeper (envOfC x (defScope st) s.heap.objs.size f cdv)) →
      ∃ ts, PSs (cxOf CX0 P w K mg base N x (defScope st) f cdv A outer s H E).nox (defBody st) ts ∧ SS K ts t) : Fx P w K mg base (k + 1) x ps (spS K n (bodyS (N.length - 1) n t)) := by
  obtain ⟨f, fd, F, hm⟩ := d
  exact ⟨f, fd, fn_okS F S hn hN (hb f), hm, F.kp, F.binds bb⟩
theorem Fx.imp {k : Nat} {sp' : Sp} (G : Fx P w K mg base k x ps sp) (h : ∀ vs H Q E, sp' vs H Q E → sp vs H Q E) : Fx P w K mg base k x ps sp' := by
  obtain ⟨f, fd, F, hm, hk, hb⟩ := G.ex
  exact ⟨f, fd, F.imp h, hm, hk, hb⟩
end
theorem spD_imp {K : Fg} {n : Nat} {f g : RCD} (h : ∀ ds Q, ds.length = n → g ds Q → f ds Q) : ∀ vs H Q E, spD K n g vs H Q E → spD K n f vs H Q E := fun vs H Q E ⟨I, ds, Q2, hl, e, r, q, k⟩ =>
  ⟨I, ds, Q2, hl, e, r, h ds Q2 (by rw [← r.length]; exact hl) q, k⟩
/-! ### classes as values -/
theorem ty_tuple {K : Fg} : tyTab K "tuple" := ⟨kit_ty (by decide +kernel), kit_ty (by decide +kernel), kit_ty (by decide +kernel), kit_ty (by decide +kernel), kit_ty (by decide +kernel), kit_ty (by decide +kernel), kit_ty (by decide +kernel)⟩
theorem ty_list {K : Fg} : tyTab K "list" := ⟨kit_ty (by decide +kernel), kit_ty (by decide +kernel), kit_ty (by decide +kernel), kit_ty (by decide +kernel), kit_ty (by decide +kernel), kit_ty (by decide +kernel), kit_ty (by decide +kernel)⟩
theorem ty_int {K : Fg} : tyTab K "int" := ⟨kit_ty (by decide +kernel), kit_ty (by decide +kernel), kit_ty (by decide +kernel), kit_ty (by decide +kernel), kit_ty (by decide +kernel), kit_ty (by decide +kernel), kit_ty (by decide +kernel)⟩
theorem ty_bool {K : Fg} : tyTab K "bool" := ⟨kit_ty (by decide +kernel), kit_ty (by decide +kernel), kit_ty (by decide +kernel), kit_ty (by decide +kernel), kit_ty (by decide +kernel), kit_ty (by decide +kernel), kit_ty (by decide +kernel)⟩
theorem ty_str {K : Fg} : tyTab K "str" := ⟨kit_ty (by decide +kernel), kit_ty (by decide +kernel), kit_ty (by decide +kernel), kit_ty (by decide +kernel), kit_ty (by decide +kernel), kit_ty (by decide +kernel), kit_ty (by decide +kernel)⟩
theorem bt_isi : bootBuiltins ("isinstance" : Str) = some (.builtin "isinstance") := by decide +kernel
theorem bt_all : bootBuiltins ("all" : Str) = some (.builtin "all") := by decide +kernel
theorem bt_any : bootBuiltins ("any" : Str) = some (.builtin "any") := by decide +kernel
theorem bt_sum : bootBuiltins ("sum" : Str) = some (.builtin "sum") := by decide +kernel
theorem bt_abs : bootBuiltins ("abs" : Str) = some (.builtin "abs") := by decide +kernel
theorem bt_min : bootBuiltins ("min" : Str) = some (.builtin "min") := by decide +kernel
theorem bt_max : bootBuiltins ("max" : Str) = some (.builtin "max") := by decide +kernel
theorem bt_sorted : bootBuiltins ("sorted" : Str) = some (.builtin "sorted") := by decide +kernel
theorem bt_tuple : bootBuiltins ("tuple" : Str) = some (.type "tuple") := by decide +kernel
theorem bt_list : bootBuiltins ("list" : Str) = some (.type "list") := by decide +kernel
theorem bt_int : bootBuiltins ("int" : Str) = some (.type "int") := by decide +kernel
theorem bt_bool : bootBuiltins ("bool" : Str) = some (.type "bool") := by decide +kernel
theorem bt_str : bootBuiltins ("str" : Str) = some (.type "str") := by decide +kernel
/-! ### the draws -/
def spStream (K : Fg) : Sp := fun vs H Q _ => ∃ (a : Addr) (ns : List Int), vs = [.ref a] ∧ SqL K H a (ns.map V.int) ∧
  ∀ p l H', H' p = some (.lst [.ref l, .int 0, .int 0]) → H' l = some (.lst (ns.map V.int)) → p ≠ l → Q (.ref p) H'
def f_next : RCD := fun ds Q => ∃ n : Int, ds = [.int n] ∧ 0 < n ∧ n < 1073741824 ∧ ∀ d : Int, 0 ≤ d → d < n → Q (.int d)
def rInt : List V → Hp → VK → Prop := fun xs H Q => (∃ i, xs = [.int i] ∧ Q (.int i) H) ∨ ∃ k, xs = [.bl k] ∧ Q (.int (if k then 1 else 0)) H
def rAbs : List V → Hp → VK → Prop := fun xs H Q => ∃ i, xs = [.int i] ∧ Q (.int (if i < 0 then -i else i)) H
def rLenQ (K : Fg) : List V → Hp → VK → Prop := fun xs H Q => ∃ p ys, xs = [.ref p] ∧ (SqL K H p ys ∨ SqT K H p ys) ∧ Q (.int ys.length) H
abbrev iAdd (a b : TE) : TE := tOp (rI0 fun i j => .int (i + j)) a b
abbrev iMul (a b : TE) : TE := tOp (rI CMul fun i j => .int (i * j)) a b
abbrev iMod (a b : TE) : TE := tOp (rI (fun _ j => 0 < j) fun i j => .int (i % j)) a b
abbrev iDiv (a b : TE) : TE := tOp (rI CDiv fun i j => .int (i / j)) a b
abbrev iPow (a b : TE) : TE := tOp (rI CPow fun i j => .int (i ^ j.toNat)) a b
abbrev iLt (a b : TE) : TE := tOp (rI0 fun i j => .bl (decide (i < j))) a b
abbrev iAt (K : Fg) (a b : TE) : TE := tOp (rIxL K) a b
abbrev iInt (a : TE) : TE := tCB rInt (tCons a tNil)
/-- the cell is made anew -/
def t_refill (K : Fg) : TS :=
  tSeq (tAsg (iAt K (tVar 0) (tC (.int 2))) (gName 2)) (tSeq (tAsg (iAdd (tC (.int 7)) (tVar 2)) (gName 3))
    (tSeq (tIfS (tTest (iLt (tVar 2) (tCB (rLenQ K) (tCons (iAt K (tVar 0) (tC (.int 0))) tNil)))) (tAsg (tCB rAbs (tCons (iAt K (iAt K (tVar 0) (tC (.int 0))) (tVar 2)) tNil)) (gName 3)) tNext)
    (tSeq (tIfS (tTest (iLt (tVar 3) (iPow (tC (.int 10)) (tC (.int 18)))))
        (tSeq (tAsg (iMod (iInt (iAdd (iAdd (iMul (tVar 3) (tC (.int 48271))) (iMul (tVar 2) (tC (.int 69621)))) (tC (.int 11)))) (tC (.int 2147483647))) (gName 3))
          (tAsg (iAdd (iMul (iMod (iInt (iAdd (iMul (tVar 3) (tC (.int 16807))) (tC (.int 13)))) (tC (.int 2147483647))) (tC (.int 65537))) (tVar 3)) (gName 3))) tNext)
    (tSeq (tAsg (tVar 3) (gSub (tVar 0) (tC (.int 1)) rSetL)) (tAsg (iAdd (tVar 2) (tC (.int 1))) (gSub (tVar 0) (tC (.int 2)) rSetL))))))
def t_next (K : Fg) : TS :=
  tSeq (tIfS (tTest (tOp rEq (iAt K (tVar 0) (tC (.int 1))) (tC (.int 0)))) (t_refill K) tNext)
    (tSeq (tAsg (iMod (iInt (iAt K (tVar 0) (tC (.int 1)))) (tVar 1)) (gName 4)) (tSeq (tAsg (iDiv (iAt K (tVar 0) (tC (.int 1))) (tVar 1)) (gSub (tVar 0) (tC (.int 1)) rSetL)) (tRet (tVar 4))))
/-- the stream's list in any state -/
structure Drw (I H H' : Hp) (a l : Addr) (ns : List Int) : Prop where
  il : I l = some (.lst (ns.map V.int))
  ia : I a = none
  hh : ∀ b o, H b = some o → b ≠ a → H' b = some o
  th : ∀ b, H b ≠ none → H' b ≠ none
  ih : Same I H'
theorem Drw.put {I H H' : Hp} {a l : Addr} {ns : List Int} (d : Drw I H H' a l ns) (o : HO) : Drw I H (upd H' a o) a l ns :=
  ⟨d.il, d.ia, fun b u q n => by rw [upd_ne n]; exact d.hh b u q n, fun b q => by
    by_cases hb : b = a
    · rw [hb, upd_same]; exact fun z => nomatch z
    · rw [upd_ne hb]; exact d.th b q, fun b u q => by rw [upd_ne (ne_of_none q d.ia)]; exact d.ih b u q⟩
theorem next_ok {K : Fg} {vs : List V} {H : Hp} {Q : VK} {E : XK} (q : spS K 1 f_next vs H Q E) : t_next K { nx := fun _ H' => Q .non H', rt := Q } (L2.start ["stream", "many", "k", "cell", "digit"] vs) H := by
  obtain ⟨I, a, ws, ds, Q2, rfl, hl, e, ⟨ia, l, c, k, ns, ha, il, hk⟩, r, ⟨n, rfl, n0, n1, q⟩, post⟩ := q
  obtain ⟨v, rfl, rv⟩ := r.one
  cases rv
  have d0 : Drw I H H a l ns := ⟨il, ia, fun _ _ h _ => h, fun _ h => h, e⟩
  -- behind the first statement
  have tail : ∀ (c k : Int) (H' : Hp) (o2 o3 : Option V), Drw I H H' a l ns → H' a = some (.lst [.ref l, .int c, .int k]) → 0 ≤ k →
      tSeq (tAsg (iMod (iInt (iAt K (tVar 0) (tC (.int 1)))) (tVar 1)) (gName 4)) (tSeq (tAsg (iDiv (iAt K (tVar 0) (tC (.int 1))) (tVar 1)) (gSub (tVar 0) (tC (.int 1)) rSetL)) (tRet (tVar 4)))
        { nx := fun _ H' => Q .non H', rt := Q } [some (.ref a), some (.int n), o2, o3, none] H' := by
    intro c k H' o2 o3 d h hk
    refine ⟨_, rfl, a, _, 1, .int c, rfl, rfl, SqL.of h, rfl, .inl ⟨c, rfl, ?_⟩⟩
    refine ⟨_, rfl, c, n, rfl, rfl, n0, ?_⟩
    refine ⟨_, rfl, a, _, 1, .int c, rfl, rfl, SqL.of h, rfl, _, rfl, c, n, rfl, rfl, ⟨n0, n1⟩, ?_⟩
    refine ⟨_, rfl, a, _, 1, 1, rfl, rfl, h, rfl, ?_⟩
    refine ⟨_, rfl, ?_⟩
    have d2 := d.put (.lst ([V.ref l, .int c, .int k].set 1 (.int (c / n))))
    refine post _ _ I _ (q _ (Int.emod_nonneg _ (by omega)) (Int.emod_lt_of_pos _ n0)) ⟨Same.refl _, d2.ih, fun b o z m => d2.hh b o z (fun w => m (by rw [w])), fun b z _ => z, d2.th⟩ ⟨ia, l, c / n, k, ns, upd_same, il, hk⟩ (.int _)
  refine ⟨_, rfl, a, _, 1, .int c, rfl, rfl, SqL.of ha, rfl, rfl, _, rfl, ?_⟩
  refine ite2 (fun _ => ?_) (fun _ => tail c k H none none d0 ha hk)
  have hL : H l = some (.lst (ns.map V.int)) := e _ _ il
  refine ⟨_, rfl, a, _, 2, .int k, rfl, rfl, SqL.of ha, rfl, ?_⟩
  refine ⟨_, rfl, 7, k, rfl, rfl, ?_⟩
  refine ⟨_, rfl, _, rfl, a, _, 0, .ref l, rfl, rfl, SqL.of ha, rfl, l, _, rfl, .inl (SqL.of hL), k, _, rfl, rfl, _, rfl, ?_⟩
  have rest : ∀ cell : Int, tSeq (tIfS (tTest (iLt (tVar 3) (iPow (tC (.int 10)) (tC (.int 18)))))
        (tSeq (tAsg (iMod (iInt (iAdd (iAdd (iMul (tVar 3) (tC (.int 48271))) (iMul (tVar 2) (tC (.int 69621)))) (tC (.int 11)))) (tC (.int 2147483647))) (gName 3))
          (tAsg (iAdd (iMul (iMod (iInt (iAdd (iMul (tVar 3) (tC (.int 16807))) (tC (.int 13)))) (tC (.int 2147483647))) (tC (.int 65537))) (tVar 3)) (gName 3))) tNext)
      (tSeq (tAsg (tVar 3) (gSub (tVar 0) (tC (.int 1)) rSetL)) (tAsg (iAdd (tVar 2) (tC (.int 1))) (gSub (tVar 0) (tC (.int 2)) rSetL)))
      { nx := (tSeq (tAsg (iMod (iInt (iAt K (tVar 0) (tC (.int 1)))) (tVar 1)) (gName 4)) (tSeq (tAsg (iDiv (iAt K (tVar 0) (tC (.int 1))) (tVar 1)) (gSub (tVar 0) (tC (.int 1)) rSetL)) (tRet (tVar 4)))) { nx := fun _ H' => Q .non H', rt := Q }, rt := Q }
      [some (.ref a), some (.int n), some (.int k), some (.int cell), none] H := by
    intro cell
    have fin : ∀ cell : Int, tSeq (tAsg (tVar 3) (gSub (tVar 0) (tC (.int 1)) rSetL)) (tAsg (iAdd (tVar 2) (tC (.int 1))) (gSub (tVar 0) (tC (.int 2)) rSetL))
        { nx := (tSeq (tAsg (iMod (iInt (iAt K (tVar 0) (tC (.int 1)))) (tVar 1)) (gName 4)) (tSeq (tAsg (iDiv (iAt K (tVar 0) (tC (.int 1))) (tVar 1)) (gSub (tVar 0) (tC (.int 1)) rSetL)) (tRet (tVar 4)))) { nx := fun _ H' => Q .non H', rt := Q }, rt := Q }
        [some (.ref a), some (.int n), some (.int k), some (.int cell), none] H := by
      intro cell
      refine ⟨_, rfl, _, rfl, a, _, 1, 1, rfl, rfl, ha, rfl, ?_⟩
      refine ⟨_, rfl, k, 1, rfl, rfl, _, rfl, a, _, 2, 2, rfl, rfl, upd_same, rfl, ?_⟩
      exact tail cell (k + 1) _ _ _ ((d0.put _).put _) upd_same (by omega)
    refine ⟨_, rfl, 10, 18, rfl, rfl, ⟨by decide, by decide, by decide⟩, cell, _, rfl, rfl, _, rfl, ?_⟩
    refine ite2 (fun _ => ?_) (fun _ => fin cell)
    refine ⟨_, rfl, cell, 48271, rfl, rfl, .inr ⟨by decide, by decide⟩, _, rfl, k, 69621, rfl, rfl, .inr ⟨by decide, by decide⟩, _, _, rfl, rfl, _, 11, rfl, rfl, .inl ⟨_, rfl, _, 2147483647, rfl, rfl, (by show (0 : Int) < 2147483647; decide), ?_⟩⟩
    refine ⟨_, rfl, _, 16807, rfl, rfl, .inr ⟨by decide, by decide⟩, _, 13, rfl, rfl, .inl ⟨_, rfl, _, 2147483647, rfl, rfl, (by show (0 : Int) < 2147483647; decide), ?_⟩⟩
    exact ⟨_, 65537, rfl, rfl, .inr ⟨by decide, by decide⟩, _, rfl, _, _, rfl, rfl, fin _⟩
  refine ite2 (fun hlt => ?_) (fun _ => rest _)
  have hlt := of_decide_eq_true hlt
  have hb : k.toNat < ns.length := by rw [List.length_map] at hlt; omega
  have hat : atI (ns.map V.int) k = some (V.int ns[k.toNat]) := at_of (j := k.toNat) (by omega) (by rw [List.getElem?_map, List.getElem?_eq_getElem hb]; rfl)
  exact ⟨_, rfl, a, _, 0, .ref l, rfl, rfl, SqL.of ha, rfl, _, rfl, l, _, k, _, rfl, rfl, SqL.of hL, hat, _, rfl, rest _⟩
end Z2
namespace Z2
open PySem PySem.Spec PyProof.Rows L2
section
variable {P : Program} {w : World} {K : Fg} {mg : Str → Option Value} {base : Heap} {x : Str} {st : Stmt}
def rListOf (K : Fg) : List V → Hp → VK → Prop := fun xs H Q => ∃ p ys, xs = [.ref p] ∧ (SqL K H p ys ∨ SqT K H p ys) ∧ ∀ l, H l = none → Q (.ref l) (upd H l (.lst ys))
def t_stream (K : Fg) : TS := tRet (tLst (tCons (tCB (rListOf K) (tCons (tVar 0) tNil)) (tCons (tC (.int 0)) (tCons (tC (.int 0)) tNil))))
theorem fx_stream (d : Df K mg x st) (S : FnScope ["script"] ["script"] (defScope st)) (bb : BindsBy x st ["script"])
    (hb : ∀ (f : Addr) (cdv : Value) (A : Around) (outer : List Env) (s : Shared) (H : Hp) (Q : VK) (E : XK), Room 0 (A.deeper (envOfC x (defScope st) s.heap.objs.size f cdv)) →
      PSs (cxOf CX0 P w K mg base ["script"] x (defScope st) f cdv A outer s H E).nox (defBody st) (t_stream K)) : Fx P w K mg base 1 x ["script"] (spStream K) := by
  obtain ⟨f, fd, F, hm⟩ := d
  refine ⟨f, fd, F.ok S (fun vs H Q E h => ?_) (fun cdv A outer s H vs Q E hr h => ⟨t_stream K, hb f cdv A outer s H Q E hr, ?_⟩), hm, F.kp, F.binds bb⟩
  · obtain ⟨a, ns, rfl, _⟩ := h
    rfl
  · obtain ⟨a, ns, rfl, hS, k⟩ := h
    refine ⟨_, rfl, a, _, rfl, .inl hS, fun l hl => ⟨by show 3 ≤ sizeLine; exact le_line (by decide), fun p hp => ?_⟩⟩
    have npl : p ≠ l := fun e => by rw [e, upd_same] at hp; cases hp
    exact k p l _ upd_same (by rw [upd_ne npl.symm]; exact upd_same) npl
theorem fx_next (d : Df K mg x st) (S : FnScope ["stream", "many", "k", "cell", "digit"] ["stream", "many"] (defScope st)) (bb : BindsBy x st ["stream", "many"])
    (hb : ∀ (f : Addr) (cdv : Value) (A : Around) (outer : List Env) (s : Shared) (H : Hp) (Q : VK) (E : XK), Room 0 (A.deeper (envOfC x (defScope st) s.heap.objs.size f cdv)) →
      PSs (cxOf CX0 P w K mg base ["stream", "many", "k", "cell", "digit"] x (defScope st) f cdv A outer s H E).nox (defBody st) (t_next K)) : Fx P w K mg base 1 x ["stream", "many"] (spS K 1 f_next) := by
  obtain ⟨f, fd, F, hm⟩ := d
  refine ⟨f, fd, F.ok S (fun vs H Q E h => ?_) (fun cdv A outer s H vs Q E hr h => ⟨t_next K, hb f cdv A outer s H Q E hr, next_ok h⟩), hm, F.kp, F.binds bb⟩
  obtain ⟨_, _, ws, _, _, rfl, hl, _⟩ := h
  rw [List.length_cons, hl]; rfl
/-! ### the law -/
def spLaw (K : Fg) : Sp := fun vs H Q _ => ∃ (a : Addr) (ns : List Int), vs = [.ref a] ∧ SqL K H a (ns.map V.int) ∧ ns.length ≤ 63 ∧ ∀ H', Q (.bl true) H'
theorem law_of {N : List Str} {k : Nat} {t : T2S} {f : Addr} {fd : FuncData} (F : Fun K "law" "law" st f fd) (S : FnScope N ["script"] (defScope st)) (hN : 2 ≤ N.length)
    (pure : t { nx := fun _ => False, rt := fun d => d = .bool true } (none :: some .strm :: List.replicate (N.length - 2) none))
    (hb : ∀ (cdv : Value) (A : Around) (outer : List Env) (s : Shared) (H : Hp) (Q : VK) (E : XK), Room k (A.deeper (envOfC "law" (defScope st) s.heap.objs.size f cdv)) →
      ∃ ts, PSs (cxOf CX0 P w K mg base N "law" (defScope st) f cdv A outer s H E).nox (defBody st) (tSeq (tAsg (tCall (spStream K) [] E0 (tCons (tVar 0) tNil)) (gName 1)) ts) ∧ SS K ts t) : FnOk P w K mg base CX0 (k + 1) f fd ["script"] (spLaw K) := by
  refine F.ok S (fun vs H Q E h => ?_) (fun cdv A outer s H vs Q E hr h => ?_)
  · obtain ⟨a, ns, rfl, _⟩ := h
    rfl
  · obtain ⟨ts, h1, h2⟩ := hb cdv A outer s H Q E hr
    refine ⟨_, h1, ?_⟩
    obtain ⟨a, ns, rfl, hS, _, k⟩ := h
    obtain ⟨m, hm⟩ : ∃ m, N.length = m + 2 := ⟨N.length - 2, by omega⟩
    have e0 : L2.start N [.ref a] = some (.ref a) :: none :: List.replicate m none := by
      unfold L2.start
      rw [hm]
      rfl
    rw [e0]
    refine ⟨_, rfl, a, ns, rfl, hS, fun p l H' hp hl npl => ?_⟩
    let I : Hp := fun b => if b = l then H' l else none
    have Il : I l = some (.lst (ns.map V.int)) := by show (if l = l then H' l else none) = _; rw [if_pos rfl]; exact hl
    have Ip : I p = none := if_neg npl
    have IH : Same I H' := fun b o q => by
      by_cases e : b = l
      · subst e
        rw [Il] at q
        rw [hl]; exact q
      · have z : I b = none := if_neg e
        rw [z] at q; cases q
    have em : N.length - 2 = m := by omega
    rw [em] at pure
    have hnone : ∀ {α : Type} (i : Nat) (x : α), (List.replicate m (none : Option α))[i]? ≠ some (some x) := fun {α} i x q => by
      rw [List.getElem?_replicate] at q
      split at q <;> cases q
    refine h2 ⟨some p, I, H', I⟩ _ _ I H' _ _ ⟨⟨.refl IH, fun i x q => ?_, fun i j x y b _ q _ _ => ?_, fun s es => ?_, .refl _, fun i j w w' x y b _ q _ _ => (by
      match i, q with
      | 0, q => cases q
      | 1, q => cases q
      | i + 2, q => exact absurd q (hnone i _)), fun i j x y u v c _ hm z1 z2 _ _ _ => by
      have k : ∀ (i : Nat) (x : Sl), (none :: some Sl.strm :: List.replicate m none)[i]? = some (some x) → isMat x = false := fun i x q => by
        match i, q with
        | 0, q => cases q
        | 1, q => cases q; rfl
        | i + 2, q => exact absurd q (hnone i _)
      rw [k i x z1, k j y z2] at hm
      cases hm⟩, ?_⟩ pure ⟨fun _ _ _ _ z => z.elim, fun d v I' H2 q _ _ r => ?_, fun _ _ _ _ z => z.elim, fun _ _ _ _ z => z.elim, fun _ _ _ _ _ _ z => z.elim⟩
    · match i, q with
      | 0, q => cases q
      | 1, q => cases q; exact ⟨.ref p, rfl, p, rfl, rfl⟩
      | i + 2, q => exact absurd q (hnone i x)
    · match i, q with
      | 0, q => cases q
      | 1, q => cases q
      | i + 2, q => exact absurd q (hnone i _)
    · cases es
      exact ⟨by show H' p ≠ none; rw [hp]; exact fun z => (by cases z), Ip, l, 0, 0, ns, hp, Il, Int.le_refl _⟩
    · show _ = (List.set (some (V.ref a) :: none :: List.replicate m none) 1 _).length
      rw [List.length_set]
      simp
    · have q : d = .bool true := q
      subst q
      cases r
      exact k H2
/-! ### the law's own equality -/
mutual
def sq : D → D → Bool
  | .none, d => (match d with | .none => true | _ => false)
  | .bool a, d => (match d with | .bool b => a == b | _ => false)
  | .int a, d => (match d with | .int b => a == b | _ => false)
  | .str a, d => (match d with | .str b => a == b | _ => false)
  | .list a, d => (match d with | .list b => sqs a b | _ => false)
  | .tuple a, d => (match d with | .tuple b => sqs a b | _ => false)
  | .dict _, _ => false
def sqs : List D → List D → Bool
  | [], ds => (match ds with | [] => true | _ => false)
  | x :: xs, ds => (match ds with | y :: ys => sq x y && sqs xs ys | [] => false)
end
def okD : Nat → D → Bool
  | 0, _ => false
  | n + 1, .list ds => decide (ds.length ≤ 1000000) && ds.all (okD n)
  | n + 1, .tuple ds => decide (ds.length ≤ 1000000) && ds.all (okD n)
  | _ + 1, .dict _ => false
  | _ + 1, _ => true
def f_equal (n : Nat) : RCD := fun ds Q => match ds with | [a, d] => okD n d = true ∧ PyData.canLay0 a = true ∧ PyData.canLay0 d = true ∧ Q (.bool (sq a d)) | _ => False
theorem fx_equal {eqName : Str} {n2 : Nat} {tb : Nat → T2S} {N : List Str} (d : Df K mg eqName st) (bb : BindsBy eqName st ["actual", "due"]) (hN : N.length = n2)
    (step : ∀ k n, Fx P w K mg base (k + 1) eqName ["actual", "due"] (spD K 2 (f_equal n)) → Fx P w K mg base (k + 2) eqName ["actual", "due"] (spD K 2 (bodyD N.length 2 (tb n))))
    (ok : ∀ n a d Q, okD (n + 1) d = true → PyData.canLay0 a = true → PyData.canLay0 d = true → Q (.bool (sq a d)) → bodyD N.length 2 (tb n) [a, d] Q) : ∀ n, Fx P w K mg base (n + 1) eqName ["actual", "due"] (spD K 2 (f_equal n))
  | 0 => by
    obtain ⟨f, fd, F, hm⟩ := d
    have no : ∀ vs H Q E, ¬ spD K 2 (f_equal 0) vs H Q E := fun vs H Q E ⟨I, ds, Q2, hl, _, r, q, _⟩ => by
      have e := r.length
      rw [hl] at e
      match ds, e, q with
      | [a, b], _, q => exact absurd q.1 (by simp [okD])
    exact ⟨f, fd, ⟨fun vs H Q E h => absurd h (no _ _ _ _), fun _ _ _ _ _ _ _ _ _ _ _ _ _ h => absurd h (no _ _ _ _)⟩, hm, F.kp, F.binds bb⟩
  | n + 1 => by
    have G := step n n (fx_equal d bb hN step ok n)
    refine G.imp (spD_imp fun ds Q hl q => ?_)
    match ds, hl, q with
    | [a, b], _, q => exact ok n a b Q q.1 q.2.1 q.2.2.1 q.2.2.2
end
end Z2
namespace Z2
open PySem PySem.Spec PyProof.Rows L2
theorem seq_gen {t u : T2S} {E : Ends2} {env : Ev} (h : ∀ N, N = u E → t { E with nx := N } env) : dSeq t u E env := h _ rfl
/-! ### plain data: lemmas -/
def isI : D → Bool | .int _ => true | .bool _ => true | _ => false
def isB : D → Bool | .bool _ => true | _ => false
def isS : D → Bool | .str _ => true | _ => false
def isTu : D → Bool | .tuple _ => true | _ => false
def isLi : D → Bool | .list _ => true | _ => false
theorem isT_int (d : D) : isT "int" d = isI d := by cases d <;> first | rfl | decide
theorem isT_bool (d : D) : isT "bool" d = isB d := by cases d <;> first | rfl | decide
theorem isT_str (d : D) : isT "str" d = isS d := by cases d <;> first | rfl | decide
theorem isT_tuple (d : D) : isT "tuple" d = isTu d := by cases d <;> first | rfl | decide
theorem isT_list (d : D) : isT "list" d = isLi d := by cases d <;> first | rfl | decide
inductive F2 {α β : Type} (P : α → β → Prop) : List α → List β → Prop
  | nil : F2 P [] []
  | cons {a : α} {b : β} {as : List α} {bs : List β} : P a b → F2 P as bs → F2 P (a :: as) (b :: bs)
theorem F2.length {α β : Type} {P : α → β → Prop} : ∀ {as : List α} {bs : List β}, F2 P as bs → as.length = bs.length
  | _, _, .nil => rfl
  | _, _, .cons _ t => by rw [List.length_cons, List.length_cons, F2.length t]
theorem F2.mapEq {α β : Type} {f : α → β} : ∀ {as : List α} {bs : List β}, F2 (fun a b => b = f a) as bs → bs = as.map f
  | _, _, .nil => rfl
  | _, _, .cons h t => by rw [List.map_cons, h, F2.mapEq t]
theorem F2.all {α β : Type} {P : α → β → Prop} {R : β → Prop} (h : ∀ a b, P a b → R b) : ∀ {as : List α} {bs : List β}, F2 P as bs → ∀ b ∈ bs, R b
  | _, _, .nil, b, hb => absurd hb (by simp)
  | _, _, .cons q t, b, hb => by
    rcases List.mem_cons.mp hb with rfl | hb
    · exact h _ _ q
    · exact F2.all h t b hb
/-- a comprehension, whatever its element draws -/
theorem lc_gen {g : T2G} {tt : T2T} {te : T2E} {env : Ev} (keep : D → Bool) (P : D → D → Prop) : ∀ {ds : List D} {Q : List D → Prop},
    (∀ d ∈ ds, ∀ (R : D → Prop) (N : Prop), (keep d = true → ∀ y, P d y → R y) → (keep d = false → N) → g d env fun env1 => tt env1 fun b => if b = true then te env1 R else N) →
    (∀ ys, F2 P (ds.filter keep) ys → Q ys) → lcD g tt te env ds Q
  | [], Q, h, q => q [] .nil
  | d :: ds, Q, h, q => by
    refine h d List.mem_cons_self _ _ (fun hk y hy => ?_) (fun hk => ?_)
    · refine lc_gen keep P (fun e he => h e (List.mem_cons_of_mem _ he)) fun ys hys => q (y :: ys) ?_
      rw [List.filter_cons_of_pos hk]
      exact .cons hy hys
    · refine lc_gen keep P (fun e he => h e (List.mem_cons_of_mem _ he)) fun ys hys => q ys ?_
      rw [List.filter_cons_of_neg (by rw [hk]; exact Bool.false_ne_true)]
      exact hys
theorem lc_all {g : T2G} {te : T2E} {env : Ev} {ds : List D} {Q : List D → Prop} (P : D → D → Prop) (h : ∀ d ∈ ds, ∀ R : D → Prop, (∀ y, P d y → R y) → g d env fun env1 => te env1 R) (q : ∀ ys, F2 P ds ys → Q ys) :
    lcD g (fun _ Q => Q true) te env ds Q :=
  lc_gen (fun _ => true) P (fun d hd R N h1 _ => h d hd R (h1 rfl)) fun ys hys => q ys (by rw [List.filter_eq_self.mpr (fun _ _ => rfl)] at hys; exact hys)
theorem lc_map {g : T2G} {te : T2E} {env : Ev} {ds : List D} {Q : List D → Prop} (f : D → D) (h : ∀ d ∈ ds, ∀ R : D → Prop, R (f d) → g d env fun env1 => te env1 R) (q : Q (ds.map f)) :
    lcD g (fun _ Q => Q true) te env ds Q :=
  lc_all (fun d y => y = f d) (fun d hd R hR => h d hd R (hR _ rfl)) fun ys hys => by rw [hys.mapEq]; exact q
theorem allBool_map {α : Type} (f : α → Bool) : ∀ xs : List α, allBool (xs.map fun x => PyData.bool (f x)) = some (xs.map f)
  | [] => rfl
  | x :: xs => by rw [List.map_cons, List.map_cons]; unfold allBool; rw [allBool_map f xs]; rfl
theorem allInt_map {α : Type} (f : α → Int) : ∀ xs : List α, allInt (xs.map fun x => PyData.int (f x)) = some (xs.map f)
  | [] => rfl
  | x :: xs => by rw [List.map_cons, List.map_cons]; unfold allInt; rw [allInt_map f xs]; rfl
theorem mem_dRange {lo : Int} {n : Nat} {d : D} (h : d ∈ dRange lo n) : ∃ i : Nat, i < n ∧ d = .int (lo + i) := by
  unfold dRange at h
  obtain ⟨i, hi, rfl⟩ := List.mem_map.mp h
  exact ⟨i, List.mem_range.mp hi, rfl⟩
theorem dRange_length (lo : Int) (n : Nat) : (dRange lo n).length = n := by unfold dRange; rw [List.length_map, List.length_range]
theorem atI_int {α : Type} {xs : List α} {i : Int} {x : α} (h0 : 0 ≤ i) (h : xs[i.toNat]? = some x) : atI xs i = some x := by
  have := atI_nat h
  rwa [Int.toNat_of_nonneg h0] at this
theorem atI_ge {α : Type} {xs : List α} {i : Nat} {x : α} (h : xs[i]? = some x) : atI xs (0 + (i : Nat) : Int) = some x := by
  rw [Int.zero_add]; exact atI_nat h
/-- a loop by its invariant -/
theorem for_inv {g : T2G} {tb : T2S} {E : Ends2} {ds : List D} (Inv : Nat → Ev → Prop)
    (hs : ∀ i d env, ds[i]? = some d → Inv i env → ∀ N : Ev → Prop, (∀ env', Inv (i + 1) env' → N env') → g d env fun env1 => tb { E with nx := N, ct := N, bk := E.nx } env1)
    (hd : ∀ env, Inv ds.length env → E.nx env) {env : Ev} (h0 : Inv 0 env) : forD g tb E ds env := by
  have key : ∀ (k : Nat) (env : Ev), k ≤ ds.length → Inv (ds.length - k) env → forD g tb E (ds.drop (ds.length - k)) env := by
    intro k
    induction k with
    | zero =>
      intro env _ h
      rw [Nat.sub_zero] at h ⊢
      rw [List.drop_length]
      exact hd env h
    | succ k ih =>
      intro env hk h
      have hlt : ds.length - (k + 1) < ds.length := by omega
      have e : ds.drop (ds.length - (k + 1)) = ds[ds.length - (k + 1)] :: ds.drop (ds.length - k) := by
        rw [List.drop_eq_getElem_cons hlt]
        congr 2
        omega
      rw [e]
      refine hs _ _ env (List.getElem?_eq_getElem hlt) h _ fun env' h' => ih env' (by omega) ?_
      have z : ds.length - (k + 1) + 1 = ds.length - k := by omega
      rw [z] at h'
      exact h'
  have := key ds.length env (Nat.le_refl _) (by rw [Nat.sub_self]; exact h0)
  rw [Nat.sub_self, List.drop_zero] at this
  exact this
theorem sqs_all : ∀ (as bs : List D), as.length = bs.length → sqs as bs = (List.range bs.length).all fun i => sq (as.getD i .none) (bs.getD i .none)
  | [], [], _ => rfl
  | [], _ :: _, h => by simp at h
  | _ :: _, [], h => by simp at h
  | a :: as, b :: bs, h => by
    have ih := sqs_all as bs (by simpa using h)
    rw [List.length_cons, List.range_succ_eq_map, List.all_cons, List.all_map]
    unfold sqs
    dsimp only
    rw [ih]
    rfl
theorem sqs_len : ∀ (as bs : List D), sqs as bs = true → as.length = bs.length
  | [], [], _ => rfl
  | [], _ :: _, h => by simp [sqs] at h
  | _ :: _, [], h => by simp [sqs] at h
  | a :: as, b :: bs, h => by
    unfold sqs at h
    rw [Bool.and_eq_true] at h
    rw [List.length_cons, List.length_cons, sqs_len as bs h.2]
theorem shaped_int (i : Int) : SeqAt.shaped (.int i) = true := by first | rfl | decide
theorem shaped_bool (i : Bool) : SeqAt.shaped (.bool i) = true := by cases i <;> first | rfl | decide
theorem shaped_none : SeqAt.shaped .none = true := by first | rfl | decide
theorem shaped_str {i : Str} (h : PyData.canLay0 (.str i) = true) : SeqAt.shaped (.str i) = true := by
  unfold SeqAt.shaped
  rw [h]
  simp [PyData.depth]
theorem canLayAll_mem : ∀ {ds : List D}, PyData.canLayAll0 ds = true → ∀ d ∈ ds, PyData.canLay0 d = true
  | [], _, d, hd => absurd hd (by simp)
  | x :: xs, h, d, hd => by
    unfold PyData.canLayAll0 at h
    rw [Bool.and_eq_true] at h
    rcases List.mem_cons.mp hd with rfl | hd
    · exact h.1
    · exact canLayAll_mem h.2 d hd
theorem canLayAll_of : ∀ {ds : List D}, (∀ d ∈ ds, PyData.canLay0 d = true) → PyData.canLayAll0 ds = true
  | [], _ => by unfold PyData.canLayAll0; rfl
  | x :: xs, h => by
    unfold PyData.canLayAll0
    rw [Bool.and_eq_true]
    exact ⟨h x List.mem_cons_self, canLayAll_of fun d hd => h d (List.mem_cons_of_mem _ hd)⟩
mutual
theorem sq_refl : ∀ {d : D}, PyData.canLay0 d = true → sq d d = true
  | .none, _ => by simp [sq]
  | .bool _, _ => by simp [sq]
  | .int _, _ => by simp [sq]
  | .str _, _ => by simp [sq]
  | .list ds, h => by
    unfold PyData.canLay0 at h
    unfold sq
    exact sqs_refl h
  | .tuple ds, h => by
    unfold PyData.canLay0 at h
    unfold sq
    exact sqs_refl h
  | .dict _, h => by simp [PyData.canLay0] at h
theorem sqs_refl : ∀ {ds : List D}, PyData.canLayAll0 ds = true → sqs ds ds = true
  | [], _ => by simp [sqs]
  | x :: xs, h => by
    unfold PyData.canLayAll0 at h
    rw [Bool.and_eq_true] at h
    unfold sqs
    dsimp only
    rw [Bool.and_eq_true]
    exact ⟨sq_refl h.1, sqs_refl h.2⟩
end
end Z2
namespace Z2
open PySem PySem.Spec PyProof.Rows L2
/-! ### enumerate of a tuple -/
abbrev tItr (t : Addr) : Obj := { cls := .type "tuple_iterator", data := .fields #[.ref t, .int 0 0] }
abbrev enO (i : Addr) : Obj := { cls := .type "enumerate", data := .fields #[.none, .bool false, .ref i, rawInt 0, .none, .none] }
open Sem (wp) in
open AutoSeq1 (wpAny_loadPart') in
theorem newT (t : Addr) (its : Array Value) (k : Nat) (dd : Option Addr) (sl : Array (Option Value)) :
    Meets (Builtin.«enumerate.__new__» ⟨[.type "enumerate", .ref t], []⟩) (fun _ R s => s.heap.get? t = some { cls := .type "tuple", dict := dd, data := .seq its k, slots := sl } ∧
      R (.ok (.ret (.ref (s.heap.push (tItr t)).objs.size))) { s with heap := (s.heap.push (tItr t)).push (enO s.heap.objs.size) }) :=
  .of_wp fun prog w A R s hh => by
    obtain ⟨hp, gs, dr, tk, os⟩ := s
    obtain ⟨ht, hh⟩ := hh
    have subE := sub_enumerate
    have isT : Heap.IsTuple (Shared.heap ⟨hp, gs, dr, tk, os⟩) t its := ⟨_, ht, rfl, k, rfl⟩
    wp_walk using wpAny_loadPart' ht
    refine wpAny_stack_any fun st => wpAny_pure ?_
    split
    · rename_i c _ _ _ _ _
      cases (c == Value.type "enumerate") <;> (wp_walk using wpAny_loadPart' ht, wpAny_pyIter_tuple isT; exact ⟨_, rfl, hh⟩)
    · wp_walk using wpAny_loadPart' ht, wpAny_pyIter_tuple isT
      exact ⟨_, rfl, hh⟩
theorem callT {prog : Program} {w : World} {A : Around} {E : Value → Shared → Prop} {s : Shared} {t : Addr} {its : Array Value} {Q : Value → Shared → Prop} (ht : s.heap.IsTuple t its)
    (h : ∀ h', IsEnum h' (s.heap.objs.size + 1) s.heap.objs.size 0 .none → h'.IsTupleIter s.heap.objs.size t 0 → (∀ b o, s.heap.get? b = some o → h'.get? b = some o) → Q (.ref (s.heap.objs.size + 1)) { s with heap := h' }) :
    wpAny (model prog w) A (call (.type "enumerate") [.ref t]) Q E s := by
  obtain ⟨⟨cl, dd, dt, sl⟩, e1, e2, k, e3⟩ := ht
  cases (show cl = .type "tuple" from e2)
  cases (show dt = .seq its k from e3)
  have sz : (s.heap.push (tItr t)).objs.size = s.heap.objs.size + 1 := Heap.size_push ..
  refine callType_new F.called_enumerate (by decide) (F.typeCall_enumerate_1 _) (F.newCall_enumerate_1 _) (fun obj => F.args_object_init_2 obj _) F.entry_enumerate_new (newT t its k dd sl) ⟨e1, ?_⟩
  show _ ∧ _
  rw [sz]
  have en : IsEnum ((s.heap.push (tItr t)).push (enO s.heap.objs.size)) (s.heap.objs.size + 1) s.heap.objs.size 0 .none := by
    have z := Heap.get?_push_size (s.heap.push (tItr t)) (o := enO s.heap.objs.size) rfl
    rw [sz] at z
    exact z
  exact ⟨⟨_, en, rfl⟩, h _ en ⟨_, Heap.get?_push_of_some _ (Heap.get?_push_size _ rfl), rfl, rfl⟩ fun b o x => Heap.get?_push_of_some _ (Heap.get?_push_of_some _ x)⟩
/-- each item of the tuple at a in a new pair -/
def IteT (K : Fg) (a : Addr) : It :=
  ⟨fun i H => ∃ (xs : List V) (x : V), SqT K H a xs ∧ xs[i]? = some x, fun i H v H' => ∃ T x, v = .ref T ∧ H T = none ∧ H' = upd H T (.tup [.int (i : Nat), x]) ∧ ∀ xs, SqT K H a xs → xs[i]? = some x, fun i H => ∃ xs : List V, SqT K H a xs ∧ xs.length = i⟩
theorem turnT {P : Program} {w : World} {K : Fg} {elts : List Expr} {kk : Nat} {tpos : Pos} (a e it : Addr) :
    Turn P w K (.Tuple elts kk tpos) (IteT K a) [e, it] e (fun i h => (∃ old, IsEnum h e it ((i : Nat) : Int) old) ∧ h.IsTupleIter it a i ∧ e ≠ it) where
  mem := List.mem_cons_self
  obj := fun i h ⟨⟨old, he⟩, ⟨o, ho, hc, hd⟩, _⟩ b hb => by
    rcases (show b = e ∨ b = it by simpa using hb) with rfl | rfl
    · exact ⟨_, he, fun v q => nomatch q⟩
    · exact ⟨o, ho, fun v q => by rw [hd] at q; cases q⟩
  keep := fun i h h' ⟨⟨old, he⟩, hi, hne⟩ k => ⟨⟨old, k e (by simp) _ he⟩, hi.at fun o q => k it (by simp) o q, hne⟩
  item := by
    rintro X rfl rfl rfl hc i pins s σ H E I hf ⟨⟨old, he⟩, hit, hne⟩ ⟨xs, x, hq, hx⟩
    obtain ⟨its, rv, p, hz⟩ := I.tuple hq
    obtain ⟨u, hu, ru⟩ := rv.get hx
    have hel : e < s.heap.objs.size := Heap.lt_size he
    have hil : it < s.heap.objs.size := by obtain ⟨_, q, _⟩ := hit; exact Heap.lt_size q
    have neT : a ≠ it := fun z => by
      obtain ⟨o1, g1, c1, _⟩ := hit
      obtain ⟨o2, g2, c2, _⟩ := p
      rw [z, g1] at g2
      cases g2
      rw [c1] at c2
      exact absurd c2 (by decide)
    have neE : e ≠ a := fun z => by
      obtain ⟨o2, g2, c2, _⟩ := p
      rw [← z, he] at g2
      cases g2
      exact absurd (show (Value.type "enumerate") = .type "tuple" from c2) (by decide)
    have hi : i < its.toArray.size := by
      have q := (List.getElem?_eq_some_iff.mp hu).1
      simpa using q
    have Dr := PySem.Draws.tuple (prog := X.prog) (w := X.w) (A := X.A.in1) (I.ok.hd hc) it a neT its.toArray
    refine wpAny_pyNext_enum_itemD Dr he ⟨hit, p⟩ hi hne (by simp only [List.mem_cons, List.not_mem_nil, or_false, not_or]; exact ⟨hne, neE⟩) fun y h' tk hy ho st' hT hsz hk => ?_
    obtain rfl : y = u := by
      have z : its.toArray[i]? = some u := by simpa using hu
      rw [z] at hy
      exact (Option.some.inj hy).symm
    refine ⟨_, rfl, wpAny_letOwnedTupleGo_enum (s := { s with heap := h', toks := tk + 1 }) ho fun h'' he' sb => ?_⟩
    have hT2 : h''.get? s.heap.objs.size = some { cls := .type "tuple", data := .seq #[.int i tk, y] } := (sb.2 _ (Nat.ne_of_gt hel)).trans hT
    have new : ObjOk X.prog X.w (upd H s.heap.objs.size (.tup [.int (i : Nat), x])) h'' s.heap.objs.size (.tup [.int (i : Nat), x]) :=
      ⟨le_line (by show 2 ≤ 1000000; decide), [.int i tk, y], .cons ⟨_, rfl⟩ (.cons ru .nil), ⟨_, hT2, rfl, _, rfl⟩⟩
    have I1 : Inv X pins σ (upd H s.heap.objs.size (.tup [.int (i : Nat), x])) { s with heap := h'', toks := tk + 1 } :=
      I.turnedNew (ch := [e, it]) (fun b ob hb q => by
        have n1 : b ≠ e := fun z => hb (by simp [z])
        have n2 : b ≠ it := fun z => hb (by simp [z])
        exact (sb.2 b n1).trans (hk b ob n1 n2 q)) hf (Nat.le_refl _) new
    have e1 : ((i + 1 : Nat) : Int) = (i : Int) + 1 := by omega
    refine ⟨.ref s.heap.objs.size, _, I1, rfl, ⟨_, x, rfl, I.hok.fresh (Nat.le_refl _), rfl, fun ys hy => by rw [I.tuple_inj hy hq]; exact hx⟩, ⟨⟨y, by rw [e1]; exact he'⟩, st'.1.at fun o q => (sb.2 it (Ne.symm hne)).trans q, hne⟩, fun b hb => ?_⟩
    have hb' : b < s.heap.objs.size := by
      rcases (show b = e ∨ b = it by simpa using hb) with rfl | rfl
      · exact hel
      · exact hil
    rw [upd_ne (Nat.ne_of_lt hb')]
    exact (hf b hb).1
  done := by
    rintro X rfl rfl rfl hc i pins s σ H E I hf ⟨⟨old, he⟩, hit, hne⟩ ⟨xs, hq, hx⟩
    obtain ⟨its, rv, p, hz⟩ := I.tuple hq
    have neT : a ≠ it := fun z => by
      obtain ⟨o1, g1, c1, _⟩ := hit
      obtain ⟨o2, g2, c2, _⟩ := p
      rw [z, g1] at g2
      cases g2
      rw [c1] at c2
      exact absurd c2 (by decide)
    obtain ⟨f0, f1, f2, f3, f4, f5⟩ := hf it (by simp)
    have hl : i = its.toArray.size := by rw [List.size_toArray, ← rv.length]; exact hx.symm
    subst hl
    have Dr := PySem.Draws.tuple (prog := X.prog) (w := X.w) (A := X.A.in1) (I.ok.hd hc) it a neT its.toArray
    exact wpAny_pyNext_enum_endD Dr he ⟨hit, p⟩ fun h' eb => ⟨rfl, I.turned (t' := s.toks) (fun b o hb q => eb b o hb q) f0 f1 f3 f4 f5⟩
  self := fun A i s Q E ⟨⟨_, he⟩, _⟩ h => wpAny_pyIter_enum he h
def iEnumA (K : Fg) (ta : TA) : TI := fun σ H R => ta σ H fun vs H1 => ∃ a xs, vs = [.ref a] ∧ ((SqL K H1 a xs ∧ R (Ite K a) H1) ∨ (SqT K H1 a xs ∧ R (IteT K a) H1))
theorem pi_enumA {X : Cx} {e : Expr} {ta : TA} {p pos tpos : Pos} {elts : List Expr} {kk : Nat} (hg : Gl X "enumerate") (hm : X.mg "enumerate" = none) (ha : PA X [e] ta) (hs : starEach [e] X.env = [(false, eval e X.env)] := by rfl) :
    PI X (.Tuple elts kk tpos) (.Call (.Name "enumerate" p) [e] [] pos) (iEnumA X.K ta) := ⟨fun pins s σ H R I h => by
  refine Call_ (ld_blt I hg hm boot_enumerate (callWith_type1 (thn (ha.run pos pins s σ H _ I h) fun us s1 ⟨vs, H1, I1, r1, a, xs, ex, q⟩ => ?_) hs rfl))
  subst ex
  cases r1 with
  | cons r rr =>
    cases rr
    cases r
    have fp : ∀ b ∈ [s1.heap.objs.size + 1, s1.heap.objs.size], FpOk X pins H1 b := fun b hb => by
      have hle : s1.heap.objs.size ≤ b := by
        rcases (show b = s1.heap.objs.size + 1 ∨ b = s1.heap.objs.size by simpa using hb) with rfl | rfl
        · exact Nat.le_add_right _ _
        · exact Nat.le_refl _
      exact I1.fpOk hle (I1.hok.fresh hle)
    rcases q with ⟨hq, q⟩ | ⟨hq, q⟩
    · obtain ⟨its, rv, pl, _⟩ := I1.list hq
      exact call_enumerate_list pl.isList fun h' he hit _ hk => wpAny_pyIter_enum he ⟨_, [s1.heap.objs.size + 1, s1.heap.objs.size], _, _, H1, rfl, I1.kept (t' := s1.toks) hk, turn_enum a _ _, ⟨⟨.none, he⟩, hit, Nat.succ_ne_self _⟩, fp, q⟩
    · obtain ⟨its, rv, pl, _⟩ := I1.tuple hq
      exact callT pl fun h' he hit hk => wpAny_pyIter_enum he ⟨_, [s1.heap.objs.size + 1, s1.heap.objs.size], _, _, H1, rfl, I1.kept (t' := s1.toks) hk, turnT a _ _, ⟨⟨.none, he⟩, hit, Nat.succ_ne_self _⟩, fp, q⟩⟩
section
variable {K : Fg}
theorem itr_enumT {I : Hp} {a : Addr} {vs : List V} {ds : List D} (h : SqT K I a vs) (r : Rps K I vs ds) : ItR K I (IteT K a) (dEnum ds) where
  go := fun i I' H' e1 e2 hi => by
    unfold dEnum at hi
    rw [List.length_map, List.length_range] at hi
    obtain ⟨v, hv, _⟩ := r.got (List.getElem?_eq_getElem hi)
    exact ⟨vs, v, Same.sqt e2 (Same.sqt e1 h), hv⟩
  stop := fun i I' H' e1 e2 hi => by
    unfold dEnum at hi
    rw [List.length_map, List.length_range] at hi
    exact ⟨vs, Same.sqt e2 (Same.sqt e1 h), by rw [r.length]; exact hi.symm⟩
  yld := fun i x I' H' H'' e1 e2 hi y => by
    obtain ⟨T, u, rfl, h0, rfl, y⟩ := y
    obtain ⟨d, hd, q⟩ := r.get (y vs (Same.sqt e2 (Same.sqt e1 h)))
    have g := Gr.new (m := none) (o := .tup [.int (i : Nat), u]) e2 h0
    refine ⟨_, .tuple [.int (i : Nat), d], g, ?_, .tup (SqT.of upd_same) (.cons (.int _) (.cons (Rp.mono (e1.trans g.ii) _ _ q) .nil))⟩
    unfold dEnum at hi ⊢
    rw [List.length_map, List.length_range] at hi
    rw [List.getElem?_map, List.getElem?_range hi]
    simp [List.getD_eq_getElem?_getD, hd]
def diEnumA (t : T2A) : T2I := fun env Q => t env fun ds => match ds with | [.list xs] => Q (dEnum xs) | [.tuple xs] => Q (dEnum xs) | _ => False
theorem si_enumA {n : Nat} {t : TA} {u : T2A} (h : SA K n t u) : SI K (iEnumA K t) (diEnumA u) := by
  intro p env σ I H Q2 R rl q k
  refine h p env σ I H _ _ rl q fun ds vs I1 H1 q1 hl s1 h1 => ?_
  split at q1
  · obtain ⟨v, rfl, h2⟩ := h1.one
    cases h2 with
    | lst h3 h4 => exact ⟨_, _, rfl, .inl ⟨SqL.of (s1.ih _ _ h3), k _ _ _ _ q1 s1 (itr_enum h3 h4)⟩⟩
  · obtain ⟨v, rfl, h2⟩ := h1.one
    cases h2 with
    | tup h3 h4 => exact ⟨_, _, rfl, .inr ⟨Same.sqt s1.ih h3, k _ _ _ _ q1 s1 (itr_enumT h3 h4)⟩⟩
  · exact q1.elim
end
end Z2
namespace Z2
open PySem PySem.Spec PyProof.Rows L2
/-! ### xs[::-1] -/
section
variable {prog : Program} {w : World} {A : Around} {E : Value → Shared → Prop} {s : Shared}
theorem adjust_rev (n : Nat) : Builtin.Slice.sliceAdjust none none (-1) (n : Int) = ((n : Int) - 1, -1) := by
  unfold Builtin.Slice.sliceAdjust
  simp
theorem places_rev (n : Nat) : Builtin.Slice.slicePlaces ((n : Int) - 1) (-1) (-1) = n := by
  unfold Builtin.Slice.slicePlaces
  simp
  split <;> omega
theorem applied_rev {sl : Addr} {vk : Value} {n : Nat} {Q : Int × Int × Nat → Shared → Prop} (hs : s.heap.IsSliceOf sl .none .none vk) (pk : IsPart vk (some (-1)))
    (h : Q ((n : Int) - 1, -1, n) s) : wpAny (model prog w) A (Builtin.Slice.sliceApplied (.ref sl) (pure (n : Int))) Q E s := by
  obtain ⟨os, hos, hcs, hds⟩ := id hs
  unfold Builtin.Slice.sliceApplied Builtin.Slice.sliceFields
  refine wpAny_bind (wpAny_bind (wpAny_field hos hds (x := .none) rfl (wpAny_bind (wpAny_field hos hds (x := .none) rfl (wpAny_bind (wpAny_field hos hds (x := vk) rfl (wpAny_pure ?_)))))))
  refine wpAny_bind (HT.slicePart_ pk ?_)
  show wpAny _ _ (if ((-1 : Int) == 0) = true then _ else _) _ _ s
  rw [if_neg (by decide)]
  refine wpAny_bind (HT.slicePart_ .none (wpAny_bind (HT.slicePart_ .none (wpAny_bind (wpAny_pure ?_)))))
  show wpAny _ _ (match Builtin.Slice.sliceAdjust none none (-1) (n : Int) with | (lo, hi) => pure (lo, (-1 : Int), Builtin.Slice.slicePlaces lo hi (-1))) _ _ s
  rw [adjust_rev]
  show wpAny _ _ (pure ((n : Int) - 1, (-1 : Int), Builtin.Slice.slicePlaces ((n : Int) - 1) (-1) (-1))) _ _ s
  rw [places_rev]
  exact wpAny_pure h
theorem pick_rev (xs : Array Value) : ((List.range xs.size).filterMap fun (m : Nat) => xs[((xs.size : Int) - 1 + (m : Int) * (-1)).toNat]?).toArray = xs.toList.reverse.toArray := by
  have e : (fun (m : Nat) => xs[((xs.size : Int) - 1 + (m : Int) * (-1)).toNat]?) = fun m => xs[xs.size - 1 - m]? := by
    funext m
    have : ((xs.size : Int) - 1 + (m : Int) * (-1)).toNat = xs.size - 1 - m := by omega
    rw [this]
  rw [e]
  have h1 := PySem.W.krv_range xs.size
  have h2 := PySem.W.krv_all xs
  have e2 : (List.range xs.size).filterMap (fun m => xs[xs.size - 1 - m]?) = ((List.range xs.size).map (fun k => xs.size - 1 - k)).filterMap (xs[·]?) := by
    rw [List.filterMap_map]
    rfl
  rw [e2, h1, List.filterMap_reverse, h2]
theorem getItem_tuple_rev {t sl : Addr} {items : Array Value} {vk : Value} {Q : Value → Shared → Prop} (ht : IsTup s.heap t items) (hs : s.heap.IsSliceOf sl .none .none vk) (pk : IsPart vk (some (-1)))
    (h : Q (.ref s.heap.objs.size) { s with heap := s.heap.push { cls := .type "tuple", data := .seq items.toList.reverse.toArray } })
    (hsz : items.size ≤ sizeLine) : wpAny (model prog w) A (getItem (.ref t) (.ref sl)) Q E s := by
  have htake : sizeOk (.seq items.toList.reverse.toArray) := by
    show items.toList.reverse.toArray.size ≤ sizeLine
    rw [List.size_toArray, List.length_reverse, Array.length_toList]
    exact hsz
  obtain ⟨os, hos, hcs, hds⟩ := id hs
  have hTs : s.TypeIs (.ref sl) "slice" := ⟨os, hos, hcs⟩
  unfold getItem
  try with_reducible refine wpAny_holding ?_
  first | refine wpAny_bind (wpAny_pure ?_) | skip
  refine wpAny_bind (wpAny_sequenceKey ht.typeIs (by decide) ?_)
  refine wpAny_bind (wpAny_callSpecial?_slot (name := Str.ofString "__getitem__") ht.typeIs PyProof.Rows.slot_tuple_getitem
    (wpAny_call_entry PyProof.Rows.slot_tuple_getitem ht.typeIs entry_tuple_getitem ?_ (args_tuple_getitem _ _)))
  show wpAny _ _ (Builtin.Tuple.tupleItemsOf (.ref t) >>= _) _ _ s
  refine wpAny_bind (tupleItemsOf_ ht ?_)
  refine wpAny_bind (wpAny_typeOf hTs ?_)
  rw [if_pos (by decide)]
  refine wpAny_bind (applied_rev hs pk ?_)
  show wpAny _ _ (if (((items.size : Int) - 1) == 0 && (-1 : Int) == 1 && items.size == items.size) = true then _ else _) _ _ s
  have hno : ¬ ((((items.size : Int) - 1) == 0 && (-1 : Int) == 1 && items.size == items.size) = true) := by
    intro q
    rw [Bool.and_eq_true, Bool.and_eq_true] at q
    exact absurd q.1.2 (by decide)
  rw [if_neg hno, pick_rev]
  first
    | exact wpAny_bind (m := Builtin.Tuple.tupleExact _) (wpAny_newObj_type (wpAny_pure ⟨_, rfl, wpAny_pure h⟩) htake)
    | exact wpAny_bind (m := Builtin.Tuple.tupleExact _) (wpAny_newObj_type (wpAny_bind (wpAny_pure (wpAny_pure ⟨_, rfl, wpAny_pure h⟩))) htake)
    | exact wpAny_bind (wpAny_bind (m := Builtin.Tuple.tupleExact _) (wpAny_newObj_type (wpAny_pure (wpAny_pure ⟨_, rfl, wpAny_pure h⟩)) htake))
    | exact wpAny_bind (wpAny_bind (m := Builtin.Tuple.tupleExact _) (wpAny_newObj_type (wpAny_pure ⟨_, rfl, wpAny_pure h⟩) htake))
end
/-- t[::-1], xs[::-1]: a new thing -/
def rRev (K : Fg) : V → Hp → VK → Prop := fun x H Q => ∃ a xs, x = .ref a ∧ ((SqT K H a xs ∧ ∀ p, H p = none → Q (.ref p) (upd H p (.tup xs.reverse))) ∨ (SqL K H a xs ∧ ∀ p, H p = none → Q (.ref p) (upd H p (.lst xs.reverse))))
def tRev (K : Fg) (te : TE) (ts : TO) : TE := fun σ H Q => te σ H fun x H1 => ts σ H1 fun l H2 => l = some (-1) ∧ rRev K x H2 Q
theorem Vals.rev {xs : List V} {us : List Value} (r : Vals xs us) : Vals xs.reverse us.reverse := by
  induction r with
  | nil => exact .nil
  | cons h t ih =>
    rw [List.reverse_cons, List.reverse_cons]
    exact ih.append (.cons h .nil)
theorem pe_rev {X : Cx} {e st : Expr} {te : TE} {ts : TO} {p3 pos : Pos} (he : PE X e te) (hst : PO X (some st) ts) : PE X (.Subscript e (.Slice none none (some st) p3) pos) (tRev X.K te ts) := by
  refine ⟨fun pins s σ H Q I h => ?_⟩
  refine Subscript_ (thn (he.run pins s σ H _ I h) fun v s1 ⟨x, H1, I1, r1, q1⟩ => ?_)
  refine wpAny_Slice ?_
  rw [evalPart_none]
  refine wpAny_pure ?_
  refine wpAny_pure ?_
  refine thn (hst.run pins s1 σ H1 _ I1 q1) fun vk s2 ⟨l, H2, I2, pk, e1, a, xs, e2, q2⟩ => ?_
  subst e1
  subst e2
  cases r1
  have I4 : Inv X pins σ H2 { s2 with heap := s2.heap.push { cls := .type "slice", data := .fields #[.none, .none, vk] } } := I2.kept (t' := s2.toks) fun b ob q => Heap.get?_push_of_some _ q
  have hs : { s2 with heap := s2.heap.push { cls := .type "slice", data := .fields #[.none, .none, vk] } : Shared }.heap.IsSliceOf s2.heap.objs.size .none .none vk := Heap.IsSliceOf.new ..
  show wpAny (model X.prog X.w) X.A (subscriptTail e (.Slice none none (some st) p3) (.ref a) (.ref s2.heap.objs.size)) (EP X pins σ Q) X.xe { s2 with heap := s2.heap.push { cls := .type "slice", data := .fields #[.none, .none, vk] } }
  rcases q2 with ⟨hx, q⟩ | ⟨hx, q⟩
  · obtain ⟨its, r, ht, hz⟩ := I4.tuple hx
    have hlen : its.toArray.size = xs.length := by rw [List.size_toArray]; exact r.length.symm
    refine tail_any (ops := [.ref a, .ref s2.heap.objs.size]) ht.typeIs PyProof.Rows.slot_tuple_getitem.lookup ?_ (by with_unfolding_all rfl)
    refine getItem_tuple_rev ht hs pk ?_ (by rw [hlen]; exact hz)
    refine ⟨.ref _, _, I4.laid (t' := s2.toks) (o := .tup xs.reverse) (fun b ob q => Heap.get?_push_of_some _ q) (Nat.le_refl _) ?_, rfl, q _ (I4.hok.fresh (Nat.le_refl _))⟩
    exact ⟨by rw [List.length_reverse]; exact hz, _, Vals.rev r, IsTup.new _ _⟩
  · obtain ⟨its, r, ht, hz⟩ := I4.list hx
    have hlen := r.length
    refine tail_any (ops := [.ref a, .ref s2.heap.objs.size]) ht.isList.typeIs slot_list_getitem.lookup ?_ (by with_unfolding_all rfl)
    refine wpAny_getItem_list_slice ht.isList hs .none .none pk (by decide) ?_ (by rw [List.size_toArray] <;> omega)
    rw [PySem.W.krv_pick]
    refine ⟨.ref _, _, I4.laid (t' := s2.toks) (o := .lst xs.reverse) (fun b ob q => Heap.get?_push_of_some _ q) (Nat.le_refl _) ?_, rfl, q _ (I4.hok.fresh (Nat.le_refl _))⟩
    exact ⟨by rw [List.length_reverse]; exact hz, _, 0, Vals.rev r, Heap.get?_push_size _ rfl⟩
def dRev (a : T2E) (l : T2O) : T2E := fun env Q => a env fun x => l env fun st => st = some (-1) ∧ match x with | .tuple ds => Q (.tuple ds.reverse) | .list ds => Q (.list ds.reverse) | _ => False
theorem Rps.rev {K : Fg} {I : Hp} : ∀ {vs : List V} {ds : List D}, Rps K I vs ds → Rps K I vs.reverse ds.reverse
  | _, _, .nil => .nil
  | _, _, .cons h t => by
    rw [List.reverse_cons, List.reverse_cons]
    exact (Rps.rev t).append (.cons h .nil)
theorem se_rev {K : Fg} {ta : TE} {a : T2E} {tl : TO} {l : T2O} (ha : SE K ta a) (hl : SOp K tl l) : SE K (tRev K ta tl) (dRev a l) := by
  intro p env σ I H Q2 Q rl q k
  refine ha p env σ I H _ _ rl q fun d v I1 H1 q1 s1 h1 => ?_
  refine hl p env σ I1 H1 _ _ (rl.stp s1) q1 fun lo I2 H2 q2 s2 => ?_
  obtain ⟨e, q2⟩ := q2
  have s := s1.trans s2
  have h := Rp.mono s2.ii d v h1
  refine ⟨e, ?_⟩
  cases d <;> first | exact q2.elim | skip
  · cases h with
    | lst e1 e2 =>
      rename_i ds a vs
      refine ⟨a, vs, rfl, .inr ⟨SqL.of (s2.ih _ _ e1), fun l h0 => ?_⟩⟩
      have g := Gr.new (m := none) (o := .lst vs.reverse) s2.ih h0
      exact k _ _ _ _ q2 (s.trans (.of g)) (.lst upd_same (Rps.rev (Rps.mono g.ii _ _ e2)))
  · cases h with
    | tup e1 e2 =>
      rename_i ds a vs
      refine ⟨a, vs, rfl, .inl ⟨Same.sqt s2.ih e1, fun l h0 => ?_⟩⟩
      have g := Gr.new (m := none) (o := .tup vs.reverse) s2.ih h0
      exact k _ _ _ _ q2 (s.trans (.of g)) (.tup (SqT.of upd_same) (Rps.rev (Rps.mono g.ii _ _ e2)))
/-! ### max, min of a list of ints, of two ints -/
def maxD : List Int → Int
  | [] => 0
  | x :: xs => xs.foldl max x
def minD : List Int → Int
  | [] => 0
  | x :: xs => xs.foldl min x
theorem foldl_max_ge : ∀ (xs : List Int) (a : Int), a ≤ xs.foldl max a ∧ ∀ y ∈ xs, y ≤ xs.foldl max a
  | [], a => ⟨Int.le_refl _, fun _ h => absurd h List.not_mem_nil⟩
  | x :: xs, a => by
    have ih := foldl_max_ge xs (max a x)
    rw [List.foldl_cons]
    refine ⟨by have := ih.1; omega, fun y hy => ?_⟩
    rcases List.mem_cons.mp hy with rfl | hy
    · have := ih.1; omega
    · exact ih.2 y hy
theorem foldl_max_mem : ∀ (xs : List Int) (a : Int), xs.foldl max a = a ∨ xs.foldl max a ∈ xs
  | [], a => .inl rfl
  | x :: xs, a => by
    rw [List.foldl_cons]
    rcases foldl_max_mem xs (max a x) with h | h
    · rw [h]
      by_cases c : a ≤ x
      · exact .inr (by rw [Int.max_eq_right c]; exact List.mem_cons_self)
      · exact .inl (by omega)
    · exact .inr (List.mem_cons_of_mem _ h)
theorem foldl_min_le : ∀ (xs : List Int) (a : Int), xs.foldl min a ≤ a ∧ ∀ y ∈ xs, xs.foldl min a ≤ y
  | [], a => ⟨Int.le_refl _, fun _ h => absurd h List.not_mem_nil⟩
  | x :: xs, a => by
    have ih := foldl_min_le xs (min a x)
    rw [List.foldl_cons]
    refine ⟨by have := ih.1; omega, fun y hy => ?_⟩
    rcases List.mem_cons.mp hy with rfl | hy
    · have := ih.1; omega
    · exact ih.2 y hy
theorem foldl_min_mem : ∀ (xs : List Int) (a : Int), xs.foldl min a = a ∨ xs.foldl min a ∈ xs
  | [], a => .inl rfl
  | x :: xs, a => by
    rw [List.foldl_cons]
    rcases foldl_min_mem xs (min a x) with h | h
    · rw [h]
      by_cases c : x ≤ a
      · exact .inr (by rw [Int.min_eq_right c]; exact List.mem_cons_self)
      · exact .inl (by omega)
    · exact .inr (List.mem_cons_of_mem _ h)
theorem maxD_mem {ns : List Int} (h : 0 < ns.length) : maxD ns ∈ ns := by
  cases ns with
  | nil => simp at h
  | cons x xs =>
    rcases foldl_max_mem xs x with e | e
    · show xs.foldl max x ∈ _; rw [e]; exact List.mem_cons_self
    · exact List.mem_cons_of_mem _ e
theorem maxD_ge {ns : List Int} : ∀ y ∈ ns, y ≤ maxD ns := fun y hy => by
  cases ns with
  | nil => exact absurd hy List.not_mem_nil
  | cons x xs =>
    rcases List.mem_cons.mp hy with rfl | hy
    · exact (foldl_max_ge xs _).1
    · exact (foldl_max_ge xs x).2 y hy
theorem minD_mem {ns : List Int} (h : 0 < ns.length) : minD ns ∈ ns := by
  cases ns with
  | nil => simp at h
  | cons x xs =>
    rcases foldl_min_mem xs x with e | e
    · show xs.foldl min x ∈ _; rw [e]; exact List.mem_cons_self
    · exact List.mem_cons_of_mem _ e
theorem minD_le {ns : List Int} : ∀ y ∈ ns, minD ns ≤ y := fun y hy => by
  cases ns with
  | nil => exact absurd hy List.not_mem_nil
  | cons x xs =>
    rcases List.mem_cons.mp hy with rfl | hy
    · exact (foldl_min_le xs _).1
    · exact (foldl_min_le xs x).2 y hy
def dMaxL : RCD := fun ds Q => match ds with | [.list xs] => (match allInt xs with | some bs => 0 < bs.length ∧ Q (.int (maxD bs)) | none => False) | _ => False
def dMinL : RCD := fun ds Q => match ds with | [.list xs] => (match allInt xs with | some bs => 0 < bs.length ∧ Q (.int (minD bs)) | none => False) | _ => False
theorem sc_maxL {K : Fg} : SimC K (rMax K) dMaxL := by
  intro I H vs ds Q2 Q e h q k
  unfold dMaxL at q
  split at q
  · split at q
    · rename_i xs bs e2
      obtain ⟨v, rfl, h1⟩ := h.one
      cases h1 with
      | lst h3 h4 =>
        rename_i a ws
        have z := allInt_of e2
        subst z
        have z := h4.ints
        subst z
        refine ⟨a, bs, rfl, SqL.of (e _ _ h3), q.1, fun m hm hg => ?_⟩
        have em : m = maxD bs := Int.le_antisymm (maxD_ge m hm) (hg _ (maxD_mem q.1))
        rw [em]
        exact k _ _ I H q.2 (.refl e) (.int _)
    · exact q.elim
  · exact q.elim
theorem sc_minL {K : Fg} : SimC K (rMin K) dMinL := by
  intro I H vs ds Q2 Q e h q k
  unfold dMinL at q
  split at q
  · split at q
    · rename_i xs bs e2
      obtain ⟨v, rfl, h1⟩ := h.one
      cases h1 with
      | lst h3 h4 =>
        rename_i a ws
        have z := allInt_of e2
        subst z
        have z := h4.ints
        subst z
        refine ⟨a, bs, rfl, SqL.of (e _ _ h3), q.1, fun m hm hg => ?_⟩
        have em : m = minD bs := Int.le_antisymm (hg _ (minD_mem q.1)) (minD_le m hm)
        rw [em]
        exact k _ _ I H q.2 (.refl e) (.int _)
    · exact q.elim
  · exact q.elim
end Z2
namespace Z2
open PySem PySem.Spec PyProof.Rows L2
/-! ### return tuple([left.pop(..) for ..]) -/
def popD (i : Nat) (g : T2G) (te : T2E) (vs : List Nat) : Ev → List D → (List D → Prop) → Prop
  | _, [], Q => Q []
  | env, d :: ds, Q => match env[i]? with
    | some (some (.own xs)) => g d (wipeE env vs) fun env1 => te env1 fun k => match k with
      | .int j => (match ixN xs.length j with | some m => (match xs[m]? with | some y => -(2 ^ 63) ≤ j ∧ j < 2 ^ 63 ∧ popD i g te vs (env.set i (some (.own (xs.eraseIdx m)))) ds fun ys => Q (y :: ys) | none => False) | none => False)
      | _ => False
    | _ => False
def dRetPop (i : Nat) (ti : T2I) (g : T2G) (te : T2E) (vs : List Nat) : T2S := fun E env => ti env fun ds => ds.length ≤ 1000000 ∧ popD i g te vs env ds fun ys => E.rt (.tuple ys)
abbrev rTupOf (K : Fg) : List V → Hp → VK → Prop := fun xs H Q => ∃ p ys, xs = [.ref p] ∧ ((SqL K H p ys ∧ ∀ l, H l = none → Q (.ref l) (upd H l (.tup ys))) ∨ (SqT K H p ys ∧ Q (.ref p) H))
theorem wipe_get {i : Nat} : ∀ {vs : List Nat} {σ : L2.St}, i ∉ vs → (L2.wipe σ vs)[i]? = σ[i]?
  | [], _, _ => rfl
  | v :: vs, σ, h => by
    unfold L2.wipe
    have h1 : v ≠ i := fun e => h (by rw [e]; exact List.mem_cons_self)
    rw [List.getElem?_set_ne h1]
    exact wipe_get fun z => h (List.mem_cons_of_mem _ z)
theorem Rps.erase {K : Fg} {I : Hp} : ∀ {vs : List V} {ds : List D} (n : Nat), Rps K I vs ds → Rps K I (vs.eraseIdx n) (ds.eraseIdx n)
  | _, _, _, .nil => .nil
  | _, _, 0, .cons _ t => t
  | _, _, n + 1, .cons h t => .cons h (Rps.erase n t)
theorem ss_retPop {K : Fg} {wi : TI} {g : TG} {tt : TT} {te : TE} {ti : T2I} {g2 : T2G} {te2 : T2E} {vs : List Nat} (i : Nat) (hiv : i ∉ vs) (hi : SI K wi ti) (hg : SG K vs g g2) (ht : ST K tt fun _ Q => Q true) (he : SE K te te2) :
    SS K (tRet (tCB (rTupOf K) (tCons (tLc wi g tt (tBM K "list" rPopAt (tVar i) (tCons te tNil)) vs) tNil))) (dRetPop i ti g2 te2 vs) := by
  intro p env σ I H D2 E rl q e
  refine hi p env σ I H _ _ rl q fun ds J I1 H1 ⟨hlen, q1⟩ s1 it => ?_
  intro D hD
  have rl1 := rl.stp s1
  have hD0 : p.H0 D = none := by
    cases e : p.H0 D with
    | none => rfl
    | some o => exact absurd hD (rl1.r.gr.th D (by rw [e]; exact fun z => nomatch z))
  have hDI : I1 D = none := Same.free s1.ih hD
  have hm : p.m ≠ some D := fun e => (rl1.r.st D e).1 hD0
  have hown : ∀ (j : Nat) (x : List PyData), env[j]? = some (some (Sl.own x)) → σ[j]? ≠ some (some (V.ref D)) := fun j x e z => by
    obtain ⟨v, hv, a, ws, rfl, _, _, e4, _⟩ := rl1.r.sl j _ e
    rw [hv] at z
    cases z
    rw [hD] at e4; cases e4
  refine ⟨fun n m H' => m = ds.length - n ∧ n ≤ ds.length ∧ ∃ I' acc ys env', RelL K p env' σ I' H' ∧ Same I1 I' ∧ I' D = none ∧ H' D = some (.lst acc) ∧ Rps K I' acc ys ∧ acc.length ≤ n ∧ ((∀ (j : Nat) (x : List PyData), env'[j]? = some (some (Sl.own x)) → σ[j]? ≠ some (some (V.ref D))) ∧ ∀ (j : Nat) (x : Sl) (v : V), env'[j]? = some (some x) → isMat x = true → σ[j]? = some (some v) → ¬ Cell x v H' D) ∧ popD i g2 te2 vs env' (ds.drop n) fun zs => D2.rt (.tuple (ys ++ zs)),
    ⟨ds.length, by simp, Nat.zero_le _, I1, [], [], env, rl1.beside hD0 hDI (fun _ _ z => by rw [hD] at z; cases z) (fun _ z => by rw [hD] at z; cases z) (rl1.freshCell (.refl rl1.same) hD) hown, Same.refl _, hDI, upd_same, .nil, Nat.le_refl _, ⟨hown, rl1.freshCellU hD⟩, q1⟩, ?_⟩
  rintro n m H' ⟨rfl, hn', I', acc, ys, env', r', sI, hDI', hDH', rp, hacc, ⟨ho, hoM⟩, q'⟩
  by_cases hlt : n < ds.length
  · refine .inr ⟨it.go n I' H' sI r'.same hlt, fun H'' => ∃ I'' acc ys env'', RelL K p env'' σ I'' H'' ∧ Same I1 I'' ∧ I'' D = none ∧ H'' D = some (.lst acc) ∧ Rps K I'' acc ys ∧ acc.length ≤ n + 1 ∧ ((∀ (j : Nat) (x : List PyData), env''[j]? = some (some (Sl.own x)) → σ[j]? ≠ some (some (V.ref D))) ∧ ∀ (j : Nat) (x : Sl) (v : V), env''[j]? = some (some x) → isMat x = true → σ[j]? = some (some v) → ¬ Cell x v H'' D) ∧ popD i g2 te2 vs env'' (ds.drop (n + 1)) fun zs => D2.rt (.tuple (ys ++ zs)),
      fun H'' z => ⟨ds.length - (n + 1), by omega, rfl, by omega, z⟩, fun x H2 y => ?_⟩
    obtain ⟨I2, d, g1, hd, rd⟩ := it.yld n x I' H' H2 sI r'.same hlt y
    have hdrop : ds.drop n = d :: ds.drop (n + 1) := by
      have hdd : ds[n] = d := Option.some.inj ((List.getElem?_eq_getElem hlt).symm.trans hd)
      rw [List.drop_eq_getElem_cons hlt, hdd]
    rw [hdrop] at q'
    unfold popD at q'
    split at q'
    · rename_i xs exs
      have r2 := r'.grow' g1
      have keepD : ∀ {I3 H3 I4 H4}, Stp p I3 H3 I4 H4 → I3 D = none → H3 D = some (.lst acc) → I4 D = none ∧ H4 D = some (.lst acc) := fun s a b =>
        ⟨s.gr.fr D a (by rw [b]; exact fun z => nomatch z), s.gr.hh D _ b hm⟩
      obtain ⟨d2, d3⟩ := keepD (Stp.of (p := p) g1) hDI' hDH'
      refine hg p (wipeE env' vs) (L2.wipe σ vs) I2 H2 x d _ _ (r2.wipe vs) rd q' fun env1 σ1 I3 H3 q3 r3 s3 w3 => ⟨by rw [w3]; exact wipe_wipe σ vs, ?_⟩
      obtain ⟨d4, d5⟩ := keepD s3 d2 d3
      refine ht p env1 σ1 I3 H3 (fun b => b = true) _ r3 rfl fun b I4 H4 q4 s4 => ?_
      subst q4
      rw [if_pos rfl]
      obtain ⟨d6, d7⟩ := keepD s4 d4 d5
      have s34 := s3.trans s4
      obtain ⟨v, hv, a, ws, rfl, _, _, e4, e5⟩ := (r2.stp s34).r.sl i _ exs
      have hv1 : σ1[i]? = some (some (.ref a)) := by
        have z := wipe_get (σ := σ1) hiv
        rw [← z, w3, wipe_get hiv, wipe_get hiv]
        exact hv
      refine ⟨_, hv1, .inl ⟨rfl, _, SqL.of e4⟩, he p env1 σ1 I4 H4 _ _ (r3.stp s4) q3 fun k kv I5 H5 q5 s5 r5 => ?_⟩
      split at q5
      · rename_i jj
        split at q5
        · rename_i m em
          split at q5
          · rename_i y' ey
            obtain ⟨j0, j1, q5⟩ := q5
            cases r5
            have s35 := s34.trans s5
            have r6 := r2.stp s35
            obtain ⟨v', hv', a', ws', e1', f2, f3, f4, f5⟩ := r6.r.sl i _ exs
            subst e1'
            rw [hv] at hv'
            cases hv'
            obtain ⟨d8, d9⟩ := keepD s5 d6 d7
            obtain ⟨yv, hyv, ryv⟩ := f5.got ey
            have hseq := (ixN_seq em).1
            rw [← f5.length] at hseq
            refine ⟨a, ws', jj, m, yv, rfl, rfl, f4, j0, j1, hseq, hyv, ?_⟩
            have r7 := r6.mutOwn exs hv (Rps.erase m f5)
            have hDa : D ≠ a := fun w => ho i xs exs (by rw [w]; exact hv)
            have stA : Stp p I' H' I5 H5 := (Stp.of (p := p) g1).trans s35
            have hmat7 : ∀ (j : Nat) (x : Sl) (v : V), (env'.set i (some (.own (xs.eraseIdx m))))[j]? = some (some x) → isMat x = true → σ[j]? = some (some v) → ¬ Cell x v (upd H5 a (.lst (ws'.eraseIdx m))) D := by
              intro j x v ex mx sv c
              rcases getSet ex with ⟨rfl, w, _⟩ | ⟨nj, ex⟩
              · cases w; cases mx
              · have c5 : Cell x v H5 D := cell_to (fun _ b eb => upd_ne fun w => by
                  subst w
                  refine r6.r.sm i j (.own xs) x (.ref b) v b nj (by rw [mx]; simp [isMat]) exs ex hv sv rfl ?_
                  cases x <;> first | (cases mx) | skip
                  exact .inl eb) c
                exact hoM j x v ex mx sv (r'.cellBack stA ex sv c5)
            refine ⟨acc, by rw [upd_ne hDa]; exact d9, Nat.lt_of_le_of_lt hacc (Nat.lt_of_lt_of_le hlt (le_line hlen)), I5, acc ++ [yv], ys ++ [y'], env'.set i (some (.own (xs.eraseIdx m))), ?_, sI.trans (g1.ii.trans s35.ii), d8, upd_same, ?_, ?_, ?_, ?_⟩
            · refine r7.beside hD0 d8 (fun _ _ z => by rw [upd_ne hDa, d9] at z; exact nomatch z) (fun _ z => by rw [upd_ne hDa, d9] at z; exact nomatch z) hmat7 fun j x ex z => ?_
              rcases getSet ex with ⟨rfl, _, _⟩ | ⟨_, ex⟩
              · exact ho _ _ exs z
              · exact ho _ _ ex z
            · exact Rps.append (Rps.mono (g1.ii.trans s35.ii) _ _ rp) (.cons ryv .nil)
            · rw [List.length_append, List.length_singleton]; omega
            · refine ⟨fun j x ex z => ?_, fun j x v ex mx sv c => hmat7 j x v ex mx sv (cell_to (fun m' b eb => upd_ne fun w => hmat7 j x v ex mx sv (by
                subst w
                cases x <;> first | (cases mx) | skip
                exact .inl eb)) c)⟩
              rcases getSet ex with ⟨rfl, _, _⟩ | ⟨_, ex⟩
              · exact ho _ _ exs z
              · exact ho _ _ ex z
            · have ee : ∀ zs : List PyData, (ys ++ [y']) ++ zs = ys ++ (y' :: zs) := fun zs => by rw [List.append_assoc]; rfl
              simp only [ee]
              exact q5
          · exact q5.elim
        · exact q5.elim
      · exact q5.elim
    · exact q'.elim
  · have hn2 : n = ds.length := by omega
    subst hn2
    rw [List.drop_length] at q'
    have q' : D2.rt (.tuple (ys ++ [])) := q'
    rw [List.append_nil] at q'
    refine .inl ⟨it.stop _ I' H' sI r'.same rfl, D, acc, rfl, .inl ⟨SqL.of hDH', fun l h0 => ?_⟩⟩
    have gn := Gr.new (m := none) (o := .tup acc) r'.same h0
    exact e.rt _ _ _ _ q' (r'.r.gr.trans gn.weak) (fun s es => (r'.r.st s es).2.grow gn) (.tup (SqT.of upd_same) (Rps.mono gn.ii _ _ rp))
/-! ### list(range(n)), len of a list of one's own -/
def dLstRg (a : T2E) : T2A := fun env Q => a env fun d => match d with | .int j => 0 ≤ j ∧ j ≤ 1000000 ∧ Q (dRange 0 j.toNat) | _ => False
theorem rg_rps {K : Fg} {I : Hp} (n : Nat) : Rps K I (rgV 0 (n : Int)) (dRange 0 n) := by
  have e1 : rgV 0 (n : Int) = (((List.range n).map fun i => (0 : Int) + (i : Nat))).map V.int := by
    unfold rgV
    rw [Int.sub_zero, Int.toNat_natCast, List.map_map]
    rfl
  have e2 : dRange 0 n = (((List.range n).map fun i => (0 : Int) + (i : Nat))).map PyData.int := by
    unfold dRange
    rw [List.map_map]
    rfl
  rw [e1, e2]
  exact Rps.ofInts _
theorem so_listRg {K : Fg} {ta : TE} {a : T2E} (ha : SE K ta a) : SO K (tLstRg (tRg1 ta)) (dLstRg a) := by
  intro p env σ I H Q2 Q rl q k
  refine ha p env σ I H _ _ rl q fun d v I1 H1 q1 s1 h1 => ?_
  cases d <;> first | exact q1.elim | skip
  rename_i j
  obtain ⟨j0, j1, q1⟩ := q1
  cases h1
  refine ⟨j, rfl, RgOk.of_le (by decide) (by omega) (by decide) j0, fun l h0 => ?_⟩
  have hl0 : H l = none := by
    cases e : H l with
    | none => rfl
    | some o => exact absurd h0 (s1.gr.th l (by rw [e]; exact fun z => nomatch z))
  have ej : (j.toNat : Int) = j := Int.toNat_of_nonneg j0
  refine k _ l (rgV 0 j) I1 (upd H1 l (.lst (rgV 0 j))) q1 (s1.trans (Stp.fresh s1.ih h0)) hl0 (Same.free s1.ih h0) upd_same ?_
  have := rg_rps (K := K) (I := I1) j.toNat
  rw [ej] at this
  exact this
def dLenOwn (i : Nat) : T2E := fun env Q => match env[i]? with | some (some (.own ds)) => Q (.int (ds.length : Nat)) | _ => False
theorem se_lenOwn {K : Fg} (i : Nat) : SE K (tCB (fun xs H Q => ∃ p ys, xs = [.ref p] ∧ (SqL K H p ys ∨ SqT K H p ys) ∧ Q (.int ys.length) H) (tCons (tVar i) tNil)) (dLenOwn i) := by
  intro p env σ I H Q2 Q r q k
  unfold dLenOwn at q
  split at q
  · rename_i ds e2
    obtain ⟨v, hv, a, vs, rfl, _, _, e4, e5⟩ := r.r.sl i _ e2
    refine ⟨_, hv, a, vs, rfl, .inl (SqL.of e4), ?_⟩
    rw [e5.length]
    exact k _ _ I H q (.refl r.same) (.int _)
  · exact q.elim
end Z2
namespace Z2
open PySem PySem.Spec PyProof.Rows L2
/-! ### dicts of one's own: keys are tuples of ints and texts -/
section
variable {X : Cx} {pins : List (Addr × Obj)} {σ : L2.St} {H : Hp} {s : Shared} {a b : Addr} {xs : List (List Key × Addr × Value)} {k : List Key}
theorem key_sq (I : L2.Inv X pins σ H s) (e : SqT X.K H b (k.map kV)) : (tupleKind (mixKind X.prog X.w)).is s.heap k b := by
  obtain ⟨its, r, ht, hz⟩ := I.tuple e
  obtain ⟨o, h1, h2, n, h3⟩ := ht
  exact ⟨o, its.toArray, n, h1, h2, h3, by simpa using items_are r⟩
theorem dct_of (I : L2.Inv X pins σ H s) (e : H a = some (dctO X.w a xs)) (hk : ∀ x ∈ xs, SqT X.K H x.2.1 (x.1.map kV)) : (a == sysModules) = false ∧ xs.length ≤ sizeLine ∧ s.heap.DictOfH (tupleKind (mixKind X.prog X.w)) a xs := by
  obtain ⟨⟨z1, z2, o, es, ep, h1, h2, h3, h4, h5⟩, _, _⟩ := (show ObjOk X.prog X.w H s.heap a (dctO X.w a xs) from I.hok a _ e)
  exact ⟨z1, z2, o, es, ep, h1, h2, h3, h4 X.prog, fun x hx => key_sq I (hk x hx), h5⟩
theorem dct_ok {P : Program} {w : World} {h : Heap} (hd : (a == sysModules) = false) (hl : xs.length ≤ sizeLine) {o : Obj} {es : Array DictEntry} {ep : Nat} (h1 : h.get? a = some o) (h2 : o.ExactDict) (h3 : o.data = .dict es ep) (h4 : es.toList = xs.map (entryOfKey (tupleKind (mixKind P w)))) (h5 : (xs.map (·.1)).Nodup) :
    ObjOk P w H h a (dctO w a xs) := by
  refine ⟨⟨hd, hl, o, es, ep, h1, h2, h3, fun P' => h4, h5⟩, ⟨o, h1⟩, ?_⟩
  rintro g1 g2 ⟨z1, z2, o, es, ep, h1, h2, h3, h4, h5⟩ hh
  exact ⟨z1, z2, o, es, ep, hh _ h1, h2, h3, h4, h5⟩
end
def tDNew (w : World) : TE := fun _ H Q => ∀ p, H p = none → Q (.ref p) (upd H p (dctO w p []))
theorem pe_dnew {X : Cx} {pos : Pos} : PE X (.Dict [] [] pos) (tDNew X.w) := ⟨fun pins s σ H Q I h =>
  wpAny_Dict_empty ⟨.ref s.heap.objs.size, _, I.laid (a := s.heap.objs.size) (o := dctO X.w s.heap.objs.size []) (t' := s.toks) (fun _ _ q => Heap.get?_push_of_some _ q) (Nat.le_refl _)
    (dct_ok (beq_eq_false_iff_ne.mpr (Ne.symm (Nat.ne_of_lt I.big))) (Nat.zero_le _) (Heap.get?_push_size _ rfl) ⟨rfl, rfl, rfl⟩ (es := #[]) (ep := 0) rfl rfl List.nodup_nil), rfl, h _ (I.hok.fresh (Nat.le_refl _))⟩⟩
def tDG (K : Fg) (w : World) (td ty : TE) : TE := fun σ H Q => td σ H fun x H1 => ty σ H1 fun y H2 => ∃ a xs b k p v, x = .ref a ∧ y = .ref b ∧ H2 a = some (dctO w a xs) ∧ (∀ x ∈ xs, SqT K H2 x.2.1 (x.1.map kV)) ∧ SqT K H2 b (k.map kV) ∧ atKey xs k = some p ∧ RelV v p.2 ∧ Q v H2
theorem pe_dg {X : Cx} {o i : Expr} {pos : Pos} {td ty : TE} (hu : X.A.units + 1 < cLine) (ho : PE X o td) (hi : PE X i ty) (hs : NoSl i) : PE X (.Subscript o i pos) (tDG X.K X.w td ty) := by
  refine ⟨fun pins s σ H Q I h => ?_⟩
  refine subD_of PySem.F.slot_dict_getitem.lookup hs (thn (ho.run pins s σ H _ I h) fun u s1 ⟨x, H1, I1, rx, q1⟩ => thn (hi.run pins s1 σ H1 _ I1 q1) fun iv s2 ⟨y, H2, I2, ry, a, xs, b, k, p, v, ex, ey, e, hk, eb, hp, rv, q2⟩ => ?_)
  subst ex ey
  obtain rfl : u = Value.ref a := rx
  obtain rfl : iv = Value.ref b := ry
  obtain ⟨z1, z2, dd⟩ := dct_of I2 e hk
  refine ⟨dd.typeIs, ?_⟩
  exact wpAny_getItem_heap (tupleKind_room_in1 hu) (key_sq I2 eb) dd hp ⟨v, H2, I2.tok _, rv, q2⟩
def tDPut (K : Fg) (w : World) (td ty tv : TE) : TS := fun D σ H => tv σ H fun v H1 => td σ H1 fun x H2 => ty σ H2 fun y H3 => ∃ a xs b k, x = .ref a ∧ y = .ref b ∧ H3 a = some (dctO w a xs) ∧ (∀ x ∈ xs, SqT K H3 x.2.1 (x.1.map kV)) ∧ SqT K H3 b (k.map kV) ∧ xs.length < sizeLine ∧ ∀ u, RelV v u → D.nx σ (upd H3 a (dctO w a (storedH xs k b u)))
theorem storedH_len {α : Type} [DecidableEq α] (xs : List (α × Addr × Value)) (k : α) (b : Addr) (u : Value) : (storedH xs k b u).length ≤ xs.length + 1 := by
  unfold storedH
  split
  · rw [List.length_map]; omega
  · rw [List.length_append, List.length_singleton]; omega
theorem ps_dput2 {X : Cx} {o i value : Expr} {pos pos' : Pos} {td ty tv : TE} (hu : X.A.units + 1 < cLine) (ho : PE X o td) (hi : PE X i ty) (hv : PE X value tv) (hs : swapsWith value (some (.Subscript o i pos')) pos.line X.env = pure false) :
    PS X (.Assign [.Subscript o i pos'] value pos) (tDPut X.K X.w td ty tv) := by
  refine ⟨fun pins s σ H D I h => ?_⟩
  refine wpAny_Assign_Subscript (thn (hv.run pins s σ H _ I h) fun r s1 ⟨v, H1, I1, rv, q1⟩ => thn (ho.run pins s1 σ H1 _ I1 q1) fun u s2 ⟨x, H2, I2, rx, q2⟩ => thn (hi.run pins s2 σ H2 _ I2 q2) fun iv s3 ⟨y, H3, I3, ry, a, xs, b, k, ex, ey, e, hk, eb, hl, q3⟩ => ?_) hs
  subst ex ey
  obtain rfl : u = Value.ref a := rx
  obtain rfl : iv = Value.ref b := ry
  obtain ⟨z1, z2, dd⟩ := dct_of I3 e hk
  refine wpAny_setItem_heap (hsz := z2) (tupleKind_room_in1 hu) (key_sq I3 eb) dd fun h' dd' hs => ?_
  obtain ⟨q, es, ep, hq, h2, h3, h4, _, h5⟩ := dd'
  have hl2 : (storedH xs k b r).length ≤ sizeLine := by have := storedH_len xs k b r; omega
  exact ⟨σ, _, d_write I3 (by rw [e]; exact True.intro) hs ⟨q, hq⟩ (dct_ok z1 hl2 hq h2 h3 h4 h5), q3 r rv⟩
/-! over data -/
def keyD1 : D → Option Key | .int i => some (.inl i) | .str x => some (.inr x) | _ => none
def keyDs : List D → Option (List Key)
  | [] => some []
  | d :: ds => match keyD1 d, keyDs ds with | some k, some ks => some (k :: ks) | _, _ => none
def keyD : D → Option (List Key) | .tuple ds => keyDs ds | _ => none
def valD (ks : List (List Key × D)) (k : List Key) : Option D := (ks.find? fun x => decide (x.1 = k)).map (·.2)
def putD (ks : List (List Key × D)) (k : List Key) (d : D) : List (List Key × D) := if (valD ks k).isSome then ks.map fun x => if x.1 = k then (x.1, d) else x else ks ++ [(k, d)]
section
variable {K : Fg} {I : Hp}
theorem keyDs_rp : ∀ {ds : List D} {vs : List V} {k : List Key}, Rps K I vs ds → keyDs ds = some k → vs = k.map kV
  | [], _, k, h, e => by
    cases h
    cases e
    rfl
  | d :: ds, _, k, h, e => by
    cases h with
    | cons h1 h2 =>
      unfold keyDs at e
      split at e
      · rename_i k1 ks e1 e2
        cases e
        rw [List.map_cons, ← keyDs_rp h2 e2]
        cases d <;> first | (cases e1) | skip
        · cases h1; rfl
        · cases h1; rfl
      · cases e
theorem keyD_rp {d : D} {v : V} {k : List Key} (h : Rp K I v d) (e : keyD d = some k) : ∃ b, v = .ref b ∧ SqT K I b (k.map kV) := by
  unfold keyD at e
  split at e
  · cases h with
    | tup h1 h2 =>
      rw [keyDs_rp h2 e] at h1
      exact ⟨_, rfl, h1⟩
  · cases e
theorem KD.keys : ∀ {xs : List (List Key × Addr × Value)} {ks : List (List Key × D)}, KD K I xs ks → ∀ x ∈ xs, SqT K I x.2.1 (x.1.map kV)
  | _, _, .nil, x, hx => absurd hx List.not_mem_nil
  | _, _, .cons h1 h2 h3 t, x, hx => by
    rcases List.mem_cons.mp hx with rfl | hx
    · exact h1
    · exact KD.keys t x hx
theorem KD.length : ∀ {xs : List (List Key × Addr × Value)} {ks : List (List Key × D)}, KD K I xs ks → xs.length = ks.length
  | _, _, .nil => rfl
  | _, _, .cons _ _ _ t => by rw [List.length_cons, List.length_cons, KD.length t]
theorem KD.val : ∀ {xs : List (List Key × Addr × Value)} {ks : List (List Key × D)}, KD K I xs ks → ∀ k, (valD ks k = none ∧ atKey xs k = none) ∨ ∃ d p v, valD ks k = some d ∧ atKey xs k = some p ∧ RelV v p.2 ∧ Rp K I v d
  | _, _, .nil, k => .inl ⟨rfl, rfl⟩
  | _, _, .cons (k := k1) (b := b) (u := u) (v := v) (d := d) (xs := xs) (ks := ks) h1 h2 h3 t, k => by
    by_cases c : k1 = k
    · refine .inr ⟨d, (b, u), v, ?_, ?_, h2, h3⟩
      · unfold valD; rw [List.find?_cons, decide_eq_true c]; rfl
      · unfold atKey; rw [List.find?_cons, decide_eq_true c]; rfl
    · have e1 : valD ((k1, d) :: ks) k = valD ks k := by unfold valD; rw [List.find?_cons, decide_eq_false c]
      have e2 : atKey ((k1, b, u) :: xs) k = atKey xs k := by unfold atKey; rw [List.find?_cons, decide_eq_false c]
      rw [e1, e2]
      exact KD.val t k
theorem KD.repl {k : List Key} {u : Value} {v : V} {d : D} (h2 : RelV v u) (h3 : Rp K I v d) : ∀ {xs : List (List Key × Addr × Value)} {ks : List (List Key × D)}, KD K I xs ks → KD K I (xs.map (putAt k u)) (ks.map fun x => if x.1 = k then (x.1, d) else x)
  | _, _, .nil => .nil
  | _, _, .cons (k := k1) (b := b) (u := u1) (v := v1) (d := d1) (xs := xs) (ks := ks) g1 g2 g3 t => by
    rw [List.map_cons, List.map_cons]
    unfold putAt
    by_cases c : k1 = k
    · dsimp only
      rw [if_pos c, if_pos c]
      exact .cons g1 h2 h3 (KD.repl h2 h3 t)
    · dsimp only
      rw [if_neg c, if_neg c]
      exact .cons g1 g2 g3 (KD.repl h2 h3 t)
theorem KD.snoc {k : List Key} {b : Addr} {u : Value} {v : V} {d : D} (h1 : SqT K I b (k.map kV)) (h2 : RelV v u) (h3 : Rp K I v d) : ∀ {xs : List (List Key × Addr × Value)} {ks : List (List Key × D)}, KD K I xs ks → KD K I (xs ++ [(k, b, u)]) (ks ++ [(k, d)])
  | _, _, .nil => .cons h1 h2 h3 .nil
  | _, _, .cons g1 g2 g3 t => .cons g1 g2 g3 (KD.snoc h1 h2 h3 t)
theorem KD.put {k : List Key} {b : Addr} {u : Value} {v : V} {d : D} (h1 : SqT K I b (k.map kV)) (h2 : RelV v u) (h3 : Rp K I v d) {xs : List (List Key × Addr × Value)} {ks : List (List Key × D)} (h : KD K I xs ks) : KD K I (storedH xs k b u) (putD ks k d) := by
  unfold storedH putD
  rcases h.val k with ⟨e1, e2⟩ | ⟨d0, p, v0, e1, e2, _, _⟩
  · rw [e1, e2]
    exact KD.snoc h1 h2 h3 h
  · rw [e1, e2]
    exact KD.repl h2 h3 h
end
section
variable {K : Fg} {p : P0} {env : Ev} {σ : L2.St} {I H I' H' : Hp}
/-- a name is given a dict of its own -/
theorem RelL.setDct (r : RelL K p env σ I H) {w : World} {a : Addr} {xs : List (List Key × Addr × Value)} {ks : List (List Key × D)} (h0 : p.H0 a = none) (h1 : I a = none) (h2 : H a = some (dctO w a xs)) (h3 : KD K I xs ks)
    (hn : ∀ (j : Nat) (w' : World) (x : List (List Key × D)), env[j]? = some (some (.dct w' x)) → σ[j]? ≠ some (some (.ref a))) (i : Nat) : RelL K p (env.set i (some (.dct w ks))) (σ.set i (some (.ref a))) I H := by
  refine ⟨⟨r.r.gr, fun j x e => ?_, fun j k x y b n e1 e2 e3 e4 => ?_, r.r.st, r.r.bs, fun j k w1 w2 x y b n e1 e2 e3 e4 => ?_, r.r.sm.set _ _ _ (fun y z u c cc => by cases z; exact cc.elim)⟩, by rw [List.length_set, List.length_set]; exact r.len⟩
  · rcases getSet e with ⟨rfl, q, hl⟩ | ⟨n, q⟩
    · cases q
      exact ⟨_, List.getElem?_set_self (by rw [← r.len]; exact hl), a, xs, rfl, h0, h1, h2, h3⟩
    · obtain ⟨u, hu, q⟩ := r.r.sl j x q
      exact ⟨u, by rw [List.getElem?_set_ne n]; exact hu, q⟩
  · rcases getSet e1 with ⟨_, q, _⟩ | ⟨n1, q1⟩
    · cases q
    · rcases getSet e2 with ⟨_, q, _⟩ | ⟨n2, q2⟩
      · cases q
      · rw [List.getElem?_set_ne n1] at e3
        rw [List.getElem?_set_ne n2] at e4
        exact r.r.sep j k x y b n q1 q2 e3 e4
  · rcases getSet e1 with ⟨rfl, q, hl⟩ | ⟨n1, q1⟩
    · rw [List.getElem?_set_self (by rw [← r.len]; exact hl)] at e3
      cases e3
      rcases getSet e2 with ⟨z, _, _⟩ | ⟨n2, q2⟩
      · exact n z
      · rw [List.getElem?_set_ne n2] at e4
        exact hn k _ y q2 e4
    · rw [List.getElem?_set_ne n1] at e3
      rcases getSet e2 with ⟨rfl, q, hl⟩ | ⟨n2, q2⟩
      · rw [List.getElem?_set_self (by rw [← r.len]; exact hl)] at e4
        cases e4
        exact hn j _ x q1 e3
      · rw [List.getElem?_set_ne n2] at e4
        exact r.r.sd j k w1 w2 x y b n q1 q2 e3 e4
/-- the own dict at a is changed -/
theorem RelL.mutDct (r : RelL K p env σ I H) {i : Nat} {w : World} {ks ks' : List (List Key × D)} {a : Addr} {xs' : List (List Key × Addr × Value)} (e : env[i]? = some (some (.dct w ks))) (hv : σ[i]? = some (some (.ref a))) (h : KD K I xs' ks') :
    RelL K p (env.set i (some (.dct w ks'))) σ I (upd H a (dctO w a xs')) := by
  obtain ⟨v, hv2, a, vs, e1, e2, e3, e4, e5⟩ := r.r.sl i _ e
  rw [hv] at hv2; cases hv2; cases e1
  have nI : ∀ b o, I b = some o → b ≠ a := fun b o q => ne_of_none q e3
  have nm : p.m ≠ some a := fun q => (r.r.st _ q).1 e2
  refine ⟨⟨⟨r.r.gr.ii, fun b o q => by rw [upd_ne (nI b o q)]; exact r.r.gr.ih b o q, fun b o q n => ?_, r.r.gr.fr, fun b q => ?_⟩, fun j x q => ?_, fun j k x y b n q1 q2 q3 q4 => ?_, fun s q => ⟨(r.r.st s q).1, ?_⟩, r.r.bs, fun j k w1 w2 x y b n q1 q2 q3 q4 => ?_,
      (r.r.sm.setE i (some (.dct w ks')) (fun y z u c cc => by cases z; exact cc.elim)).keep fun j x u b q m su eu => upd_ne fun z => by
        rcases getSet q with ⟨rfl, w, _⟩ | ⟨_, q⟩
        · cases w; cases m
        · subst z
          obtain ⟨u', hu, sl⟩ := r.r.sl j x q
          rw [su] at hu
          cases hu
          cases x <;> first | (cases m) | skip
          obtain ⟨b', bs, f1, f2, f3, f4, _, _⟩ := sl
          rw [eu] at f1
          cases f1
          rw [e4] at f4
          exact nomatch f4⟩,
    by rw [List.length_set]; exact r.len⟩
  · rw [upd_ne (ne_of_none q e2)]; exact r.r.gr.hh b o q n
  · by_cases hb : b = a
    · rw [hb, upd_same]; exact fun q => nomatch q
    · rw [upd_ne hb]; exact r.r.gr.th b q
  · rcases getSet q with ⟨rfl, z, hl⟩ | ⟨n, z⟩
    · cases z
      exact ⟨_, hv, a, xs', rfl, e2, e3, upd_same, h⟩
    · obtain ⟨u, hu, z2⟩ := r.r.sl j x z
      refine ⟨u, hu, ?_⟩
      cases x with
      | dat d => exact z2
      | rng _ => exact z2
      | own es =>
        obtain ⟨b, ws, f1, f2, f3, f4, f5⟩ := z2
        subst f1
        have nb : b ≠ a := fun w => by
          rw [w, e4] at f4
          exact nomatch f4
        exact ⟨b, ws, rfl, f2, f3, by rw [upd_ne nb]; exact f4, f5⟩
      | strm => exact z2
      | lnt x =>
        obtain ⟨b, f1, f2, f3, f4⟩ := z2
        have nb : b ≠ a := fun w => f2 (by rw [w]; exact e2)
        exact ⟨b, f1, f2, f3, f4.stays (Same.refl _) fun o q => by rw [upd_ne nb]; exact q⟩
      | dct w' ks2 =>
        obtain ⟨b, ws, f1, f2, f3, f4, f5⟩ := z2
        subst f1
        have nb : b ≠ a := fun w2 => r.r.sd i j w w' ks ks2 a n e z hv (by rw [← w2]; exact hu)
        exact ⟨b, ws, rfl, f2, f3, by rw [upd_ne nb]; exact f4, f5⟩
      | dki ks2 =>
        obtain ⟨b, ws, f1, f2, f3, f4, f5⟩ := z2
        subst f1
        have nb : b ≠ a := fun w2 => by
          rw [w2, e4] at f4
          exact nomatch f4
        exact ⟨b, ws, rfl, f2, f3, by rw [upd_ne nb]; exact f4, f5⟩
      | mat rows =>
        obtain ⟨b, bs, f1, f2, f3, f4, f5, f6⟩ := z2
        subst f1
        have nb : b ≠ a := fun w => by
          rw [w, e4] at f4
          exact nomatch f4
        refine ⟨b, bs, rfl, f2, f3, by rw [upd_ne nb]; exact f4, f5, f6.stays (Same.refl _) fun c hc z1 z2 z3 => ⟨z2, upd_ne fun w => ?_⟩⟩
        obtain ⟨_, _, vs2, hv2⟩ := f6.live c hc
        rw [w, e4] at hv2
        exact nomatch hv2
  · have own : ∀ (l : Nat) (x : List D), (env.set i (some (Sl.dct w ks')))[l]? = some (some (Sl.own x)) → env[l]? = some (some (Sl.own x)) := fun l x w => by
      rcases getSet w with ⟨rfl, z, _⟩ | ⟨_, w⟩
      · cases z
      · exact w
    exact r.r.sep j k x y b n (own j x q1) (own k y q2) q3 q4
  · obtain ⟨f0, l, c, k, ns, f1, f2, f3⟩ := (r.r.st s q).2
    have ns2 : s ≠ a := fun w => nm (by rw [q, w])
    exact ⟨f0, l, c, k, ns, by rw [upd_ne ns2]; exact f1, f2, f3⟩
  · have own : ∀ (l : Nat) (w1 : World) (x : List (List Key × D)), (env.set i (some (Sl.dct w ks')))[l]? = some (some (Sl.dct w1 x)) → ∃ w2 y, env[l]? = some (some (Sl.dct w2 y)) := fun l w1 x z => by
      rcases getSet z with ⟨rfl, _, _⟩ | ⟨_, z⟩
      · exact ⟨_, _, e⟩
      · exact ⟨_, _, z⟩
    obtain ⟨u1, x2, z1⟩ := own j w1 x q1
    obtain ⟨u2, y2, z2⟩ := own k w2 y q2
    exact r.r.sd j k u1 u2 x2 y2 b n z1 z2 q3 q4
end
theorem _root_.L2.Room.units1 {k : Nat} {A : Around} (r : L2.Room k A) : A.units + 1 < cLine := by
  have := r.un
  omega
def dNewD (w : World) (i : Nat) : T2S := fun E env => E.nx (env.set i (some (.dct w [])))
def dPutD (w : World) (i : Nat) (tk tv : T2E) : T2S := fun E env => tv env fun v => match env[i]? with
  | some (some (.dct w' ks)) => w' = w ∧ ks.length < 1000000 ∧ tk env fun kd => (match keyD kd with | some k => E.nx (env.set i (some (.dct w (putD ks k v)))) | none => False)
  | _ => False
def dGetD (w : World) (i : Nat) (tk : T2E) : T2E := fun env Q => match env[i]? with
  | some (some (.dct w' ks)) => w' = w ∧ tk env fun kd => (match keyD kd with | some k => (match valD ks k with | some d => Q d | none => False) | none => False)
  | _ => False
section
variable {K : Fg}
theorem ss_newD {w : World} (i : Nat) : SS K (tAsg (tDNew w) (gName i)) (dNewD w i) := by
  intro p env σ I H D2 E r q e
  intro l h0
  have hl0 : p.H0 l = none := by
    cases e0 : p.H0 l with
    | none => rfl
    | some o => exact absurd h0 (r.r.gr.th l (by rw [e0]; exact fun z => nomatch z))
  have r1 := r.grow' (Gr.fresh (m := none) (o := dctO w l []) r.same h0)
  refine e.nx _ _ _ _ q (r1.setDct hl0 (Same.free r.same h0) upd_same .nil (fun j w' x ex z => ?_) i)
  obtain ⟨v, hv, a, ws, rfl, _, _, e4, _⟩ := r.r.sl j _ ex
  rw [hv] at z
  cases z
  rw [h0] at e4; cases e4
theorem se_getD {w : World} {te : TE} {t2 : T2E} (i : Nat) (h : SE K te t2) : SE K (tDG K w (tVar i) te) (dGetD w i t2) := by
  intro p env σ I H Q2 Q r q k
  unfold dGetD at q
  split at q
  · rename_i w' ks e2
    obtain ⟨rfl, q⟩ := q
    obtain ⟨v, hv, a, xs, rfl, f2, f3, f4, f5⟩ := r.r.sl i _ e2
    refine ⟨_, hv, h p env σ I H _ _ r q fun kd kv I1 H1 q1 s1 r1 => ?_⟩
    split at q1
    · rename_i k' ek
      split at q1
      · rename_i d ed
        obtain ⟨v', hv', a', xs', e1', g2, g3, g4, g5⟩ := (r.stp s1).r.sl i _ e2
        subst e1'
        rw [hv] at hv'
        cases hv'
        obtain ⟨b, rfl, eb⟩ := keyD_rp r1 ek
        rcases g5.val k' with ⟨z, _⟩ | ⟨d', p', v', z1, z2, z3, z4⟩
        · rw [z] at ed; cases ed
        · rw [z1] at ed
          cases ed
          exact ⟨a, xs', b, k', p', v', rfl, rfl, g4, fun x hx => Same.sqt s1.ih (g5.keys x hx), Same.sqt s1.ih eb, z2, z3, k _ _ _ _ q1 s1 z4⟩
      · exact q1.elim
    · exact q1.elim
  · exact q.elim
theorem ss_putD {w : World} {tk tv : TE} {k2 v2 : T2E} (i : Nat) (hk : SE K tk k2) (hv : SE K tv v2) : SS K (tDPut K w (tVar i) tk tv) (dPutD w i k2 v2) := by
  intro p env σ I H D2 E r q e
  refine hv p env σ I H _ _ r q fun d v I1 H1 q1 s1 r1 => ?_
  split at q1
  · rename_i w' ks e2
    obtain ⟨rfl, hl, q1⟩ := q1
    have ra := r.stp s1
    obtain ⟨va, hva, a, xs, rfl, f2, f3, f4, f5⟩ := ra.r.sl i _ e2
    refine ⟨_, hva, hk p env σ I1 H1 _ _ ra q1 fun kd kv I2 H2 q2 s2 r2 => ?_⟩
    split at q2
    · rename_i k' ek
      have rb := ra.stp s2
      obtain ⟨v', hv', a', xs', e1', g2, g3, g4, g5⟩ := rb.r.sl i _ e2
      subst e1'
      rw [hva] at hv'
      cases hv'
      obtain ⟨b, rfl, eb⟩ := keyD_rp r2 ek
      refine ⟨a, xs', b, k', rfl, rfl, g4, fun x hx => Same.sqt s2.ih (g5.keys x hx), Same.sqt s2.ih eb, lt_line (by rw [g5.length]; exact hl), fun u ru => ?_⟩
      exact e.nx _ _ _ _ q2 (rb.mutDct e2 hva (KD.put eb ru (Rp.mono s2.ii _ _ r1) g5))
    · exact q2.elim
  · exact q1.elim
end
end Z2
namespace Z2
open PySem PySem.Spec PyProof.Rows L2
/-! ### is not of bools; a reversed list of one's own -/
def dNotBl : R2D := fun x y Q => match x, y with | .bool a, .bool b => Q (.bool (!decide (a = b))) | _, _ => False
theorem s2_notBl {K : Fg} : Sim2 K rNotB dNotBl := by
  intro I H x y dx dy Q2 Q e hx hy q k
  unfold dNotBl at q
  split at q
  · cases hx; cases hy; exact ⟨_, _, rfl, rfl, k _ _ I H q (.refl e) (.bl _)⟩
  · exact q.elim
def dRevO (a : T2E) (l : T2O) : T2A := fun env Q => a env fun x => l env fun st => st = some (-1) ∧ match x with | .list ds => Q ds.reverse | _ => False
theorem so_rev {K : Fg} {ta : TE} {a : T2E} {tl : TO} {l : T2O} (ha : SE K ta a) (hl : SOp K tl l) : SO K (tRev K ta tl) (dRevO a l) := by
  intro p env σ I H Q2 Q rl q k
  refine ha p env σ I H _ _ rl q fun d v I1 H1 q1 s1 h1 => ?_
  refine hl p env σ I1 H1 _ _ (rl.stp s1) q1 fun lo I2 H2 q2 s2 => ?_
  obtain ⟨e, q2⟩ := q2
  have s := s1.trans s2
  have h := Rp.mono s2.ii d v h1
  refine ⟨e, ?_⟩
  cases d <;> first | exact q2.elim | skip
  cases h with
  | lst e1 e2 =>
    rename_i ds a vs
    refine ⟨a, vs, rfl, .inr ⟨SqL.of (s2.ih _ _ e1), fun l h0 => ?_⟩⟩
    have hl0 : H l = none := by
      cases e : H l with
      | none => rfl
      | some o => exact absurd h0 (s.gr.th l (by rw [e]; exact fun z => nomatch z))
    exact k _ l vs.reverse I2 (upd H2 l (.lst vs.reverse)) q2 (s.trans (Stp.fresh s2.ih h0)) hl0 (Same.free s2.ih h0) upd_same (Rps.rev e2)
end Z2
namespace Z2
open PySem PySem.Spec PyProof.Rows L2
/-! ### tables: lists of rows of one's own -/
section
variable {K : Fg} {H0 I H : Hp}
theorem MR.length {bs : List Addr} {rows : List (List D)} (m : MR K H0 I H bs rows) : bs.length = rows.length := by
  induction m with
  | nil => rfl
  | cons _ _ _ _ _ _ ih => rw [List.length_cons, List.length_cons, ih]
theorem MR.get {bs : List Addr} {rows : List (List D)} (m : MR K H0 I H bs rows) : ∀ (k : Nat) (ds : List D), rows[k]? = some ds → ∃ b vs, bs[k]? = some b ∧ H b = some (.lst vs) ∧ Rps K I vs ds := by
  induction m with
  | nil => intro k ds h; rw [List.getElem?_nil] at h; cases h
  | @cons b vs ds bs rows h1 h2 h3 h4 h5 t ih =>
    intro k es h
    cases k with
    | zero =>
      rw [List.getElem?_cons_zero] at h
      cases h
      exact ⟨b, vs, rfl, h3, h4⟩
    | succ k =>
      rw [List.getElem?_cons_succ] at h
      obtain ⟨c, ws, g1, g2, g3⟩ := ih k es h
      exact ⟨c, ws, by rw [List.getElem?_cons_succ]; exact g1, g2, g3⟩
theorem MR.set {bs : List Addr} {rows : List (List D)} (m : MR K H0 I H bs rows) : ∀ (k : Nat) (b : Addr) (vs' : List V) (ds' : List D), bs[k]? = some b → Rps K I vs' ds' → MR K H0 I (upd H b (.lst vs')) bs (rows.set k ds') := by
  induction m with
  | nil => intro k b vs' ds' h; rw [List.getElem?_nil] at h; cases h
  | @cons c vs ds bs rows h1 h2 h3 h4 h5 t ih =>
    intro k b vs' ds' h r
    cases k with
    | zero =>
      rw [List.getElem?_cons_zero] at h
      cases h
      rw [List.set_cons_zero]
      refine .cons h1 h2 upd_same r h5 (t.stays (Same.refl _) fun d hd z1 z2 z3 => ⟨z2, upd_ne fun w => ?_⟩)
      exact h5 (by rw [← w]; exact hd)
    | succ k =>
      rw [List.getElem?_cons_succ] at h
      rw [List.set_cons_succ]
      have hb : b ∈ bs := List.mem_of_getElem? h
      exact .cons h1 h2 (by rw [upd_ne fun w => h5 (by rw [w]; exact hb)]; exact h3) h4 h5 (ih k b vs' ds' h r)
theorem MR.snoc {bs : List Addr} {rows : List (List D)} {l : Addr} {vs : List V} {ds : List D} (m : MR K H0 I H bs rows) (g1 : H0 l = none) (g2 : I l = none) (g3 : H l = some (.lst vs)) (g4 : Rps K I vs ds) (g5 : l ∉ bs) : MR K H0 I H (bs ++ [l]) (rows ++ [ds]) := by
  induction m with
  | nil => exact .cons g1 g2 g3 g4 List.not_mem_nil .nil
  | @cons c vs' ds' bs rows h1 h2 h3 h4 h5 t ih =>
    refine .cons h1 h2 h3 h4 (fun z => ?_) (ih fun z => g5 (List.mem_cons_of_mem _ z))
    rcases List.mem_append.mp z with z | z
    · exact h5 z
    · rw [List.mem_singleton.mp z] at g5
      exact g5 List.mem_cons_self
end
section
variable {K : Fg} {p : P0} {env : Ev} {σ : L2.St} {I H I' H' : Hp}
/-- a row of a table is changed -/
theorem RelL.mutMat (r : RelL K p env σ I H) {i k : Nat} {rows : List (List D)} {a b : Addr} {bs : List Addr} {vs' : List V} {ds' : List D} (e : env[i]? = some (some (.mat rows))) (hv : σ[i]? = some (some (.ref a))) (ha : H a = some (.lst (bs.map V.ref))) (hb : bs[k]? = some b) (h : Rps K I vs' ds') :
    RelL K p (env.set i (some (.mat (rows.set k ds')))) σ I (upd H b (.lst vs')) := by
  obtain ⟨v, hv2, a2, bs2, e1, e2, e3, e4, e5, e6⟩ := r.r.sl i _ e
  rw [hv] at hv2; cases hv2; cases e1
  rw [ha] at e4
  have := refs_inj (HO.lst.inj (Option.some.inj e4))
  subst this
  have hbm : b ∈ bs := List.mem_of_getElem? hb
  obtain ⟨b1, b2, vs0, b3⟩ := e6.live b hbm
  have nI : ∀ c o, I c = some o → c ≠ b := fun c o q => ne_of_none q b2
  have nm : p.m ≠ some b := fun q => (r.r.st _ q).1 b1
  have nab : a ≠ b := fun w => e5 (by rw [w]; exact hbm)
  have cb : Cell (.mat rows) (.ref a) H b := .inr ⟨a, bs, rfl, ha, hbm⟩
  have oth : ∀ (j : Nat) (x : Sl) (v : V), i ≠ j → env[j]? = some (some x) → σ[j]? = some (some v) → ¬ Cell x v H b := fun j x v n f1 f2 c => r.r.sm i j (.mat rows) x (.ref a) v b n (by simp [isMat]) e f1 hv f2 cb c
  refine ⟨⟨⟨r.r.gr.ii, fun c o q => by rw [upd_ne (nI c o q)]; exact r.r.gr.ih c o q, fun c o q n => ?_, r.r.gr.fr, fun c q => ?_⟩, fun j x q => ?_, fun j l x y c n q1 q2 q3 q4 => ?_, fun s q => ⟨(r.r.st s q).1, ?_⟩, r.r.bs, r.r.sd.setE _ _ (fun _ _ z => nomatch z),
      (r.r.sm.setE i (some (.mat (rows.set k ds'))) (fun y z u c cc => by cases z; exact ⟨_, e, cc, rfl⟩)).keep fun j x u c q m su eu => upd_ne fun z => ?_⟩,
    by rw [List.length_set]; exact r.len⟩
  · rw [upd_ne (ne_of_none q b1)]; exact r.r.gr.hh c o q n
  · by_cases hc : c = b
    · rw [hc, upd_same]; exact fun q => nomatch q
    · rw [upd_ne hc]; exact r.r.gr.th c q
  · rcases getSet q with ⟨rfl, z, hl⟩ | ⟨n, z⟩
    · cases z
      exact ⟨_, hv, a, bs, rfl, e2, e3, by rw [upd_ne nab]; exact ha, e5, e6.set k b vs' ds' hb h⟩
    · obtain ⟨u, hu, z2⟩ := r.r.sl j x z
      refine ⟨u, hu, ?_⟩
      have no := oth j x u n z hu
      cases x with
      | dat d => exact z2
      | rng _ => exact z2
      | own es =>
        obtain ⟨c, ws, f1, f2, f3, f4, f5⟩ := z2
        subst f1
        exact ⟨c, ws, rfl, f2, f3, by rw [upd_ne fun w => no (by rw [w]; rfl)]; exact f4, f5⟩
      | strm => exact z2
      | lnt x =>
        obtain ⟨c, f1, f2, f3, f4⟩ := z2
        have nb : c ≠ b := fun w => f2 (by rw [w]; exact b1)
        exact ⟨c, f1, f2, f3, f4.stays (Same.refl _) fun o q => by rw [upd_ne nb]; exact q⟩
      | dct w ks =>
        obtain ⟨c, ws, f1, f2, f3, f4, f5⟩ := z2
        subst f1
        exact ⟨c, ws, rfl, f2, f3, by rw [upd_ne fun w => by rw [w, b3] at f4; exact nomatch f4]; exact f4, f5⟩
      | dki ks =>
        obtain ⟨c, ws, f1, f2, f3, f4, f5⟩ := z2
        subst f1
        exact ⟨c, ws, rfl, f2, f3, by rw [upd_ne fun w => by rw [w, b3] at f4; exact nomatch f4]; exact f4, f5⟩
      | mat rows2 =>
        obtain ⟨c, cs, f1, f2, f3, f4, f5, f6⟩ := z2
        subst f1
        refine ⟨c, cs, rfl, f2, f3, by rw [upd_ne fun w => no (.inl (by rw [w]))]; exact f4, f5, f6.stays (Same.refl _) fun d hd z1 z2 z3 => ⟨z2, upd_ne fun w => ?_⟩⟩
        exact no (.inr ⟨c, cs, rfl, f4, by rw [← w]; exact hd⟩)
  · have own : ∀ (l : Nat) (x : List D), (env.set i (some (Sl.mat (rows.set k ds'))))[l]? = some (some (Sl.own x)) → env[l]? = some (some (Sl.own x)) := fun l x w => by
      rcases getSet w with ⟨rfl, z, _⟩ | ⟨_, w⟩
      · cases z
      · exact w
    exact r.r.sep j _ x y c n (own j x q1) (own _ y q2) q3 q4
  · obtain ⟨f0, l, c, k, ns, f1, f2, f3⟩ := (r.r.st s q).2
    have ns2 : s ≠ b := fun w => nm (by rw [q, w])
    exact ⟨f0, l, c, k, ns, by rw [upd_ne ns2]; exact f1, f2, f3⟩
  · subst z
    rcases getSet q with ⟨rfl, w, _⟩ | ⟨n, q⟩
    · rw [hv] at su
      cases su
      cases eu
      exact nab rfl
    · refine oth j x u n q su ?_
      cases x <;> first | (cases m) | skip
      exact .inl eu
end
/-- the row, the place that an index names -/
def atRow {α : Type} (rows : List α) (x : D) (f : Nat → α → Prop) : Prop := match x with | .int k => (match ixN rows.length k with | some k' => (match rows[k']? with | some row => f k' row | none => False) | none => False) | _ => False
theorem atRow_of {α : Type} {rows : List α} {x : D} {f : Nat → α → Prop} (h : atRow rows x f) : ∃ k k' row, x = .int k ∧ ixN rows.length k = some k' ∧ rows[k']? = some row ∧ f k' row := by
  unfold atRow at h
  split at h
  · split at h
    · split at h
      · rename_i k _ k' e1 _ row e2
        exact ⟨k, k', row, rfl, e1, e2, h⟩
      · exact h.elim
    · exact h.elim
  · exact h.elim
/-- rows[a][b] -/
def dMIx (i : Nat) (t1 t2 : T2E) : T2E := fun env Q => match env[i]? with
  | some (some (.mat rows)) => t1 env fun x => atRow rows x fun _ row => t2 env fun y => atRow row y fun _ d => Q d
  | _ => False
/-- rows[a][b] = v -/
def dMSet (i : Nat) (t1 t2 tv : T2E) : T2S := fun E env => tv env fun v => match env[i]? with
  | some (some (.mat rows)) => t1 env fun x => atRow rows x fun k row => t2 env fun y => atRow row y fun j _ => E.nx (env.set i (some (.mat (rows.set k (row.set j v)))))
  | _ => False
section
variable {K : Fg} {ta tb tv : TE} {t1 t2 v2 : T2E}
theorem se_mIx (i : Nat) (h1 : SE K ta t1) (h2 : SE K tb t2) : SE K (tOp (rIx K) (tOp (rIx K) (tVar i) ta) tb) (dMIx i t1 t2) := by
  intro p env σ I H Q2 Q rl q kk
  unfold dMIx at q
  split at q
  · rename_i rows e2
    obtain ⟨v, hv, a, bs, rfl, f2, f3, f4, f5, f6⟩ := rl.r.sl i _ e2
    refine ⟨_, hv, h1 p env σ I H _ _ rl q fun d w I1 H1 q1 s1 r1 => ?_⟩
    obtain ⟨k, k', row, rfl, ex, er, q1⟩ := atRow_of q1
    cases r1
    have ne : ∀ b, p.H0 b = none → p.m ≠ some b := fun b z q => (rl.r.st b q).1 z
    have g4 := s1.gr.hh a _ f4 (ne a f2)
    obtain ⟨b, vs, hb, hH, hr⟩ := f6.get k' row er
    have hbm : b ∈ bs := List.mem_of_getElem? hb
    have live := f6.live b hbm
    have eb : atI (bs.map V.ref) k = some (.ref b) := by
      unfold atI
      rw [List.length_map, f6.length, ex]
      show (bs.map V.ref)[k']? = _
      rw [List.getElem?_map, hb]
      rfl
    refine .inl ⟨a, _, k, _, rfl, rfl, SqL.of g4, eb, ?_⟩
    refine h2 p env σ I1 H1 _ _ (rl.stp s1) q1 fun d w I2 H2 q2 s2 r2 => ?_
    obtain ⟨j, j', d', rfl, ej, ed, q2⟩ := atRow_of q2
    cases r2
    have s12 := s1.trans s2
    have gH := s12.gr.hh b _ hH (ne b live.1)
    have ed2 : atI row j = some d' := by
      unfold atI
      rw [ej]
      exact ed
    obtain ⟨u, hu, ru⟩ := atI_rp (Rps.mono s12.ii _ _ hr) ed2
    exact .inl ⟨b, vs, j, u, rfl, rfl, SqL.of gH, hu, kk _ _ _ _ q2 s12 ru⟩
  · exact q.elim
theorem ss_mSet (i : Nat) (h1 : SE K ta t1) (h2 : SE K tb t2) (hv : SE K tv v2) : SS K (tAsg tv (gSub (tOp (rIx K) (tVar i) ta) tb rSetL)) (dMSet i t1 t2 v2) := by
  intro p env σ I H D2 E r q e
  refine hv p env σ I H _ _ r q fun d v I0 H0' q0 s0 r0 => ?_
  split at q0
  · rename_i rows e2
    have rl := r.stp s0
    obtain ⟨va, hva, a, bs, rfl, f2, f3, f4, f5, f6⟩ := rl.r.sl i _ e2
    refine ⟨_, hva, h1 p env σ I0 H0' _ _ rl q0 fun dk w I1 H1 q1 s1 r1 => ?_⟩
    obtain ⟨k, k', row, rfl, ex, er, q1⟩ := atRow_of q1
    cases r1
    have ne : ∀ b, p.H0 b = none → p.m ≠ some b := fun b z q => (rl.r.st b q).1 z
    have g4 := s1.gr.hh a _ f4 (ne a f2)
    obtain ⟨b, vs, hb, hH, hr⟩ := f6.get k' row er
    have hbm : b ∈ bs := List.mem_of_getElem? hb
    have live := f6.live b hbm
    have eb : atI (bs.map V.ref) k = some (.ref b) := by
      unfold atI
      rw [List.length_map, f6.length, ex]
      show (bs.map V.ref)[k']? = _
      rw [List.getElem?_map, hb]
      rfl
    refine .inl ⟨a, _, k, _, rfl, rfl, SqL.of g4, eb, ?_⟩
    refine h2 p env σ I1 H1 _ _ (rl.stp s1) q1 fun dj w I2 H2 q2 s2 r2 => ?_
    obtain ⟨j, j', d', rfl, ej, ed, q2⟩ := atRow_of q2
    cases r2
    have s12 := s1.trans s2
    have gH := s12.gr.hh b _ hH (ne b live.1)
    have ga := s12.gr.hh a _ f4 (ne a f2)
    refine ⟨b, vs, j, j', rfl, rfl, gH, by rw [hr.length]; exact ej, ?_⟩
    exact e.nx _ _ _ _ q2 ((rl.stp s12).mutMat e2 hva ga hb (Rps.set (Rp.mono s12.ii _ _ r0) j' (Rps.mono s12.ii _ _ hr)))
  · exact q0.elim
end
section
variable {K : Fg} {p : P0} {env : Ev} {σ : L2.St} {I H I' H' : Hp}
/-- a name is given a table of its own -/
theorem RelL.setMat (r : RelL K p env σ I H) {a : Addr} {bs : List Addr} {rows : List (List D)} (h0 : p.H0 a = none) (h1 : I a = none) (h2 : H a = some (.lst (bs.map V.ref))) (h3 : a ∉ bs) (m : MR K p.H0 I H bs rows)
    (hc : ∀ (j : Nat) (x : Sl) (v : V) (c : Addr), env[j]? = some (some x) → σ[j]? = some (some v) → (c = a ∨ c ∈ bs) → ¬ Cell x v H c) (i : Nat) : RelL K p (env.set i (some (.mat rows))) (σ.set i (some (.ref a))) I H := by
  have cells : ∀ c, Cell (.mat rows) (.ref a) H c → c = a ∨ c ∈ bs := fun c h => by
    rcases h with h | ⟨a', cs, e1, e2, e3⟩
    · cases h; exact .inl rfl
    · cases e1
      rw [h2] at e2
      rw [← refs_inj (HO.lst.inj (Option.some.inj e2))] at e3
      exact .inr e3
  refine ⟨⟨r.r.gr, fun j x e => ?_, fun j k x y b n e1 e2 e3 e4 => ?_, r.r.st, r.r.bs, r.r.sd.set _ _ _ (fun _ _ z => nomatch z), fun j k y z u1 u2 c n hm e1 e2 e3 e4 c1 c2 => ?_⟩, by rw [List.length_set, List.length_set]; exact r.len⟩
  · rcases getSet e with ⟨rfl, q, hl⟩ | ⟨n, q⟩
    · cases q
      exact ⟨_, List.getElem?_set_self (by rw [← r.len]; exact hl), a, bs, rfl, h0, h1, h2, h3, m⟩
    · obtain ⟨u, hu, q⟩ := r.r.sl j x q
      exact ⟨u, by rw [List.getElem?_set_ne n]; exact hu, q⟩
  · rcases getSet e1 with ⟨_, q, _⟩ | ⟨n1, q1⟩
    · cases q
    · rcases getSet e2 with ⟨_, q, _⟩ | ⟨n2, q2⟩
      · cases q
      · rw [List.getElem?_set_ne n1] at e3
        rw [List.getElem?_set_ne n2] at e4
        exact r.r.sep j k x y b n q1 q2 e3 e4
  · rcases getSet e1 with ⟨rfl, q, hl⟩ | ⟨n1, q1⟩
    · rw [List.getElem?_set_self (by rw [← r.len]; exact hl)] at e3
      cases e3
      cases q
      rcases getSet e2 with ⟨z, _, _⟩ | ⟨n2, q2⟩
      · exact n z
      · rw [List.getElem?_set_ne n2] at e4
        exact hc k z u2 c q2 e4 (cells c c1) c2
    · rw [List.getElem?_set_ne n1] at e3
      rcases getSet e2 with ⟨rfl, q, hl⟩ | ⟨n2, q2⟩
      · rw [List.getElem?_set_self (by rw [← r.len]; exact hl)] at e4
        cases e4
        cases q
        exact hc j y u1 c q1 e3 (cells c c2) c1
      · rw [List.getElem?_set_ne n2] at e4
        exact r.r.sm j k y z u1 u2 c n hm q1 q2 e3 e4 c1 c2
end
def lcM (g : T2G) (te : T2A) (env : Ev) : List D → (List (List D) → Prop) → Prop
  | [], Q => Q []
  | d :: ds, Q => g d env fun env1 => te env1 fun row => lcM g te env ds fun rs => Q (row :: rs)
/-- rows = [[..] for ..]: a table of one's own -/
def dNewM (i : Nat) (ti : T2I) (g : T2G) (te : T2A) (vs : List Nat) : T2S := fun E env => ti env fun ds => ds.length ≤ 1000000 ∧ lcM g te (wipeE env vs) ds fun rows => E.nx (env.set i (some (.mat rows)))
theorem ss_newM {K : Fg} {wi : TI} {g : TG} {tt : TT} {te : TE} {ti : T2I} {g2 : T2G} {te2 : T2A} {vs : List Nat} (i : Nat) (hi : SI K wi ti) (hg : SG K vs g g2) (ht : ST K tt fun _ Q => Q true) (he : SO K te te2) :
    SS K (tAsg (tLc wi g tt te vs) (gName i)) (dNewM i ti g2 te2 vs) := by
  intro p env σ I H D2 E rl q e
  refine hi p env σ I H _ _ rl q fun ds J I1 H1 ⟨hlen, q1⟩ s1 it => ?_
  intro D hD
  have rl1 := rl.stp s1
  have h0of : ∀ c, H1 c = none → p.H0 c = none := fun c hc => by
    cases e : p.H0 c with
    | none => rfl
    | some o => exact absurd hc (rl1.r.gr.th c (by rw [e]; exact fun z => nomatch z))
  have hD0 := h0of D hD
  have hDI : I1 D = none := Same.free s1.ih hD
  have hm : p.m ≠ some D := fun e => (rl1.r.st D e).1 hD0
  have hown : ∀ (j : Nat) (x : List PyData), env[j]? = some (some (Sl.own x)) → σ[j]? ≠ some (some (V.ref D)) := fun j x e z => by
    obtain ⟨v, hv, a, ws, rfl, _, _, e4, _⟩ := rl1.r.sl j _ e
    rw [hv] at z
    cases z
    rw [hD] at e4; cases e4
  refine ⟨fun n m H' => m = ds.length - n ∧ n ≤ ds.length ∧ ∃ I' bs ys, RelL K p env σ I' H' ∧ Stp p I1 H1 I' H' ∧ I' D = none ∧ H' D = some (.lst (bs.map V.ref)) ∧ MR K p.H0 I' H' bs ys ∧ D ∉ bs ∧ (∀ b ∈ bs, H1 b = none) ∧ bs.length ≤ n ∧ lcM g2 te2 (wipeE env vs) (ds.drop n) fun zs => D2.nx (env.set i (some (.mat (ys ++ zs)))),
    ⟨ds.length, by simp, Nat.zero_le _, I1, [], [], rl1.beside hD0 hDI (fun _ _ z => by rw [hD] at z; cases z) (fun _ z => by rw [hD] at z; cases z) (rl1.freshCell (.refl rl1.same) hD) hown, Stp.fresh s1.ih hD, hDI, upd_same, .nil, List.not_mem_nil, fun b hb => absurd hb List.not_mem_nil, Nat.le_refl _, q1⟩, ?_⟩
  rintro n m H' ⟨rfl, hn', I', bs, ys, r', st', hDI', hDH', mr, hDb, hb1, hbl, q'⟩
  by_cases hlt : n < ds.length
  · refine .inr ⟨it.go n I' H' st'.ii st'.ih hlt, fun H'' => ∃ I'' bs ys, RelL K p env σ I'' H'' ∧ Stp p I1 H1 I'' H'' ∧ I'' D = none ∧ H'' D = some (.lst (bs.map V.ref)) ∧ MR K p.H0 I'' H'' bs ys ∧ D ∉ bs ∧ (∀ b ∈ bs, H1 b = none) ∧ bs.length ≤ n + 1 ∧ lcM g2 te2 (wipeE env vs) (ds.drop (n + 1)) fun zs => D2.nx (env.set i (some (.mat (ys ++ zs)))),
      fun H'' z => ⟨ds.length - (n + 1), by omega, rfl, by omega, z⟩, fun x H2 y => ?_⟩
    obtain ⟨I2, d, g1, hd, rd⟩ := it.yld n x I' H' H2 st'.ii st'.ih hlt y
    have hdrop : ds.drop n = d :: ds.drop (n + 1) := by
      have hdd : ds[n] = d := Option.some.inj ((List.getElem?_eq_getElem hlt).symm.trans hd)
      rw [List.drop_eq_getElem_cons hlt, hdd]
    rw [hdrop] at q'
    have st2 := st'.trans (Stp.of (p := p) g1)
    have r2 := r'.grow' g1
    have keepD : ∀ {I3 H3 I4 H4}, Stp p I3 H3 I4 H4 → I3 D = none → H3 D = some (.lst (bs.map V.ref)) → I4 D = none ∧ H4 D = some (.lst (bs.map V.ref)) := fun s a b =>
      ⟨s.gr.fr D a (by rw [b]; exact fun z => nomatch z), s.gr.hh D _ b hm⟩
    obtain ⟨d2, d3⟩ := keepD (Stp.of (p := p) g1) hDI' hDH'
    refine hg p (wipeE env vs) (L2.wipe σ vs) I2 H2 x d _ _ (r2.wipe vs) rd q' fun env1 σ1 I3 H3 q3 r3 s3 w3 => ⟨by rw [w3]; exact wipe_wipe σ vs, ?_⟩
    obtain ⟨d4, d5⟩ := keepD s3 d2 d3
    refine ht p env1 σ1 I3 H3 (fun b => b = true) _ r3 rfl fun b I4 H4 q4 s4 => ?_
    subst q4
    rw [if_pos rfl]
    obtain ⟨d6, d7⟩ := keepD s4 d4 d5
    have s34 := s3.trans s4
    refine he p env1 σ1 I4 H4 _ _ (r3.stp s4) q3 fun es l ws I5 H5 q5 s5 l0 l1 l2 l3 => ?_
    obtain ⟨d8, d9⟩ := keepD s5 d6 d7
    have s35 := s34.trans s5
    have st5 := st2.trans s35
    have r6 := r2.stp s35
    have st4 := st2.trans s34
    have hl1 : H1 l = none := by
      cases e : H1 l with
      | none => rfl
      | some o => exact absurd l0 (st4.gr.th l (by rw [e]; exact fun z => nomatch z))
    have hlD : l ≠ D := fun w => by rw [w, d7] at l0; cases l0
    have sA : Stp p I' H' I5 H5 := (Stp.of (p := p) g1).trans s35
    have hlb : l ∉ bs := fun w => by
      obtain ⟨_, _, vs2, hv2⟩ := mr.live l w
      have := ((Stp.of (p := p) g1).trans s34).gr.th l (by rw [hv2]; exact fun z => nomatch z)
      exact this l0
    have nb : ∀ b, p.H0 b = none → p.m ≠ some b := fun b z q => (rl1.r.st b q).1 z
    have mr5 : MR K p.H0 I5 H5 bs ys := mr.stays sA.ii fun b hb z1 z2 z3 => ⟨sA.gr.fr b z2 z3, by
      cases hz : H' b with
      | none => exact absurd hz z3
      | some o => exact sA.gr.hh b o hz (nb b z1)⟩
    have mr6 := mr5.snoc (h0of l hl1) l1 l2 l3 hlb
    have hDb6 : D ∉ bs ++ [l] := fun w => by
      rcases List.mem_append.mp w with w | w
      · exact hDb w
      · exact hlD (List.mem_singleton.mp w).symm
    refine ⟨_, d9, ?_, I5, bs ++ [l], ys ++ [es], r6.beside hD0 d8 (fun _ _ z => by rw [d9] at z; exact nomatch z) (fun _ z => by rw [d9] at z; exact nomatch z) (rl1.freshCell st5 hD) hown, ⟨⟨st5.ii, fun b o z => by rw [upd_ne (ne_of_none z d8)]; exact st5.ih b o z, fun b o z n => ?_, st5.gr.fr, fun b z => ?_⟩, fun s e1 e2 => ?_⟩, d8, ?_,
        mr6.stays (Same.refl _) fun c hc z1 z2 z3 => ⟨z2, upd_ne fun w => hDb6 (by rw [← w]; exact hc)⟩, hDb6, fun b hb => ?_, by rw [List.length_append, List.length_singleton]; omega, ?_⟩
    · rw [List.length_map]
      exact Nat.lt_of_le_of_lt hbl (Nat.lt_of_lt_of_le hlt (le_line hlen))
    · have hb : b ≠ D := fun w => by rw [w, hD] at z; cases z
      rw [upd_ne hb]; exact st5.gr.hh b o z n
    · have hb : b ≠ D := fun w => z (by rw [w]; exact hD)
      rw [upd_ne hb]; exact st5.gr.th b z
    · obtain ⟨f0, l', c, n', ns, f1, f2, f3⟩ := st5.st s e1 e2
      have hs : s ≠ D := fun w => hm (by rw [e1, w])
      exact ⟨f0, l', c, n', ns, by rw [upd_ne hs]; exact f1, f2, f3⟩
    · rw [upd_same, List.map_append]
      rfl
    · rcases List.mem_append.mp hb with hb | hb
      · exact hb1 b hb
      · rw [List.mem_singleton.mp hb]; exact hl1
    · have ee : ∀ zs : List (List PyData), (ys ++ [es]) ++ zs = ys ++ (es :: zs) := fun zs => by rw [List.append_assoc]; rfl
      simp only [ee]
      exact q5
  · have hn2 : n = ds.length := by omega
    subst hn2
    rw [List.drop_length] at q'
    have q' : D2.nx (env.set i (some (.mat (ys ++ [])))) := q'
    rw [List.append_nil] at q'
    refine .inl ⟨it.stop _ I' H' st'.ii st'.ih rfl, ?_⟩
    refine e.nx _ _ _ _ q' (r'.setMat hD0 hDI' hDH' hDb mr (fun j x v c ex sv hc cc => ?_) i)
    have c1 := rl1.cellBack st' ex sv cc
    obtain ⟨u, hu, sl⟩ := rl1.r.sl j x ex
    rw [sv] at hu
    cases hu
    obtain ⟨_, _, vs2, hv2⟩ := cell_live sl c1
    rcases hc with rfl | hc
    · rw [hD] at hv2; cases hv2
    · rw [hb1 c hc] at hv2; cases hv2
theorem MR.rps {K : Fg} {H0 I I' H : Hp} {bs : List Addr} {rows : List (List D)} (ii : Same I I') (m : MR K H0 I H bs rows) (h : ∀ b ∈ bs, I' b = H b) : Rps K I' (bs.map V.ref) (rows.map PyData.list) := by
  induction m with
  | nil => exact .nil
  | @cons b vs ds bs rows h1 h2 h3 h4 h5 t ih =>
    exact .cons (.lst ((h b List.mem_cons_self).trans h3) (Rps.mono ii _ _ h4)) (ih fun c hc => h c (List.mem_cons_of_mem _ hc))
section
variable {K : Fg} {p : P0} {env : Ev} {σ : L2.St} {I H I' H' : Hp}
/-- an own table becomes data -/
theorem RelL.freezeMat (r : RelL K p env σ I H) {i : Nat} {rows : List (List D)} (e : env[i]? = some (some (.mat rows))) : ∃ I', Same I I' ∧ RelL K p (env.set i (some (.dat (.list (rows.map PyData.list))))) σ I' H := by
  obtain ⟨v, hv, a, bs, rfl, e2, e3, e4, e5, e6⟩ := r.r.sl i _ e
  let I' : Hp := fun c => if c = a ∨ c ∈ bs then H c else I c
  have inn : ∀ c, (c = a ∨ c ∈ bs) → I' c = H c := fun c h => if_pos h
  have out : ∀ c, ¬ (c = a ∨ c ∈ bs) → I' c = I c := fun c h => if_neg h
  have cellsI : ∀ c, (c = a ∨ c ∈ bs) → p.H0 c = none ∧ I c = none ∧ ∃ vs, H c = some (.lst vs) := fun c h => by
    rcases h with rfl | h
    · exact ⟨e2, e3, _, e4⟩
    · exact e6.live c h
  have ii : Same I I' := fun c o q => by
    rw [out c fun w => by rw [(cellsI c w).2.1] at q; cases q]
    exact q
  have cell : ∀ c, (c = a ∨ c ∈ bs) → Cell (.mat rows) (.ref a) H c := fun c h => by
    rcases h with rfl | h
    · exact .inl rfl
    · exact .inr ⟨a, bs, rfl, e4, h⟩
  have oth : ∀ (j : Nat) (x : Sl) (v : V) (c : Addr), i ≠ j → env[j]? = some (some x) → σ[j]? = some (some v) → Cell x v H c → ¬ (c = a ∨ c ∈ bs) := fun j x v c n f1 f2 cc w => r.r.sm i j (.mat rows) x (.ref a) v c n (by simp [isMat]) e f1 hv f2 (cell c w) cc
  refine ⟨I', ii, ⟨⟨r.r.gr.ii.trans ii, fun b o q => ?_, r.r.gr.hh, fun b q n => ?_, r.r.gr.th⟩, fun j x q => ?_, fun j k x y b n q1 q2 q3 q4 => ?_, fun s q => ⟨(r.r.st s q).1, ?_⟩, r.r.bs.trans ii, r.r.sd.setE _ _ (fun _ _ z => nomatch z), r.r.sm.setE _ _ (fun y z u c cc => by cases z; exact cc.elim)⟩, by rw [List.length_set]; exact r.len⟩
  · by_cases w : b = a ∨ b ∈ bs
    · rw [inn b w] at q; exact q
    · rw [out b w] at q; exact r.r.gr.ih b o q
  · rw [out b fun w => n (cellsI b w).1]
    exact r.r.gr.fr b q n
  · rcases getSet q with ⟨rfl, z, hl⟩ | ⟨n, z⟩
    · cases z
      exact ⟨_, hv, .lst ((inn a (.inl rfl)).trans e4) (e6.rps ii fun b hb => inn b (.inr hb))⟩
    · obtain ⟨u, hu, z2⟩ := r.r.sl j x z
      refine ⟨u, hu, ?_⟩
      cases x with
      | dat d => exact Rp.mono ii d u z2
      | rng _ => obtain ⟨a_, e1_, e2_⟩ := z2; exact ⟨a_, e1_, (ii) _ _ e2_⟩
      | own es =>
        obtain ⟨b, ws, f1, f2, f3, f4, f5⟩ := z2
        subst f1
        exact ⟨b, ws, rfl, f2, (out b (oth j _ _ b n z hu rfl)).trans f3, f4, Rps.mono ii es ws f5⟩
      | strm => exact z2
      | lnt x =>
        obtain ⟨b, f1, f2, f3, f4⟩ := z2
        exact ⟨b, f1, f2, f3, f4.stays ii fun o q => q⟩
      | dct w ks =>
        obtain ⟨b, ws, f1, f2, f3, f4, f5⟩ := z2
        subst f1
        refine ⟨b, ws, rfl, f2, (out b fun w2 => ?_).trans f3, f4, KD.mono ii f5⟩
        obtain ⟨_, _, vs2, hv2⟩ := cellsI b w2
        rw [hv2] at f4
        exact nomatch f4
      | dki ks =>
        obtain ⟨b, ws, f1, f2, f3, f4, f5⟩ := z2
        subst f1
        refine ⟨b, ws, rfl, f2, (out b fun w2 => ?_).trans f3, f4, KDI.mono ii f5⟩
        obtain ⟨_, _, vs2, hv2⟩ := cellsI b w2
        rw [hv2] at f4
        exact nomatch f4
      | mat rows2 =>
        obtain ⟨b, cs, f1, f2, f3, f4, f5, f6⟩ := z2
        subst f1
        refine ⟨b, cs, rfl, f2, (out b (oth j _ _ b n z hu (.inl rfl))).trans f3, f4, f5, f6.stays ii fun c hc z1 z2 z3 => ⟨(out c (oth j _ _ c n z hu (.inr ⟨b, cs, rfl, f4, hc⟩))).trans z2, rfl⟩⟩
  · rcases getSet q1 with ⟨_, z, _⟩ | ⟨n1, z1⟩
    · cases z
    · rcases getSet q2 with ⟨_, z, _⟩ | ⟨n2, z2⟩
      · cases z
      · exact r.r.sep j k x y b n z1 z2 q3 q4
  · obtain ⟨f0, l, c, k, ns, f1, f2, f3⟩ := (r.r.st s q).2
    refine ⟨(out s fun w => (r.r.st s q).1 (cellsI s w).1).trans f0, l, c, k, ns, f1, ii _ _ f2, f3⟩
end
def dFrzM (i : Nat) (t : T2S) : T2S := fun E env => match env[i]? with | some (some (.mat rows)) => t E (env.set i (some (.dat (.list (rows.map PyData.list))))) | some (some (.dat _)) => t E env | _ => False
theorem ss_frzM {K : Fg} {ts : TS} {t : T2S} (i : Nat) (h : SS K ts t) : SS K ts (dFrzM i t) := by
  intro p env σ I H D2 E r q e
  unfold dFrzM at q
  split at q
  · rename_i rows e2
    obtain ⟨I', ii, r'⟩ := r.freezeMat e2
    exact h p _ σ I' H D2 E r' q e
  · exact h p env σ I H D2 E r q e
  · exact q.elim
/-! ### a, b = x, y -/
def dPar (i j : Nat) (t : T2A) : T2S := fun E env => t env fun ds => match ds with | [d, e] => E.nx ((env.set i (some (.dat d))).set j (some (.dat e))) | _ => False
theorem ss_par {K : Fg} {n : Nat} {ta : TA} {t : T2A} (i j : Nat) (h : SA K n ta t) : SS K (tPar i j ta) (dPar i j t) := by
  intro p env σ I H D2 E r q e
  refine h p env σ I H _ _ r q fun ds vs I1 H1 q1 hl s1 h1 => ?_
  split at q1
  · cases h1 with
    | cons a1 h1 =>
      cases h1 with
      | cons a2 h1 =>
        cases h1
        exact ⟨_, _, rfl, e.nx _ _ _ _ q1 (((r.stp s1).setDat a1 i).setDat a2 j)⟩
  · exact q1.elim
end Z2
namespace Z2
open PySem PySem.Spec PyProof.Rows L2
theorem pe_gstr {X : Cx} {x : Str} {n : Str} {pos : Pos} (h : ∃ t, X.mg x = some (.str n t)) (hg : Gl X x) (hd : (x == ("__debug__" : Str)) = false := by decide) : PE X (.Name x pos) (tC (.str n)) := by
  obtain ⟨t, h⟩ := h
  exact pe_glob hg h ⟨t, rfl⟩ hd
section
variable {prog : Program} {w : World} {A : Around} {E : Value → Shared → Prop} {s : Shared}
theorem max_eq (l : Addr) (d : Value) : Builtin.max { pos := [.ref l], kw := [("default", d)] } = (do
   let it ← pyIter (.ref l)
   let b ← newList []
   again (Code.builtin "max.loop" { pos := [it, Value.none, b], kw := [("default", d)] })) := by
  rfl
theorem maxdf_loop {R : Result → Shared → Prop} {I S : Addr} {d : Value} {fp wr : List Addr} {n : Nat} {P : Nat → Value → Prop} {St : Nat → Heap → Prop} (W : Walks prog w A.in1 I fp wr n P St) (bt : Nat → Nat → Bool) (hc : CmpOf prog w A.in1 CmpOp.Gt P bt) (hS : ¬ S ∈ fp) :
    ∀ (k j : Nat) (s : Shared) (vb : Value) (c : Nat), n - (j + 1) = k → j + 1 ≤ n → St (j + 1) s.heap → P (argBest bt j) vb → s.heap.get? S = some { cls := .type "list", data := .seq #[vb, vb] c } →
      (∀ (v : Value) (h' : Heap) (tk : Nat), P (argBest bt (n - 1)) v → (∀ (b : Addr) (o : Obj), ¬ b ∈ wr → b ≠ S → s.heap.get? b = some o → h'.get? b = some o) → R (.ok (.ret v)) { s with heap := h', toks := tk }) →
      codeAny (model prog w) A (Code.builtin "max.loop" { pos := [.ref I, .none, .ref S], kw := [("default", d)] }) R s := by
  intro k
  induction k with
  | zero =>
    intro j s vb c hk hj st hp hs hq
    have hn : n = j + 1 := by omega
    refine codeAny_builtin F.entry_max_loop ?_
    show wpAny (model prog w) A.in1 _ _ _ _
    refine wpAny_bind (wpAny_seqItems hs rfl ?_)
    refine wpAny_bind (show wpAny _ _ (tryCatch _ _) _ _ _ from wpAny_tryCatch (W.done _ _ _ (by rw [hn]; exact st) fun h' tk keep => ?_))
    have hs' := keep S _ (fun q => hS (W.sub _ q)) hs
    refine wpAny_bind (wpAny_updateSeq hs' rfl (wpAny_bind (wpAny_letGo (wpAny_pure ?_))) (by show 2 ≤ _; rw [sizeLine_eq]; decide) (by show 0 ≤ _; omega))
    have e : n - 1 = j := by omega
    refine hq vb _ _ (by rw [e]; exact hp) fun b o hb hne ho => ?_
    exact (Heap.get?_update_ne _ _ _ _ hne).trans (keep b o hb ho)
  | succ k ih =>
    intro j s vb c hk hj st hp hs hq
    refine codeAny_builtin F.entry_max_loop ?_
    show wpAny (model prog w) A.in1 _ _ _ _
    refine wpAny_bind (wpAny_seqItems hs rfl ?_)
    refine wpAny_bind (show wpAny _ _ (tryCatch _ _) _ _ _ from wpAny_tryCatch (W.item (j + 1) _ _ _ (by omega) st fun v h' tk pv st' keep => ?_))
    have hs' := keep S _ (fun q => hS (W.sub _ q)) hs
    refine wpAny_bind (wpAny_pure ?_)
    refine wpAny_bind (show wpAny _ _ (tryCatch _ _) _ _ _ from wpAny_tryCatch (wpAny_holding ?_))
    refine wpAny_bind (hc (j + 1) (argBest bt j) v vb _ _ _ pv hp ?_)
    refine wpAny_bind (wpAny_holding (wpAny_truthy_bool ?_))
    refine wpAny_bind (wpAny_letGo (wpAny_pure ?_))
    by_cases hb : bt (j + 1) (argBest bt j) = true
    · rw [if_pos hb]
      refine wpAny_bind (wpAny_updateSeq hs' rfl (wpAny_bind (wpAny_letGo (wpAny_pure ⟨rfl, ?_⟩))) (by show 2 ≤ _; rw [sizeLine_eq]; decide) (by show 2 ≤ _; rw [sizeLine_eq]; decide))
      refine ih (j + 1) _ v c (by omega) (by omega) ?_ (by rw [argBest.eq_2, if_pos hb]; exact pv) ?_ fun v' h'' tk' hp' keep' => ?_
      · exact W.frame _ _ _ st' fun b hb o ho => (Heap.get?_update_ne _ _ _ _ (fun q => hS (by rw [← q]; exact hb))).trans ho
      · exact (Heap.get?_update_self (Obj.mapSeq fun _ => #[v, v]) hs' rfl)
      · exact hq v' h'' tk' hp' fun b o hb hne ho => keep' b o hb hne ((Heap.get?_update_ne _ _ _ _ hne).trans (keep b o hb ho))
    · rw [if_neg hb]
      refine wpAny_bind (wpAny_letGo (wpAny_pure ⟨rfl, ?_⟩))
      refine ih (j + 1) _ vb c (by omega) (by omega) st' (by rw [argBest.eq_2, if_neg hb]; exact hp) hs' fun v' h'' tk' hp' keep' => ?_
      exact hq v' h'' tk' hp' fun b o hb hne ho => keep' b o hb hne (keep b o hb ho)
end
abbrev rmaxDf (K : Fg) : List V → List V → Hp → VK → Prop := fun xs zs H Q => ∃ (p : Addr) (ns : List Int) (z : V), xs = [.ref p] ∧ zs = [z] ∧ SqL K H p (ns.map V.int) ∧ (ns = [] → Q z H) ∧ (ns ≠ [] → Q (.int (maxD ns)) H)
theorem crk_max {X : Cx} (hc : X.calm = true) : CallRK X (.builtin "max") [("default" : Str)] (rmaxDf X.K) := by
  rintro pins s σ H xs zs us ws Q I rx rz ⟨p, ns, z, rfl, rfl, hq, h0, h1⟩
  cases rx with
  | cons rx0 rx1 =>
    cases rx1
    cases rz with
    | cons rz0 rz1 =>
      cases rz1
      rename_i u d
      obtain rfl : u = .ref p := rx0
      obtain ⟨its, rv, pl, hz⟩ := I.list hq
      have hd := I.ok.hd hc
      refine wpAny_call (codeAny_call_builtin F.plain_max F.entry_max ?_)
      show wpAny (model X.prog X.w) _ (pure ()) _ _ _
      refine wpAny_pure ?_
      show wpAny (model X.prog X.w) _ (Builtin.max { pos := [.ref p], kw := [("default", d)] }) _ _ _
      rw [max_eq]
      have il : s.heap.IsList p its.toArray := by
        obtain ⟨o, n, g1, g2, g3, g4⟩ := pl
        exact ⟨o, g1, g2, n, g4⟩
      refine wpAny_bind (wpAny_pyIter_list il ?_)
      refine wpAny_bind (wpAny_newList ?_)
      refine wpAny_pure ⟨rfl, ?_⟩
      have hlen : its.length = ns.length := by have := rv.length; rw [List.length_map] at this; exact this.symm
      have hpl : p < s.heap.objs.size := by obtain ⟨o, g1, _⟩ := il; exact Heap.lt_size g1
      have W := Walks.list (prog := X.prog) (w := X.w) (A := X.A.in1) hd s.heap.objs.size p (Nat.ne_of_lt hpl) its.toArray
      have hval : ∀ (i : Nat) (v : Value), its.toArray[i]? = some v → ∃ t, v = Value.int (ns.getD i 0) t := fun i v hv => by
        have hi : i < ns.length := by
          rw [← hlen]
          have := (Array.getElem?_eq_some_iff.mp hv).1
          simpa using this
        obtain ⟨u, hu, ru⟩ := rv.get (i := i) (x := .int ns[i]) (by rw [List.getElem?_map, List.getElem?_eq_getElem hi]; rfl)
        have : its.toArray[i]? = some u := by simpa using hu
        rw [this] at hv
        cases hv
        obtain ⟨t, rfl⟩ := ru
        exact ⟨t, by rw [List.getD_eq_getElem?_getD, List.getElem?_eq_getElem hi]; rfl⟩
      have hc := CmpOf.ints_gt (prog := X.prog) (w := X.w) (A := X.A.in1) (P := fun i v => its.toArray[i]? = some v) (fun i => ns.getD i 0) hval
      have keep0 : ∀ (b : Addr) (o : Obj), s.heap.get? b = some o → ((s.heap.push { cls := .type "list_iterator", data := .fields #[.ref p, .int 0 0] }).push { cls := .type "list", data := .seq ([] : List Value).toArray }).get? b = some o := fun b o h => Heap.get?_push_of_some _ (Heap.get?_push_of_some _ h)
      have hIt : ((s.heap.push { cls := .type "list_iterator", data := .fields #[.ref p, .int 0 0] }).push { cls := .type "list", data := .seq ([] : List Value).toArray }).IsListIter s.heap.objs.size p 0 := ⟨_, Heap.get?_push_of_some _ (Heap.get?_push_size _ rfl), rfl, rfl⟩
      have hIl : ((s.heap.push { cls := .type "list_iterator", data := .fields #[.ref p, .int 0 0] }).push { cls := .type "list", data := .seq ([] : List Value).toArray }).IsList p its.toArray := by
        obtain ⟨o, g1, g2⟩ := il; exact ⟨o, keep0 _ _ g1, g2⟩
      have hSz : (s.heap.push { cls := .type "list_iterator", data := .fields #[.ref p, .int 0 0] }).objs.size = s.heap.objs.size + 1 := Heap.size_push _ _
      have hS : ((s.heap.push { cls := .type "list_iterator", data := .fields #[.ref p, .int 0 0] }).push { cls := .type "list", data := .seq ([] : List Value).toArray }).get? (s.heap.push { cls := .type "list_iterator", data := .fields #[.ref p, .int 0 0] }).objs.size = some { cls := .type "list", data := .seq #[] } := Heap.get?_push_size _ rfl
      have hSfp : ¬ (s.heap.push { cls := .type "list_iterator", data := .fields #[.ref p, .int 0 0] }).objs.size ∈ [s.heap.objs.size, p] := by
        rw [hSz]
        intro q
        rcases List.mem_cons.mp q with q | q
        · exact Nat.succ_ne_self _ q
        · rcases List.mem_cons.mp q with q | q
          · exact Nat.ne_of_gt (Nat.lt_succ_of_lt hpl) q
          · exact absurd q List.not_mem_nil
      have hout : ∀ (b : Addr) (o : Obj), s.heap.get? b = some o → ¬ b ∈ [s.heap.objs.size] ∧ b ≠ (s.heap.push { cls := .type "list_iterator", data := .fields #[.ref p, .int 0 0] }).objs.size := fun b o h => by
        have h3 : b < s.heap.objs.size := Heap.lt_size h
        rw [hSz]
        exact ⟨fun q => Nat.ne_of_lt h3 (List.mem_singleton.mp q), Nat.ne_of_lt (Nat.lt_succ_of_lt h3)⟩
      generalize (s.heap.push { cls := .type "list_iterator", data := .fields #[.ref p, .int 0 0] }).objs.size = S at *
      generalize ((s.heap.push { cls := .type "list_iterator", data := .fields #[.ref p, .int 0 0] }).push { cls := .type "list", data := .seq ([] : List Value).toArray }) = hp2 at *
      refine codeAny_builtin F.entry_max_loop ?_
      show wpAny (model X.prog X.w) X.A.in1 _ _ _ _
      refine wpAny_bind (wpAny_seqItems hS rfl ?_)
      cases hns : ns with
      | nil =>
        have hz0 : its.toArray.size = 0 := by rw [hns] at hlen; simpa using hlen
        refine wpAny_bind (show wpAny _ _ (tryCatch _ _) _ _ _ from wpAny_tryCatch (W.done _ _ _ (by rw [hz0]; exact ⟨hIt, hIl⟩) fun h' tk keep => ?_))
        refine wpAny_bind (wpAny_rule (wpAny_pure ?_))
        refine ⟨z, H, I.kept (t' := tk) fun b o h => keep b o (hout b o h).1 (keep0 b o h), rz0, h0 hns⟩
      | cons n0 ns' =>
        have hpos : 0 < its.toArray.size := by rw [List.size_toArray, hlen, hns]; simp
        refine wpAny_bind (show wpAny _ _ (tryCatch _ _) _ _ _ from wpAny_tryCatch (W.item 0 _ _ _ hpos ⟨hIt, hIl⟩ fun v h' tk pv st' keep => ?_))
        have hs' := keep S _ (fun q => hSfp (W.sub _ q)) hS
        refine wpAny_bind (wpAny_pure ?_)
        refine wpAny_bind (wpAny_updateSeq hs' rfl (wpAny_pure ⟨rfl, ?_⟩) (by show 0 ≤ _; omega) (by show 2 ≤ _; rw [sizeLine_eq]; decide))
        refine maxdf_loop W _ hc hSfp _ 0 _ v 1 rfl (by omega) (W.frame _ _ _ st' fun b hb o ho => (Heap.get?_update_ne _ _ _ _ (fun q => hSfp (by rw [← q]; exact hb))).trans ho) pv (Heap.get?_update_self (Obj.mapSeq fun _ => #[v, v]) hs' rfl) fun v' h'' tk' hp' keep' => ?_
        obtain ⟨t, rfl⟩ := hval _ _ hp'
        have hab := argBest_gt (fun i => ns.getD i 0) (its.toArray.size - 1)
        have hle : argBest (fun i j => decide (ns.getD i 0 > ns.getD j 0)) (its.toArray.size - 1) < ns.length := by
          have := hab.1
          rw [List.size_toArray, hlen] at this ⊢
          have : 0 < ns.length := by rw [hns]; simp
          omega
        have em : ns.getD (argBest (fun i j => decide (ns.getD i 0 > ns.getD j 0)) (its.toArray.size - 1)) 0 = maxD ns := by
          have g0 : 0 < ns.length := by rw [hns]; simp
          have mem : ns.getD (argBest (fun i j => decide (ns.getD i 0 > ns.getD j 0)) (its.toArray.size - 1)) 0 ∈ ns := by
            rw [List.getD_eq_getElem?_getD, List.getElem?_eq_getElem hle]; exact List.getElem_mem _
          obtain ⟨j, hj, ej⟩ := List.getElem_of_mem (maxD_mem g0)
          have h2 := hab.2 j (by rw [List.size_toArray, hlen]; omega)
          rw [show ns.getD j 0 = maxD ns by rw [List.getD_eq_getElem?_getD, List.getElem?_eq_getElem hj, ej]; rfl] at h2
          exact Int.le_antisymm (maxD_ge _ mem) h2
        rw [em]
        refine ⟨.int (maxD ns), H, I.kept (t' := tk') fun b o h => keep' b o (hout b o h).1 (hout b o h).2 ((Heap.get?_update_ne _ _ _ _ (hout b o h).2).trans (keep b o (hout b o h).1 (keep0 b o h))), ⟨t, rfl⟩, h1 (by rw [hns]; simp)⟩
section
variable {prog : Program} {w : World} {A : Around} {E : Value → Shared → Prop} {s : Shared}
theorem min_eq (l : Addr) (d : Value) : Builtin.min { pos := [.ref l], kw := [("default", d)] } = (do
   let it ← pyIter (.ref l)
   let b ← newList []
   again (Code.builtin "min.loop" { pos := [it, Value.none, b], kw := [("default", d)] })) := by
  rfl
theorem mindf_loop {R : Result → Shared → Prop} {I S : Addr} {d : Value} {fp wr : List Addr} {n : Nat} {P : Nat → Value → Prop} {St : Nat → Heap → Prop} (W : Walks prog w A.in1 I fp wr n P St) (bt : Nat → Nat → Bool) (hc : CmpOf prog w A.in1 CmpOp.Lt P bt) (hS : ¬ S ∈ fp) :
    ∀ (k j : Nat) (s : Shared) (vb : Value) (c : Nat), n - (j + 1) = k → j + 1 ≤ n → St (j + 1) s.heap → P (argBest bt j) vb → s.heap.get? S = some { cls := .type "list", data := .seq #[vb, vb] c } →
      (∀ (v : Value) (h' : Heap) (tk : Nat), P (argBest bt (n - 1)) v → (∀ (b : Addr) (o : Obj), ¬ b ∈ wr → b ≠ S → s.heap.get? b = some o → h'.get? b = some o) → R (.ok (.ret v)) { s with heap := h', toks := tk }) →
      codeAny (model prog w) A (Code.builtin "min.loop" { pos := [.ref I, .none, .ref S], kw := [("default", d)] }) R s := by
  intro k
  induction k with
  | zero =>
    intro j s vb c hk hj st hp hs hq
    have hn : n = j + 1 := by omega
    refine codeAny_builtin F.entry_min_loop ?_
    show wpAny (model prog w) A.in1 _ _ _ _
    refine wpAny_bind (wpAny_seqItems hs rfl ?_)
    refine wpAny_bind (show wpAny _ _ (tryCatch _ _) _ _ _ from wpAny_tryCatch (W.done _ _ _ (by rw [hn]; exact st) fun h' tk keep => ?_))
    have hs' := keep S _ (fun q => hS (W.sub _ q)) hs
    refine wpAny_bind (wpAny_updateSeq hs' rfl (wpAny_bind (wpAny_letGo (wpAny_pure ?_))) (by show 2 ≤ _; rw [sizeLine_eq]; decide) (by show 0 ≤ _; omega))
    have e : n - 1 = j := by omega
    refine hq vb _ _ (by rw [e]; exact hp) fun b o hb hne ho => ?_
    exact (Heap.get?_update_ne _ _ _ _ hne).trans (keep b o hb ho)
  | succ k ih =>
    intro j s vb c hk hj st hp hs hq
    refine codeAny_builtin F.entry_min_loop ?_
    show wpAny (model prog w) A.in1 _ _ _ _
    refine wpAny_bind (wpAny_seqItems hs rfl ?_)
    refine wpAny_bind (show wpAny _ _ (tryCatch _ _) _ _ _ from wpAny_tryCatch (W.item (j + 1) _ _ _ (by omega) st fun v h' tk pv st' keep => ?_))
    have hs' := keep S _ (fun q => hS (W.sub _ q)) hs
    refine wpAny_bind (wpAny_pure ?_)
    refine wpAny_bind (show wpAny _ _ (tryCatch _ _) _ _ _ from wpAny_tryCatch (wpAny_holding ?_))
    refine wpAny_bind (hc (j + 1) (argBest bt j) v vb _ _ _ pv hp ?_)
    refine wpAny_bind (wpAny_holding (wpAny_truthy_bool ?_))
    refine wpAny_bind (wpAny_letGo (wpAny_pure ?_))
    by_cases hb : bt (j + 1) (argBest bt j) = true
    · rw [if_pos hb]
      refine wpAny_bind (wpAny_updateSeq hs' rfl (wpAny_bind (wpAny_letGo (wpAny_pure ⟨rfl, ?_⟩))) (by show 2 ≤ _; rw [sizeLine_eq]; decide) (by show 2 ≤ _; rw [sizeLine_eq]; decide))
      refine ih (j + 1) _ v c (by omega) (by omega) ?_ (by rw [argBest.eq_2, if_pos hb]; exact pv) ?_ fun v' h'' tk' hp' keep' => ?_
      · exact W.frame _ _ _ st' fun b hb o ho => (Heap.get?_update_ne _ _ _ _ (fun q => hS (by rw [← q]; exact hb))).trans ho
      · exact (Heap.get?_update_self (Obj.mapSeq fun _ => #[v, v]) hs' rfl)
      · exact hq v' h'' tk' hp' fun b o hb hne ho => keep' b o hb hne ((Heap.get?_update_ne _ _ _ _ hne).trans (keep b o hb ho))
    · rw [if_neg hb]
      refine wpAny_bind (wpAny_letGo (wpAny_pure ⟨rfl, ?_⟩))
      refine ih (j + 1) _ vb c (by omega) (by omega) st' (by rw [argBest.eq_2, if_neg hb]; exact hp) hs' fun v' h'' tk' hp' keep' => ?_
      exact hq v' h'' tk' hp' fun b o hb hne ho => keep' b o hb hne (keep b o hb ho)
end
abbrev rminDf (K : Fg) : List V → List V → Hp → VK → Prop := fun xs zs H Q => ∃ (p : Addr) (ns : List Int) (z : V), xs = [.ref p] ∧ zs = [z] ∧ SqL K H p (ns.map V.int) ∧ (ns = [] → Q z H) ∧ (ns ≠ [] → Q (.int (minD ns)) H)
theorem crk_min {X : Cx} (hc : X.calm = true) : CallRK X (.builtin "min") [("default" : Str)] (rminDf X.K) := by
  rintro pins s σ H xs zs us ws Q I rx rz ⟨p, ns, z, rfl, rfl, hq, h0, h1⟩
  cases rx with
  | cons rx0 rx1 =>
    cases rx1
    cases rz with
    | cons rz0 rz1 =>
      cases rz1
      rename_i u d
      obtain rfl : u = .ref p := rx0
      obtain ⟨its, rv, pl, hz⟩ := I.list hq
      have hd := I.ok.hd hc
      refine wpAny_call (codeAny_call_builtin F.plain_min F.entry_min ?_)
      show wpAny (model X.prog X.w) _ (pure ()) _ _ _
      refine wpAny_pure ?_
      show wpAny (model X.prog X.w) _ (Builtin.min { pos := [.ref p], kw := [("default", d)] }) _ _ _
      rw [min_eq]
      have il : s.heap.IsList p its.toArray := by
        obtain ⟨o, n, g1, g2, g3, g4⟩ := pl
        exact ⟨o, g1, g2, n, g4⟩
      refine wpAny_bind (wpAny_pyIter_list il ?_)
      refine wpAny_bind (wpAny_newList ?_)
      refine wpAny_pure ⟨rfl, ?_⟩
      have hlen : its.length = ns.length := by have := rv.length; rw [List.length_map] at this; exact this.symm
      have hpl : p < s.heap.objs.size := by obtain ⟨o, g1, _⟩ := il; exact Heap.lt_size g1
      have W := Walks.list (prog := X.prog) (w := X.w) (A := X.A.in1) hd s.heap.objs.size p (Nat.ne_of_lt hpl) its.toArray
      have hval : ∀ (i : Nat) (v : Value), its.toArray[i]? = some v → ∃ t, v = Value.int (ns.getD i 0) t := fun i v hv => by
        have hi : i < ns.length := by
          rw [← hlen]
          have := (Array.getElem?_eq_some_iff.mp hv).1
          simpa using this
        obtain ⟨u, hu, ru⟩ := rv.get (i := i) (x := .int ns[i]) (by rw [List.getElem?_map, List.getElem?_eq_getElem hi]; rfl)
        have : its.toArray[i]? = some u := by simpa using hu
        rw [this] at hv
        cases hv
        obtain ⟨t, rfl⟩ := ru
        exact ⟨t, by rw [List.getD_eq_getElem?_getD, List.getElem?_eq_getElem hi]; rfl⟩
      have hc := CmpOf.ints_lt (prog := X.prog) (w := X.w) (A := X.A.in1) (P := fun i v => its.toArray[i]? = some v) (fun i => ns.getD i 0) hval
      have keep0 : ∀ (b : Addr) (o : Obj), s.heap.get? b = some o → ((s.heap.push { cls := .type "list_iterator", data := .fields #[.ref p, .int 0 0] }).push { cls := .type "list", data := .seq ([] : List Value).toArray }).get? b = some o := fun b o h => Heap.get?_push_of_some _ (Heap.get?_push_of_some _ h)
      have hIt : ((s.heap.push { cls := .type "list_iterator", data := .fields #[.ref p, .int 0 0] }).push { cls := .type "list", data := .seq ([] : List Value).toArray }).IsListIter s.heap.objs.size p 0 := ⟨_, Heap.get?_push_of_some _ (Heap.get?_push_size _ rfl), rfl, rfl⟩
      have hIl : ((s.heap.push { cls := .type "list_iterator", data := .fields #[.ref p, .int 0 0] }).push { cls := .type "list", data := .seq ([] : List Value).toArray }).IsList p its.toArray := by
        obtain ⟨o, g1, g2⟩ := il; exact ⟨o, keep0 _ _ g1, g2⟩
      have hSz : (s.heap.push { cls := .type "list_iterator", data := .fields #[.ref p, .int 0 0] }).objs.size = s.heap.objs.size + 1 := Heap.size_push _ _
      have hS : ((s.heap.push { cls := .type "list_iterator", data := .fields #[.ref p, .int 0 0] }).push { cls := .type "list", data := .seq ([] : List Value).toArray }).get? (s.heap.push { cls := .type "list_iterator", data := .fields #[.ref p, .int 0 0] }).objs.size = some { cls := .type "list", data := .seq #[] } := Heap.get?_push_size _ rfl
      have hSfp : ¬ (s.heap.push { cls := .type "list_iterator", data := .fields #[.ref p, .int 0 0] }).objs.size ∈ [s.heap.objs.size, p] := by
        rw [hSz]
        intro q
        rcases List.mem_cons.mp q with q | q
        · exact Nat.succ_ne_self _ q
        · rcases List.mem_cons.mp q with q | q
          · exact Nat.ne_of_gt (Nat.lt_succ_of_lt hpl) q
          · exact absurd q List.not_mem_nil
      have hout : ∀ (b : Addr) (o : Obj), s.heap.get? b = some o → ¬ b ∈ [s.heap.objs.size] ∧ b ≠ (s.heap.push { cls := .type "list_iterator", data := .fields #[.ref p, .int 0 0] }).objs.size := fun b o h => by
        have h3 : b < s.heap.objs.size := Heap.lt_size h
        rw [hSz]
        exact ⟨fun q => Nat.ne_of_lt h3 (List.mem_singleton.mp q), Nat.ne_of_lt (Nat.lt_succ_of_lt h3)⟩
      generalize (s.heap.push { cls := .type "list_iterator", data := .fields #[.ref p, .int 0 0] }).objs.size = S at *
      generalize ((s.heap.push { cls := .type "list_iterator", data := .fields #[.ref p, .int 0 0] }).push { cls := .type "list", data := .seq ([] : List Value).toArray }) = hp2 at *
      refine codeAny_builtin F.entry_min_loop ?_
      show wpAny (model X.prog X.w) X.A.in1 _ _ _ _
      refine wpAny_bind (wpAny_seqItems hS rfl ?_)
      cases hns : ns with
      | nil =>
        have hz0 : its.toArray.size = 0 := by rw [hns] at hlen; simpa using hlen
        refine wpAny_bind (show wpAny _ _ (tryCatch _ _) _ _ _ from wpAny_tryCatch (W.done _ _ _ (by rw [hz0]; exact ⟨hIt, hIl⟩) fun h' tk keep => ?_))
        refine wpAny_bind (wpAny_rule (wpAny_pure ?_))
        refine ⟨z, H, I.kept (t' := tk) fun b o h => keep b o (hout b o h).1 (keep0 b o h), rz0, h0 hns⟩
      | cons n0 ns' =>
        have hpos : 0 < its.toArray.size := by rw [List.size_toArray, hlen, hns]; simp
        refine wpAny_bind (show wpAny _ _ (tryCatch _ _) _ _ _ from wpAny_tryCatch (W.item 0 _ _ _ hpos ⟨hIt, hIl⟩ fun v h' tk pv st' keep => ?_))
        have hs' := keep S _ (fun q => hSfp (W.sub _ q)) hS
        refine wpAny_bind (wpAny_pure ?_)
        refine wpAny_bind (wpAny_updateSeq hs' rfl (wpAny_pure ⟨rfl, ?_⟩) (by show 0 ≤ _; omega) (by show 2 ≤ _; rw [sizeLine_eq]; decide))
        refine mindf_loop W _ hc hSfp _ 0 _ v 1 rfl (by omega) (W.frame _ _ _ st' fun b hb o ho => (Heap.get?_update_ne _ _ _ _ (fun q => hSfp (by rw [← q]; exact hb))).trans ho) pv (Heap.get?_update_self (Obj.mapSeq fun _ => #[v, v]) hs' rfl) fun v' h'' tk' hp' keep' => ?_
        obtain ⟨t, rfl⟩ := hval _ _ hp'
        have hab := argBest_lt (fun i => ns.getD i 0) (its.toArray.size - 1)
        have hle : argBest (fun i j => decide (ns.getD i 0 < ns.getD j 0)) (its.toArray.size - 1) < ns.length := by
          have := hab.1
          rw [List.size_toArray, hlen] at this ⊢
          have : 0 < ns.length := by rw [hns]; simp
          omega
        have em : ns.getD (argBest (fun i j => decide (ns.getD i 0 < ns.getD j 0)) (its.toArray.size - 1)) 0 = minD ns := by
          have g0 : 0 < ns.length := by rw [hns]; simp
          have mem : ns.getD (argBest (fun i j => decide (ns.getD i 0 < ns.getD j 0)) (its.toArray.size - 1)) 0 ∈ ns := by
            rw [List.getD_eq_getElem?_getD, List.getElem?_eq_getElem hle]; exact List.getElem_mem _
          obtain ⟨j, hj, ej⟩ := List.getElem_of_mem (minD_mem g0)
          have h2 := hab.2 j (by rw [List.size_toArray, hlen]; omega)
          rw [show ns.getD j 0 = minD ns by rw [List.getD_eq_getElem?_getD, List.getElem?_eq_getElem hj, ej]; rfl] at h2
          exact Int.le_antisymm h2 (minD_le _ mem)
        rw [em]
        refine ⟨.int (minD ns), H, I.kept (t' := tk') fun b o h => keep' b o (hout b o h).1 (hout b o h).2 ((Heap.get?_update_ne _ _ _ _ (hout b o h).2).trans (keep b o (hout b o h).1 (keep0 b o h))), ⟨t, rfl⟩, h1 (by rw [hns]; simp)⟩
/-! ### while -/
def whileD (c : T2T) (tb : T2S) (E : Ends2) : Nat → Ev → Prop
  | 0, _ => False
  | n + 1, env => c env fun b => if b = true then tb { E with nx := whileD c tb E n, ct := whileD c tb E n, bk := E.nx } env else E.nx env
def dWhile (c : T2T) (tb : T2S) : T2S := fun E env => ∃ n, whileD c tb E n env
theorem ss_while {K : Fg} {tc : TT} {ts : TS} {c : T2T} {tb : T2S} (hc : ST K tc c) (hb : SS K ts tb) : SS K (tWhile tc ts) (dWhile c tb) := by
  rintro p env σ I H D2 E r ⟨n, q⟩ e
  refine ⟨fun m σ' H' => ∃ env' I', RelL K p env' σ' I' H' ∧ whileD c tb D2 m env', ⟨n, env, I, r, q⟩, ?_⟩
  rintro m σ' H' ⟨env', I', r', q'⟩
  match m, q' with
  | 0, q' => exact q'.elim
  | m + 1, q' =>
    refine hc p env' σ' I' H' _ _ r' q' fun b I1 H1 q1 s1 => ?_
    cases b with
    | true =>
      rw [if_pos rfl] at q1 ⊢
      exact ⟨fun σ' H' => ∃ env' I', RelL K p env' σ' I' H' ∧ whileD c tb D2 m env', fun σ2 H2 h => ⟨m, Nat.lt_succ_self _, h⟩,
        hb p env' σ' I1 H1 _ _ (r'.stp s1) q1 ⟨fun env4 σ4 I4 H4 q4 r4 => ⟨env4, I4, r4, q4⟩, e.rt, fun env4 σ4 I4 H4 q4 r4 => e.nx _ _ _ _ q4 r4, fun env4 σ4 I4 H4 q4 r4 => ⟨env4, I4, r4, q4⟩, e.rd⟩⟩
    | false =>
      rw [if_neg (by decide)] at q1 ⊢
      exact e.nx _ _ _ _ q1 (r'.stp s1)
theorem while_inv {c : T2T} {tb : T2S} {E : Ends2} {env : Ev} (Inv : Ev → Prop) (μ : Ev → Nat) (h0 : Inv env)
    (hs : ∀ env, Inv env → ∀ N : Ev → Prop, (∀ env', Inv env' → μ env' < μ env → N env') → c env fun b => if b = true then tb { E with nx := N, ct := N, bk := E.nx } env else E.nx env) : dWhile c tb E env := by
  have key : ∀ (k : Nat) (env : Ev), Inv env → μ env < k → whileD c tb E k env := by
    intro k
    induction k with
    | zero => intro env _ h; exact absurd h (Nat.not_lt_zero _)
    | succ k ih => intro env h hk; exact hs env h _ fun env' h1 h2 => ih env' h1 (by omega)
  exact ⟨_, key _ env h0 (Nat.lt_succ_self _)⟩
/-! ### len(set(xs)) of different ints -/
def dLenSet (a : T2E) : T2E := fun env Q => a env fun d => match d with | .list xs => (match allInt xs with | some ns => ns.Nodup ∧ ns.length ≤ 4000 ∧ Q (.int (ns.length : Nat)) | none => False) | _ => False
theorem se_lenSet {K : Fg} {ta : TE} {a : T2E} (ha : SE K ta a) : SE K (RZ.tLenSetI K ta) (dLenSet a) := by
  intro p env σ I H Q2 Q rl q k
  refine ha p env σ I H _ _ rl q fun d v I1 H1 q1 s1 h1 => ?_
  split at q1
  · split at q1
    · rename_i xs ns e
      obtain ⟨h2, h3, q1⟩ := q1
      cases h1 with
      | lst h4 h5 =>
        have z := allInt_of e
        subst z
        have z := h5.ints
        subst z
        exact ⟨_, ns, rfl, SqL.of (s1.ih _ _ h4), h2, h3, k _ _ _ _ q1 s1 (.int _)⟩
    · exact q1.elim
  · exact q1.elim
/-! ### pop and remove of one's own list -/
def dPop (i : Nat) (t : T2E) : T2S := fun E env => match env[i]? with
  | some (some (.own ds)) => t env fun k => (match k with | .int j => (match ixN ds.length j with | some m => -(2 ^ 63) ≤ j ∧ j < 2 ^ 63 ∧ E.nx (env.set i (some (.own (ds.eraseIdx m)))) | none => False) | _ => False)
  | _ => False
def dPopA (i k : Nat) (t : T2E) : T2S := fun E env => match env[i]? with
  | some (some (.own ds)) => t env fun x => (match x with | .int j => (match ixN ds.length j with | some m => (match ds[m]? with | some y => -(2 ^ 63) ≤ j ∧ j < 2 ^ 63 ∧ E.nx ((env.set i (some (.own (ds.eraseIdx m)))).set k (some (.dat y))) | none => False) | none => False) | _ => False)
  | _ => False
/-- left.remove(x), of ints -/
def dRem (i : Nat) (t : T2E) : T2S := fun E env => match env[i]? with
  | some (some (.own ds)) => t env fun x => (match x with | .int k => (match allInt ds with | some ns => k ∈ ns ∧ E.nx (env.set i (some (.own ((ns.erase k).map PyData.int)))) | none => False) | _ => False)
  | _ => False
theorem erase_idx (k : Int) : ∀ {ns : List Int}, k ∈ ns → ∃ j, ns[j]? = some k ∧ (∀ m, m < j → ns[m]? ≠ some k) ∧ ns.eraseIdx j = ns.erase k
  | [], h => absurd h List.not_mem_nil
  | n :: ns, h => by
    by_cases e : n = k
    · subst e
      exact ⟨0, rfl, fun m hm => absurd hm (Nat.not_lt_zero _), by simp⟩
    · have h' : k ∈ ns := by
        rcases List.mem_cons.mp h with h | h
        · exact absurd h.symm e
        · exact h
      obtain ⟨j, h1, h2, h3⟩ := erase_idx k h'
      refine ⟨j + 1, by simpa using h1, fun m hm => ?_, ?_⟩
      · match m, hm with
        | 0, _ => simp; exact e
        | m + 1, hm => simpa using h2 m (by omega)
      · rw [List.eraseIdx_cons_succ, h3, List.erase_cons_tail (by simpa using e)]
section
variable {K : Fg} {te : TE} {t2 : T2E}
theorem ss_pop (i : Nat) (h : SE K te t2) : SS K (tDrop (tBM K "list" rPopAt (tVar i) (tCons te tNil))) (dPop i t2) := by
  intro p env σ I H D2 E r q e
  unfold dPop at q
  split at q
  · rename_i ds e2
    obtain ⟨v, hv, a, vs, rfl, _, _, e4, e5⟩ := r.r.sl i _ e2
    refine ⟨_, hv, .inl ⟨rfl, _, SqL.of e4⟩, h p env σ I H _ _ r q fun d v I1 H1 q1 s1 r1 => ?_⟩
    have r' := r.stp s1
    obtain ⟨v', hv', a', ws, rfl, _, _, f4, f5⟩ := r'.r.sl i _ e2
    rw [hv] at hv'; cases hv'
    split at q1
    · rename_i j
      split at q1
      · rename_i m em
        obtain ⟨j0, j1, q1⟩ := q1
        cases r1
        have hseq := ixN_seq em
        have hm : m < ds.length := hseq.2.1
        obtain ⟨yv, hyv, ryv⟩ := f5.got (List.getElem?_eq_getElem hm)
        have hs := hseq.1
        rw [← f5.length] at hs
        exact ⟨a, ws, j, m, yv, rfl, rfl, f4, j0, j1, hs, hyv, e.nx _ _ _ _ q1 (r'.mutOwn e2 hv (Rps.erase m f5))⟩
      · exact q1.elim
    · exact q1.elim
  · exact q.elim
theorem ss_popA (i k : Nat) (h : SE K te t2) : SS K (tAsg (tBM K "list" rPopAt (tVar i) (tCons te tNil)) (gName k)) (dPopA i k t2) := by
  intro p env σ I H D2 E r q e
  unfold dPopA at q
  split at q
  · rename_i ds e2
    obtain ⟨v, hv, a, vs, rfl, _, _, e4, e5⟩ := r.r.sl i _ e2
    refine ⟨_, hv, .inl ⟨rfl, _, SqL.of e4⟩, h p env σ I H _ _ r q fun d v I1 H1 q1 s1 r1 => ?_⟩
    have r' := r.stp s1
    obtain ⟨v', hv', a', ws, rfl, _, _, f4, f5⟩ := r'.r.sl i _ e2
    rw [hv] at hv'; cases hv'
    split at q1
    · rename_i j
      split at q1
      · rename_i m em
        split at q1
        · rename_i y ey
          obtain ⟨j0, j1, q1⟩ := q1
          cases r1
          have hseq := ixN_seq em
          obtain ⟨yv, hyv, ryv⟩ := f5.got ey
          have hs := hseq.1
          rw [← f5.length] at hs
          exact ⟨a, ws, j, m, yv, rfl, rfl, f4, j0, j1, hs, hyv, e.nx _ _ _ _ q1 ((r'.mutOwn e2 hv (Rps.erase m f5)).setDat ryv k)⟩
        · exact q1.elim
      · exact q1.elim
    · exact q1.elim
  · exact q.elim
theorem ss_rem (i : Nat) (h : SE K te t2) : SS K (tDrop (tBM K "list" rRemI (tVar i) (tCons te tNil))) (dRem i t2) := by
  intro p env σ I H D2 E r q e
  unfold dRem at q
  split at q
  · rename_i ds e2
    obtain ⟨v, hv, a, vs, rfl, _, _, e4, e5⟩ := r.r.sl i _ e2
    refine ⟨_, hv, .inl ⟨rfl, _, SqL.of e4⟩, h p env σ I H _ _ r q fun d v I1 H1 q1 s1 r1 => ?_⟩
    have r' := r.stp s1
    obtain ⟨v', hv', a', ws, rfl, _, _, f4, f5⟩ := r'.r.sl i _ e2
    rw [hv] at hv'; cases hv'
    split at q1
    · rename_i k
      split at q1
      · rename_i ns en
        obtain ⟨hk, q1⟩ := q1
        cases r1
        have z := allInt_of en
        subst z
        have z := f5.ints
        subst z
        obtain ⟨j, h1, h2, h3⟩ := erase_idx k hk
        refine ⟨a, ns, k, j, rfl, rfl, f4, h1, h2, ?_⟩
        rw [h3]
        exact e.nx _ _ _ _ q1 (r'.mutOwn e2 hv (Rps.ofInts _))
      · exact q1.elim
    · exact q1.elim
  · exact q.elim
end
/-! ### one's own list, read where it is -/
def ownD (i : Nat) (env : Ev) : Option (List D) := match env[i]? with | some (some (.own ds)) => some ds | some (some (.dat (.list ds))) => some ds | some (some (.dat (.tuple ds))) => some ds | _ => none
def dOLen (i : Nat) : T2E := fun env Q => match ownD i env with | some ds => Q (.int (ds.length : Nat)) | none => False
def dOTru (i : Nat) : T2T := fun env Q => match ownD i env with | some ds => Q (!ds.isEmpty) | none => False
def dOIx (i : Nat) (t : T2E) : T2E := fun env Q => match ownD i env with | some ds => t env fun x => (match x with | .int k => (match atI ds k with | some d => Q d | none => False) | _ => False) | none => False
section
variable {K : Fg} {ta : TE} {t2 : T2E}
theorem own_cell {p : P0} {env : Ev} {σ : L2.St} {I H : Hp} {i : Nat} {ds : List D} (r : RelL K p env σ I H) (e : ownD i env = some ds) :
    ∃ (a : Addr) (vs : List V), σ[i]? = some (some (.ref a)) ∧ Rps K I vs ds ∧ ((∀ I' H', Stp p I H I' H' → SqL K H' a vs) ∨ (∀ I' H', Stp p I H I' H' → SqT K H' a vs)) := by
  unfold ownD at e
  split at e
  · rename_i ds' e2
    cases e
    obtain ⟨v, hv, a, vs, rfl, f2, _, e4, e5⟩ := r.r.sl i _ e2
    exact ⟨a, vs, hv, e5, .inl fun I' H' s => SqL.of (s.gr.hh a _ e4 fun q => (r.r.st a q).1 f2)⟩
  · rename_i ds' e2
    cases e
    obtain ⟨v, hv, h⟩ := r.r.sl i _ e2
    have h : Rp K I v (.list ds) := h
    cases h with
    | lst h1 h2 => exact ⟨_, _, hv, h2, .inl fun I' H' s => SqL.of (s.ih _ _ (s.ii _ _ h1))⟩
  · rename_i ds' e2
    cases e
    obtain ⟨v, hv, h⟩ := r.r.sl i _ e2
    have h : Rp K I v (.tuple ds) := h
    cases h with
    | tup h1 h2 => exact ⟨_, _, hv, h2, .inr fun I' H' s => Same.sqt s.ih (Same.sqt s.ii h1)⟩
  · cases e
theorem se_oLen (i : Nat) : SE K (tCB (fun xs H Q => ∃ p ys, xs = [.ref p] ∧ (SqL K H p ys ∨ SqT K H p ys) ∧ Q (.int ys.length) H) (tCons (tVar i) tNil)) (dOLen i) := by
  intro p env σ I H Q2 Q r q k
  unfold dOLen at q
  split at q
  · rename_i ds e
    obtain ⟨a, vs, h1, h2, h3⟩ := own_cell r e
    refine ⟨_, h1, a, vs, rfl, h3.imp (fun z => z _ _ (.refl r.same)) (fun z => z _ _ (.refl r.same)), ?_⟩
    rw [h2.length]
    exact k _ _ I H q (.refl r.same) (.int _)
  · exact q.elim
theorem se_oIx (i : Nat) (ha : SE K ta t2) : SE K (tOp (rIx K) (tVar i) ta) (dOIx i t2) := by
  intro p env σ I H Q2 Q r q k
  unfold dOIx at q
  split at q
  · rename_i ds e
    obtain ⟨a, vs, h1, h2, h3⟩ := own_cell r e
    refine ⟨_, h1, ha p env σ I H _ _ r q fun d v I1 H1 q1 s1 r1 => ?_⟩
    split at q1
    · rename_i j
      split at q1
      · rename_i d' ed
        cases r1
        obtain ⟨u, hu, ru⟩ := atI_rp (Rps.mono s1.ii _ _ h2) ed
        rcases h3 with g | g
        · exact .inl ⟨a, vs, j, u, rfl, rfl, g _ _ s1, hu, k _ _ I1 H1 q1 s1 ru⟩
        · exact .inr (.inl ⟨a, vs, j, u, rfl, rfl, g _ _ s1, hu, k _ _ I1 H1 q1 s1 ru⟩)
      · exact q1.elim
    · exact q1.elim
  · exact q.elim
theorem st_oTru (i : Nat) : ST K (fun σ H Q => tVar i σ H fun x H' => ∃ k, TruV K x H' k ∧ Q k H') (dOTru i) := by
  intro p env σ I H Q2 Q r q k
  unfold dOTru at q
  split at q
  · rename_i ds e
    obtain ⟨a, vs, h1, h2, h3⟩ := own_cell r e
    refine ⟨_, h1, _, ?_, k _ I H q (.refl r.same)⟩
    rw [← h2.isEmpty]
    rcases h3 with g | g
    · exact .inl ⟨_, g _ _ (.refl r.same), rfl⟩
    · exact .inr (.inl ⟨_, g _ _ (.refl r.same), rfl⟩)
  · exact q.elim
structure ItRs (K : Fg) (p : P0) (I H : Hp) (J : It) (ds : List D) : Prop where
  go : ∀ i I' H', Stp p I H I' H' → i < ds.length → J.go i H'
  stop : ∀ i I' H', Stp p I H I' H' → i = ds.length → J.stop i H'
  yld : ∀ i x I' H' H'', Stp p I H I' H' → i < ds.length → J.yld i H' x H'' → ∃ I'' d, Gr none I' H' I'' H'' ∧ ds[i]? = some d ∧ Rp K I'' x d
def SIs (K : Fg) (wi : TI) (t : T2I) : Prop := ∀ (p : P0) (env : Ev) (σ : L2.St) (I H : Hp) (Q2 : List D → Prop) (R : It → Hp → Prop), RelL K p env σ I H → t env Q2 →
  (∀ ds J I' H', Q2 ds → Stp p I H I' H' → ItRs K p I' H' J ds → R J H') → wi σ H R
def diOwn (i : Nat) : T2I := fun env Q => match ownD i env with | some ds => Q ds | none => False
theorem si_own (i : Nat) : SIs K (iSeq K (tVar i)) (diOwn i) := by
  intro p env σ I H Q2 R r q k
  unfold diOwn at q
  split at q
  · rename_i ds e
    obtain ⟨a, vs, h1, h2, h3⟩ := own_cell r e
    refine ⟨_, h1, ?_⟩
    rcases h3 with g | g
    · refine .inl ⟨a, vs, rfl, g _ _ (.refl r.same), k _ _ I H q (.refl r.same) ⟨fun i I' H' s hi => ?_, fun i I' H' s hi => ?_, fun i x I' H' H'' s hi y => ?_⟩⟩
      · obtain ⟨v, hv, _⟩ := h2.got (List.getElem?_eq_getElem hi)
        exact ⟨vs, v, g _ _ s, hv⟩
      · exact ⟨vs, g _ _ s, by rw [h2.length]; omega⟩
      · obtain ⟨rfl, y⟩ := y
        obtain ⟨d, hd, q⟩ := h2.get (y vs (g _ _ s))
        exact ⟨I', d, .refl s.ih, hd, Rp.mono s.ii _ _ q⟩
    · refine .inr ⟨a, vs, rfl, g _ _ (.refl r.same), k _ _ I H q (.refl r.same) ⟨fun i I' H' s hi => ?_, fun i I' H' s hi => ?_, fun i x I' H' H'' s hi y => ?_⟩⟩
      · obtain ⟨v, hv, _⟩ := h2.got (List.getElem?_eq_getElem hi)
        exact ⟨vs, v, g _ _ s, hv⟩
      · exact ⟨vs, g _ _ s, by rw [h2.length]; omega⟩
      · obtain ⟨rfl, y⟩ := y
        obtain ⟨d, hd, q⟩ := h2.get (y vs (g _ _ s))
        exact ⟨I', d, .refl s.ih, hd, Rp.mono s.ii _ _ q⟩
  · exact q.elim
theorem so_lcs {wi : TI} {g : TG} {tt : TT} {te : TE} {ti : T2I} {g2 : T2G} {tt2 : T2T} {te2 : T2E} {vs : List Nat} (hi : SIs K wi ti) (hg : SG K vs g g2) (ht : ST K tt tt2) (he : SE K te te2) : SO K (tLc wi g tt te vs) (dLc ti g2 tt2 te2 vs) := by
  intro p env σ I H Q2 Q rl q k
  refine hi p env σ I H _ _ rl q fun ds J I1 H1 ⟨hlen, q1⟩ s1 it => ?_
  intro D hD
  have rl1 := rl.stp s1
  have hD0 : p.H0 D = none := by
    cases e : p.H0 D with
    | none => rfl
    | some o => exact absurd hD (rl1.r.gr.th D (by rw [e]; exact fun z => nomatch z))
  have hDI : I1 D = none := Same.free s1.ih hD
  have hDH : H D = none := by
    cases e : H D with
    | none => rfl
    | some o => exact absurd hD (s1.gr.th D (by rw [e]; exact fun z => nomatch z))
  have hm : p.m ≠ some D := fun e => (rl1.r.st D e).1 hD0
  have hown : ∀ (j : Nat) (x : List PyData), env[j]? = some (some (Sl.own x)) → σ[j]? ≠ some (some (V.ref D)) := fun j x e z => by
    obtain ⟨v, hv, a, ws, rfl, _, _, e4, _⟩ := rl1.r.sl j _ e
    rw [hv] at z
    cases z
    rw [hD] at e4; cases e4
  refine ⟨fun i m H' => m = ds.length - i ∧ i ≤ ds.length ∧ ∃ I' acc ys, RelL K p env σ I' H' ∧ Stp p I1 H1 I' H' ∧ I' D = none ∧ H' D = some (.lst acc) ∧ Rps K I' acc ys ∧ acc.length ≤ i ∧ lcD g2 tt2 te2 (wipeE env vs) (ds.drop i) fun zs => Q2 (ys ++ zs),
    ⟨ds.length, by simp, Nat.zero_le _, I1, [], [], rl1.beside hD0 hDI (fun _ _ z => by rw [hD] at z; cases z) (fun _ z => by rw [hD] at z; cases z) (rl1.freshCell (.refl rl1.same) hD) hown, Stp.fresh s1.ih hD, hDI, upd_same, .nil, Nat.le_refl _, q1⟩, ?_⟩
  rintro i m H' ⟨rfl, hi', I', acc, ys, r', st', hDI', hDH', rp, hacc, q'⟩
  by_cases hlt : i < ds.length
  · refine .inr ⟨it.go i I' H' st' hlt, fun H'' => ∃ I'' acc ys, RelL K p env σ I'' H'' ∧ Stp p I1 H1 I'' H'' ∧ I'' D = none ∧ H'' D = some (.lst acc) ∧ Rps K I'' acc ys ∧ acc.length ≤ i + 1 ∧ lcD g2 tt2 te2 (wipeE env vs) (ds.drop (i + 1)) fun zs => Q2 (ys ++ zs),
      fun H'' z => ⟨ds.length - (i + 1), by omega, rfl, by omega, z⟩, fun x H2 y => ?_⟩
    obtain ⟨I2, d, g1, hd, rd⟩ := it.yld i x I' H' H2 st' hlt y
    have hdrop : ds.drop i = d :: ds.drop (i + 1) := by
      have hdd : ds[i] = d := Option.some.inj ((List.getElem?_eq_getElem hlt).symm.trans hd)
      rw [List.drop_eq_getElem_cons hlt, hdd]
    rw [hdrop] at q'
    have st2 := st'.trans (Stp.of (p := p) g1)
    have r2 := r'.grow' g1
    have q2 : g2 d (wipeE env vs) (fun env1 => tt2 env1 fun b => if b = true then te2 env1 fun y => lcD g2 tt2 te2 (wipeE env vs) (ds.drop (i + 1)) fun zs => Q2 (ys ++ (y :: zs)) else lcD g2 tt2 te2 (wipeE env vs) (ds.drop (i + 1)) fun zs => Q2 (ys ++ zs)) := q'
    have keepD : ∀ {I3 H3 I4 H4}, Stp p I3 H3 I4 H4 → I3 D = none → H3 D = some (.lst acc) → I4 D = none ∧ H4 D = some (.lst acc) := fun s a b =>
      ⟨s.gr.fr D a (by rw [b]; exact fun z => nomatch z), s.gr.hh D _ b hm⟩
    obtain ⟨d2, d3⟩ := keepD (Stp.of (p := p) g1) hDI' hDH'
    refine hg p (wipeE env vs) (L2.wipe σ vs) I2 H2 x d _ _ (r2.wipe vs) rd q2 fun env1 σ1 I3 H3 q3 r3 s3 w3 => ⟨by rw [w3]; exact wipe_wipe σ vs, ?_⟩
    obtain ⟨d4, d5⟩ := keepD s3 d2 d3
    refine ht p env1 σ1 I3 H3 _ _ r3 q3 fun b I4 H4 q4 s4 => ?_
    obtain ⟨d6, d7⟩ := keepD s4 d4 d5
    have s34 := s3.trans s4
    cases b with
    | false =>
      rw [if_neg Bool.false_ne_true] at q4 ⊢
      exact ⟨I4, acc, ys, r2.stp s34, st2.trans s34, d6, d7, Rps.mono (g1.ii.trans s34.ii) _ _ rp, by omega, q4⟩
    | true =>
      rw [if_pos rfl] at q4 ⊢
      refine he p env1 σ1 I4 H4 _ _ (r3.stp s4) q4 fun e v I5 H5 q5 s5 r5 => ?_
      obtain ⟨d8, d9⟩ := keepD s5 d6 d7
      have s35 := s34.trans s5
      have st5 := st2.trans s35
      have r6 := (r2.stp s35)
      refine ⟨acc, d9, Nat.lt_of_le_of_lt hacc (Nat.lt_of_lt_of_le hlt (le_line hlen)), I5, acc ++ [v], ys ++ [e], r6.beside hD0 d8 (fun _ _ z => by rw [d9] at z; exact nomatch z) (fun _ z => by rw [d9] at z; exact nomatch z) (rl1.freshCell st5 hD) hown, ⟨⟨st5.ii, fun b o z => by rw [upd_ne (ne_of_none z d8)]; exact st5.ih b o z, fun b o z n => ?_, st5.gr.fr, fun b z => ?_⟩, fun s e1 e2 => ?_⟩, d8, upd_same,
        Rps.append (Rps.mono (g1.ii.trans s35.ii) _ _ rp) (.cons r5 .nil), by rw [List.length_append, List.length_singleton]; omega, ?_⟩
      · have hb : b ≠ D := fun w => by rw [w, hD] at z; cases z
        rw [upd_ne hb]; exact st5.gr.hh b o z n
      · have hb : b ≠ D := fun w => z (by rw [w]; exact hD)
        rw [upd_ne hb]; exact st5.gr.th b z
      · obtain ⟨f0, l, c, n, ns, f1, f2, f3⟩ := st5.st s e1 e2
        have hs : s ≠ D := fun w => hm (by rw [e1, w])
        exact ⟨f0, l, c, n, ns, by rw [upd_ne hs]; exact f1, f2, f3⟩
      · have ee : ∀ zs : List PyData, (ys ++ [e]) ++ zs = ys ++ (e :: zs) := fun zs => by rw [List.append_assoc]; rfl
        simp only [ee]
        exact q5
  · have hi2 : i = ds.length := by omega
    subst hi2
    rw [List.drop_length] at q'
    have q' : Q2 (ys ++ []) := q'
    rw [List.append_nil] at q'
    exact .inl ⟨it.stop _ I' H' st' rfl, k ys D acc I' H' q' (s1.trans st') hDH hDI' hDH' rp⟩
end
section
variable {P : Program} {w : World} {K : Fg} {mg : Str → Option Value} {base : Heap}
/-- a function that calls itself, so many deep -/
def frec (NL m : Nat) (tb : RCD → T2S) : Nat → RCD
  | 0 => fun _ _ => False
  | n + 1 => bodyD NL m (tb (frec NL m tb n))
theorem fx_rec {st : Stmt} {x : Str} {ps : List Str} {m c : Nat} {N : List Str} {tb : RCD → T2S} (d : Df K mg x st) (bb : BindsBy x st ps) (hn : ps.length = m)
    (step : ∀ (k : Nat) (g : RCD), Fx P w K mg base (k + c) x ps (spD K m g) → Fx P w K mg base (k + c + 1) x ps (spD K m (bodyD N.length m (tb g)))) : ∀ n, Fx P w K mg base (n + c) x ps (spD K m (frec N.length m tb n))
  | 0 => by
    obtain ⟨f, fd, F, hm⟩ := d
    have no : ∀ vs H Q E, ¬ spD K m (frec N.length m tb 0) vs H Q E := fun vs H Q E ⟨I, ds, Q2, hl, _, r, q, _⟩ => q.elim
    exact ⟨f, fd, ⟨fun vs H Q E h => absurd h (no _ _ _ _), fun _ _ _ _ _ _ _ _ _ _ _ _ _ h => absurd h (no _ _ _ _)⟩, hm, F.kp, F.binds bb⟩
  | n + 1 => by
    have G := step n _ (fx_rec d bb hn step n)
    rw [show n + 1 + c = n + c + 1 by omega]
    exact G
end
section
variable {K : Fg}
def dCBK (r : List D → List D → (D → Prop) → Prop) (a k : T2A) : T2E := fun env Q => a env fun ds => k env fun es => r ds es Q
def SimCK (K : Fg) (r : List V → List V → Hp → VK → Prop) (r2 : List D → List D → (D → Prop) → Prop) : Prop := ∀ (I H : Hp) (vs ws : List V) (ds es : List D) (Q2 : D → Prop) (Q : VK), Same I H → Rps K I vs ds → Rps K I ws es → r2 ds es Q2 →
  (∀ d v I' H', Q2 d → Gr none I H I' H' → Rp K I' v d → Q v H') → r vs ws H Q
theorem se_cbk {r : List V → List V → Hp → VK → Prop} {r2 : List D → List D → (D → Prop) → Prop} {n m : Nat} {t tk : TA} {u uk : T2A} (h : SimCK K r r2) (ha : SA K n t u) (hk : SA K m tk uk) : SE K (tCKw r t tk) (dCBK r2 u uk) := by
  intro p env σ I H Q2 Q rl q k
  refine ha p env σ I H _ _ rl q fun ds vs I1 H1 q1 hl s1 h1 => ?_
  refine hk p env σ I1 H1 _ _ (rl.stp s1) q1 fun es ws I2 H2 q2 hl2 s2 h2 => ?_
  exact h I2 H2 vs ws ds es Q2 Q s2.ih (Rps.mono s2.ii ds vs h1) h2 q2 fun d' v' I' H' q' g r' => k d' v' I' H' q' ((s1.trans s2).trans (.of g)) r'
def dmaxDf : List D → List D → (D → Prop) → Prop := fun ds es Q => match ds, es with | [.list xs], [z] => (match allInt xs with | some ns => (ns = [] → Q z) ∧ (ns ≠ [] → Q (.int (maxD ns))) | none => False) | _, _ => False
theorem sck_max : SimCK K (rmaxDf K) dmaxDf := by
  intro I H vs ws ds es Q2 Q e h hw q k
  unfold dmaxDf at q
  split at q
  · split at q
    · rename_i xs z ns e2
      obtain ⟨v, rfl, h1⟩ := h.one
      obtain ⟨u, rfl, h2⟩ := hw.one
      cases h1 with
      | lst h3 h4 =>
        rename_i a ws
        have y := allInt_of e2
        subst y
        have y := h4.ints
        subst y
        exact ⟨a, ns, u, rfl, rfl, SqL.of (e _ _ h3), fun n => k _ _ I H (q.1 n) (.refl e) h2, fun n => k _ _ I H (q.2 n) (.refl e) (.int _)⟩
    · exact q.elim
  · exact q.elim
def dminDf : List D → List D → (D → Prop) → Prop := fun ds es Q => match ds, es with | [.list xs], [z] => (match allInt xs with | some ns => (ns = [] → Q z) ∧ (ns ≠ [] → Q (.int (minD ns))) | none => False) | _, _ => False
theorem sck_min : SimCK K (rminDf K) dminDf := by
  intro I H vs ws ds es Q2 Q e h hw q k
  unfold dminDf at q
  split at q
  · split at q
    · rename_i xs z ns e2
      obtain ⟨v, rfl, h1⟩ := h.one
      obtain ⟨u, rfl, h2⟩ := hw.one
      cases h1 with
      | lst h3 h4 =>
        rename_i a ws
        have y := allInt_of e2
        subst y
        have y := h4.ints
        subst y
        exact ⟨a, ns, u, rfl, rfl, SqL.of (e _ _ h3), fun n => k _ _ I H (q.1 n) (.refl e) h2, fun n => k _ _ I H (q.2 n) (.refl e) (.int _)⟩
    · exact q.elim
  · exact q.elim
end
end Z2
namespace Z2
open PySem PySem.Spec PyProof.Rows L2
/-! ### base lemmas of plain data -/
/-- a loop whose body is not looked into -/
theorem for_gen {ti : T2I} {g : T2G} {tb : T2S} {E : Ends2} {env : Ev} (h : ∀ B, B = tb → dFor ti g B E env) : dFor ti g tb E env := h _ rfl
theorem ite_t {c : Prop} [Decidable c] {a b : Prop} (h : c) (q : a) : ite c a b := by rw [if_pos h]; exact q
theorem ite_f {c : Prop} [Decidable c] {a b : Prop} (h : ¬ c) (q : b) : ite c a b := by rw [if_neg h]; exact q
def inI (v : D) (l g : Int) : Bool := match v with | .int i => decide (l ≤ i) && decide (i ≤ g) | _ => false
def whI : D → Bool | .int _ => true | _ => false
theorem inI_int {v : D} {l g : Int} (h : inI v l g = true) : ∃ i : Int, v = .int i ∧ l ≤ i ∧ i ≤ g := by
  unfold inI at h
  split at h
  · rw [Bool.and_eq_true] at h
    exact ⟨_, rfl, of_decide_eq_true h.1, of_decide_eq_true h.2⟩
  · cases h
theorem inI_good {i l g : Int} (h0 : l ≤ i) (h1 : i ≤ g) : inI (.int i) l g = true := by
  simp only [inI, decide_eq_true h0, decide_eq_true h1, Bool.and_true]
theorem inI_iff {i l g : Int} : inI (.int i) l g = (decide (l ≤ i) && decide (i ≤ g)) := rfl
theorem whI_int {v : D} (h : whI v = true) : ∃ i : Int, v = .int i := by
  cases v <;> first | exact ⟨_, rfl⟩ | cases h
theorem len_ne {xs : List D} {n : Nat} (h : ((xs.length : Int) == (n : Int)) = false) : xs.length ≠ n := fun z => by
  have := beq_eq_false_iff_ne.mp h
  omega
theorem len_lit (n m : Nat) : ((n : Int) == (m : Int)) = decide (n = m) := by
  by_cases h : n = m
  · subst h; simp
  · rw [decide_eq_false h]; exact beq_eq_false_iff_ne.mpr (by omega)
theorem eqv_intD (a b : Int) : PyData.eqv (.int a) (.int b) = decide (a = b) := by
  unfold PyData.eqv
  by_cases h : a = b
  · subst h; simp
  · rw [decide_eq_false h]; exact beq_eq_false_iff_ne.mpr h
theorem eqv_str (a b : Str) : PyData.eqv (.str a) (.str b) = decide (a = b) := by
  show (a == b) = decide (a = b)
  by_cases c : a = b
  · rw [decide_eq_true c, c]
    exact beq_self_eq_true b
  · rw [decide_eq_false c]
    exact beq_eq_false_iff_ne.mpr c
theorem eqv_boolD (a b : Bool) : PyData.eqv (.bool a) (.bool b) = decide (a = b) := by cases a <;> cases b <;> rfl
theorem getD_some {α : Type} {xs : List α} {k : Nat} {x y : α} (h : xs[k]? = some x) : xs.getD k y = x := by
  rw [List.getD_eq_getElem?_getD, h]
  rfl
/-- data without dicts, so many deep -/
structure okN (n : Nat) (d : D) : Prop where
  lay : PyData.canLay0 d = true
  dep : d.depth ≤ n
theorem okN.mono {n m : Nat} {d : D} (h : okN n d) (k : n ≤ m) : okN m d := ⟨h.lay, Nat.le_trans h.dep k⟩
theorem okN.int (n : Nat) (i : Int) : okN n (.int i) := ⟨rfl, Nat.zero_le _⟩
theorem okN.bool (n : Nat) (i : Bool) : okN n (.bool i) := ⟨rfl, Nat.zero_le _⟩
theorem okN.none (n : Nat) : okN n .none := ⟨rfl, Nat.zero_le _⟩
theorem okN.str {x : Str} (n : Nat) (h : PyData.canLay0 (.str x) = true) : okN n (.str x) := ⟨h, Nat.zero_le _⟩
theorem depthAll_le : ∀ {ds : List D} {n : Nat}, (∀ d ∈ ds, d.depth ≤ n) → PyData.depthAll ds ≤ n
  | [], _, _ => Nat.zero_le _
  | x :: xs, n, h => by
    unfold PyData.depthAll
    have h1 := h x List.mem_cons_self
    have h2 := depthAll_le (ds := xs) (n := n) fun d hd => h d (List.mem_cons_of_mem _ hd)
    first | exact Nat.max_le.mpr ⟨h1, h2⟩ | omega
theorem okN.tup {n : Nat} {ds : List D} (h : ∀ d ∈ ds, okN n d) : okN (n + 1) (.tuple ds) := by
  refine ⟨?_, ?_⟩
  · unfold PyData.canLay0
    exact canLayAll_of fun d hd => (h d hd).lay
  · unfold PyData.depth
    have := depthAll_le fun d hd => (h d hd).dep
    omega
theorem okN.list {n : Nat} {ds : List D} (h : ∀ d ∈ ds, okN n d) : okN (n + 1) (.list ds) := by
  refine ⟨?_, ?_⟩
  · unfold PyData.canLay0
    exact canLayAll_of fun d hd => (h d hd).lay
  · unfold PyData.depth
    have := depthAll_le fun d hd => (h d hd).dep
    omega
theorem okN.shaped {n : Nat} {d : D} (h : okN n d) (k : n ≤ 64 := by decide) : SeqAt.shaped d = true := by
  unfold SeqAt.shaped
  rw [h.lay, decide_eq_true (Nat.le_trans h.dep k)]
  rfl
mutual
theorem eqv_same : ∀ {d : D}, PyData.canLay0 d = true → PyData.eqv d d = true
  | .none, _ => rfl
  | .bool b, _ => by rw [eqv_boolD]; exact decide_eq_true rfl
  | .int b, _ => by rw [eqv_intD]; exact decide_eq_true rfl
  | .str b, _ => by rw [eqv_str]; exact decide_eq_true rfl
  | .list ds, h => by
    unfold PyData.canLay0 at h
    unfold PyData.eqv
    exact eqvAll_same h
  | .tuple ds, h => by
    unfold PyData.canLay0 at h
    unfold PyData.eqv
    exact eqvAll_same h
  | .dict _, h => by simp [PyData.canLay0] at h
theorem eqvAll_same : ∀ {ds : List D}, PyData.canLayAll0 ds = true → PyData.eqvAll ds ds = true
  | [], _ => rfl
  | x :: xs, h => by
    unfold PyData.canLayAll0 at h
    rw [Bool.and_eq_true] at h
    unfold PyData.eqvAll
    rw [eqv_same h.1, eqvAll_same h.2]
    rfl
end
theorem lt_of_get {α : Type} {xs : List α} {i : Nat} {x : α} (h : xs[i]? = some x) : i < xs.length := by
  apply Classical.byContradiction
  intro hn
  rw [List.getElem?_eq_none (by omega)] at h
  cases h
theorem dRange_get {n i : Nat} {d : D} (h : (dRange 0 n)[i]? = some d) : i < n ∧ d = .int (i : Nat) := by
  have hi : i < n := by have := lt_of_get h; rwa [dRange_length] at this
  unfold dRange at h
  rw [List.getElem?_map, List.getElem?_range hi, Option.map_some, Int.zero_add] at h
  exact ⟨hi, (Option.some.inj h).symm⟩
theorem dEnum_get {ds : List D} {i : Nat} {d : D} (h : (dEnum ds)[i]? = some d) : ∃ x, ds[i]? = some x ∧ d = .tuple [.int (i : Nat), x] := by
  unfold dEnum at h
  rw [List.getElem?_map] at h
  have hi : i < ds.length := by
    apply Classical.byContradiction
    intro hn
    rw [List.getElem?_eq_none (by rw [List.length_range]; omega)] at h
    cases h
  rw [List.getElem?_range hi] at h
  refine ⟨ds[i], List.getElem?_eq_getElem hi, ?_⟩
  have := (Option.some.inj h).symm
  rw [this]
  dsimp only
  rw [List.getD_eq_getElem?_getD, List.getElem?_eq_getElem hi]
  rfl
theorem dEnum_length (ds : List D) : (dEnum ds).length = ds.length := by unfold dEnum; rw [List.length_map, List.length_range]
theorem next_mk {n : Int} {Q : D → Prop} (h0 : 0 < n) (h1 : n < 1073741824) (q : ∀ d : Int, 0 ≤ d → d < n → Q (.int d)) : f_next [.int n] Q := ⟨n, rfl, h0, h1, q⟩
theorem atI_0 {α : Type} {x : α} {xs : List α} : atI (x :: xs) 0 = some x := atI_nat (j := 0) rfl
theorem atI_1 {α : Type} {x y : α} {xs : List α} : atI (x :: y :: xs) 1 = some y := atI_nat (j := 1) rfl
theorem atI_2 {α : Type} {x y z : α} {xs : List α} : atI (x :: y :: z :: xs) 2 = some z := atI_nat (j := 2) rfl
theorem atI_3 {α : Type} {x y z u : α} {xs : List α} : atI (x :: y :: z :: u :: xs) 3 = some u := atI_nat (j := 3) rfl
/-- a loop over a range, or over a list: what holds before each turn -/
theorem for_rng {g : T2G} {tb : T2S} {E : Ends2} {n : Nat} (Inv : Nat → Ev → Prop)
    (hs : ∀ i env, i < n → Inv i env → ∀ N : Ev → Prop, (∀ env', Inv (i + 1) env' → N env') → g (.int (i : Nat)) env fun env1 => tb { E with nx := N, ct := N, bk := E.nx } env1)
    (hd : ∀ env, Inv n env → E.nx env) {env : Ev} (h0 : Inv 0 env) : forD g tb E (dRange 0 n) env :=
  for_inv Inv (fun i d env h hi N hN => by obtain ⟨hlt, rfl⟩ := dRange_get h; exact hs i env hlt hi N hN) (fun env h => hd env (by rwa [dRange_length] at h)) h0
end Z2
namespace Z2
open PySem PySem.Spec PyProof.Rows L2
theorem _root_.L2.Room.units65 {k : Nat} {A : Around} (r : L2.Room k A) : A.units + 65 < cLine := by
  have := r.un
  omega
/-! `in` and `not in` of a list of data of any depth, also of an own list read in place -/
def dInD (neg : Bool) : R2D := fun x y Q => match y with | .list ds => SeqAt.shaped x = true ∧ SeqAt.shaped (.list ds) = true ∧ Q (.bool (if neg then !(ds.any fun d => PyData.eqv d x) else ds.any fun d => PyData.eqv d x)) | _ => False
section
variable {K : Fg} {ta : TE} {t2 : T2E}
theorem s2_inD : Sim2 K (rInD K) (dInD false) := by
  intro I H x y dx dy Q2 Q e hx hy q k
  unfold dInD at q
  split at q
  · rename_i ds
    obtain ⟨f1, f2, q⟩ := q
    exact ⟨dx, ds, Rp.dp e _ _ (SeqAt.canLay_of_shaped f1) hx, Rp.dp e _ _ (SeqAt.canLay_of_shaped f2) hy, f1, f2, k _ _ I H q (.refl e) (.bl _)⟩
  · exact q.elim
theorem s2_notInD : Sim2 K (rNotInD K) (dInD true) := by
  intro I H x y dx dy Q2 Q e hx hy q k
  unfold dInD at q
  split at q
  · rename_i ds
    obtain ⟨f1, f2, q⟩ := q
    exact ⟨dx, ds, Rp.dp e _ _ (SeqAt.canLay_of_shaped f1) hx, Rp.dp e _ _ (SeqAt.canLay_of_shaped f2) hy, f1, f2, k _ _ I H q (.refl e) (.bl _)⟩
  · exact q.elim
/-- x in own list i -/
def dOInD (neg : Bool) (i : Nat) (t : T2E) : T2E := fun env Q => match env[i]? with
  | some (some (.own ds)) => t env fun x => SeqAt.shaped x = true ∧ SeqAt.shaped (.list ds) = true ∧ Q (.bool (if neg then !(ds.any fun d => PyData.eqv d x) else ds.any fun d => PyData.eqv d x))
  | some (some (.dat (.list ds))) => t env fun x => SeqAt.shaped x = true ∧ SeqAt.shaped (.list ds) = true ∧ Q (.bool (if neg then !(ds.any fun d => PyData.eqv d x) else ds.any fun d => PyData.eqv d x))
  | _ => False
theorem own_list {p : P0} {env : Ev} {σ : L2.St} {I H : Hp} {i : Nat} {ds : List D} (r : RelL K p env σ I H) (e : env[i]? = some (some (.own ds)) ∨ env[i]? = some (some (.dat (.list ds)))) :
    ∃ (a : Addr) (vs : List V), σ[i]? = some (some (.ref a)) ∧ Rps K I vs ds ∧ ∀ I' H', Stp p I H I' H' → SqL K H' a vs := by
  rcases e with e2 | e2
  · obtain ⟨v, hv, a, vs, rfl, f2, _, e4, e5⟩ := r.r.sl i _ e2
    exact ⟨a, vs, hv, e5, fun I' H' s => SqL.of (s.gr.hh a _ e4 fun q => (r.r.st a q).1 f2)⟩
  · obtain ⟨v, hv, h⟩ := r.r.sl i _ e2
    have h : Rp K I v (.list ds) := h
    cases h with
    | lst h1 h2 => exact ⟨_, _, hv, h2, fun I' H' s => SqL.of (s.ih _ _ (s.ii _ _ h1))⟩
theorem se_oInD (i : Nat) (ha : SE K ta t2) : SE K (tOp (rInD K) ta (tVar i)) (dOInD false i t2) := by
  intro p env σ I H Q2 Q r q k
  have key : ∀ ds : List D, (env[i]? = some (some (.own ds)) ∨ env[i]? = some (some (.dat (.list ds)))) → (t2 env fun x => SeqAt.shaped x = true ∧ SeqAt.shaped (.list ds) = true ∧ Q2 (.bool (ds.any fun d => PyData.eqv d x))) → tOp (rInD K) ta (tVar i) σ H Q := fun ds e q => by
    obtain ⟨a, vs, h1, h2, h3⟩ := own_list r e
    refine ha p env σ I H _ _ r q fun d v I1 H1 q1 s1 r1 => ?_
    obtain ⟨f1, f2, q1⟩ := q1
    exact ⟨_, h1, d, ds, Rp.dp s1.ih _ _ (SeqAt.canLay_of_shaped f1) r1, .lst (h3 _ _ s1) (Rps.dp s1.ih _ _ (by have := SeqAt.canLay_of_shaped f2; simpa [PyData.canLay0] using this) (Rps.mono s1.ii _ _ h2)), f1, f2, k _ _ I1 H1 q1 s1 (.bl _)⟩
  unfold dOInD at q
  split at q
  · rename_i ds e; exact key ds (.inl e) q
  · rename_i ds e; exact key ds (.inr e) q
  · exact q.elim
theorem se_oNotInD (i : Nat) (ha : SE K ta t2) : SE K (tOp (rNotInD K) ta (tVar i)) (dOInD true i t2) := by
  intro p env σ I H Q2 Q r q k
  have key : ∀ ds : List D, (env[i]? = some (some (.own ds)) ∨ env[i]? = some (some (.dat (.list ds)))) → (t2 env fun x => SeqAt.shaped x = true ∧ SeqAt.shaped (.list ds) = true ∧ Q2 (.bool (!ds.any fun d => PyData.eqv d x))) → tOp (rNotInD K) ta (tVar i) σ H Q := fun ds e q => by
    obtain ⟨a, vs, h1, h2, h3⟩ := own_list r e
    refine ha p env σ I H _ _ r q fun d v I1 H1 q1 s1 r1 => ?_
    obtain ⟨f1, f2, q1⟩ := q1
    exact ⟨_, h1, d, ds, Rp.dp s1.ih _ _ (SeqAt.canLay_of_shaped f1) r1, .lst (h3 _ _ s1) (Rps.dp s1.ih _ _ (by have := SeqAt.canLay_of_shaped f2; simpa [PyData.canLay0] using this) (Rps.mono s1.ii _ _ h2)), f1, f2, k _ _ I1 H1 q1 s1 (.bl _)⟩
  unfold dOInD at q
  split at q
  · rename_i ds e; exact key ds (.inl e) q
  · rename_i ds e; exact key ds (.inr e) q
  · exact q.elim
end
end Z2
namespace Z2
open PySem PySem.Spec PyProof.Rows L2
/-! ### dicts as data: keys are tuples of ints, values are plain -/
theorem ent_any {P : Program} {w w' : World} (ns : List Int) (b : Addr) (u : Value) : entryOfKey (tupleKind (mixKind P w)) (kI ns, b, u) = entryOfKey (tupleKind (mixKind P w')) (kI ns, b, u) := by
  unfold entryOfKey
  have e : ((kI ns).map (mixKind P w).hash) = ((kI ns).map (mixKind P w').hash) := by
    unfold kI
    rw [List.map_map, List.map_map]
    rfl
  show DictEntry.mk (tupleKeyHash (mixKind P w) (kI ns)) _ _ = DictEntry.mk (tupleKeyHash (mixKind P w') (kI ns)) _ _
  unfold tupleKeyHash
  rw [e]
theorem kI_kV (ns : List Int) : (kI ns).map kV = ns.map V.int := by
  unfold kI
  rw [List.map_map]
  rfl
theorem kI_inj : ∀ {ns ms : List Int}, kI ns = kI ms → ns = ms
  | [], [], _ => rfl
  | [], _ :: _, h => nomatch h
  | _ :: _, [], h => nomatch h
  | n :: ns, m :: ms, h => by
    have h : (Sum.inl n :: kI ns : List Key) = Sum.inl m :: kI ms := h
    injection h with h1 h2
    injection h1 with h1
    rw [h1, kI_inj h2]
def IKeys (K : Fg) (H : Hp) (xs : List (List Key × Addr × Value)) : Prop := ∀ x ∈ xs, ∃ ns, x.1 = kI ns ∧ SqT K H x.2.1 (ns.map V.int)
theorem dct_any {X : Cx} {pins : List (Addr × Obj)} {σ : L2.St} {H : Hp} {s : Shared} {a : Addr} {w : World} {xs : List (List Key × Addr × Value)} (I : L2.Inv X pins σ H s) (e : H a = some (dctO w a xs)) (hk : IKeys X.K H xs) : (a == sysModules) = false ∧ xs.length ≤ sizeLine ∧ s.heap.DictOfH (tupleKind (mixKind X.prog X.w)) a xs := by
  obtain ⟨⟨z1, z2, o, es, ep, h1, h2, h3, h4, h5⟩, _, _⟩ := (show ObjOk X.prog X.w H s.heap a (dctO w a xs) from I.hok a _ e)
  refine ⟨z1, z2, o, es, ep, h1, h2, h3, (h4 X.prog).trans (List.map_congr_left fun x hx => ?_), fun x hx => ?_, h5⟩
  · obtain ⟨ns, e1, _⟩ := hk x hx
    obtain ⟨k, b, u⟩ := x
    cases e1
    exact ent_any ns b u
  · obtain ⟨ns, e1, e2⟩ := hk x hx
    rw [e1]
    exact key_sq I (by rw [kI_kV]; exact e2)
def rFG (K : Fg) : R2 := fun x y H Q => ∃ a w xs b ns p v, x = .ref a ∧ y = .ref b ∧ H a = some (dctO w a xs) ∧ IKeys K H xs ∧ SqT K H b (ns.map V.int) ∧ atKey xs (kI ns) = some p ∧ RelV v p.2 ∧ Q v H
def rFIn (K : Fg) (neg : Bool) : R2 := fun x y H Q => ∃ a w xs b ns, x = .ref b ∧ y = .ref a ∧ H a = some (dctO w a xs) ∧ IKeys K H xs ∧ SqT K H b (ns.map V.int) ∧ Q (.bl (if neg then !(atKey xs (kI ns)).isSome else (atKey xs (kI ns)).isSome)) H
theorem pe_fg {X : Cx} {o i : Expr} {pos : Pos} {td ty : TE} (hu : X.A.units + 1 < cLine) (ho : PE X o td) (hi : PE X i ty) (hs : NoSl i) : PE X (.Subscript o i pos) (tOp (rFG X.K) td ty) := by
  refine ⟨fun pins s σ H Q I h => ?_⟩
  refine subD_of PySem.F.slot_dict_getitem.lookup hs (thn (ho.run pins s σ H _ I h) fun u s1 ⟨x, H1, I1, rx, q1⟩ => thn (hi.run pins s1 σ H1 _ I1 q1) fun iv s2 ⟨y, H2, I2, ry, a, w, xs, b, ns, p, v, ex, ey, e, hk, eb, hp, rv, q2⟩ => ?_)
  subst ex ey
  obtain rfl : u = Value.ref a := rx
  obtain rfl : iv = Value.ref b := ry
  obtain ⟨z1, z2, dd⟩ := dct_any I2 e hk
  refine ⟨dd.typeIs, ?_⟩
  exact wpAny_getItem_heap (tupleKind_room_in1 hu) (key_sq I2 (by rw [kI_kV]; exact eb)) dd hp ⟨v, H2, I2.tok _, rv, q2⟩
theorem op_fIn {X : Cx} (hu : X.A.units + 1 < cLine) : OpR X (compareOp .In) (rFIn X.K false) := by
  intro pins s σ H x y v u Q I rx ry h
  obtain ⟨a, w, xs, b, ns, rfl, rfl, e, hk, eb, q⟩ := h
  obtain rfl : v = Value.ref b := rx
  obtain rfl : u = Value.ref a := ry
  obtain ⟨z1, z2, dd⟩ := dct_any I e hk
  exact wpAny_in_heap (tupleKind_room_in1 hu) (key_sq I (by rw [kI_kV]; exact eb)) z1 dd ⟨.bl _, H, I.tok _, rfl, q⟩
theorem op_fNotIn {X : Cx} (hu : X.A.units + 1 < cLine) : OpR X (compareOp .NotIn) (rFIn X.K true) := by
  intro pins s σ H x y v u Q I rx ry h
  obtain ⟨a, w, xs, b, ns, rfl, rfl, e, hk, eb, q⟩ := h
  obtain rfl : v = Value.ref b := rx
  obtain rfl : u = Value.ref a := ry
  obtain ⟨z1, z2, dd⟩ := dct_any I e hk
  exact wpAny_notIn_heap (tupleKind_room_in1 hu) (key_sq I (by rw [kI_kV]; exact eb)) z1 dd ⟨.bl _, H, I.tok _, rfl, q⟩
/-! over data -/
def keyIs : List D → Option (List Int)
  | [] => some []
  | .int i :: ds => (keyIs ds).map (i :: ·)
  | _ => none
def keyI : D → Option (List Int) | .tuple ds => keyIs ds | _ => none
def getF (kvs : List (D × D)) (k : List Int) : Option D := (kvs.find? fun p => decide (keyI p.1 = some k)).map (·.2)
def dGetF : R2D := fun x y Q => match x with | .dict kvs => (match keyI y with | some k => (match getF kvs k with | some d => Q d | none => False) | none => False) | _ => False
def dInF (neg : Bool) : R2D := fun x y Q => match y with | .dict kvs => (match keyI x with | some k => Q (.bool (if neg then !(getF kvs k).isSome else (getF kvs k).isSome)) | none => False) | _ => False
def dInO (neg : Bool) (i : Nat) (t : T2E) : T2E := fun env Q => match env[i]? with
  | some (some (.dct _ ks)) => t env fun x => (match keyI x with | some k => (∀ y ∈ ks, ∃ ms, y.1 = kI ms) ∧ Q (.bool (if neg then !(valD ks (kI k)).isSome else (valD ks (kI k)).isSome)) | none => False)
  | some (some (.dat (.dict kvs))) => t env fun x => (match keyI x with | some k => Q (.bool (if neg then !(getF kvs k).isSome else (getF kvs k).isSome)) | none => False)
  | _ => False
theorem keyIs_of : ∀ {ds : List D} {k : List Int}, keyIs ds = some k → ds = k.map PyData.int
  | [], k, e => by cases e; rfl
  | .int i :: ds, k, e => by
    unfold keyIs at e
    obtain ⟨k', e1, rfl⟩ := Option.map_eq_some_iff.mp e
    rw [keyIs_of e1]
    rfl
  | .none :: _, _, e => nomatch e
  | .bool _ :: _, _, e => nomatch e
  | .str _ :: _, _, e => nomatch e
  | .list _ :: _, _, e => nomatch e
  | .tuple _ :: _, _, e => nomatch e
  | .dict _ :: _, _, e => nomatch e
theorem keyIs_ints : ∀ ns : List Int, keyIs (ns.map PyData.int) = some ns
  | [] => rfl
  | n :: ns => by
    show (keyIs (ns.map PyData.int)).map (n :: ·) = _
    rw [keyIs_ints ns]
    rfl
theorem keyI_ints (ns : List Int) : keyI (.tuple (ns.map PyData.int)) = some ns := keyIs_ints ns
section
variable {K : Fg} {I : Hp}
theorem keyI_rp {d : D} {v : V} {k : List Int} (h : Rp K I v d) (e : keyI d = some k) : ∃ b, v = .ref b ∧ SqT K I b (k.map V.int) := by
  unfold keyI at e
  split at e
  · cases h with
    | tup h1 h2 =>
      rw [keyIs_of e] at h2
      rw [h2.ints] at h1
      exact ⟨_, rfl, h1⟩
  · cases e
theorem KF.keys : ∀ {xs : List (List Key × Addr × Value)} {kvs : List (D × D)}, KF K I xs kvs → IKeys K I xs
  | _, _, .nil, x, hx => absurd hx List.not_mem_nil
  | _, _, .cons h1 h2 h3 t, x, hx => by
    rcases List.mem_cons.mp hx with rfl | hx
    · exact ⟨_, rfl, h1⟩
    · exact KF.keys t x hx
theorem KF.val : ∀ {xs : List (List Key × Addr × Value)} {kvs : List (D × D)}, KF K I xs kvs → ∀ k, (getF kvs k = none ∧ atKey xs (kI k) = none) ∨ ∃ d p v, getF kvs k = some d ∧ atKey xs (kI k) = some p ∧ RelV v p.2 ∧ R0 v d
  | _, _, .nil, k => .inl ⟨rfl, rfl⟩
  | _, _, .cons (ns := ns) (b := b) (u := u) (v := v) (d := d) (xs := xs) (kvs := kvs) h1 h2 h3 t, k => by
    by_cases c : ns = k
    · subst c
      refine .inr ⟨d, (b, u), v, ?_, ?_, h2, h3⟩
      · unfold getF; rw [List.find?_cons, keyI_ints, decide_eq_true rfl]; rfl
      · unfold atKey; rw [List.find?_cons, decide_eq_true rfl]; rfl
    · have e1 : getF ((.tuple (ns.map PyData.int), d) :: kvs) k = getF kvs k := by unfold getF; rw [List.find?_cons, keyI_ints, decide_eq_false (fun z => c (Option.some.inj z))]
      have e2 : atKey ((kI ns, b, u) :: xs) (kI k) = atKey xs (kI k) := by unfold atKey; rw [List.find?_cons, decide_eq_false (fun z => c (kI_inj z))]
      rw [e1, e2]
      exact KF.val t k
theorem IKeys.mono {H H' : Hp} {xs : List (List Key × Addr × Value)} (e : Same H H') (h : IKeys K H xs) : IKeys K H' xs := fun x hx => by
  obtain ⟨ns, e1, e2⟩ := h x hx
  exact ⟨ns, e1, Same.sqt e e2⟩
theorem s2_getF : Sim2 K (rFG K) dGetF := by
  intro I H x y dx dy Q2 Q e hx hy q k
  unfold dGetF at q
  split at q
  · split at q
    · rename_i kk ek
      split at q
      · rename_i d ed
        obtain ⟨b, rfl, eb⟩ := keyI_rp hy ek
        cases hx with
        | dic h1 h2 =>
          rename_i a w xs
          rcases h2.val kk with ⟨z, _⟩ | ⟨d', p, v, z1, z2, z3, z4⟩
          · rw [z] at ed; cases ed
          · rw [z1] at ed
            cases ed
            exact ⟨a, w, xs, b, kk, p, v, rfl, rfl, e _ _ h1, h2.keys.mono e, Same.sqt e eb, z2, z3, k _ _ I H q (.refl e) z4.rp⟩
      · exact q.elim
    · exact q.elim
  · exact q.elim
theorem s2_inF (neg : Bool) : Sim2 K (rFIn K neg) (dInF neg) := by
  intro I H x y dx dy Q2 Q e hx hy q k
  unfold dInF at q
  split at q
  · split at q
    · rename_i kk ek
      obtain ⟨b, rfl, eb⟩ := keyI_rp hx ek
      cases hy with
      | dic h1 h2 =>
        rename_i a w xs
        refine ⟨a, w, xs, b, kk, rfl, rfl, e _ _ h1, h2.keys.mono e, Same.sqt e eb, ?_⟩
        rcases h2.val kk with ⟨z1, z2⟩ | ⟨d', p, v, z1, z2, z3, z4⟩
        · rw [z1] at q
          rw [z2]
          exact k _ _ I H q (.refl e) (.bl _)
        · rw [z1] at q
          rw [z2]
          exact k _ _ I H q (.refl e) (.bl _)
    · exact q.elim
  · exact q.elim
end
section
variable {K : Fg} {ta : TE} {t2 : T2E}
theorem KD.ikeys {I : Hp} : ∀ {xs : List (List Key × Addr × Value)} {ks : List (List Key × D)}, KD K I xs ks → (∀ y ∈ ks, ∃ ms, y.1 = kI ms) → IKeys K I xs
  | _, _, .nil, _, x, hx => absurd hx List.not_mem_nil
  | _, _, .cons (k := k1) (d := d) h1 h2 h3 t, hk, x, hx => by
    rcases List.mem_cons.mp hx with rfl | hx
    · obtain ⟨ms, e⟩ := hk (k1, d) List.mem_cons_self
      have e : k1 = kI ms := e
      refine ⟨ms, e, ?_⟩
      rw [e, kI_kV] at h1
      exact h1
    · exact KD.ikeys t (fun y hy => hk y (List.mem_cons_of_mem _ hy)) x hx
theorem se_inO (neg : Bool) (i : Nat) (ha : SE K ta t2) : SE K (tOp (rFIn K neg) ta (tVar i)) (dInO neg i t2) := by
  intro p env σ I H Q2 Q r q k
  unfold dInO at q
  split at q
  · rename_i w ks e2
    obtain ⟨va, hva, a, xs, rfl, f2, f3, f4, f5⟩ := r.r.sl i _ e2
    refine ha p env σ I H _ _ r q fun d v I1 H1 q1 s1 r1 => ?_
    split at q1
    · rename_i kk ek
      obtain ⟨hk, q1⟩ := q1
      obtain ⟨v', hv', a', xs', e1', g2, g3, g4, g5⟩ := (r.stp s1).r.sl i _ e2
      subst e1'
      rw [hva] at hv'
      cases hv'
      obtain ⟨b, rfl, eb⟩ := keyI_rp r1 ek
      refine ⟨_, hva, a, w, xs', b, kk, rfl, rfl, g4, (g5.ikeys hk).mono s1.ih, Same.sqt s1.ih eb, ?_⟩
      rcases g5.val (kI kk) with ⟨z1, z2⟩ | ⟨d', p', v', z1, z2, _, _⟩
      · rw [z1] at q1
        rw [z2]
        exact k _ _ _ _ q1 s1 (.bl _)
      · rw [z1] at q1
        rw [z2]
        exact k _ _ _ _ q1 s1 (.bl _)
    · exact q1.elim
  · rename_i kvs e2
    obtain ⟨va, hva, h⟩ := r.r.sl i _ e2
    have h : Rp K I va (.dict kvs) := h
    cases h with
    | dic h1 h2 =>
      rename_i a w xs
      refine ha p env σ I H _ _ r q fun d v I1 H1 q1 s1 r1 => ?_
      split at q1
      · rename_i kk ek
        obtain ⟨b, rfl, eb⟩ := keyI_rp r1 ek
        refine ⟨_, hva, a, w, xs, b, kk, rfl, rfl, s1.ih _ _ (s1.ii _ _ h1), h2.keys.mono (s1.ii.trans s1.ih), Same.sqt s1.ih eb, ?_⟩
        rcases h2.val kk with ⟨z1, z2⟩ | ⟨d', p', v', z1, z2, _, _⟩
        · rw [z1] at q1
          rw [z2]
          exact k _ _ _ _ q1 s1 (.bl _)
        · rw [z1] at q1
          rw [z2]
          exact k _ _ _ _ q1 s1 (.bl _)
      · exact q1.elim
  · exact q.elim
end
/-! ### an own dict becomes data -/
def scal : D → Bool | .none => true | .bool _ => true | .int _ => true | _ => false
def ksOf (is : List (List Int × D)) : List (List Key × D) := is.map fun q => (kI q.1, q.2)
def dicD (is : List (List Int × D)) : D := .dict (is.map fun q => (.tuple (q.1.map PyData.int), q.2))
theorem KD.kf {K : Fg} {I : Hp} : ∀ {is : List (List Int × D)} {xs : List (List Key × Addr × Value)}, KD K I xs (ksOf is) → (∀ q ∈ is, scal q.2 = true) → KF K I xs (is.map fun q => (.tuple (q.1.map PyData.int), q.2))
  | [], _, h, _ => by cases h; exact .nil
  | (ns, d) :: is, _, h, hs => by
    cases h with
    | cons h1 h2 h3 t =>
      rw [kI_kV] at h1
      have hd := hs (ns, d) List.mem_cons_self
      refine .cons h1 h2 ?_ (KD.kf t fun q hq => hs q (List.mem_cons_of_mem _ hq))
      cases h3 with
      | non => exact .non
      | bl b => exact .bl b
      | int i => exact .int i
      | str x => exact nomatch hd
      | lst _ _ => exact nomatch hd
      | tup _ _ => exact nomatch hd
      | dic _ _ => exact nomatch hd
theorem RelL.freezeDct {K : Fg} {p : P0} {env : Ev} {σ : L2.St} {I H : Hp} (r : RelL K p env σ I H) {i : Nat} {w : World} {is : List (List Int × D)} (e : env[i]? = some (some (.dct w (ksOf is)))) (hs : ∀ q ∈ is, scal q.2 = true) : ∃ I', Same I I' ∧ RelL K p (env.set i (some (.dat (dicD is)))) σ I' H := by
  obtain ⟨v, hv, a, xs, rfl, e2, e3, e4, e5⟩ := r.r.sl i _ e
  have ii : Same I (upd I a (dctO w a xs)) := fun b o q => by rw [upd_ne (ne_of_none q e3)]; exact q
  have nm : p.m ≠ some a := fun q => (r.r.st _ q).1 e2
  refine ⟨upd I a (dctO w a xs), ii, ⟨⟨r.r.gr.ii.trans ii, fun b o q => ?_, r.r.gr.hh, fun b q n => ?_, r.r.gr.th⟩, fun j x q => ?_, fun j k x y b n q1 q2 q3 q4 => ?_, fun s q => ⟨(r.r.st s q).1, ?_⟩, r.r.bs.trans ii, r.r.sd.setE _ _ (fun _ _ z => nomatch z), r.r.sm.setE _ _ (fun y z u c cc => by cases z; exact cc.elim)⟩, by rw [List.length_set]; exact r.len⟩
  · by_cases hb : b = a
    · subst hb; rw [upd_same] at q; cases q; exact e4
    · rw [upd_ne hb] at q; exact r.r.gr.ih b o q
  · have hb : b ≠ a := fun w => n (by rw [w]; exact e2)
    rw [upd_ne hb]; exact r.r.gr.fr b q n
  · rcases getSet q with ⟨rfl, z, hl⟩ | ⟨n, z⟩
    · cases z
      exact ⟨_, hv, .dic upd_same (KF.mono ii (e5.kf hs))⟩
    · obtain ⟨u, hu, z2⟩ := r.r.sl j x z
      refine ⟨u, hu, ?_⟩
      cases x with
      | dat d => exact Rp.mono ii d u z2
      | rng _ => obtain ⟨a_, e1_, e2_⟩ := z2; exact ⟨a_, e1_, (ii) _ _ e2_⟩
      | own es =>
        obtain ⟨b, ws, f1, f2, f3, f4, f5⟩ := z2
        subst f1
        have nb : b ≠ a := fun w => by
          rw [w, e4] at f4
          exact nomatch f4
        exact ⟨b, ws, rfl, f2, by rw [upd_ne nb]; exact f3, f4, Rps.mono ii es ws f5⟩
      | strm => exact z2
      | lnt x =>
        obtain ⟨b, f1, f2, f3, f4⟩ := z2
        exact ⟨b, f1, f2, f3, f4.stays ii fun o q => q⟩
      | dct w' ks =>
        obtain ⟨b, ws, f1, f2, f3, f4, f5⟩ := z2
        subst f1
        have nb : b ≠ a := fun w2 => r.r.sd i j w w' _ ks a n e z hv (by rw [← w2]; exact hu)
        exact ⟨b, ws, rfl, f2, by rw [upd_ne nb]; exact f3, f4, KD.mono ii f5⟩
      | dki ks =>
        obtain ⟨b, ws, f1, f2, f3, f4, f5⟩ := z2
        subst f1
        have nb : b ≠ a := fun w2 => by
          rw [w2, e4] at f4
          exact nomatch f4
        exact ⟨b, ws, rfl, f2, by rw [upd_ne nb]; exact f3, f4, KDI.mono ii f5⟩
      | mat rows =>
        obtain ⟨b, bs, f1, f2, f3, f4, f5, f6⟩ := z2
        subst f1
        have nb : b ≠ a := fun w => by
          rw [w, e4] at f4
          exact nomatch f4
        refine ⟨b, bs, rfl, f2, by rw [upd_ne nb]; exact f3, f4, f5, f6.stays ii fun c hc z1 z2 z3 => ⟨?_, rfl⟩⟩
        have nc : c ≠ a := fun w => by
          obtain ⟨_, _, vs2, hv2⟩ := f6.live c hc
          rw [w, e4] at hv2
          exact nomatch hv2
        rw [upd_ne nc]
        exact z2
  · rcases getSet q1 with ⟨_, z, _⟩ | ⟨n1, z1⟩
    · cases z
    · rcases getSet q2 with ⟨_, z, _⟩ | ⟨n2, z2⟩
      · cases z
      · exact r.r.sep j k x y b n z1 z2 q3 q4
  · obtain ⟨f0, l, c, k, ns, f1, f2, f3⟩ := (r.r.st s q).2
    have ns2 : s ≠ a := fun w => nm (by rw [q, w])
    exact ⟨by rw [upd_ne ns2]; exact f0, l, c, k, ns, f1, ii _ _ f2, f3⟩
def dFrzD (i : Nat) (t : T2S) : T2S := fun E env => match env[i]? with
  | some (some (.dct _ ks)) => ∃ is, ks = ksOf is ∧ (∀ q ∈ is, scal q.2 = true) ∧ t E (env.set i (some (.dat (dicD is))))
  | some (some (.dat _)) => t E env | _ => False
theorem ss_frzD {K : Fg} {ts : TS} {t : T2S} (i : Nat) (h : SS K ts t) : SS K ts (dFrzD i t) := by
  intro p env σ I H D2 E r q e
  unfold dFrzD at q
  split at q
  · rename_i w ks e2
    obtain ⟨is, rfl, hs, q⟩ := q
    obtain ⟨I', ii, r'⟩ := r.freezeDct e2 hs
    exact h p _ σ I' H D2 E r' q e
  · exact h p env σ I H D2 E r q e
  · exact q.elim
end Z2
namespace Z2
open PySem PySem.Spec PyProof.Rows L2
/-! ### x += an int, and an append of what is popped -/
def dAugA (i : Nat) (t : T2E) : T2S := fun E env => match env[i]? with
  | some (some (.dat (.int a))) => t env fun d => (match d with | .int b => E.nx (env.set i (some (.dat (.int (a + b))))) | _ => False)
  | _ => False
/-- xs.append(ys.pop(t)), i for xs, j for ys -/
def dAppPop (i j : Nat) (t : T2E) : T2S := fun E env => match env[i]? with
  | some (some (.own _)) => (match env[j]? with
    | some (some (.own es)) => t env fun x => (match x with
      | .int k => (match ixN es.length k with
        | some m => (match es[m]? with
          | some y => -(2 ^ 63) ≤ k ∧ k < 2 ^ 63 ∧ (match (env.set j (some (.own (es.eraseIdx m))))[i]? with
            | some (some (.own ds)) => ds.length < 1000000 ∧ E.nx ((env.set j (some (.own (es.eraseIdx m)))).set i (some (.own (ds ++ [y]))))
            | _ => False)
          | none => False)
        | none => False)
      | _ => False)
    | _ => False)
  | _ => False
section
variable {K : Fg} {te : TE} {t2 : T2E}
theorem ss_augA (i : Nat) (h : SE K te t2) : SS K (tAug i te (ipI fun a b => a + b)) (dAugA i t2) := by
  intro p env σ I H D2 E r q e
  unfold dAugA at q
  split at q
  · rename_i a e2
    obtain ⟨v, hv, r0⟩ := r.r.sl i _ e2
    have r0 : Rp K I v (.int a) := r0
    cases r0
    refine ⟨_, hv, h p env σ I H _ _ r q fun d v I1 H1 q1 s1 r1 => ?_⟩
    split at q1
    · cases r1
      exact ⟨_, _, rfl, rfl, e.nx _ _ _ _ q1 ((r.stp s1).setDat (.int _) i)⟩
    · exact q1.elim
  · exact q.elim
theorem ss_appPop (i j : Nat) (h : SE K te t2) : SS K (tDrop (tBM K "list" rAppend (tVar i) (tCons (tBM K "list" rPopAt (tVar j) (tCons te tNil)) tNil))) (dAppPop i j t2) := by
  intro p env σ I H D2 E r q e
  unfold dAppPop at q
  split at q
  · rename_i ds0 ei
    split at q
    · rename_i es ej
      obtain ⟨vi, hvi, ai, wsi, rfl, _, _, g4, g5⟩ := r.r.sl i _ ei
      obtain ⟨vj, hvj, aj, wsj, rfl, _, _, f4, f5⟩ := r.r.sl j _ ej
      refine ⟨_, hvi, .inl ⟨rfl, _, SqL.of g4⟩, _, hvj, .inl ⟨rfl, _, SqL.of f4⟩, h p env σ I H _ _ r q fun d v I1 H1 q1 s1 r1 => ?_⟩
      have r' := r.stp s1
      obtain ⟨vj', hvj', aj', ws, e1, _, _, k4, k5⟩ := r'.r.sl j _ ej
      rw [hvj] at hvj'; cases hvj'; cases e1
      split at q1
      · rename_i k
        split at q1
        · rename_i m em
          split at q1
          · rename_i y ey
            obtain ⟨j0, j1, q1⟩ := q1
            cases r1
            have hseq := ixN_seq em
            obtain ⟨yv, hyv, ryv⟩ := k5.got ey
            have hs := hseq.1
            rw [← k5.length] at hs
            refine ⟨aj, ws, k, m, yv, rfl, rfl, k4, j0, j1, hs, hyv, ?_⟩
            have r2 := r'.mutOwn ej hvj (Rps.erase m k5)
            split at q1
            · rename_i ds e3
              obtain ⟨hl, q1⟩ := q1
              obtain ⟨vi', hvi', ai', wsi', e1, _, _, n4, n5⟩ := r2.r.sl i _ e3
              rw [hvi] at hvi'; cases hvi'; cases e1
              exact ⟨ai, wsi', yv, rfl, rfl, n4, lt_line (by rw [n5.length]; exact hl), e.nx _ _ _ _ q1 (r2.mutOwn e3 hvi (Rps.append n5 (.cons ryv .nil)))⟩
            · exact q1.elim
          · exact q1.elim
        · exact q1.elim
      · exact q1.elim
    · exact q.elim
  · exact q.elim
end
end Z2
namespace Z2
open PySem PySem.Spec PyProof.Rows L2
/-! ### list(range(a, b)) -/
def dLstRg2 (a b : T2E) : T2A := fun env Q => a env fun d => b env fun e => match d, e with
  | .int i, .int j => -1000000 ≤ i ∧ i ≤ 1000000 ∧ -1000000 ≤ j ∧ j ≤ 1000000 ∧ Q (dRange i (j - i).toNat)
  | _, _ => False
theorem rg_rps2 {K : Fg} {I : Hp} (i j : Int) : Rps K I (rgV i j) (dRange i (j - i).toNat) := by
  have e1 : rgV i j = (((List.range (j - i).toNat).map fun k => i + (k : Nat))).map V.int := by
    unfold rgV
    rw [List.map_map]
    rfl
  have e2 : dRange i (j - i).toNat = (((List.range (j - i).toNat).map fun k => i + (k : Nat))).map PyData.int := by
    unfold dRange
    rw [List.map_map]
    rfl
  rw [e1, e2]
  exact Rps.ofInts _
theorem so_listRg2 {K : Fg} {ta tb : TE} {a b : T2E} (ha : SE K ta a) (hb : SE K tb b) : SO K (tLstRg (tRg2 ta tb)) (dLstRg2 a b) := by
  intro p env σ I H Q2 Q rl q k
  refine ha p env σ I H _ _ rl q fun d v I1 H1 q1 s1 h1 => ?_
  refine hb p env σ I1 H1 _ _ (rl.stp s1) q1 fun e u I2 H2 q2 s2 h2 => ?_
  have h1' := Rp.mono s2.ii _ _ h1
  cases d <;> cases e <;> first | exact q2.elim | skip
  rename_i i j
  obtain ⟨i0, i1, j0, j1, q2⟩ := q2
  cases h1'
  cases h2
  refine ⟨i, j, rfl, rfl, ⟨by omega, by omega, by omega, by omega, by omega⟩, fun l h0 => ?_⟩
  have hl0 : H l = none := by
    cases e : H l with
    | none => rfl
    | some o => exact absurd h0 ((s1.trans s2).gr.th l (by rw [e]; exact fun z => nomatch z))
  exact k _ l (rgV i j) I2 (upd H2 l (.lst (rgV i j))) q2 ((s1.trans s2).trans (Stp.fresh s2.ih h0)) hl0 (Same.free s2.ih h0) upd_same (rg_rps2 i j)
end Z2
namespace Z2
open PySem PySem.Spec PyProof.Rows L2
/-! ### dicts of one's own whose keys are ints -/
def valI (ks : List (Int × D)) (k : Int) : Option D := (ks.find? fun x => decide (x.1 = k)).map (·.2)
def putI (ks : List (Int × D)) (k : Int) (d : D) : List (Int × D) := if (ks.any fun x => decide (x.1 = k)) = true then ks.map (fun x => if x.1 = k then (x.1, d) else x) else ks ++ [(k, d)]
def noK : Option Sl → Bool | some (.dki _) => false | _ => true
section
variable {K : Fg} {I : Hp}
theorem KDI.length : ∀ {xs : List (Key × V)} {ks : List (Int × D)}, KDI K I xs ks → xs.length = ks.length
  | _, _, .nil => rfl
  | _, _, .cons _ t => by rw [List.length_cons, List.length_cons, KDI.length t]
theorem KDI.val : ∀ {xs : List (Key × V)} {ks : List (Int × D)}, KDI K I xs ks → ∀ k : Int, (valI ks k = none ∧ valV xs (Sum.inl k) = none) ∨ ∃ d v, valI ks k = some d ∧ valV xs (Sum.inl k) = some v ∧ Rp K I v d
  | _, _, .nil, k => .inl ⟨rfl, rfl⟩
  | _, _, .cons (i := i) (v := v) (d := d) (xs := xs) (ks := ks) h t, k => by
    by_cases c : i = k
    · subst c
      refine .inr ⟨d, v, ?_, valV_pos rfl, h⟩
      unfold valI
      rw [List.find?_cons, decide_eq_true rfl]
      rfl
    · have e1 : valI ((i, d) :: ks) k = valI ks k := by unfold valI; rw [List.find?_cons, decide_eq_false c]
      have e2 : valV (((Sum.inl i : Key), v) :: xs) (Sum.inl k) = valV xs (Sum.inl k) := valV_neg fun z => c (Sum.inl.inj z)
      rw [e1, e2]
      exact KDI.val t k
theorem KDI.any : ∀ {xs : List (Key × V)} {ks : List (Int × D)}, KDI K I xs ks → ∀ k : Int, (xs.any fun kv => decide (kv.1 = (Sum.inl k : Key))) = ks.any fun x => decide (x.1 = k)
  | _, _, .nil, k => rfl
  | _, _, .cons (i := i) h t, k => by
    rw [List.any_cons, List.any_cons, KDI.any t k]
    congr 1
    rw [Bool.eq_iff_iff, decide_eq_true_iff, decide_eq_true_iff]
    exact ⟨fun z => Sum.inl.inj z, fun z => by rw [show i = k from z]⟩
theorem KDI.repl {k : Int} {v : V} {d : D} (h1 : Rp K I v d) : ∀ {xs : List (Key × V)} {ks : List (Int × D)}, KDI K I xs ks → KDI K I (xs.map fun kv => if kv.1 = (Sum.inl k : Key) then (kv.1, v) else kv) (ks.map fun x => if x.1 = k then (x.1, d) else x)
  | _, _, .nil => .nil
  | _, _, .cons (i := i) (v := v1) (d := d1) h t => by
    rw [List.map_cons, List.map_cons]
    by_cases c : i = k
    · subst c
      rw [if_pos rfl, if_pos rfl]
      exact .cons h1 (KDI.repl h1 t)
    · rw [if_neg (fun z => c (Sum.inl.inj z)), if_neg c]
      exact .cons h (KDI.repl h1 t)
theorem KDI.snoc {k : Int} {v : V} {d : D} (h1 : Rp K I v d) : ∀ {xs : List (Key × V)} {ks : List (Int × D)}, KDI K I xs ks → KDI K I (xs ++ [(Sum.inl k, v)]) (ks ++ [(k, d)])
  | _, _, .nil => .cons h1 .nil
  | _, _, .cons h t => .cons h (KDI.snoc h1 t)
theorem KDI.put {k : Int} {v : V} {d : D} (h1 : Rp K I v d) {xs : List (Key × V)} {ks : List (Int × D)} (h : KDI K I xs ks) : KDI K I (putK xs (Sum.inl k) v) (putI ks k d) := by
  unfold putK putI
  rw [h.any k]
  split
  · exact KDI.repl h1 h
  · exact KDI.snoc h1 h
end
section
variable {K : Fg} {p : P0} {env : Ev} {σ : L2.St} {I H I' H' : Hp}
theorem RelL.setDki (r : RelL K p env σ I H) {a : Addr} {xs : List (Key × V)} {ks : List (Int × D)} (h0 : p.H0 a = none) (h1 : I a = none) (h2 : H a = some (.dK xs)) (h3 : KDI K I xs ks) (i : Nat) : RelL K p (env.set i (some (.dki ks))) (σ.set i (some (.ref a))) I H := by
  refine ⟨⟨r.r.gr, fun j x e => ?_, fun j k x y b n e1 e2 e3 e4 => ?_, r.r.st, r.r.bs, r.r.sd.set i _ _ (fun w ks z => nomatch z), r.r.sm.set _ _ _ (fun y z u c cc => by cases z; exact cc.elim)⟩, by rw [List.length_set, List.length_set]; exact r.len⟩
  · rcases getSet e with ⟨rfl, q, hl⟩ | ⟨n, q⟩
    · cases q
      exact ⟨_, List.getElem?_set_self (by rw [← r.len]; exact hl), a, xs, rfl, h0, h1, h2, h3⟩
    · obtain ⟨u, hu, q⟩ := r.r.sl j x q
      exact ⟨u, by rw [List.getElem?_set_ne n]; exact hu, q⟩
  · rcases getSet e1 with ⟨_, q, _⟩ | ⟨n1, q1⟩
    · cases q
    · rcases getSet e2 with ⟨_, q, _⟩ | ⟨n2, q2⟩
      · cases q
      · rw [List.getElem?_set_ne n1] at e3
        rw [List.getElem?_set_ne n2] at e4
        exact r.r.sep j k x y b n q1 q2 e3 e4
/-- the own dict at a is changed -/
theorem RelL.mutDki (r : RelL K p env σ I H) {i : Nat} {ks ks' : List (Int × D)} {a : Addr} {xs' : List (Key × V)} (e : env[i]? = some (some (.dki ks))) (hv : σ[i]? = some (some (.ref a))) (h : KDI K I xs' ks') (one : ∀ j ks2, env[j]? = some (some (.dki ks2)) → j = i) :
    RelL K p (env.set i (some (.dki ks'))) σ I (upd H a (.dK xs')) := by
  obtain ⟨v, hv2, a, vs, e1, e2, e3, e4, e5⟩ := r.r.sl i _ e
  rw [hv] at hv2; cases hv2; cases e1
  have nI : ∀ b o, I b = some o → b ≠ a := fun b o q => ne_of_none q e3
  have nm : p.m ≠ some a := fun q => (r.r.st _ q).1 e2
  refine ⟨⟨⟨r.r.gr.ii, fun b o q => by rw [upd_ne (nI b o q)]; exact r.r.gr.ih b o q, fun b o q n => ?_, r.r.gr.fr, fun b q => ?_⟩, fun j x q => ?_, fun j k x y b n q1 q2 q3 q4 => ?_, fun s q => ⟨(r.r.st s q).1, ?_⟩, r.r.bs, r.r.sd.setE i _ (fun w ks z => nomatch z),
      (r.r.sm.setE i (some (.dki ks')) (fun y z u c cc => by cases z; exact cc.elim)).keep fun j x u b q m su eu => upd_ne fun z => by
        rcases getSet q with ⟨rfl, w, _⟩ | ⟨_, q⟩
        · cases w; cases m
        · subst z
          obtain ⟨u', hu, sl⟩ := r.r.sl j x q
          rw [su] at hu
          cases hu
          cases x <;> first | (cases m) | skip
          obtain ⟨b', bs, f1, f2, f3, f4, _, _⟩ := sl
          rw [eu] at f1
          cases f1
          rw [e4] at f4
          exact nomatch f4⟩,
    by rw [List.length_set]; exact r.len⟩
  · rw [upd_ne (ne_of_none q e2)]; exact r.r.gr.hh b o q n
  · by_cases hb : b = a
    · rw [hb, upd_same]; exact fun q => nomatch q
    · rw [upd_ne hb]; exact r.r.gr.th b q
  · rcases getSet q with ⟨rfl, z, hl⟩ | ⟨n, z⟩
    · cases z
      exact ⟨_, hv, a, xs', rfl, e2, e3, upd_same, h⟩
    · obtain ⟨u, hu, z2⟩ := r.r.sl j x z
      refine ⟨u, hu, ?_⟩
      cases x with
      | dat d => exact z2
      | rng _ => exact z2
      | own es =>
        obtain ⟨b, ws, f1, f2, f3, f4, f5⟩ := z2
        subst f1
        have nb : b ≠ a := fun w => by
          rw [w, e4] at f4
          exact nomatch f4
        exact ⟨b, ws, rfl, f2, f3, by rw [upd_ne nb]; exact f4, f5⟩
      | strm => exact z2
      | lnt x =>
        obtain ⟨b, f1, f2, f3, f4⟩ := z2
        have nb : b ≠ a := fun w => f2 (by rw [w]; exact e2)
        exact ⟨b, f1, f2, f3, f4.stays (Same.refl _) fun o q => by rw [upd_ne nb]; exact q⟩
      | dct w' ks2 =>
        obtain ⟨b, ws, f1, f2, f3, f4, f5⟩ := z2
        subst f1
        have nb : b ≠ a := fun w => by
          rw [w, e4] at f4
          exact nomatch f4
        exact ⟨b, ws, rfl, f2, f3, by rw [upd_ne nb]; exact f4, f5⟩
      | dki ks2 => exact absurd (one j ks2 z) (Ne.symm n)
      | mat rows =>
        obtain ⟨b, bs, f1, f2, f3, f4, f5, f6⟩ := z2
        subst f1
        have nb : b ≠ a := fun w => by
          rw [w, e4] at f4
          exact nomatch f4
        refine ⟨b, bs, rfl, f2, f3, by rw [upd_ne nb]; exact f4, f5, f6.stays (Same.refl _) fun c hc z1 z2 z3 => ⟨z2, upd_ne fun w => ?_⟩⟩
        obtain ⟨_, _, vs2, hv2⟩ := f6.live c hc
        rw [w, e4] at hv2
        exact nomatch hv2
  · have own : ∀ (l : Nat) (x : List D), (env.set i (some (Sl.dki ks')))[l]? = some (some (Sl.own x)) → env[l]? = some (some (Sl.own x)) := fun l x w => by
      rcases getSet w with ⟨rfl, z, _⟩ | ⟨_, w⟩
      · cases z
      · exact w
    exact r.r.sep j k x y b n (own j x q1) (own k y q2) q3 q4
  · obtain ⟨f0, l, c, k, ns, f1, f2, f3⟩ := (r.r.st s q).2
    have ns2 : s ≠ a := fun w => nm (by rw [q, w])
    exact ⟨f0, l, c, k, ns, by rw [upd_ne ns2]; exact f1, f2, f3⟩
theorem one_noK {i : Nat} (h : (env.set i none).all noK = true) : ∀ j ks2, env[j]? = some (some (.dki ks2)) → j = i := fun j ks2 e => by
  apply Classical.byContradiction
  intro n
  have e2 : (env.set i none)[j]? = some (some (.dki ks2)) := by rw [List.getElem?_set_ne (Ne.symm n)]; exact e
  have := List.all_eq_true.mp h _ (List.mem_of_getElem? e2)
  exact nomatch this
end
def dNewK (i : Nat) : T2S := fun E env => E.nx (env.set i (some (.dki [])))
def dPutK (i : Nat) (tk tv : T2E) : T2S := fun E env => tv env fun v => match env[i]? with
  | some (some (.dki ks)) => ks.length < 1000000 ∧ (env.set i none).all noK = true ∧ tk env fun kd => (match kd with | .int k => E.nx (env.set i (some (.dki (putI ks k v)))) | _ => False)
  | _ => False
def dGetK (i : Nat) (tk : T2E) : T2E := fun env Q => match env[i]? with
  | some (some (.dki ks)) => tk env fun kd => (match kd with | .int k => (match valI ks k with | some d => Q d | none => False) | _ => False)
  | _ => False
def dInK (neg : Bool) (i : Nat) (tk : T2E) : T2E := fun env Q => match env[i]? with
  | some (some (.dki ks)) => tk env fun kd => (match kd with | .int k => Q (.bool (if neg then !(valI ks k).isSome else (valI ks k).isSome)) | _ => False)
  | _ => False
def rKIn (neg : Bool) : R2 := fun x y H Q => ∃ a o, y = .ref a ∧ DGet H a x o ∧ Q (.bl (if neg then !o.isSome else o.isSome)) H
theorem op_kIn {X : Cx} (hu : X.A.units + 1 < cLine) : OpR X (compareOp .In) (rKIn false) := by
  intro pins s σ H x y v u Q I rx ry h
  obtain ⟨a, o, rfl, g, q⟩ := h
  obtain rfl : u = Value.ref a := ry
  exact d_in hu I g rx fun s' I' => ⟨.bl _, H, I', rfl, q⟩
theorem op_kNotIn {X : Cx} (hu : X.A.units + 1 < cLine) : OpR X (compareOp .NotIn) (rKIn true) := by
  intro pins s σ H x y v u Q I rx ry h
  obtain ⟨a, o, rfl, g, q⟩ := h
  obtain rfl : u = Value.ref a := ry
  exact d_notIn hu I g rx fun s' I' => ⟨.bl _, H, I', rfl, q⟩
section
variable {K : Fg}
theorem ss_newK (i : Nat) : SS K (tAsg tDNewK (gName i)) (dNewK i) := by
  intro p env σ I H D2 E r q e
  intro l h0
  have hl0 : p.H0 l = none := by
    cases e0 : p.H0 l with
    | none => rfl
    | some o => exact absurd h0 (r.r.gr.th l (by rw [e0]; exact fun z => nomatch z))
  have r1 := r.grow' (Gr.fresh (m := none) (o := .dK []) r.same h0)
  exact e.nx _ _ _ _ q (r1.setDki hl0 (Same.free r.same h0) upd_same .nil i)
theorem se_getK {te : TE} {t2 : T2E} (i : Nat) (h : SE K te t2) : SE K (tDGet (tVar i) te) (dGetK i t2) := by
  intro p env σ I H Q2 Q r q k
  unfold dGetK at q
  split at q
  · rename_i ks e2
    obtain ⟨v, hv, a, xs, rfl, f2, f3, f4, f5⟩ := r.r.sl i _ e2
    refine ⟨_, hv, h p env σ I H _ _ r q fun kd kv I1 H1 q1 s1 r1 => ?_⟩
    cases kd <;> first | exact q1.elim | skip
    rename_i j
    cases r1
    dsimp only at q1
    split at q1
    · rename_i d ed
      obtain ⟨v', hv', a', xs', e1', g2, g3, g4, g5⟩ := (r.stp s1).r.sl i _ e2
      subst e1'
      rw [hv] at hv'
      cases hv'
      rcases g5.val j with ⟨z, _⟩ | ⟨d', v', z1, z2, z3⟩
      · rw [z] at ed; cases ed
      · rw [z1] at ed
        cases ed
        have g := DGet.k (k := Sum.inl j) g4
        rw [z2] at g
        exact ⟨a, v', rfl, g, k _ _ _ _ q1 s1 z3⟩
    · exact q1.elim
  · exact q.elim
theorem se_inK {te : TE} {t2 : T2E} (neg : Bool) (i : Nat) (h : SE K te t2) : SE K (tOp (rKIn neg) te (tVar i)) (dInK neg i t2) := by
  intro p env σ I H Q2 Q r q k
  unfold dInK at q
  split at q
  · rename_i ks e2
    refine h p env σ I H _ _ r q fun kd kv I1 H1 q1 s1 r1 => ?_
    cases kd <;> first | exact q1.elim | skip
    rename_i j
    cases r1
    dsimp only at q1
    obtain ⟨v', hv', a', xs', e1', g2, g3, g4, g5⟩ := (r.stp s1).r.sl i _ e2
    subst e1'
    refine ⟨_, hv', a', _, rfl, DGet.k (k := Sum.inl j) g4, ?_⟩
    have e : (valV xs' (Sum.inl j : Key)).isSome = (valI ks j).isSome := by
      rcases g5.val j with ⟨z1, z2⟩ | ⟨d', v', z1, z2, z3⟩
      · rw [z1, z2]
        rfl
      · rw [z1, z2]
        rfl
    rw [e]
    exact k _ _ _ _ q1 s1 (.bl _)
  · exact q.elim
theorem ss_putK {tk tv : TE} {k2 v2 : T2E} (i : Nat) (hk : SE K tk k2) (hv : SE K tv v2) : SS K (sDPut (tVar i) tk tv) (dPutK i k2 v2) := by
  intro p env σ I H D2 E r q e
  refine hv p env σ I H _ _ r q fun d v I1 H1 q1 s1 r1 => ?_
  split at q1
  · rename_i ks e2
    obtain ⟨hl, hone, q1⟩ := q1
    have ra := r.stp s1
    obtain ⟨va, hva, a, xs, rfl, f2, f3, f4, f5⟩ := ra.r.sl i _ e2
    refine ⟨_, hva, hk p env σ I1 H1 _ _ ra q1 fun kd kv I2 H2 q2 s2 r2 => ?_⟩
    cases kd <;> first | exact q2.elim | skip
    rename_i j
    cases r2
    dsimp only at q2
    have rb := ra.stp s2
    obtain ⟨v', hv', a', xs', e1', g2, g3, g4, g5⟩ := rb.r.sl i _ e2
    subst e1'
    rw [hva] at hv'
    cases hv'
    refine ⟨a, _, rfl, DPut.k (k := Sum.inl j) g4 (lt_line (by rw [g5.length]; exact hl)), ?_⟩
    exact e.nx _ _ _ _ q2 (rb.mutDki e2 hva (KDI.put (Rp.mono s2.ii _ _ r1) g5) (one_noK hone))
  · exact q1.elim
end
end Z2
namespace Z2
open PySem PySem.Spec PyProof.Rows L2
/-! ### .get(key, other) and the truth of dicts whose keys are ints -/
def dGet2K (i : Nat) (tk td : T2E) : T2E := fun env Q => match env[i]? with
  | some (some (.dki ks)) => tk env fun kd => td env fun dv => (match kd with | .int k => Q ((valI ks k).getD dv) | _ => False)
  | _ => False
def dTruK (i : Nat) : T2T := fun env Q => match env[i]? with | some (some (.dki ks)) => Q (!ks.isEmpty) | _ => False
section
variable {K : Fg}
theorem se_get2K {te tf : TE} {t2 f2 : T2E} (i : Nat) (h : SE K te t2) (hf : SE K tf f2) : SE K (tDGet2 (tVar i) te tf) (dGet2K i t2 f2) := by
  intro p env σ I H Q2 Q r q k
  unfold dGet2K at q
  split at q
  · rename_i ks e2
    obtain ⟨v, hv, a, xs, rfl, g0, f3, f4, f5⟩ := r.r.sl i _ e2
    refine ⟨_, hv, a, rfl, .inl ⟨xs, .inl f4⟩, h p env σ I H _ _ r q fun kd kv I1 H1 q1 s1 r1 => hf p env σ I1 H1 _ _ (r.stp s1) q1 fun dd dv I2 H2 q2 s2 r2 => ?_⟩
    cases kd <;> first | exact q2.elim | skip
    rename_i j
    cases r1
    dsimp only at q2
    have s := s1.trans s2
    obtain ⟨v', hv', a', xs', e1', g2, g3, g4, g5⟩ := (r.stp s).r.sl i _ e2
    subst e1'
    rw [hv] at hv'
    cases hv'
    refine ⟨_, DGet.k (k := Sum.inl j) g4, ?_⟩
    rcases g5.val j with ⟨z1, z2⟩ | ⟨d', v', z1, z2, z3⟩
    · rw [z1] at q2
      rw [z2]
      exact k _ _ _ _ q2 s r2
    · rw [z1] at q2
      rw [z2]
      exact k _ _ _ _ q2 s z3
  · exact q.elim
theorem st_truK (i : Nat) : ST K (fun σ H Q => tVar i σ H fun x H' => ∃ k, TruV K x H' k ∧ Q k H') (dTruK i) := by
  intro p env σ I H Q2 Q rl q k
  unfold dTruK at q
  split at q
  · rename_i ks e2
    obtain ⟨v, hv, a, xs, rfl, g0, f3, f4, f5⟩ := rl.r.sl i _ e2
    refine ⟨_, hv, !xs.isEmpty, .inr (.inr ⟨xs, f4, rfl⟩), ?_⟩
    have e : xs.isEmpty = ks.isEmpty := by cases f5 <;> rfl
    rw [e]
    exact k _ I H q (.refl rl.same)
  · exact q.elim
end
end Z2
namespace Z2
open PySem PySem.Spec PyProof.Rows L2
/-! ### exceptions of the text's classes, as data: the class's number, what its one field holds -/
def xname : Nat → Str
  | 0 => "BadValue" | 1 => "NotPossible" | 2 => "TooLarge" | _ => "BideError"
def xfld : Nat → Str
  | 0 => "name" | 1 => "why" | _ => "what"
abbrev T2X := Ev → Nat → D → Prop
abbrev RCX := List D → (D → Prop) → (Nat → D → Prop) → Prop
/-- in the air -/
def RX (K : Fg) (mg : Str → Option Value) (I H : Hp) (c : Nat) (d : D) (cls : Value) (dx : Option Addr) : Prop :=
  ∃ (C a : Addr) (v : V), mg (xname c) = some (.ref C) ∧ cls = .ref C ∧ dx = some a ∧ H a = some (.xd [(xfld c, v)]) ∧ Rp K I v d
/-- a def that may raise -/
def spDX (K : Fg) (mg : Str → Option Value) (n : Nat) (f : RCX) : Sp := fun vs H Q E => ∃ (I : Hp) (ds : List D) (Q2 : D → Prop) (X2 : Nat → D → Prop), vs.length = n ∧ Same I H ∧ Rps K I vs ds ∧ f ds Q2 X2 ∧
  (∀ d v I' H', Q2 d → Gr none I H I' H' → Rp K I' v d → Q v H') ∧ ∀ c e cls dx I' H', X2 c e → Gr none I H I' H' → RX K mg I' H' c e cls dx → E cls dx H'
def HX (K : Fg) (mg : Str → Option Value) (p : P0) (W : WX) (x : T2X) : Prop := ∀ env σ I H c e cls dx, RelL K p env σ I H → x env c e → RX K mg I H c e cls dx → W cls dx σ H
/-- readings under a condition on the state that steps keep -/
abbrev Cnd := P0 → L2.St → Hp → Hp → Prop
def SEG (K : Fg) (C : Cnd) (te : TE) (t : T2E) : Prop := ∀ (p : P0) (env : Ev) (σ : L2.St) (I H : Hp) (Q2 : D → Prop) (Q : VK), RelL K p env σ I H → C p σ I H → t env Q2 →
  (∀ d v I' H', Q2 d → Stp p I H I' H' → Rp K I' v d → Q v H') → te σ H Q
def SAG (K : Fg) (C : Cnd) (n : Nat) (ta : TA) (t : T2A) : Prop := ∀ (p : P0) (env : Ev) (σ : L2.St) (I H : Hp) (Q2 : List D → Prop) (Q : List V → Hp → Prop), RelL K p env σ I H → C p σ I H → t env Q2 →
  (∀ ds vs I' H', Q2 ds → vs.length = n → Stp p I H I' H' → Rps K I' vs ds → Q vs H') → ta σ H Q
def STG (K : Fg) (C : Cnd) (tt : TT) (t : T2T) : Prop := ∀ (p : P0) (env : Ev) (σ : L2.St) (I H : Hp) (Q2 : Bool → Prop) (Q : Bool → Hp → Prop), RelL K p env σ I H → C p σ I H → t env Q2 →
  (∀ b I' H', Q2 b → Stp p I H I' H' → Q b H') → tt σ H Q
def SSG (K : Fg) (C : Cnd) (ts : TS) (t : T2S) : Prop := ∀ (p : P0) (env : Ev) (σ : L2.St) (I H : Hp) (D2 : Ends2) (E : Ends), RelL K p env σ I H → C p σ I H → t D2 env → EndsR K p D2 E → ts E σ H
/-- steps keep it -/
def Kept (K : Fg) (C : Cnd) : Prop := ∀ p env σ I H I' H', RelL K p env σ I H → C p σ I H → Stp p I H I' H' → C p σ I' H'
section
variable {K : Fg} {C : Cnd} {te tf : TE} {t2 u2 : T2E} {ta : TA} {a2 : T2A} {ts us : TS} {t u : T2S} {n : Nat}
theorem seg_of (h : SE K te t2) : SEG K C te t2 := fun p env σ I H Q2 Q r _ q k => h p env σ I H Q2 Q r q k
theorem sag_of (h : SA K n ta a2) : SAG K C n ta a2 := fun p env σ I H Q2 Q r _ q k => h p env σ I H Q2 Q r q k
theorem stg_of {tt : TT} {c2 : T2T} (h : ST K tt c2) : STG K C tt c2 := fun p env σ I H Q2 Q r _ q k => h p env σ I H Q2 Q r q k
theorem ssg_of (h : SS K ts t) : SSG K C ts t := fun p env σ I H D2 E r _ q e => h p env σ I H D2 E r q e
theorem sag_nil : SAG K C 0 tNil dNil := sag_of sa_nil
theorem sag_cons (hk : Kept K C) (h : SEG K C te t2) (h2 : SAG K C n ta a2) : SAG K C (n + 1) (tCons te ta) (dCons t2 a2) := by
  intro p env σ I H Q2 Q rl hx q k
  refine h p env σ I H _ _ rl hx q fun d v I1 H1 q1 s1 r1 => ?_
  refine h2 p env σ I1 H1 _ _ (rl.stp s1) (hk _ _ _ _ _ _ _ rl hx s1) q1 fun ds vs I2 H2 q2 hl s2 r2 => ?_
  exact k _ _ _ _ q2 (by rw [List.length_cons, hl]) (s1.trans s2) (.cons (Rp.mono s2.ii _ _ r1) r2)
theorem seg_call {f : RCD} {E : XK} (h : SAG K C n ta a2) : SEG K C (tCall (spD K n f) [] E ta) (dCB f a2) := by
  intro p env σ I H Q2 Q rl hx q k
  refine h p env σ I H _ _ rl hx q fun ds vs I1 H1 q1 hl s1 h1 => ?_
  rw [List.append_nil]
  exact ⟨I1, ds, Q2, hl, s1.ih, h1, q1, fun d v I' H' q' g r' => k d v I' H' q' (s1.trans (.of g)) r'⟩
theorem seg_tup (h : SAG K C n ta a2) (hn : n ≤ 1000000 := by decide) : SEG K C (tTup ta) (dTup a2) := by
  intro p env σ I H Q2 Q rl hx q k
  refine h p env σ I H _ _ rl hx q fun ds vs I1 H1 q1 hl s1 h1 => ⟨le_line (by rw [hl]; exact hn), fun l h0 => ?_⟩
  have g := Gr.new (m := none) (o := .tup vs) s1.ih h0
  exact k _ _ _ _ q1 (s1.trans (.of g)) (.tup (SqT.of upd_same) (Rps.mono g.ii ds vs h1))
theorem seg_lst (h : SAG K C n ta a2) (hn : n ≤ 1000000 := by decide) : SEG K C (tLst ta) (tList a2) := by
  intro p env σ I H Q2 Q rl hx q k
  refine h p env σ I H _ _ rl hx q fun ds vs I1 H1 q1 hl s1 h1 => ⟨le_line (by rw [hl]; exact hn), fun l h0 => ?_⟩
  have g := Gr.new (m := none) (o := .lst vs) s1.ih h0
  exact k _ _ _ _ q1 (s1.trans (.of g)) (.lst upd_same (Rps.mono g.ii ds vs h1))
theorem seg_op {r : R2} {r2 : R2D} (hk : Kept K C) (hs : Sim2 K r r2) (ha : SEG K C te t2) (hb : SEG K C tf u2) : SEG K C (tOp r te tf) (dOp r2 t2 u2) := by
  intro p env σ I H Q2 Q rl hx q k
  refine ha p env σ I H _ _ rl hx q fun d v I1 H1 q1 s1 h1 => ?_
  refine hb p env σ I1 H1 _ _ (rl.stp s1) (hk _ _ _ _ _ _ _ rl hx s1) q1 fun e w I3 H3 q3 s3 h3 => ?_
  exact hs I3 H3 v w d e Q2 Q s3.ih (Rp.mono s3.ii d v h1) h3 q3 fun d' v' I' H' q' g r' => k d' v' I' H' q' ((s1.trans s3).trans (.of g)) r'
theorem stg_test (ha : SEG K C te t2) : STG K C (tTest te) (dB t2) := by
  intro p env σ I H Q2 Q rl hx q k
  refine ha p env σ I H _ _ rl hx q fun d v I1 H1 q1 s1 h1 => ?_
  cases d <;> first | exact q1.elim | skip
  cases h1
  exact ⟨_, rfl, k _ _ _ q1 s1⟩
theorem ssg_seqC (hc : ∀ p σ I H σ' I' H', C p σ I H → C p σ' I' H') (h1 : SSG K C ts t) (h2 : SSG K C us u) : SSG K C (tSeq ts us) (dSeq t u) := fun p env σ I H D2 E r hx q e =>
  h1 p env σ I H _ _ r hx q ⟨fun env' σ' I' H' q' r' => h2 p env' σ' I' H' _ _ r' (hc _ _ _ _ _ _ _ hx) q' e, e.rt, e.bk, e.ct, e.rd⟩
theorem ssg_if {c : TT} {c2 : T2T} (hk : Kept K C) (h : STG K C c c2) (h1 : SSG K C ts t) (h2 : SSG K C us u) : SSG K C (tIfS c ts us) (dIfS c2 t u) := by
  intro p env σ I H D2 E r hx q e
  refine h p env σ I H _ _ r hx q fun b I' H' q' s => ?_
  cases b with
  | true =>
    rw [if_pos rfl] at q' ⊢
    exact h1 p env σ I' H' _ _ (r.stp s) (hk _ _ _ _ _ _ _ r hx s) q' e
  | false =>
    rw [if_neg Bool.false_ne_true] at q' ⊢
    exact h2 p env σ I' H' _ _ (r.stp s) (hk _ _ _ _ _ _ _ r hx s) q' e
theorem ssg_asg {vs : List Nat} {g : TG} {g2 : T2G} (h : SEG K C te t2) (hg : SG K vs g g2) : SSG K C (tAsg te g) (dAsg t2 g2) := fun p env σ I H D2 E r hx q e =>
  h p env σ I H _ _ r hx q fun d v I' H' q' s rp => hg p env σ I' H' v d _ _ (r.stp s) rp q' fun env' σ' I2 H2 q2 r2 _ _ => e.nx _ _ _ _ q2 r2
theorem ssg_set {i : Nat} (h : SEG K C te t2) : SSG K C (tAsg te (gName i)) (dAsg t2 (gN i)) := ssg_asg (vs := [i]) h (sg_name i (List.mem_singleton.mpr rfl))
theorem ssg_drop (h : SEG K C te t2) : SSG K C (tDrop te) (dDrop t2) := fun p env σ I H D2 E r hx q e =>
  h p env σ I H _ _ r hx q fun d v I' H' q' s rp => e.nx _ _ _ _ q' (r.stp s)
theorem ssg_ret (h : SEG K C te t2) : SSG K C (tRet te) (dRet t2) := fun p env σ I H D2 E r hx q e =>
  h p env σ I H _ _ r hx q fun d v I' H' q' s rp => e.rt d v I' H' q' (r.r.gr.trans s.gr) (fun a ea => s.st a ea (r.r.st a ea).2) rp
theorem ssg_frz (hc : ∀ p σ I H σ' I' H', C p σ I H → C p σ' I' H') (i : Nat) (h : SSG K C ts t) : SSG K C ts (dFrz i t) := by
  intro p env σ I H D2 E r hx q e
  unfold dFrz at q
  split at q
  · rename_i ds e2
    obtain ⟨I', _, r'⟩ := r.freeze e2
    exact h p _ σ I' H _ _ r' (hc _ _ _ _ _ _ _ hx) q e
  · exact h p _ σ I H _ _ r hx q e
  · exact q.elim
theorem ssg_for {wi : TI} {g : TG} {ti : T2I} {g2 : T2G} {vs : List Nat} (hc : ∀ p σ I H σ' I' H' B, C p σ I H → Same p.B B → C { p with B := B } σ' I' H') (hi : SI K wi ti) (hg : SG K vs g g2) (hb : SSG K C ts t) : SSG K C (tFor wi g ts) (dFor ti g2 t) := by
  intro p env σ I H D2 E r hx q e
  refine hi p env σ I H _ _ r q fun ds J I1 H1 q1 s1 it => ?_
  refine ⟨fun i m σ' H' => m = ds.length - i ∧ i ≤ ds.length ∧ ∃ env' I', RelL K p env' σ' I' H' ∧ Same I1 I' ∧ forD g2 t D2 (ds.drop i) env', ⟨ds.length, by simp, Nat.zero_le _, env, I1, r.stp s1, Same.refl _, q1⟩, ?_⟩
  rintro i m σ' H' ⟨rfl, hi', env', I', r', ii, q'⟩
  by_cases hlt : i < ds.length
  · refine .inr ⟨it.go i I' H' ii r'.same hlt, fun σ2 H2 => ∃ env2 I2, RelL K p env2 σ2 I2 H2 ∧ Same I1 I2 ∧ forD g2 t D2 (ds.drop (i + 1)) env2, fun σ2 H2 z => ⟨ds.length - (i + 1), by omega, rfl, by omega, z⟩, fun x H2 y => ?_⟩
    obtain ⟨I2, d, g1, hd, rd⟩ := it.yld i x I' H' H2 ii r'.same hlt y
    have hdrop : ds.drop i = d :: ds.drop (i + 1) := by
      have hdd : ds[i] = d := Option.some.inj ((List.getElem?_eq_getElem hlt).symm.trans hd)
      rw [List.drop_eq_getElem_cons hlt, hdd]
    rw [hdrop] at q'
    refine hg p env' σ' I2 H2 x d _ _ (r'.grow' g1) rd q' fun env3 σ3 I3 H3 q3 r3 s3 _ => ?_
    have i3 := (ii.trans g1.ii).trans s3.ii
    have back : ∀ {env σ I H}, RelL K { p with B := I1 } env σ I H → RelL K p env σ I H ∧ Same I1 I := fun {env σ I H} z => ⟨z.rebase ((r.stp s1).r.bs.trans z.r.bs), z.r.bs⟩
    exact hb { p with B := I1 } env3 σ3 I3 H3 _ _ (r3.rebase i3) (hc _ _ _ _ _ _ _ _ hx (r.stp s1).r.bs) q3 ⟨fun env4 σ4 I4 H4 q4 r4 => ⟨env4, I4, (back r4).1, (back r4).2, q4⟩, e.rt, fun env4 σ4 I4 H4 q4 r4 => e.nx _ _ _ _ q4 (back r4).1,
      fun env4 σ4 I4 H4 q4 r4 => ⟨env4, I4, (back r4).1, (back r4).2, q4⟩, e.rd⟩
  · have hi2 : i = ds.length := by omega
    subst hi2
    rw [List.drop_length] at q'
    exact .inl ⟨it.stop _ I' H' ii r'.same rfl, e.nx _ _ _ _ q' r'⟩
end
/-! ### a def that may raise: its body -/
abbrev CX1 (K : Fg) (mg : Str → Option Value) (W : WX) (x : T2X) : Cnd := fun p _ _ _ => HX K mg p W x
def dCBX (f : RCX) (x : T2X) (t : T2A) : T2E := fun env Q => t env fun ds => f ds Q (x env)
/-- raise C(..) -/
def dRaise (x : T2X) (c : Nat) (t : T2E) : T2S := fun _ env => t env fun d => x env c d
section
variable {K : Fg} {mg : Str → Option Value} {W : WX} {x : T2X} {te tf : TE} {t2 u2 : T2E} {ta : TA} {a2 : T2A} {n : Nat}
theorem cx1_same {p : P0} {σ σ' : L2.St} {I H I' H' : Hp} (h : CX1 K mg W x p σ I H) : CX1 K mg W x p σ' I' H' := h
theorem cx1_kept : Kept K (CX1 K mg W x) := fun p env σ I H I' H' _ h _ => h
theorem cx1_hx {p : P0} {env : Ev} {σ σ' : L2.St} {I H I' H' : Hp} (h : CX1 K mg W x p σ' I' H') {c : Nat} {e : D} {cls : Value} {dx : Option Addr} (r : RelL K p env σ I H) (q : x env c e) (z : RX K mg I H c e cls dx) : W cls dx σ H :=
  h env σ I H c e cls dx r q z
theorem cx1_base : ∀ p σ I H σ' I' H' B, CX1 K mg W x p σ I H → Same p.B B → CX1 K mg W x { p with B := B } σ' I' H' := fun p σ I H σ' I' H' B h e env τ J G c d cls dx r q z =>
  h env τ J G c d cls dx (r.rebase (e.trans r.r.bs)) q z
theorem seg_callX {f : RCX} (h : SAG K (CX1 K mg W x) n ta a2) : SEG K (CX1 K mg W x) (tCallS (spDX K mg n f) (WE W) ta) (dCBX f x a2) := by
  intro p env σ I H Q2 Q rl hx q k
  refine h p env σ I H _ _ rl hx q fun ds vs I1 H1 q1 hl s1 h1 => ?_
  exact ⟨I1, ds, Q2, x env, hl, s1.ih, h1, q1, fun d v I' H' q' g r' => k d v I' H' q' (s1.trans (.of g)) r',
    fun c e cls dx I' H' q' g r' => cx1_hx hx (rl.stp (s1.trans (.of g))) q' r'⟩
/-- where nothing is let out -/
theorem se_callX0 {f : RCX} (h : SA K n ta a2) : SE K (tCallS (spDX K mg n f) (WE fun _ _ _ _ => False) ta) (dCBX f (fun _ _ _ => False) a2) := by
  intro p env σ I H Q2 Q rl q k
  refine h p env σ I H _ _ rl q fun ds vs I1 H1 q1 hl s1 h1 => ?_
  exact ⟨I1, ds, Q2, fun _ _ => False, hl, s1.ih, h1, q1, fun d v I' H' q' g r' => k d v I' H' q' (s1.trans (.of g)) r', fun c e cls dx I' H' q' => q'.elim⟩
end
/-! ### C's own __init__: one field -/
def spI (K : Fg) (f : Str) : Sp := fun vs H Q _ => ∃ (a C : Addr) (v : V), vs = [.ref a, v] ∧ OexC K C ∧ PySem.W.findIn K (.ref C) f = some none ∧ H a = some (exo a C none) ∧
  ∀ dx, H dx = none → dx ≠ a → Q .non (upd (upd H dx (exd dx [(f, v)])) a (exo a C (some dx)))
theorem upd_del {H : Hp} {a d : Addr} {o o' u u' : HO} (hn : H a = none) (hne : d ≠ a) : upd (del (upd (upd (upd H a o) d o') a u) a) d u' = upd H d u' := by
  funext b
  by_cases hd : b = d
  · subst hd; rw [upd_same, upd_same]
  · rw [upd_ne hd, upd_ne hd]
    by_cases ha : b = a
    · subst ha; rw [del_same, hn]
    · rw [del_ne ha, upd_ne ha, upd_ne hd, upd_ne ha]
/-- what the text says of the class number c -/
structure XC (P : Program) (w : World) (K : Fg) (mg : Str → Option Value) (base : Heap) (c : Nat) (C : Addr) : Prop where
  gC : mg (xname c) = some (.ref C)
  oc : OexC K C
  no : PySem.W.findIn K (.ref C) (xfld c) = some none
  xf : XfC K C
  ini : ∃ (fI : Addr) (fd : FuncData), PySem.W.findIn K (.ref C) "__init__" = some (some (.ref fI)) ∧ PySem.W.typeIn K (.ref fI) = some (.type "function") ∧ FnOk P w K mg base CX0 1 fI fd ["self", xfld c] (spI K (xfld c)) ∧ Binds K fd ["self", xfld c] []
theorem ini_ok {P : Program} {w : World} {K : Fg} {mg : Str → Option Value} {base : Heap} {qual : Str} {st : Stmt} {fI : Addr} {fd : FuncData} {f : Str} {p1 p2 p3 pos : Pos} (F : Fun K "__init__" qual st fI fd) (S : FnScope ["self", f] ["self", f] (defScope st))
    (hb : defBody st = [.Assign [.Attribute (.Name "self" p1) f p2] (.Name f p3) pos]) (hf : (f == ("__debug__" : Str)) = false)
    (hp : ∀ (cdv : Value) (A : Around) (outer : List Env) (s : Shared) (H : Hp) (Q : VK) (E : XK), PE (cxOf CX0 P w K mg base ["self", f] qual (defScope st) fI cdv A outer s H E).nox (.Name "self" p1) (tVar 0) ∧ PE (cxOf CX0 P w K mg base ["self", f] qual (defScope st) fI cdv A outer s H E).nox (.Name f p3) (tVar 1) ∧
      swapsWith (.Name f p3) (some (.Attribute (.Name "self" p1) f p2)) pos.line (cxOf CX0 P w K mg base ["self", f] qual (defScope st) fI cdv A outer s H E).nox.env = pure false) : FnOk P w K mg base CX0 1 fI fd ["self", f] (spI K f) := by
  refine F.ok S (fun vs H Q E h => ?_) fun cdv A outer s H vs Q E hr h => ⟨tSeq (tOst K f (tVar 0) (tVar 1)) tNext, ?_, ?_⟩
  · obtain ⟨_, _, _, rfl, _⟩ := h; rfl
  · rw [hb]
    obtain ⟨h1, h2, h3⟩ := hp cdv A outer s H Q E
    exact pss_cons (ps_ost h1 h2 h3) pss_nil
  · obtain ⟨a, C, v, rfl, T, hno, ea, k⟩ := h
    exact ⟨v, rfl, .ref a, rfl, a, C, rfl, T, hno, .inl ⟨ea, fun dx n ne => k dx n ne⟩⟩
/-- raise C(e) -/
def tRz (K : Fg) (W : WX) (C : Addr) (f : Str) (te : TE) : TS := fun _ σ H => tMkO C (spI K f) [] (tCons te tNil) σ H fun cls d H' => W cls d σ H'
theorem ssg_raise {P : Program} {w : World} {K : Fg} {mg : Str → Option Value} {base : Heap} {W : WX} {x : T2X} {te : TE} {t2 : T2E} {c : Nat} {C : Addr} (T : XC P w K mg base c C) (h : SE K te t2) : SSG K (CX1 K mg W x) (tRz K W C (xfld c) te) (dRaise x c t2) := by
  intro p env σ I H D2 E rl hx q e
  refine h p env σ I H _ _ rl q fun d v I1 H1 q1 s1 r1 => ⟨by show 1 ≤ 1000; decide, fun a ha => ⟨a, C, v, rfl, T.oc, T.no, upd_same, fun dx hd hne => ⟨rfl, dx, [(xfld c, v)], upd_same, ?_, ?_, ?_⟩⟩⟩
  · rw [upd_ne hne, upd_same]
  · rw [upd_ne hne] at hd; exact hd
  · rw [upd_ne hne] at hd
    rw [upd_del ha hne]
    have r' := rl.stp s1
    have i1 : I1 dx = none := Same.free s1.ih hd
    have g : Gr none I1 H1 I1 (upd H1 dx (.xd [(xfld c, v)])) := ⟨Same.refl _, fun b o z => by
        rw [upd_ne (ne_of_none z i1)]; exact s1.ih _ _ z, fun b o z _ => by rw [upd_ne (ne_of_none z hd)]; exact z, fun b z _ => z, fun b z => by
        by_cases hb : b = dx
        · subst hb; rw [upd_same]; exact fun w => nomatch w
        · rw [upd_ne hb]; exact z⟩
    exact cx1_hx hx (r'.stp (.of g)) q1 ⟨C, dx, v, T.gC, rfl, rfl, upd_same, r1⟩
theorem ps_raise1 {X : Cx} {W : WX} {c : Nat} {C : Addr} {e : Expr} {te : TE} {p pos pos2 : Pos} (T : XC X.prog X.w X.K X.mg X.base c C) (hc : X.calm = true) (tk : Takes X W) (hr : Room 2 X.A) (hg : Gl X (xname c)) (he : PE X.nox e te)
    (hdb : (xname c == ("__debug__" : Str)) = false := by decide) (hs : starEach [e] X.env = (false, eval e X.env) :: starEach [] X.env := by rfl) (hpl : (backTo pos (starEach [] X.env)).any (·.1) = false := by rfl) :
    PS X (.Raise (some (.Call (.Name (xname c) p) [e] [] pos)) none pos2) (tRz X.K W C (xfld c) te) := by
  obtain ⟨fI, fd, h1, h2, h3, h4⟩ := T.ini
  exact ps_raise hc tk (pmk_oex (he := hs) (hpl := hpl) T.oc h1 h2 h3 hr h4 .nil pass0 hg T.gC (pa_cons he.nox pa_nil (hs := hs)) hdb)
/-! ### defs that keep such a promise -/
def orX (f : RCD) (g : RCX) : RCX := fun ds Q X => f ds Q ∨ g ds Q X
/-- by the plain reading, or by the one with raises -/
structure FxX (P : Program) (w : World) (K : Fg) (mg : Str → Option Value) (base : Heap) (k : Nat) (x : Str) (ps : List Str) (n : Nat) (f : RCD) (g : RCX) : Prop where
  pl : Fx P w K mg base k x ps (spD K n f)
  ex : ∃ f fd, FnOk P w K mg base (L2.CX P w) k f fd ps (spDX K mg n g) ∧ mg x = some (.ref f) ∧ PySem.W.keepIn K (.ref f) = true ∧ Binds K fd ps []
def bodyX (N n : Nat) (t : T2X → T2S) : RCX := fun ds Q X => ds.length = n ∧ t (fun _ => X) { nx := fun _ => Q .none, rt := Q } (envD N n ds)
section
variable {P : Program} {w : World} {K : Fg} {mg : Str → Option Value} {base : Heap} {x : Str} {ps : List Str} {sp : Sp}
theorem pe_fxX {X : Cx} {k n : Nat} {W : WX} {f0 : RCD} {g0 : RCX} {p pos : Pos} {e : Expr} {es : List Expr} {t : TA} (G : FxX X.prog X.w K mg X.base k x ps n f0 g0) (hK : X.K = K) (hM : X.mg = mg) (hr : Room k X.A) (hg : Gl X x) (tk : Takes X W) (ha : PA X (e :: es) t)
    (hdb : (x == ("__debug__" : Str)) = false := by decide) (hse : starEach (e :: es) X.env = (false, eval e X.env) :: starEach es X.env := by rfl) (hbk : (backTo pos (starEach es X.env)).any (·.1) = false := by rfl) :
    PE X (.Call (.Name x p) (e :: es) [] pos) (tCallS (spDX K mg n (orX f0 g0)) (WE W) t) := by
  subst hK hM
  obtain ⟨fa, fd, F, hm, hk, hb⟩ := G.ex
  obtain ⟨fa0, fd0, F0, hm0, _, hb0⟩ := G.pl.ex
  rw [hm] at hm0
  cases hm0
  constructor
  intro pins s σ H Q I h
  apply wpAny_Call_Name_kw
  refine ld_glob I hg hm (PySem.W.callWith_K (h₀ := X.base) I.ok.mod.kin hk ?_ hse hbk) hdb
  refine thn (ha.run pos pins s σ H _ I h) fun us s1 z => ?_
  obtain ⟨vs, H1, I1, r, J, ds, Q2, X2, hl, e1, r1, q, k1, k2⟩ := z
  refine ⟨I1.kIn, ?_⟩
  rcases q with q | q
  · exact run_fn (E := E0) F0 hr hb0 .nil pass0 I1 r (by rw [List.append_nil]; exact ⟨J, ds, Q2, hl, e1, r1, q, k1⟩)
  · exact run_fnS F hr hb (passAt tk σ) I1 r ⟨J, ds, Q2, X2, hl, e1, r1, q, k1, k2⟩
theorem bodyX_ok {N : List Str} {n : Nat} {E : XK} {t : T2X → T2S} {ts : TS} (h : ∀ x, SSG K (CX1 K mg (fun cls d _ H => E cls d H) x) ts (t x)) {vs : List V} {H : Hp} {Q : VK} (q : spDX K mg n (bodyX N.length n t) vs H Q E) : ts { nx := fun _ H' => Q .non H', rt := Q } (L2.start N vs) H := by
  obtain ⟨I, ds, Q2, X2, hl, e, r, ⟨hd, q⟩, k, kx⟩ := q
  refine h (fun _ => X2) ⟨none, I, H, I⟩ _ (L2.start N vs) I H _ _ ⟨⟨.refl e, fun i x z => ?_, fun i j x y a _ z _ _ => ?_, (fun s z => nomatch z), Same.refl _, fun i j w w' x y a _ z _ _ => (by obtain ⟨d, z, _⟩ := env_get z; cases z), fun i j x y u v c _ hm z1 z2 _ _ _ => by
      obtain ⟨d1, z1, _⟩ := env_get z1
      obtain ⟨d2, z2, _⟩ := env_get z2
      cases z1
      cases z2
      cases hm⟩, ?_⟩ (fun env σ I' H' c e cls dx r' qx z => kx c e cls dx I' H' qx r'.r.gr z) q ⟨fun env σ I' H' q' r' => k _ _ _ _ q' r'.r.gr .non, fun d v I' H' q' g _ r' => k _ _ _ _ q' g r', fun _ _ _ _ z => z.elim, fun _ _ _ _ z => z.elim, fun _ _ _ _ _ _ z => z.elim⟩
  · obtain ⟨d, rfl, hd⟩ := env_get z
    obtain ⟨v, hv, rv⟩ := r.got hd
    exact ⟨v, start_get hv, rv⟩
  · obtain ⟨d, z, _⟩ := env_get z
    cases z
  · unfold envD L2.start
    rw [List.length_append, List.length_append, List.length_map, List.length_map, List.length_replicate, List.length_replicate, hl, hd]
theorem fx_ofX {st : Stmt} {N : List Str} {k n : Nat} {f : RCD} {t : T2X → T2S} (G : Fx P w K mg base (k + 1) x ps (spD K n f)) (d : Df K mg x st) (S : FnScope N ps (defScope st)) (bb : BindsBy x st ps) (hn : ps.length = n)
    (hb : ∀ (f : Addr) (cdv : Value) (A : Around) (outer : List Env) (s : Shared) (H : Hp) (E : XK), Room k (A.deeper (envOfC x (defScope st) s.heap.objs.size f cdv)) →
      ∃ ts, PSs (cxOf (L2.CX P w) P w K mg base N x (defScope st) f cdv A outer s H E) (defBody st) ts ∧ ∀ y, SSG K (CX1 K mg (fun cls d _ H => E cls d H) y) ts (t y)) : FxX P w K mg base (k + 1) x ps n f (bodyX N.length n t) := by
  obtain ⟨fa', fd', F, hm⟩ := d
  refine ⟨G, fa', fd', F.okX S (fun vs H Q E h => ?_) (fun cdv A outer s H vs Q E hr h => ?_), hm, F.kp, F.binds bb⟩
  · obtain ⟨_, _, _, _, hl, _⟩ := h
    rw [hl, hn]
  · obtain ⟨ts, h1, h2⟩ := hb fa' cdv A outer s H E hr
    exact ⟨ts, h1, bodyX_ok h2 h⟩
end
/-! ### try: .. except C as e: .. (several) -/
def endsU (i : Nat) (D : Ends) : Ends := { nx := fun σ H => D.nx (σ.set i none) H, rt := D.rt, bk := fun σ H => D.bk (σ.set i none) H, ct := fun σ H => D.ct (σ.set i none) H }
structure Hnd where
  cv : Value
  i : Nat
  ts : Addr → Value → Option Addr → TS
def wHs (K : Fg) (Wout : WX) (D : Ends) : List Hnd → WX
  | [] => Wout
  | h :: r => fun cls d σ H => ∃ b, PySem.W.exmOne K cls h.cv = some b ∧ (b = true → ∀ a, H a = none → h.ts a cls d (endsU h.i D) (σ.set h.i (some (.ref a))) H) ∧ (b = false → wHs K Wout D r cls d σ H)
inductive HsOk (X : Cx) : List ExceptHandler → List Hnd → Prop
  | nil : HsOk X [] []
  | cons {x n : Str} {h : Hnd} {b₀ : Stmt} {suite : List Stmt} {np pos' : Pos} {hds : List ExceptHandler} {l : List Hnd} (hc : Names X x h.cv) (hi : X.N[h.i]? = some n) (hl : X.env.kindOf n = some .local)
      (hsu : ∀ (a : Addr) (oe : Obj) (cls : Value) (d : Option Addr) (pn : List (Addr × Obj)), Zc cls d oe → (∃ vs, oe.data = .fields vs) → PSs (X.suite a ((a, oe) :: pn)) (b₀ :: suite) (h.ts a cls d)) (r : HsOk X hds l) :
      HsOk X (.ExceptHandler (some (.Name x np)) (some n) (b₀ :: suite) pos' :: hds) (h :: l)
section
variable {X : Cx} {pins : List (Addr × Obj)} {H : Hp} {σ : L2.St}
/-- the clauses, one after the other; the exception at a lies on the ground -/
theorem hs_run {M : Unit} {B : Heap} {a : Addr} {cls : Value} {d : Option Addr} {sI sg : Shared} {D : Ends} {Wout : WX} (ok : X.Ok) (hst : X.stack = X.env :: X.outer) (hfr : X.env.frame = some X.env.locals) (hN : X.N.Nodup) (tk : Takes X Wout)
    (J : Inv X pins σ H sI) (nb : ∀ b o, sI.heap.get? b = some o → b ∉ frs X.stack → B.get? b = some o) (fl : HandSPX.FlyingZ B (X.env :: X.outer) a (Zc cls d) sg.heap) (up : sI.heap.UpToSlots sg.heap) (na : H a = none) (os : sg.os = sI.os) (ag : AllBare sg.gens) :
    ∀ {hds : List ExceptHandler} {l : List Hnd}, HsOk X hds l → wHs X.K Wout D l cls d σ H → wpAny (model X.prog X.w) X.A (handleBy (.ref a) X.env hds) (SP X pins D) X.xe sg := by
  have frameless : ∀ {h : Heap} {o : Obj} {vs : Array Value}, h.FunFrames B (X.env :: X.outer) → h.get? a = some o → o.data = .fields vs → a ∉ frs (X.env :: X.outer) := by
    intro h o vs ff e dd hm
    obtain ⟨_, o', e', hnf⟩ := ff.mem hm
    rw [e] at e'
    cases e'
    exact hnf _ dd
  obtain ⟨oe, vs, he, hz, hd⟩ := fl.there
  have nfr := frameless fl.2.2.1 he hd
  have nL : a ≠ X.env.locals := by
    intro z
    exact nfr (List.mem_filterMap.mpr ⟨X.env, List.mem_cons_self, by rw [hfr, z]⟩)
  have nF : a ∉ X.fs := by
    intro hm
    obtain ⟨e, h1, q⟩ := List.mem_filterMap.mp hm
    exact nfr (List.mem_filterMap.mpr ⟨e, List.mem_cons_of_mem _ h1, q⟩)
  have Jg : Inv X pins σ H sg := by
    have z := J.landed (s' := sg) nb fl.1 up os ag
    exact z
  have Sg := Jg.suite he hd na nL nF
  intro hds l hk
  induction hk with
  | nil =>
    intro w
    apply wpAny_handleBy_nil
    obtain ⟨k1, k2, k3, oe', vs', T, oT, ts', he', hz', hd', h1', hr'⟩ := id fl
    unfold PySem.passOn
    refine wpAny_bind (wpAny_field he' hd' h1' ?_)
    have hb : ¬ ((Value.ref T == Value.none) = true) := by simp
    rw [if_neg hb]
    have out : wpAny (model X.prog X.w) X.A (setFlight (.ref a) X.env.frame) (fun _ s4 => wpAny (model X.prog X.w) X.A (throw (.ref a) : Sem Flow) (SP X pins D) X.xe s4) X.xe sg := by
      rw [hfr]
      refine HandSPX.setFlight_upZ fl fun h4 hh4 up4 => ?_
      refine wpAny_throw (tk _ _ ⟨a, B, sI, pins, σ, H, cls, d, rfl, J, nb, up.trans up4, .inr (.inr ?_), na, os, ag, w⟩)
      rw [hst]
      exact hh4
    first | exact wpAny_bind (wpAny_pure (wpAny_bind out)) | exact wpAny_bind out
  | @cons x n h b₀ suite np pos' hds2 l2 hc hi hl hsu r ih =>
    intro w
    obtain ⟨b, hb1, hyes, hno⟩ := w
    refine wpAny_handleBy_cons (codeAny_handlers_test ?_) (fun q => nomatch q)
    have LT : PySem.W.Looks (model X.prog X.w) sg.heap (typeOf (.ref a)) cls := by
      intro A Q E s k q
      exact wpAny_typeOf_ref (k _ _ he) (by rw [hz.1]; exact q)
    have LM := PySem.W.exm_one (M := model X.prog X.w) Jg.kIn LT hb1
    have named : ∀ {Q : Value → Shared → Prop} {E : Value → Shared → Prop}, Q h.cv sg → wpAny (model X.prog X.w) (X.A.mark (some (.ref a))) (eval (.Name x np) X.env) Q E sg := by
      intro Q E q
      obtain ⟨hg, hdbg, hm | ⟨hm, hv, hnn⟩⟩ := hc
      · exact ld_glob (X := X.suite a ((a, oe) :: (X.pn ++ pins))) Sg hg hm q hdbg
      · exact ld_blt (X := X.suite a ((a, oe) :: (X.pn ++ pins))) Sg hg hm hv q hnn hdbg
    refine named (LM.here ?_)
    cases b with
    | true =>
      refine codeAny_handlers_suite_as (HandSPX.lands_againZ fl fun h4 fl4 up4 => ?_)
      have J4 : Inv X pins σ H { sg with heap := h4 } := by
        have z := J.landed (s' := { sg with heap := h4 }) nb fl4.1 (up.trans up4) os ag
        exact z
      obtain ⟨oe4, vs4, he4, hz4, hd4⟩ := fl4.there
      have S4 := J4.suite he4 hd4 na nL nF
      refine store_ok (X := X.suite a ((a, oe4) :: (X.pn ++ pins))) (v := .ref a) S4 hN hi (.inl hl) rfl (fun s5 S5 => ?_) (.inr hl)
      have body := (hsu a oe4 cls d (X.pn ++ pins) hz4 ⟨_, hd4⟩).run [] s5 _ H _ S5 (hyes rfl a na)
      have gone : ∀ {s6 : Shared} {σ6 : L2.St} {H6 : Hp} {Q : Shared → Prop}, Inv (X.suite a ((a, oe4) :: (X.pn ++ pins))) [] σ6 H6 s6 → (∀ s7, Inv X pins (σ6.set h.i none) H6 s7 → Q s7) →
          wpAny (model X.prog X.w) X.A (do bindName X.env n .none; unbindBehindTheSuite X.env n pos') (fun _ s7 => Q s7) X.xe s6 := by
        intro s6 σ6 H6 Q S6 hq
        exact gone_ok (S6.unsuite ok) hN hi hl hq
      refine wpAny_mono body (fun f s6 hsp => ?_) (fun _ _ z => False.elim z)
      cases f with
      | next => obtain ⟨σ6, H6, S6, q6⟩ := hsp; exact gone S6 fun s7 J7 => ⟨_, _, J7, q6⟩
      | brk => obtain ⟨σ6, H6, S6, q6⟩ := hsp; exact gone S6 fun s7 J7 => ⟨_, _, J7, q6⟩
      | cont => obtain ⟨σ6, H6, S6, q6⟩ := hsp; exact gone S6 fun s7 J7 => ⟨_, _, J7, q6⟩
      | ret u => obtain ⟨v6, σ6, H6, S6, r6, q6⟩ := hsp; exact gone S6 fun s7 J7 => ⟨_, _, _, J7, r6, q6⟩
    | false => exact ih (hno rfl)
theorem ps_tryH {body : List Stmt} {h₀ : ExceptHandler} {hds : List ExceptHandler} {l : List Hnd} {pos : Pos} {tb : WX → TS} {Wout : WX} (hst : X.stack = X.env :: X.outer) (hfr : X.env.frame = some X.env.locals) (hN : X.N.Nodup) (tk : Takes X Wout)
    (hb : ∀ (W : WX) (pn : List (Addr × Obj)) (xe : Value → Shared → Prop), Takes (X.tr pn xe) W → PassesOwn (model X.prog X.w) X.A X.env xe → PSs (X.tr pn xe) body (tb W))
    (hh : HsOk X (h₀ :: hds) l) : PS X (.Try body (h₀ :: hds) [] [] pos) (fun D σ H => tb (wHs X.K Wout D l) D σ H) := by
  constructor
  intro pins s σ H D I h
  have ok := I.ok
  have frm : X.A.frames = some (X.env :: X.outer) := by rw [ok.frames, hst]
  apply wpAny_Try_except
  refine wpAny_mono ((hb (wHs X.K Wout D l) (X.pn ++ pins) _ ?_ PassesOwn.looking).run [] s σ H D (I.toTry _) h) (fun f s1 hsp => ?_) (fun e s1 he => he)
  · intro u s' xx
    obtain ⟨a, B, sI, pins', σ', H', cls, d, eu, J', nb, up, sky, na, os, ag, w⟩ := xx
    subst eu
    have J : Inv X pins σ' H' sI := J'.ofTry ok
    have sky' : Sky B (X.env :: X.outer) a (Zc cls d) X.env.locals s'.heap := by
      rw [← hst]
      exact sky
    exact Sky.land Zc.steady frm hfr sky' fun h3 fl3 up3 => hs_run (M := ()) (sg := { s' with heap := h3 }) ok hst hfr hN tk J nb fl3 (up.trans up3) na os ag hh w
  · cases f with
    | next => obtain ⟨σ', H', J', q⟩ := hsp; exact wpAny_execs_nil ⟨σ', H', J'.ofTry ok, q⟩
    | brk => obtain ⟨σ', H', J', q⟩ := hsp; exact ⟨σ', H', J'.ofTry ok, q⟩
    | cont => obtain ⟨σ', H', J', q⟩ := hsp; exact ⟨σ', H', J'.ofTry ok, q⟩
    | ret u => obtain ⟨v, σ', H', J', r, q⟩ := hsp; exact ⟨v, σ', H', J'.ofTry ok, r, q⟩
end
/-! ### .. as data -/
structure H2 where
  cb : List (Option Bool)
  i : Nat
  u : Nat → D → T2S
def endsU2 (i : Nat) (E : Ends2) : Ends2 := { nx := fun env => env[i]? = some none ∧ E.nx env, rt := E.rt, bk := fun env => env[i]? = some none ∧ E.bk env, ct := fun env => env[i]? = some none ∧ E.ct env, rd := E.rd }
def dHs (E : Ends2) (env : Ev) (c : Nat) (e : D) : List H2 → Prop
  | [] => False
  | h :: r => match h.cb[c]? with
    | some (some true) => env[h.i]? = some none ∧ h.u c e (endsU2 h.i E) env
    | some (some false) => dHs E env c e r
    | _ => False
def dTry (l : List H2) (tb : T2X → T2S) : T2S := fun E env => tb (fun env' c e => dHs E env' c e l) E env
/-- what holds in a suite -/
abbrev CH (K : Fg) (mg : Str → Option Value) (i : Nat) (a : Addr) (cls : Value) (dx : Option Addr) (c : Nat) (e : D) : Cnd := fun _ σ I H => σ[i]? = some (some (.ref a)) ∧ RX K mg I H c e cls dx
structure HR (K : Fg) (mg : Str → Option Value) (h : Hnd) (h2 : H2) : Prop where
  i : h.i = h2.i
  ex : ∀ c b C, h2.cb[c]? = some (some b) → mg (xname c) = some (.ref C) → PySem.W.exmOne K (.ref C) h.cv = some b
  su : ∀ a cls dx c e, SSG K (CH K mg h.i a cls dx c e) (h.ts a cls dx) (h2.u c e)
inductive HRs (K : Fg) (mg : Str → Option Value) : List Hnd → List H2 → Prop
  | nil : HRs K mg [] []
  | cons {h : Hnd} {h2 : H2} {l : List Hnd} {l2 : List H2} : HR K mg h h2 → HRs K mg l l2 → HRs K mg (h :: l) (h2 :: l2)
section
variable {K : Fg} {mg : Str → Option Value}
theorem RelL.hole {p : P0} {env : Ev} {σ : L2.St} {I H : Hp} (r : RelL K p env σ I H) {i : Nat} (h : env[i]? = some none) (v : Option V) : RelL K p env (σ.set i v) I H := by
  have ne : ∀ {j : Nat} {x : Sl}, env[j]? = some (some x) → i ≠ j := fun {j x} e z => by
    rw [z, e] at h; cases h
  have gt : ∀ {j : Nat} {x : Sl}, env[j]? = some (some x) → (σ.set i v)[j]? = σ[j]? := fun {j x} e => List.getElem?_set_ne (ne e)
  refine ⟨⟨r.r.gr, fun j x e => ?_, fun j k x y a n e1 e2 e3 => ?_, r.r.st, r.r.bs, fun j k w w' x y a n e1 e2 e3 => ?_, fun j k x y u u' c n hm e1 e2 e3 e4 => ?_⟩, by rw [List.length_set]; exact r.len⟩
  · rw [gt e]; exact r.r.sl j x e
  · rw [gt e1] at e3; rw [gt e2]; exact r.r.sep j k x y a n e1 e2 e3
  · rw [gt e1] at e3; rw [gt e2]; exact r.r.sd j k w w' x y a n e1 e2 e3
  · rw [gt e1] at e3; rw [gt e2] at e4; exact r.r.sm j k x y u u' c n hm e1 e2 e3 e4
theorem RX.stp {p : P0} {env : Ev} {σ : L2.St} {I H I' H' : Hp} {c : Nat} {e : D} {cls : Value} {dx : Option Addr} (r : RelL K p env σ I H) (s : Stp p I H I' H') (h : RX K mg I H c e cls dx) : RX K mg I' H' c e cls dx := by
  obtain ⟨C, a, v, h1, h2, h3, h4, h5⟩ := h
  refine ⟨C, a, v, h1, h2, h3, s.gr.hh a _ h4 fun z => ?_, Rp.mono s.ii _ _ h5⟩
  obtain ⟨_, _, l, x, k, ns, g, _⟩ := r.r.st a z
  rw [h4] at g
  cases g
theorem ch_kept {i : Nat} {a : Addr} {cls : Value} {dx : Option Addr} {c : Nat} {e : D} : Kept K (CH K mg i a cls dx c e) := fun p env σ I H I' H' r h s => ⟨h.1, h.2.stp r s⟩
theorem ss_try {l : List Hnd} {l2 : List H2} {tb : WX → TS} {tb2 : T2X → T2S} (hb : ∀ W x, SSG K (CX1 K mg W x) (tb W) (tb2 x)) (hl : HRs K mg l l2) : SS K (fun D σ H => tb (wHs K (fun _ _ _ _ => False) D l) D σ H) (dTry l2 tb2) := by
  intro p env σ I H D2 E r q e
  refine hb _ (fun env' c d => dHs D2 env' c d l2) p env σ I H D2 E r ?_ q e
  intro env' σ' I' H' c d cls dx r' qx z
  clear q hb
  revert qx
  induction hl with
  | nil => intro qx; exact qx.elim
  | @cons h h2 l l2 hh hl ih =>
    intro qx
    unfold dHs at qx
    have z' := z
    obtain ⟨C, a, v, h1, rfl, h3, h4, h5⟩ := z'
    split at qx
    · rename_i hcb
      refine ⟨true, hh.ex c true C hcb h1, fun _ a' na => ?_, (fun w => nomatch w)⟩
      obtain ⟨h0, qx⟩ := qx
      have rr := r'.hole h0 (some (.ref a'))
      have hlen : h2.i < σ'.length := by rw [← r'.len]; exact (List.getElem?_eq_some_iff.mp h0).1
      rw [hh.i]
      refine hh.su a' (.ref C) dx c d p env' _ I' H' _ _ rr ⟨by rw [hh.i]; exact List.getElem?_set_self hlen, z⟩ qx ⟨?_, e.rt, ?_, ?_, e.rd⟩
      · intro env3 σ3 I3 H3 ⟨g0, g⟩ r3; exact e.nx _ _ _ _ g (r3.hole g0 none)
      · intro env3 σ3 I3 H3 ⟨g0, g⟩ r3; exact e.bk _ _ _ _ g (r3.hole g0 none)
      · intro env3 σ3 I3 H3 ⟨g0, g⟩ r3; exact e.ct _ _ _ _ g (r3.hole g0 none)
    · rename_i hcb
      exact ⟨false, hh.ex c false C hcb h1, (fun w => nomatch w), fun _ => ih qx⟩
    · exact qx.elim
/-- e.f in a suite -/
def dXf (c c0 : Nat) (e : D) : T2E := fun _ Q => c = c0 ∧ Q e
theorem seg_xf {i : Nat} {a C0 : Addr} {cls : Value} {dx : Option Addr} {c c0 : Nat} {e : D} (hC : mg (xname c0) = some (.ref C0)) : SEG K (CH K mg i a cls dx c e) (tXf a cls dx C0 (xfld c0) (tVar i)) (dXf c c0 e) := by
  intro p env σ I H Q2 Q r hx q k
  obtain ⟨h0, C, dd, v, h1, h2, h3, h4, h5⟩ := hx
  obtain ⟨rfl, q⟩ := q
  rw [hC] at h1
  cases h1
  exact ⟨_, h0, rfl, h2, dd, _, v, h3, h4, by simp [List.lookup], k _ _ _ _ q (.of (Gr.refl r.same)) h5⟩
end
theorem ps_nox {X : Cx} {st : Stmt} {t : TS} (h : PS X.nox st t) : PS X st t := by
  constructor
  intro pins s σ H D I hw
  refine wpAny_mono (h.run pins s σ H D (I.wish _) hw) (fun _ _ q => q.unwish) ?_
  intro _ _ z
  exact False.elim z
/-- what a clause's class says of the text's exceptions -/
def ExF (K : Fg) (mg : Str → Option Value) (Ch : Addr) (cb : List (Option Bool)) : Prop := ∀ c b C, cb[c]? = some (some b) → mg (xname c) = some (.ref C) → PySem.W.exmOne K (.ref C) (.ref Ch) = some b
theorem exf_nil {K : Fg} {mg : Str → Option Value} {Ch : Addr} : ExF K mg Ch [] := fun c b C h => by simp at h
/-- the first def of a class -/
def clsInit : Stmt → Stmt
  | .ClassDef _ _ _ b _ _ _ _ _ _ _ => b.getD 0 (.Pass ⟨0, 0, 0, 0⟩)
  | s => s
end Z2
namespace Z2
open PySem PySem.Spec PyProof.Rows L2
/-! ### isinstance of a caught one; its class number c is known -/
/-- isinstance(e, c), e at a with its own dict -/
def rIsX (K : Fg) (a : Addr) (cls : Value) (dx : Option Addr) : List V → Hp → VK → Prop := fun xs H Q => ∃ (c : V) (cv : Value) (b : Bool) (Dc dd : Addr) (fs : List (Str × V)), xs = [.ref a, c] ∧ cls = .ref Dc ∧ dx = some dd ∧ H dd = some (.xd fs) ∧ ExcC K Dc ∧
  (∀ u, RelV c u → u = cv) ∧ PySem.W.kitOne K (.ref Dc) cv = some b ∧ Q (.bl b) H
theorem call_isX {X : Cx} {a : Addr} {cls : Value} {dx : Option Addr} {oe : Obj} {pn : List (Addr × Obj)} (hz : Zc cls dx oe) (hf : ∃ vs, oe.data = .fields vs) : CallR (X.suite a ((a, oe) :: pn)) (.builtin "isinstance") (rIsX X.K a cls dx) := by
  intro pins s σ H xs us Q I r h
  obtain ⟨c, cv, b, Dc, dd, fs, rfl, rfl, rfl, ed, C, hcv, e, q⟩ := h
  cases r with
  | cons rx rr =>
    cases rr with
    | cons rt rr =>
      cases rr
      cases rx
      cases hcv _ rt
      have hget := (I.pin (a, oe) (List.mem_append.mpr (.inl List.mem_cons_self))).1
      obtain ⟨vs, hv⟩ := hf
      have hx : ObjOk X.prog X.w H s.heap dd (.xd fs) := I.hok dd _ ed
      obtain ⟨mA, hns, hr⟩ := hx
      obtain ⟨od, ho, hl⟩ := lookIn_ns hns
      have J : PySem.W.InstAt s.heap a oe Dc (some od) := ⟨hget, hz.1, by unfold PySem.W.notCls; rw [hv] <;> rfl, by rw [hz.2]; exact ho⟩
      have hcl : (PySem.W.clsIn X.K Dc).isSome = true := by
        obtain ⟨cd, hc, _⟩ := PySem.W.any_some C.hd
        rw [hc]; rfl
      exact PySem.W.kia_one (PySem.W.kitx_exc hcl C.hg C.hk C.hs C.ha C.hn C.ht C.hm) I.kIn J e (fun z => nomatch z) fun tk => ⟨.bl b, H, I.kept (t' := tk) fun _ _ z => z, rfl, q⟩
def dIsX (cb : List (Option Bool)) (c : Nat) : T2E := fun _ Q => ∃ b, cb[c]? = some (some b) ∧ Q (.bool b)
/-- what isinstance answers of the text's exceptions for the class cv -/
def KitF (K : Fg) (mg : Str → Option Value) (cv : Value) (cb : List (Option Bool)) : Prop := ∀ c b C, cb[c]? = some (some b) → mg (xname c) = some (.ref C) → PySem.W.kitOne K (.ref C) cv = some b ∧ ExcC K C
def SIG (K : Fg) (C : Cnd) (wi : TI) (t : T2I) : Prop := ∀ (p : P0) (env : Ev) (σ : L2.St) (I H : Hp) (Q2 : List D → Prop) (R : It → Hp → Prop), RelL K p env σ I H → C p σ I H → t env Q2 →
  (∀ ds J I' H', Q2 ds → Stp p I H I' H' → ItR K I' J ds → R J H') → wi σ H R
def SOG (K : Fg) (C : Cnd) (te : TE) (t : T2A) : Prop := ∀ (p : P0) (env : Ev) (σ : L2.St) (I H : Hp) (Q2 : List D → Prop) (Q : VK), RelL K p env σ I H → C p σ I H → t env Q2 →
  (∀ ds a vs I' H', Q2 ds → Stp p I H I' H' → H a = none → I' a = none → H' a = some (.lst vs) → Rps K I' vs ds → Q (.ref a) H') → te σ H Q
section
variable {K : Fg} {mg : Str → Option Value} {C : Cnd} {te tf : TE} {t2 u2 : T2E} {ts us : TS} {t u : T2S} {t1 t1' : TT} {c2 c2' : T2T}
theorem seg_isX {i : Nat} {a : Addr} {cls : Value} {dx : Option Addr} {c : Nat} {e : D} {cv : Value} {v : V} {cb : List (Option Bool)} (F : KitF K mg cv cb) (hv : ∀ u, RelV v u → u = cv) :
    SEG K (CH K mg i a cls dx c e) (tCB (rIsX K a cls dx) (tCons (tVar i) (tCons (tC v) tNil))) (dIsX cb c) := by
  intro p env σ I H Q2 Q r hx q k
  obtain ⟨h0, Cc, dd, w, h1, h2, h3, h4, h5⟩ := hx
  obtain ⟨b, hb, q⟩ := q
  obtain ⟨f1, f2⟩ := F c b Cc hb h1
  exact ⟨_, h0, v, cv, b, Cc, dd, _, rfl, h2, h3, h4, f2, hv, f1, k _ _ _ _ q (.of (Gr.refl r.same)) (.bl b)⟩
theorem stg_and (hk : Kept K C) (h1 : STG K C t1 c2) (h2 : STG K C t1' c2') : STG K C (tAnd t1 t1') (dAnd c2 c2') := by
  intro p env σ I H Q2 Q rl hx q k
  refine h1 p env σ I H _ _ rl hx q fun c I1 H1 q1 s1 => ?_
  cases c with
  | true =>
    rw [if_pos rfl] at q1 ⊢
    exact h2 p env σ I1 H1 _ _ (rl.stp s1) (hk _ _ _ _ _ _ _ rl hx s1) q1 fun c I2 H2 q2 s2 => k c I2 H2 q2 (s1.trans s2)
  | false =>
    rw [if_neg Bool.false_ne_true] at q1 ⊢
    exact k _ _ _ q1 s1
theorem stg_truth (ha : SEG K C te t2) : STG K C (fun σ H Q => te σ H fun x H' => ∃ k, TruV K x H' k ∧ Q k H') (dTru t2) := by
  intro p env σ I H Q2 Q rl hx q k
  refine ha p env σ I H _ _ rl hx q fun d v I1 H1 q1 s1 h1 => ?_
  cases h1 with
  | non => exact ⟨_, rfl, k _ _ _ q1 s1⟩
  | bl b => exact ⟨_, rfl, k _ _ _ q1 s1⟩
  | int b => exact ⟨_, rfl, k _ _ _ q1 s1⟩
  | str b => exact ⟨_, ⟨le_line q1.1, rfl⟩, k _ _ _ q1.2 s1⟩
  | lst e1 e2 => exact ⟨_, .inl ⟨_, SqL.of (s1.ih _ _ e1), rfl⟩, by rw [e2.isEmpty]; exact k _ _ _ q1 s1⟩
  | tup e1 e2 => exact ⟨_, .inr (.inl ⟨_, Same.sqt s1.ih e1, rfl⟩), by rw [e2.isEmpty]; exact k _ _ _ q1 s1⟩
  | dic _ _ => exact q1.elim
theorem seg_if (hk : Kept K C) (h1 : STG K C t1 c2) (ha : SEG K C te t2) (hb : SEG K C tf u2) : SEG K C (tIf t1 te tf) (dIf c2 t2 u2) := by
  intro p env σ I H Q2 Q rl hx q k
  refine h1 p env σ I H _ _ rl hx q fun c I1 H1 q1 s1 => ?_
  cases c with
  | true =>
    rw [if_pos rfl] at q1 ⊢
    exact ha p env σ I1 H1 _ _ (rl.stp s1) (hk _ _ _ _ _ _ _ rl hx s1) q1 fun d v I2 H2 q2 s2 h2 => k d v I2 H2 q2 (s1.trans s2) h2
  | false =>
    rw [if_neg Bool.false_ne_true] at q1 ⊢
    exact hb p env σ I1 H1 _ _ (rl.stp s1) (hk _ _ _ _ _ _ _ rl hx s1) q1 fun d v I2 H2 q2 s2 h2 => k d v I2 H2 q2 (s1.trans s2) h2
theorem ssg_ifret (hk : Kept K C) (h : STG K C t1 c2) (h1 : SEG K C te t2) (h2 : SSG K C us u) : SSG K C (tSeq (tIfS t1 (tRet te) tNext) us) (dSeq (dIfS c2 (dRet t2) dNext) u) := by
  intro p env σ I H D2 E r hx q e
  refine h p env σ I H _ _ r hx q fun b I' H' q' s => ?_
  have hx' := hk _ _ _ _ _ _ _ r hx s
  cases b with
  | true =>
    rw [if_pos rfl] at q' ⊢
    exact h1 p env σ I' H' _ _ (r.stp s) hx' q' fun d v I2 H2 q2 s2 rp => e.rt d v I2 H2 q2 ((r.stp s).r.gr.trans s2.gr) (fun a ea => s2.st a ea ((r.stp s).r.st a ea).2) rp
  | false =>
    rw [if_neg Bool.false_ne_true] at q' ⊢
    exact h2 p env σ I' H' _ _ (r.stp s) hx' q' e
theorem sig_seq (ha : SEG K C te t2) : SIG K C (iSeq K te) (diS t2) := by
  intro p env σ I H Q2 R rl hx q k
  refine ha p env σ I H _ _ rl hx q fun d v I1 H1 q1 s1 h1 => ?_
  cases d <;> first | exact q1.elim | skip
  · cases h1 with
    | lst h2 h3 => exact .inl ⟨_, _, rfl, SqL.of (s1.ih _ _ h2), k _ _ _ _ q1 s1 (itr_list h2 h3)⟩
  · cases h1 with
    | tup h2 h3 => exact .inr ⟨_, _, rfl, Same.sqt s1.ih h2, k _ _ _ _ q1 s1 (itr_tup h2 h3)⟩
theorem sig_enumA {n : Nat} {ta : TA} {a2 : T2A} (h : SAG K C n ta a2) : SIG K C (iEnumA K ta) (diEnumA a2) := by
  intro p env σ I H Q2 R rl hx q k
  refine h p env σ I H _ _ rl hx q fun ds vs I1 H1 q1 hl s1 h1 => ?_
  split at q1
  · obtain ⟨v, rfl, h2⟩ := h1.one
    cases h2 with
    | lst h3 h4 => exact ⟨_, _, rfl, .inl ⟨SqL.of (s1.ih _ _ h3), k _ _ _ _ q1 s1 (itr_enum h3 h4)⟩⟩
  · obtain ⟨v, rfl, h2⟩ := h1.one
    cases h2 with
    | tup h3 h4 => exact ⟨_, _, rfl, .inr ⟨Same.sqt s1.ih h3, k _ _ _ _ q1 s1 (itr_enumT h3 h4)⟩⟩
  · exact q1.elim
theorem seg_own {t : T2A} (h : SOG K C te t) : SEG K C te (tList t) := by
  intro p env σ I H Q2 Q r hx q k
  refine h p env σ I H _ Q r hx q fun ds a vs I' H' q2 s h0 h1 h2 h3 => ?_
  obtain ⟨s2, ii⟩ := s.lay h0 h1 h2
  exact k _ _ _ _ q2 s2 (.lst upd_same (Rps.mono ii ds vs h3))
theorem seg_cb {r : List V → Hp → VK → Prop} {r2 : RCD} {n : Nat} {ta : TA} {a2 : T2A} (h : SimC K r r2) (ha : SAG K C n ta a2) : SEG K C (tCB r ta) (dCB r2 a2) := by
  intro p env σ I H Q2 Q rl hx q k
  refine ha p env σ I H _ _ rl hx q fun ds vs I1 H1 q1 hl s1 h1 => ?_
  exact h I1 H1 vs ds Q2 Q s1.ih h1 q1 fun d' v' I' H' q' g r' => k d' v' I' H' q' (s1.trans (.of g)) r'
theorem sog_lc {wi : TI} {g : TG} {tt : TT} {te : TE} {ti : T2I} {g2 : T2G} {tt2 : T2T} {te2 : T2E} {vs : List Nat} (hi : SIG K C wi ti) (hg : SG K vs g g2) (ht : ST K tt tt2) (he : SE K te te2) : SOG K C (tLc wi g tt te vs) (dLc ti g2 tt2 te2 vs) := by
  intro p env σ I H Q2 Q rl hx q k
  refine hi p env σ I H _ _ rl hx q fun ds J I1 H1 ⟨hlen, q1⟩ s1 it => ?_
  intro D hD
  have rl1 := rl.stp s1
  have hD0 : p.H0 D = none := by
    cases e : p.H0 D with
    | none => rfl
    | some o => exact absurd hD (rl1.r.gr.th D (by rw [e]; exact fun z => nomatch z))
  have hDI : I1 D = none := Same.free s1.ih hD
  have hDH : H D = none := by
    cases e : H D with
    | none => rfl
    | some o => exact absurd hD (s1.gr.th D (by rw [e]; exact fun z => nomatch z))
  have hm : p.m ≠ some D := fun e => (rl1.r.st D e).1 hD0
  have hown : ∀ (j : Nat) (x : List PyData), env[j]? = some (some (Sl.own x)) → σ[j]? ≠ some (some (V.ref D)) := fun j x e z => by
    obtain ⟨v, hv, a, ws, rfl, _, _, e4, _⟩ := rl1.r.sl j _ e
    rw [hv] at z
    cases z
    rw [hD] at e4; cases e4
  refine ⟨fun i m H' => m = ds.length - i ∧ i ≤ ds.length ∧ ∃ I' acc ys, RelL K p env σ I' H' ∧ Stp p I1 H1 I' H' ∧ I' D = none ∧ H' D = some (.lst acc) ∧ Rps K I' acc ys ∧ acc.length ≤ i ∧ lcD g2 tt2 te2 (wipeE env vs) (ds.drop i) fun zs => Q2 (ys ++ zs),
    ⟨ds.length, by simp, Nat.zero_le _, I1, [], [], rl1.beside hD0 hDI (fun _ _ z => by rw [hD] at z; cases z) (fun _ z => by rw [hD] at z; cases z) (rl1.freshCell (.refl rl1.same) hD) hown, Stp.fresh s1.ih hD, hDI, upd_same, .nil, Nat.le_refl _, q1⟩, ?_⟩
  rintro i m H' ⟨rfl, hi', I', acc, ys, r', st', hDI', hDH', rp, hacc, q'⟩
  by_cases hlt : i < ds.length
  · refine .inr ⟨it.go i I' H' st'.ii st'.ih hlt, fun H'' => ∃ I'' acc ys, RelL K p env σ I'' H'' ∧ Stp p I1 H1 I'' H'' ∧ I'' D = none ∧ H'' D = some (.lst acc) ∧ Rps K I'' acc ys ∧ acc.length ≤ i + 1 ∧ lcD g2 tt2 te2 (wipeE env vs) (ds.drop (i + 1)) fun zs => Q2 (ys ++ zs),
      fun H'' z => ⟨ds.length - (i + 1), by omega, rfl, by omega, z⟩, fun x H2 y => ?_⟩
    obtain ⟨I2, d, g1, hd, rd⟩ := it.yld i x I' H' H2 st'.ii st'.ih hlt y
    have hdrop : ds.drop i = d :: ds.drop (i + 1) := by
      have hdd : ds[i] = d := Option.some.inj ((List.getElem?_eq_getElem hlt).symm.trans hd)
      rw [List.drop_eq_getElem_cons hlt, hdd]
    rw [hdrop] at q'
    have st2 := st'.trans (Stp.of (p := p) g1)
    have r2 := r'.grow' g1
    have q2 : g2 d (wipeE env vs) (fun env1 => tt2 env1 fun b => if b = true then te2 env1 fun y => lcD g2 tt2 te2 (wipeE env vs) (ds.drop (i + 1)) fun zs => Q2 (ys ++ (y :: zs)) else lcD g2 tt2 te2 (wipeE env vs) (ds.drop (i + 1)) fun zs => Q2 (ys ++ zs)) := q'
    have keepD : ∀ {I3 H3 I4 H4}, Stp p I3 H3 I4 H4 → I3 D = none → H3 D = some (.lst acc) → I4 D = none ∧ H4 D = some (.lst acc) := fun s a b =>
      ⟨s.gr.fr D a (by rw [b]; exact fun z => nomatch z), s.gr.hh D _ b hm⟩
    obtain ⟨d2, d3⟩ := keepD (Stp.of (p := p) g1) hDI' hDH'
    refine hg p (wipeE env vs) (L2.wipe σ vs) I2 H2 x d _ _ (r2.wipe vs) rd q2 fun env1 σ1 I3 H3 q3 r3 s3 w3 => ⟨by rw [w3]; exact wipe_wipe σ vs, ?_⟩
    obtain ⟨d4, d5⟩ := keepD s3 d2 d3
    refine ht p env1 σ1 I3 H3 _ _ r3 q3 fun b I4 H4 q4 s4 => ?_
    obtain ⟨d6, d7⟩ := keepD s4 d4 d5
    have s34 := s3.trans s4
    cases b with
    | false =>
      rw [if_neg Bool.false_ne_true] at q4 ⊢
      exact ⟨I4, acc, ys, r2.stp s34, st2.trans s34, d6, d7, Rps.mono (g1.ii.trans s34.ii) _ _ rp, by omega, q4⟩
    | true =>
      rw [if_pos rfl] at q4 ⊢
      refine he p env1 σ1 I4 H4 _ _ (r3.stp s4) q4 fun e v I5 H5 q5 s5 r5 => ?_
      obtain ⟨d8, d9⟩ := keepD s5 d6 d7
      have s35 := s34.trans s5
      have st5 := st2.trans s35
      have r6 := (r2.stp s35)
      refine ⟨acc, d9, Nat.lt_of_le_of_lt hacc (Nat.lt_of_lt_of_le hlt (le_line hlen)), I5, acc ++ [v], ys ++ [e], r6.beside hD0 d8 (fun _ _ z => by rw [d9] at z; exact nomatch z) (fun _ z => by rw [d9] at z; exact nomatch z) (rl1.freshCell st5 hD) hown, ⟨⟨st5.ii, fun b o z => by rw [upd_ne (ne_of_none z d8)]; exact st5.ih b o z, fun b o z n => ?_, st5.gr.fr, fun b z => ?_⟩, fun s e1 e2 => ?_⟩, d8, upd_same,
        Rps.append (Rps.mono (g1.ii.trans s35.ii) _ _ rp) (.cons r5 .nil), by rw [List.length_append, List.length_singleton]; omega, ?_⟩
      · have hb : b ≠ D := fun w => by rw [w, hD] at z; cases z
        rw [upd_ne hb]; exact st5.gr.hh b o z n
      · have hb : b ≠ D := fun w => z (by rw [w]; exact hD)
        rw [upd_ne hb]; exact st5.gr.th b z
      · obtain ⟨f0, l, c, n, ns, f1, f2, f3⟩ := st5.st s e1 e2
        have hs : s ≠ D := fun w => hm (by rw [e1, w])
        exact ⟨f0, l, c, n, ns, by rw [upd_ne hs]; exact f1, f2, f3⟩
      · have ee : ∀ zs : List PyData, (ys ++ [e]) ++ zs = ys ++ (e :: zs) := fun zs => by rw [List.append_assoc]; rfl
        simp only [ee]
        exact q5
  · have hi2 : i = ds.length := by omega
    subst hi2
    rw [List.drop_length] at q'
    have q' : Q2 (ys ++ []) := q'
    rw [List.append_nil] at q'
    exact .inl ⟨it.stop _ I' H' st'.ii st'.ih rfl, k ys D acc I' H' q' (s1.trans st') hDH hDI' hDH' rp⟩
theorem ssg_forG {wi : TI} {g : TG} {ti : T2I} {g2 : T2G} {vs : List Nat} (hc : ∀ p σ I H σ' I' H' B, C p σ I H → Same p.B B → C { p with B := B } σ' I' H') (hi : SIG K C wi ti) (hg : SG K vs g g2) (hb : SSG K C ts t) : SSG K C (tFor wi g ts) (dFor ti g2 t) := by
  intro p env σ I H D2 E r hx q e
  refine hi p env σ I H _ _ r hx q fun ds J I1 H1 q1 s1 it => ?_
  refine ⟨fun i m σ' H' => m = ds.length - i ∧ i ≤ ds.length ∧ ∃ env' I', RelL K p env' σ' I' H' ∧ Same I1 I' ∧ forD g2 t D2 (ds.drop i) env', ⟨ds.length, by simp, Nat.zero_le _, env, I1, r.stp s1, Same.refl _, q1⟩, ?_⟩
  rintro i m σ' H' ⟨rfl, hi', env', I', r', ii, q'⟩
  by_cases hlt : i < ds.length
  · refine .inr ⟨it.go i I' H' ii r'.same hlt, fun σ2 H2 => ∃ env2 I2, RelL K p env2 σ2 I2 H2 ∧ Same I1 I2 ∧ forD g2 t D2 (ds.drop (i + 1)) env2, fun σ2 H2 z => ⟨ds.length - (i + 1), by omega, rfl, by omega, z⟩, fun x H2 y => ?_⟩
    obtain ⟨I2, d, g1, hd, rd⟩ := it.yld i x I' H' H2 ii r'.same hlt y
    have hdrop : ds.drop i = d :: ds.drop (i + 1) := by
      have hdd : ds[i] = d := Option.some.inj ((List.getElem?_eq_getElem hlt).symm.trans hd)
      rw [List.drop_eq_getElem_cons hlt, hdd]
    rw [hdrop] at q'
    refine hg p env' σ' I2 H2 x d _ _ (r'.grow' g1) rd q' fun env3 σ3 I3 H3 q3 r3 s3 _ => ?_
    have i3 := (ii.trans g1.ii).trans s3.ii
    have back : ∀ {env σ I H}, RelL K { p with B := I1 } env σ I H → RelL K p env σ I H ∧ Same I1 I := fun {env σ I H} z => ⟨z.rebase ((r.stp s1).r.bs.trans z.r.bs), z.r.bs⟩
    exact hb { p with B := I1 } env3 σ3 I3 H3 _ _ (r3.rebase i3) (hc _ _ _ _ _ _ _ _ hx (r.stp s1).r.bs) q3 ⟨fun env4 σ4 I4 H4 q4 r4 => ⟨env4, I4, (back r4).1, (back r4).2, q4⟩, e.rt, fun env4 σ4 I4 H4 q4 r4 => e.nx _ _ _ _ q4 (back r4).1,
      fun env4 σ4 I4 H4 q4 r4 => ⟨env4, I4, (back r4).1, (back r4).2, q4⟩, e.rd⟩
  · have hi2 : i = ds.length := by omega
    subst hi2
    rw [List.drop_length] at q'
    exact .inl ⟨it.stop _ I' H' ii r'.same rfl, e.nx _ _ _ _ q' r'⟩
end
theorem kit_self {K : Fg} {C : Addr} (h : OexC K C) : PySem.W.subIn K (.ref C) (.ref C) = some true := by
  obtain ⟨nm, q, N, bs, bm, sn, sub, ab, col, dd, k0, k1, k2, k3, k5, hC, hb⟩ := h.cls
  show PySem.W.mroIn K C (.ref C) = some true
  unfold PySem.W.mroIn PySem.W.clsIn
  rw [hC]
  show (if (Value.ref C :: bm).isEmpty = true then none else some ((Value.ref C :: bm).contains (.ref C))) = some true
  simp
theorem kit_ref {K : Fg} {C Ch : Addr} {b : Bool} (hd : PySem.W.hasDictIn K Ch = true) (ht : PySem.W.typeIn K (.ref Ch) = some (.type "type")) (hs : PySem.W.subIn K (.ref C) (.ref Ch) = some b) (h : OexC K C) : PySem.W.kitOne K (.ref C) (.ref Ch) = some b := by
  unfold PySem.W.kitOne
  by_cases e : C = Ch
  · subst e
    rw [kit_self h] at hs
    cases hs
    simp
  · have n : ¬ ((Value.ref C == Value.ref Ch) = true) := fun z => e (Value.ref.inj (beq_iff_eq.mp z))
    rw [if_neg n]
    obtain ⟨cd, hc, _⟩ := PySem.W.any_some hd
    have y : ((PySem.W.clsIn K Ch).isSome && PySem.W.typeIn K (.ref Ch) == some (.type "type")) = true := by rw [hc, ht] <;> rfl
    show (if ((PySem.W.clsIn K Ch).isSome && PySem.W.typeIn K (.ref Ch) == some (.type "type")) = true then PySem.W.subIn K (.ref C) (.ref Ch) else none) = some b
    rw [if_pos y]
    exact hs
theorem kit_ve {K : Fg} {C : Addr} (h : PySem.W.subIn K (.ref C) (.type "ValueError") = some true) : PySem.W.kitOne K (.ref C) (.type "ValueError") = some true := by
  have n : ¬ ((Value.ref C == Value.type "ValueError") = true) := by simp
  unfold PySem.W.kitOne
  rw [if_neg n]
  have y : PySem.W.kitMeta "ValueError" = true := by decide +kernel
  show (if PySem.W.kitMeta "ValueError" = true then PySem.W.subIn K (.ref C) (.type "ValueError") else none) = some true
  rw [if_pos y]
  exact h
theorem bt_VE : bootBuiltins ("ValueError" : Str) = some (.type "ValueError") := by decide +kernel
abbrev tTruK (K : Fg) (te : TE) : TT := fun σ H Q => te σ H fun x H' => ∃ k, TruV K x H' k ∧ Q k H'
theorem pt_truthK {X : Cx} {K : Fg} {a : Expr} {ta : TE} (ha : PE X a ta) (hK : X.K = K) (he : ∀ whole, isTrue a X.env whole = (do let v ← whole; standAt a.pos; holding [v] (truthy v))) :
    PT X a (tTruK K ta) := by
  subst hK
  exact pt_truth ha he
end Z2
namespace Z2
open PySem PySem.Spec PyProof.Rows L2
/-! ### d.get(key), d.get(key, other): keys are tuples of ints -/
def GotF (xs : List (List Key × Addr × Value)) (ns : List Int) (z v : V) : Prop := (atKey xs (kI ns) = none ∧ v = z) ∨ ∃ p, atKey xs (kI ns) = some p ∧ RelV v p.2
def tFGet1 (K : Fg) (td ty : TE) : TE := fun σ H Q => td σ H fun x H1 => ∃ (a : Addr) (w : World) (xs0 : List (List Key × Addr × Value)), x = .ref a ∧ H1 a = some (dctO w a xs0) ∧ IKeys K H1 xs0 ∧ ty σ H1 fun y H2 => ∃ (xs : List (List Key × Addr × Value)) (b : Addr) (ns : List Int) (v : V), y = .ref b ∧ H2 a = some (dctO w a xs) ∧ IKeys K H2 xs ∧ SqT K H2 b (ns.map V.int) ∧ GotF xs ns .non v ∧ Q v H2
def tFGet2 (K : Fg) (td ty tz : TE) : TE := fun σ H Q => td σ H fun x H1 => ∃ (a : Addr) (w : World) (xs0 : List (List Key × Addr × Value)), x = .ref a ∧ H1 a = some (dctO w a xs0) ∧ IKeys K H1 xs0 ∧ ty σ H1 fun y H2 => tz σ H2 fun z H3 => ∃ (xs : List (List Key × Addr × Value)) (b : Addr) (ns : List Int) (v : V), y = .ref b ∧ H3 a = some (dctO w a xs) ∧ IKeys K H3 xs ∧ SqT K H3 b (ns.map V.int) ∧ GotF xs ns z v ∧ Q v H3
theorem dct_ty {X : Cx} {pins : List (Addr × Obj)} {σ : L2.St} {H : Hp} {s : Shared} {a : Addr} {w : World} {xs : List (List Key × Addr × Value)} (I : L2.Inv X pins σ H s) (e : H a = some (dctO w a xs)) (hk : IKeys X.K H xs) :
    s.TypeIs (.ref a) "dict" ∧ ∀ b, Value.ref a = .ref b → ∃ ob, s.heap.get? b = some ob ∧ ob.dict = none := by
  obtain ⟨_, _, dd⟩ := dct_any I e hk
  refine ⟨dd.typeIs, fun b q => ?_⟩
  cases q
  obtain ⟨ob, _, _, h1, h2, _⟩ := dd
  exact ⟨ob, h1, h2.2.1⟩
section
variable {X : Cx} {o e f : Expr} {td ty tz : TE} {apos cpos : Pos}
theorem pe_fget1 (hu : X.A.units + 1 < cLine) (ho : PE X o td) (he : PE X e ty) (m : M1 X o "get" apos e cpos) : PE X (.Call (.Attribute o "get" apos) [e] [] cpos) (tFGet1 X.K td ty) := by
  constructor
  intro pins s σ H Q I h
  refine wpAny_Call_method m.base m.few m.line PySem.F.plainAttrs_dict PySem.F.slot_dict_get PySem.F.type_dict_get ?_
  refine thn (ho.run pins s σ H _ I h) fun u s1 q => ?_
  obtain ⟨x, H1, I1, rx, a, w, xs0, rfl, ea, hk0, q1⟩ := q
  obtain rfl : u = Value.ref a := rx
  obtain ⟨t1, t2⟩ := dct_ty I1 ea hk0
  refine ⟨t1, t2, ?_⟩
  rw [m.trees]
  refine Calls.callWith_builtin rfl (Calls.evalArgs_plain (Calls.spliced_cons ?_))
  refine thn (he.run pins s1 σ H1 _ I1 q1) fun iv s2 q => Calls.spliced_nil ?_
  obtain ⟨y, H2, I2, ry, xs, b, ns, v, rfl, e2, hk, eb, g, q2⟩ := q
  obtain rfl : iv = Value.ref b := ry
  obtain ⟨z1, z2, dd⟩ := dct_any I2 e2 hk
  refine call_meetsIn PySem.F.slot_dict_get dd.typeIs PySem.F.entry_dict_get (PySem.F.args_dict_get_2 _ _) (meetsH_dict_get (tupleKind (mixKind X.prog X.w)) a b z1) ?_
  refine ⟨tupleKind_room_in1 hu, kI ns, xs, key_sq I2 (by rw [kI_kV]; exact eb), dd, v, H2, I2.tok _, ?_, q2⟩
  rcases g with ⟨g1, rfl⟩ | ⟨p, g1, g2⟩
  · rw [g1]; rfl
  · rw [g1]; exact g2
theorem pe_fget2 (hu : X.A.units + 1 < cLine) (ho : PE X o td) (he : PE X e ty) (hf : PE X f tz) (m : M2 X o "get" apos e f cpos) : PE X (.Call (.Attribute o "get" apos) [e, f] [] cpos) (tFGet2 X.K td ty tz) := by
  constructor
  intro pins s σ H Q I h
  refine wpAny_Call_method m.base m.few m.line PySem.F.plainAttrs_dict PySem.F.slot_dict_get PySem.F.type_dict_get ?_
  refine thn (ho.run pins s σ H _ I h) fun u s1 q => ?_
  obtain ⟨x, H1, I1, rx, a, w, xs0, rfl, ea, hk0, q1⟩ := q
  obtain rfl : u = Value.ref a := rx
  obtain ⟨t1, t2⟩ := dct_ty I1 ea hk0
  refine ⟨t1, t2, ?_⟩
  rw [m.trees]
  refine Calls.callWith_builtin rfl (Calls.evalArgs_plain (Calls.spliced_cons ?_))
  refine thn (he.run pins s1 σ H1 _ I1 q1) fun iv s2 q => Calls.spliced_cons ?_
  obtain ⟨y, H2, I2, ry, q2⟩ := q
  refine thn (hf.run pins s2 σ H2 _ I2 q2) fun fv s3 q => Calls.spliced_nil ?_
  obtain ⟨z, H3, I3, rz, xs, b, ns, v, rfl, e2, hk, eb, g, q3⟩ := q
  obtain rfl : iv = Value.ref b := ry
  obtain ⟨z1, z2, dd⟩ := dct_any I3 e2 hk
  refine call_meetsIn PySem.F.slot_dict_get dd.typeIs PySem.F.entry_dict_get (PySem.F.args_dict_get_3 _ _ _) (meetsH_dict_get_default (tupleKind (mixKind X.prog X.w)) a b z1 fv) ?_
  refine ⟨tupleKind_room_in1 hu, kI ns, xs, key_sq I3 (by rw [kI_kV]; exact eb), dd, v, H3, I3.tok _, ?_, q3⟩
  rcases g with ⟨g1, rfl⟩ | ⟨p, g1, g2⟩
  · rw [g1]; exact rz
  · rw [g1]; exact g2
end
/-- of data -/
def dFGet1 (td ty : T2E) : T2E := fun env Q => td env fun x => match x with | .dict kvs => (ty env fun y => match keyI y with | some k => Q ((getF kvs k).getD .none) | none => False) | _ => False
/-- of a dict of one's own -/
def dOGet2 (i : Nat) (ty tz : T2E) : T2E := fun env Q => match env[i]? with
  | some (some (.dct _ ks)) => (∀ p ∈ ks, ∃ ms, p.1 = kI ms) ∧ ty env fun y => tz env fun z => match keyI y with | some k => Q ((valD ks (kI k)).getD z) | none => False
  | _ => False
section
variable {K : Fg} {td ty tz : TE} {d2 y2 z2 : T2E}
theorem se_fget1 (hd : SE K td d2) (hy : SE K ty y2) : SE K (tFGet1 K td ty) (dFGet1 d2 y2) := by
  intro p env σ I H Q2 Q r q k
  refine hd p env σ I H _ _ r q fun x v I1 H1 q1 s1 r1 => ?_
  split at q1
  · rename_i kvs
    cases r1 with
    | dic h1 h2 =>
      rename_i a w xs
      refine ⟨a, w, xs, rfl, s1.ih _ _ h1, h2.keys.mono s1.ih, hy p env σ I1 H1 _ _ (r.stp s1) q1 fun y u I3 H3 q3 s3 r3 => ?_⟩
      split at q3
      · rename_i kk ek
        obtain ⟨b, rfl, eb⟩ := keyI_rp r3 ek
        have hx3 : H3 a = some (dctO w a xs) := s3.ih _ _ (s3.ii _ _ h1)
        have ik : IKeys K H3 xs := (h2.keys.mono s3.ii).mono s3.ih
        rcases h2.val kk with ⟨z1, z2⟩ | ⟨d', p', v', z1, z2, z3, z4⟩
        · rw [z1] at q3
          exact ⟨xs, b, kk, .non, rfl, hx3, ik, Same.sqt s3.ih eb, .inl ⟨z2, rfl⟩, k _ _ _ _ q3 (s1.trans s3) .non⟩
        · rw [z1] at q3
          exact ⟨xs, b, kk, v', rfl, hx3, ik, Same.sqt s3.ih eb, .inr ⟨p', z2, z3⟩, k _ _ _ _ q3 (s1.trans s3) z4.rp⟩
      · exact q3.elim
  · exact q1.elim
theorem se_oget2 (i : Nat) (hy : SE K ty y2) (hz : SE K tz z2) : SE K (tFGet2 K (tVar i) ty tz) (dOGet2 i y2 z2) := by
  intro p env σ I H Q2 Q r q k
  unfold dOGet2 at q
  split at q
  · rename_i w ks e2
    obtain ⟨hks, q⟩ := q
    obtain ⟨v, hv, a, xs, rfl, f2, f3, f4, f5⟩ := r.r.sl i _ e2
    refine ⟨_, hv, a, w, xs, rfl, f4, (f5.ikeys hks).mono r.same, hy p env σ I H _ _ r q fun y u I1 H1 q1 s1 r1 => hz p env σ I1 H1 _ _ (r.stp s1) q1 fun z u2 I3 H3 q3 s3 r3 => ?_⟩
    split at q3
    · rename_i kk ek
      obtain ⟨b, rfl, eb⟩ := keyI_rp r1 ek
      obtain ⟨v', hv', a', xs', e1', g2, g3, g4, g5⟩ := ((r.stp s1).stp s3).r.sl i _ e2
      subst e1'
      rw [hv] at hv'
      cases hv'
      have ik : IKeys K H3 xs' := (g5.ikeys hks).mono s3.ih
      rcases g5.val (kI kk) with ⟨z1, z2⟩ | ⟨d', p', v', z1, z2, z3, z4⟩
      · rw [z1] at q3
        exact ⟨xs', b, kk, u2, rfl, g4, ik, Same.sqt s3.ih (Same.sqt s3.ii eb), .inl ⟨z2, rfl⟩, k _ _ _ _ q3 (s1.trans s3) r3⟩
      · rw [z1] at q3
        exact ⟨xs', b, kk, v', rfl, g4, ik, Same.sqt s3.ih (Same.sqt s3.ii eb), .inr ⟨p', z2, z3⟩, k _ _ _ _ q3 (s1.trans s3) z4⟩
    · exact q3.elim
  · exact q.elim
end
end Z2
namespace Z2
open PySem PySem.Spec PyProof.Rows L2
/-! ### dict comprehensions with int keys -/
def dcD (g : T2G) (tt : T2T) (tk tv : T2E) (env : Ev) : List D → List (Int × D) → (List (Int × D) → Prop) → Prop
  | [], ks, Q => Q ks
  | d :: ds, ks, Q => g d env fun env1 => tt env1 fun b => if b = true then tk env1 fun kd => tv env1 fun y => (match kd with | .int kk => dcD g tt tk tv env ds (putI ks kk y) Q | _ => False) else dcD g tt tk tv env ds ks Q
def dDcI (i : Nat) (ti : T2I) (g : T2G) (tt : T2T) (tk tv : T2E) (vs : List Nat) : T2S := fun E env => ti env fun ds => ds.length ≤ 1000000 ∧ dcD g tt tk tv (wipeE env vs) ds [] fun ks => E.nx (env.set i (some (.dki ks)))
theorem putK_len (xs : List (Key × V)) (k : Key) (v : V) : (putK xs k v).length ≤ xs.length + 1 := by
  unfold putK
  split
  · rw [List.length_map]; omega
  · rw [List.length_append]; exact Nat.le_refl _
section
variable {K : Fg} {p : P0} {env : Ev} {σ : L2.St} {I H : Hp}
theorem RelL.besideK (r : RelL K p env σ I H) {a : Addr} {o : HO} (h0 : p.H0 a = none) (h1 : I a = none) (hx : ∀ w xs, H a ≠ some (dctO w a xs)) (hx2 : ∀ (j : Nat) (ks : List (Int × D)), env[j]? = some (some (.dki ks)) → σ[j]? ≠ some (some (.ref a))) (hmat : ∀ (j : Nat) (x : Sl) (v : V), env[j]? = some (some x) → isMat x = true → σ[j]? = some (some v) → ¬ Cell x v H a) (hn : ∀ (j : Nat) (x : List D), env[j]? = some (some (.own x)) → σ[j]? ≠ some (some (.ref a))) : RelL K p env σ I (upd H a o) := by
  have nm : p.m ≠ some a := fun q => (r.r.st _ q).1 h0
  refine ⟨⟨⟨r.r.gr.ii, fun b u q => by rw [upd_ne (ne_of_none q h1)]; exact r.r.gr.ih b u q, fun b u q n => by rw [upd_ne (ne_of_none q h0)]; exact r.r.gr.hh b u q n, r.r.gr.fr, fun b q => ?_⟩, fun j x q => ?_, r.r.sep, fun s q => ⟨(r.r.st s q).1, ?_⟩, r.r.bs, r.r.sd, r.r.sm.keep fun j x u b q m su eu => upd_ne fun z => by
      subst z
      refine hmat j x u q m su ?_
      cases x <;> first | (cases m) | skip
      exact .inl eu⟩, r.len⟩
  · by_cases hb : b = a
    · rw [hb, upd_same]; exact fun q => nomatch q
    · rw [upd_ne hb]; exact r.r.gr.th b q
  · obtain ⟨u, hu, z2⟩ := r.r.sl j x q
    refine ⟨u, hu, ?_⟩
    cases x with
    | dat d => exact z2
    | rng _ => exact z2
    | own es =>
      obtain ⟨b, ws, f1, f2, f3, f4, f5⟩ := z2
      subst f1
      have nb : b ≠ a := fun w => hn j es q (by rw [← w]; exact hu)
      exact ⟨b, ws, rfl, f2, f3, by rw [upd_ne nb]; exact f4, f5⟩
    | strm => exact z2
    | lnt x =>
      obtain ⟨b, f1, f2, f3, f4⟩ := z2
      have nb : b ≠ a := fun w => f2 (by rw [w]; exact h0)
      exact ⟨b, f1, f2, f3, f4.stays (Same.refl _) fun o q => by rw [upd_ne nb]; exact q⟩
    | dct w ks =>
      obtain ⟨b, ws, f1, f2, f3, f4, f5⟩ := z2
      subst f1
      have nb : b ≠ a := fun z => by
        subst z
        exact hx _ _ f4
      exact ⟨b, ws, rfl, f2, f3, by rw [upd_ne nb]; exact f4, f5⟩
    | dki ks =>
      obtain ⟨b, ws, f1, f2, f3, f4, f5⟩ := z2
      subst f1
      have nb : b ≠ a := fun z => by
        subst z
        exact hx2 _ _ q hu
      exact ⟨b, ws, rfl, f2, f3, by rw [upd_ne nb]; exact f4, f5⟩
    | mat rows =>
      obtain ⟨b, bs, f1, f2, f3, f4, f5, f6⟩ := z2
      subst f1
      have nb : b ≠ a := fun w => hmat j _ _ q rfl hu (.inl (by rw [w]))
      refine ⟨b, bs, rfl, f2, f3, by rw [upd_ne nb]; exact f4, f5, f6.stays (Same.refl _) fun c hc z1 z2 z3 => ⟨z2, upd_ne fun w => ?_⟩⟩
      exact hmat j _ _ q rfl hu (.inr ⟨b, bs, rfl, f4, by rw [← w]; exact hc⟩)
  · obtain ⟨f0, l, c, k, ns, f1, f2, f3⟩ := (r.r.st s q).2
    have ns2 : s ≠ a := fun w => nm (by rw [q, w])
    exact ⟨f0, l, c, k, ns, by rw [upd_ne ns2]; exact f1, f2, f3⟩
end
section
variable {K : Fg}
theorem ss_dcI {wi : TI} {g : TG} {tt : TT} {tk tv : TE} {ti : T2I} {g2 : T2G} {tt2 : T2T} {tk2 tv2 : T2E} {vs : List Nat} (i0 : Nat) (hi : SI K wi ti) (hg : SG K vs g g2) (ht : ST K tt tt2) (hk : SE K tk tk2) (he : SE K tv tv2) : SS K (tAsg (tDc wi g tt tk tv vs) (gName i0)) (dDcI i0 ti g2 tt2 tk2 tv2 vs) := by
  intro p env σ I H D2 E rl q e0
  refine hi p env σ I H _ _ rl q fun ds J I1 H1 ⟨hlen, q1⟩ s1 it => ?_
  intro D hD
  have rl1 := rl.stp s1
  have hD0 : p.H0 D = none := by
    cases e : p.H0 D with
    | none => rfl
    | some o => exact absurd hD (rl1.r.gr.th D (by rw [e]; exact fun z => nomatch z))
  have hDI : I1 D = none := Same.free s1.ih hD
  have hDH : H D = none := by
    cases e : H D with
    | none => rfl
    | some o => exact absurd hD (s1.gr.th D (by rw [e]; exact fun z => nomatch z))
  have hm : p.m ≠ some D := fun e => (rl1.r.st D e).1 hD0
  have hown : ∀ (j : Nat) (x : List PyData), env[j]? = some (some (Sl.own x)) → σ[j]? ≠ some (some (V.ref D)) := fun j x e z => by
    obtain ⟨v, hv, a, ws, rfl, _, _, e4, _⟩ := rl1.r.sl j _ e
    rw [hv] at z
    cases z
    rw [hD] at e4; cases e4
  have howk : ∀ (j : Nat) (ks : List (Int × PyData)), env[j]? = some (some (.dki ks)) → σ[j]? ≠ some (some (V.ref D)) := fun j x e z => by
    obtain ⟨v, hv, a, ws, rfl, _, _, e4, _⟩ := rl1.r.sl j _ e
    rw [hv] at z
    cases z
    rw [hD] at e4; cases e4
  refine ⟨fun i m H' => m = ds.length - i ∧ i ≤ ds.length ∧ ∃ I' acc ys, RelL K p env σ I' H' ∧ Stp p I1 H1 I' H' ∧ I' D = none ∧ H' D = some (.dK acc) ∧ KDI K I' acc ys ∧ acc.length ≤ i ∧ dcD g2 tt2 tk2 tv2 (wipeE env vs) (ds.drop i) ys fun ks => D2.nx (env.set i0 (some (.dki ks))),
    ⟨ds.length, by simp, Nat.zero_le _, I1, [], [], rl1.beside hD0 hDI (fun _ _ z => by rw [hD] at z; cases z) (fun _ z => by rw [hD] at z; cases z) (rl1.freshCell (.refl rl1.same) hD) hown, Stp.fresh s1.ih hD, hDI, upd_same, .nil, Nat.le_refl _, q1⟩, ?_⟩
  rintro i m H' ⟨rfl, hi', I', acc, ys, r', st', hDI', hDH', rp, hacc, q'⟩
  by_cases hlt : i < ds.length
  · refine .inr ⟨it.go i I' H' st'.ii st'.ih hlt, fun H'' => ∃ I'' acc ys, RelL K p env σ I'' H'' ∧ Stp p I1 H1 I'' H'' ∧ I'' D = none ∧ H'' D = some (.dK acc) ∧ KDI K I'' acc ys ∧ acc.length ≤ i + 1 ∧ dcD g2 tt2 tk2 tv2 (wipeE env vs) (ds.drop (i + 1)) ys fun ks => D2.nx (env.set i0 (some (.dki ks))),
      fun H'' z => ⟨ds.length - (i + 1), by omega, rfl, by omega, z⟩, fun x H2 y => ?_⟩
    obtain ⟨I2, d, g1, hd, rd⟩ := it.yld i x I' H' H2 st'.ii st'.ih hlt y
    have hdrop : ds.drop i = d :: ds.drop (i + 1) := by
      have hdd : ds[i] = d := Option.some.inj ((List.getElem?_eq_getElem hlt).symm.trans hd)
      rw [List.drop_eq_getElem_cons hlt, hdd]
    rw [hdrop] at q'
    have st2 := st'.trans (Stp.of (p := p) g1)
    have r2 := r'.grow' g1
    have q2 : g2 d (wipeE env vs) (fun env1 => tt2 env1 fun b => if b = true then tk2 env1 fun kd => tv2 env1 fun y => (match kd with | .int kk => dcD g2 tt2 tk2 tv2 (wipeE env vs) (ds.drop (i + 1)) (putI ys kk y) fun ks => D2.nx (env.set i0 (some (.dki ks))) | _ => False) else dcD g2 tt2 tk2 tv2 (wipeE env vs) (ds.drop (i + 1)) ys fun ks => D2.nx (env.set i0 (some (.dki ks)))) := q'
    have keepD : ∀ {I3 H3 I4 H4}, Stp p I3 H3 I4 H4 → I3 D = none → H3 D = some (.dK acc) → I4 D = none ∧ H4 D = some (.dK acc) := fun s a b =>
      ⟨s.gr.fr D a (by rw [b]; exact fun z => nomatch z), s.gr.hh D _ b hm⟩
    obtain ⟨d2, d3⟩ := keepD (Stp.of (p := p) g1) hDI' hDH'
    refine hg p (wipeE env vs) (L2.wipe σ vs) I2 H2 x d _ _ (r2.wipe vs) rd q2 fun env1 σ1 I3 H3 q3 r3 s3 w3 => ⟨by rw [w3]; exact wipe_wipe σ vs, ?_⟩
    obtain ⟨d4, d5⟩ := keepD s3 d2 d3
    refine ht p env1 σ1 I3 H3 _ _ r3 q3 fun b I4 H4 q4 s4 => ?_
    obtain ⟨d6, d7⟩ := keepD s4 d4 d5
    have s34 := s3.trans s4
    cases b with
    | false =>
      rw [if_neg Bool.false_ne_true] at q4 ⊢
      exact ⟨I4, acc, ys, r2.stp s34, st2.trans s34, d6, d7, KDI.mono (g1.ii.trans s34.ii) rp, by omega, q4⟩
    | true =>
      rw [if_pos rfl] at q4 ⊢
      refine hk p env1 σ1 I4 H4 _ _ (r3.stp s4) q4 fun kd kv I5 H5 q5 s5 r5 => ?_
      obtain ⟨d8, d9⟩ := keepD s5 d6 d7
      refine he p env1 σ1 I5 H5 _ _ ((r3.stp s4).stp s5) q5 fun e v I6 H6 q6 s6 r6' => ?_
      obtain ⟨d10, d11⟩ := keepD s6 d8 d9
      cases kd <;> first | exact q6.elim | skip
      rename_i kk
      cases r5
      have s36 := (s34.trans s5).trans s6
      have st6 := st2.trans s36
      have r6 := (r2.stp s36)
      refine ⟨acc, .inl kk, rfl, d11, Nat.lt_of_le_of_lt hacc (Nat.lt_of_lt_of_le hlt (le_line hlen)), I6, putK acc (Sum.inl kk) v, putI ys kk e, r6.besideK hD0 d10 (fun _ _ z => by rw [d11] at z; exact nomatch z) howk (rl1.freshCell st6 hD) hown, ⟨⟨st6.ii, fun b o z => by rw [upd_ne (ne_of_none z d10)]; exact st6.ih b o z, fun b o z n => ?_, st6.gr.fr, fun b z => ?_⟩, fun s e1 e2 => ?_⟩, d10, upd_same,
        KDI.put r6' (KDI.mono (g1.ii.trans s36.ii) rp), ?_, q6⟩
      · have hb : b ≠ D := fun w => by rw [w, hD] at z; cases z
        rw [upd_ne hb]; exact st6.gr.hh b o z n
      · have hb : b ≠ D := fun w => z (by rw [w]; exact hD)
        rw [upd_ne hb]; exact st6.gr.th b z
      · obtain ⟨f0, l, c, n, ns, f1, f2, f3⟩ := st6.st s e1 e2
        have hs : s ≠ D := fun w => hm (by rw [e1, w])
        exact ⟨f0, l, c, n, ns, by rw [upd_ne hs]; exact f1, f2, f3⟩
      · have := putK_len acc (Sum.inl kk) v
        omega
  · have hi2 : i = ds.length := by omega
    subst hi2
    rw [List.drop_length] at q'
    exact .inl ⟨it.stop _ I' H' st'.ii st'.ih rfl, e0.nx _ _ _ _ q' (r'.setDki hD0 hDI' hDH' rp i0)⟩
end
/-! ### list(d.items()) of such a dict -/
def dItemsK (i : Nat) : T2E := fun env Q => match env[i]? with
  | some (some (.dki ks)) => Q (.list (ks.map fun q => PyData.tuple [.int q.1, q.2]))
  | _ => False
def gext (I H H' : Hp) : Hp := fun b => match H b with | none => H' b | some _ => I b
theorem gr_ext {I H H' : Hp} (s : Same I H) (h : ∀ b o, H b = some o → H' b = some o) : Gr none I H (gext I H H') H' := by
  refine ⟨fun b o e => ?_, fun b o e => ?_, fun b o e _ => h b o e, fun b e n => ?_, fun b n => ?_⟩
  · unfold gext
    rw [s b o e]
    exact e
  · unfold gext at e
    split at e
    · exact e
    · exact h b o (s b o e)
  · unfold gext
    split
    · rename_i z
      exact absurd z n
    · exact e
  · cases z : H b with
    | none => exact absurd z n
    | some o => rw [h b o z]; exact fun w => nomatch w
section
variable {K : Fg}
theorem items_rp {I H H' : Hp} (ii : Same I (gext I H H')) : ∀ {ts : List Addr} {xs : List (Key × V)} {ks : List (Int × PyData)}, Paired (fun (t : Addr) (q : Key × V) => H' t = some (.tup [kV q.1, q.2])) ts xs → (∀ t ∈ ts, H t = none) → KDI K I xs ks → Rps K (gext I H H') (ts.map V.ref) (ks.map fun q => PyData.tuple [.int q.1, q.2])
  | _, _, _, .nil, _, .nil => .nil
  | t :: ts, _, _, .cons h hs, hn, .cons r rs => by
    refine .cons (.tup (.inl (.inl ?_)) (.cons (.int _) (.cons (Rp.mono ii _ _ r) .nil))) (items_rp ii hs (fun u hu => hn u (List.mem_cons_of_mem _ hu)) rs)
    unfold gext
    rw [hn t List.mem_cons_self]
    exact h
theorem se_itemsK (i : Nat) : SE K (LiI.tListItems (tVar i)) (dItemsK i) := by
  intro p env σ I H Q2 Q r q k
  unfold dItemsK at q
  split at q
  · rename_i ks e2
    obtain ⟨v, hv, a, xs, rfl, f2, f3, f4, f5⟩ := r.r.sl i _ e2
    refine ⟨_, hv, a, xs, rfl, f4, fun H' l ts hh hl hts hlt hHl hpr => ?_⟩
    have g : Gr none I H (gext I H H') H' := gr_ext r.same hh
    refine k _ _ _ _ q (Stp.of g) (.lst ?_ (items_rp g.ii hpr hts f5))
    unfold gext
    rw [hl]
    exact hHl
  · exact q.elim
end
/-! ### `in` of one's own dict whose keys hold texts -/
def rWIn (K : Fg) (w : World) (neg : Bool) : R2 := fun x y H Q => ∃ a xs b k, x = .ref b ∧ y = .ref a ∧ H a = some (dctO w a xs) ∧ (∀ x ∈ xs, SqT K H x.2.1 (x.1.map kV)) ∧ SqT K H b (k.map kV) ∧ Q (.bl (if neg then !(atKey xs k).isSome else (atKey xs k).isSome)) H
theorem op_wIn {X : Cx} (hu : X.A.units + 1 < cLine) : OpR X (compareOp .In) (rWIn X.K X.w false) := by
  intro pins s σ H x y v u Q I rx ry h
  obtain ⟨a, xs, b, k, rfl, rfl, e, hk, eb, q⟩ := h
  obtain rfl : v = Value.ref b := rx
  obtain rfl : u = Value.ref a := ry
  obtain ⟨z1, z2, dd⟩ := dct_of I e hk
  exact wpAny_in_heap (tupleKind_room_in1 hu) (key_sq I eb) z1 dd ⟨.bl _, H, I.tok _, rfl, q⟩
theorem op_wNotIn {X : Cx} (hu : X.A.units + 1 < cLine) : OpR X (compareOp .NotIn) (rWIn X.K X.w true) := by
  intro pins s σ H x y v u Q I rx ry h
  obtain ⟨a, xs, b, k, rfl, rfl, e, hk, eb, q⟩ := h
  obtain rfl : v = Value.ref b := rx
  obtain rfl : u = Value.ref a := ry
  obtain ⟨z1, z2, dd⟩ := dct_of I e hk
  exact wpAny_notIn_heap (tupleKind_room_in1 hu) (key_sq I eb) z1 dd ⟨.bl _, H, I.tok _, rfl, q⟩
def dInW (w : World) (neg : Bool) (i : Nat) (t : T2E) : T2E := fun env Q => match env[i]? with
  | some (some (.dct w' ks)) => w' = w ∧ t env fun x => (match keyD x with | some k => Q (.bool (if neg then !(valD ks k).isSome else (valD ks k).isSome)) | none => False)
  | _ => False
section
variable {K : Fg} {w : World} {te : TE} {t2 : T2E}
theorem se_inW (neg : Bool) (i : Nat) (h : SE K te t2) : SE K (tOp (rWIn K w neg) te (tVar i)) (dInW w neg i t2) := by
  intro p env σ I H Q2 Q r q k
  unfold dInW at q
  split at q
  · rename_i w' ks e2
    obtain ⟨rfl, q⟩ := q
    obtain ⟨va, hva, a, xs, rfl, f2, f3, f4, f5⟩ := r.r.sl i _ e2
    refine h p env σ I H _ _ r q fun d v I1 H1 q1 s1 r1 => ?_
    split at q1
    · rename_i kk ek
      obtain ⟨v', hv', a', xs', e1', g2, g3, g4, g5⟩ := (r.stp s1).r.sl i _ e2
      subst e1'
      rw [hva] at hv'
      cases hv'
      obtain ⟨b, rfl, eb⟩ := keyD_rp r1 ek
      refine ⟨_, hva, a, xs', b, kk, rfl, rfl, g4, fun x hx => Same.sqt s1.ih (g5.keys x hx), Same.sqt s1.ih eb, ?_⟩
      rcases g5.val kk with ⟨z1, z2⟩ | ⟨d', p', v', z1, z2, _, _⟩
      · rw [z1] at q1
        rw [z2]
        exact k _ _ _ _ q1 s1 (.bl _)
      · rw [z1] at q1
        rw [z2]
        exact k _ _ _ _ q1 s1 (.bl _)
    · exact q1.elim
  · exact q.elim
end
end Z2
namespace Z2
open PySem PySem.Spec PyProof.Rows L2
/-! ### an own list lent to a function of the text -/
mutual
def noLst : D → Bool | .list _ => false | .dict _ => false | .tuple ds => noLsts ds | _ => true
def noLsts : List D → Bool | [] => true | d :: ds => noLst d && noLsts ds
end
def thawOk (ds : List D) (d : D) : Prop := noLst d = true ∨ ∃ es, d = .list es ∧ noLsts es = true ∧ ds.all flatD = true ∧ es ≠ ds
def cutH (I : Hp) (a : Addr) : Hp := fun b => if b = a then none else I b
theorem cutH_ne {I : Hp} {a b : Addr} (h : b ≠ a) : cutH I a b = I b := by unfold cutH; rw [if_neg h]
theorem cutH_self {I : Hp} {a : Addr} : cutH I a a = none := by unfold cutH; rw [if_pos rfl]
section
variable {K : Fg}
theorem SqT.cut {I : Hp} {a b : Addr} {vs ws : List V} (ha : I a = some (.lst ws)) (h : SqT K I b vs) : SqT K (cutH I a) b vs := by
  rcases h with (h | ⟨o, h⟩) | h
  · have hb : b ≠ a := fun e => by rw [e, ha] at h; cases h
    exact .inl (.inl (by rw [cutH_ne hb]; exact h))
  · have hb : b ≠ a := fun e => by rw [e, ha] at h; cases h
    exact .inl (.inr ⟨o, by rw [cutH_ne hb]; exact h⟩)
  · exact .inr h
mutual
theorem Rp.cut {I : Hp} {a : Addr} {ws : List V} (ha : I a = some (.lst ws)) : ∀ (d : D) (v : V), noLst d = true → Rp K I v d → Rp K (cutH I a) v d
  | .none, _, _, h => by cases h; exact .non
  | .bool _, _, _, h => by cases h; exact .bl _
  | .int _, _, _, h => by cases h; exact .int _
  | .str _, _, _, h => by cases h; exact .str _
  | .list ds, _, c, h => by simp [noLst] at c
  | .tuple ds, _, c, h => by
    cases h with
    | tup h1 h2 => exact .tup (SqT.cut ha h1) (Rps.cut2 ha ds _ (by simpa [noLst] using c) h2)
  | .dict _, _, c, h => by simp [noLst] at c
theorem Rps.cut2 {I : Hp} {a : Addr} {ws : List V} (ha : I a = some (.lst ws)) : ∀ (ds : List D) (vs : List V), noLsts ds = true → Rps K I vs ds → Rps K (cutH I a) vs ds
  | [], _, _, h => by cases h; exact .nil
  | d :: ds, _, c, h => by
    have c : (noLst d && noLsts ds) = true := by simpa [noLsts] using c
    rw [Bool.and_eq_true] at c
    cases h with
    | cons h1 h2 => exact .cons (Rp.cut ha d _ c.1 h1) (Rps.cut2 ha ds _ c.2 h2)
end
theorem Rps.flatEq {I J : Hp} : ∀ {ws : List V} {ds es : List D}, Rps K I ws ds → ds.all flatD = true → Rps K J ws es → es = ds
  | _, _, _, .nil, _, h => by cases h; rfl
  | _, _, _, .cons h1 h2, f, h => by
    rw [List.all_cons, Bool.and_eq_true] at f
    cases h with
    | cons g1 g2 =>
      rw [Rps.flatEq h2 f.2 g2]
      congr 1
      cases h1 <;> first | (cases g1; rfl) | exact nomatch f.1
theorem Rp.thaw {I J : Hp} {a : Addr} {ws : List V} {ds : List D} {d : D} {v : V} (ha : I a = some (.lst ws)) (hw : Rps K J ws ds) (t : thawOk ds d) (h : Rp K I v d) : Rp K (cutH I a) v d := by
  rcases t with t | ⟨es, rfl, t1, t2, t3⟩
  · exact Rp.cut ha d v t h
  · cases h with
    | lst h1 h2 =>
      rename_i c us
      have hc : c ≠ a := fun e => by
        subst e
        rw [h1] at ha
        cases ha
        exact t3 (Rps.flatEq hw t2 h2)
      exact .lst (by rw [cutH_ne hc]; exact h1) (Rps.cut2 ha _ _ t1 h2)
/-- what is held while the list at name i is lent -/
def LJ (env : Ev) (σ : L2.St) (i : Nat) (I H J : Hp) : Prop := match env[i]? with
  | some (some (.own _)) => ∃ (a : Addr) (ws : List V), σ[i]? = some (some (.ref a)) ∧ H a = some (.lst ws) ∧ J = upd I a (.lst ws)
  | _ => J = I
section
variable {p : P0} {env : Ev} {σ : L2.St} {I H I' H' J : Hp} {i : Nat}
theorem LJ.same (r : RelL K p env σ I H) (h : LJ env σ i I H J) : Same I J ∧ Same J H := by
  unfold LJ at h
  split at h
  · rename_i ds e
    obtain ⟨a, ws, h1, h2, rfl⟩ := h
    obtain ⟨v, hv, b, us, rfl, e2, e3, e4, e5⟩ := r.r.sl i _ e
    rw [h1] at hv
    cases hv
    refine ⟨fun b o q => by rw [upd_ne (ne_of_none q e3)]; exact q, fun b o q => ?_⟩
    by_cases hb : b = a
    · subst hb; rw [upd_same] at q; cases q; exact h2
    · rw [upd_ne hb] at q; exact r.same b o q
  · subst h
    exact ⟨Same.refl _, r.same⟩
theorem LJ.ex (r : RelL K p env σ I H) (i : Nat) : ∃ J, LJ env σ i I H J := by
  unfold LJ
  split
  · rename_i ds e
    obtain ⟨v, hv, b, us, rfl, e2, e3, e4, e5⟩ := r.r.sl i _ e
    exact ⟨_, b, us, hv, e4, rfl⟩
  · exact ⟨_, rfl⟩
end
def SAL (K : Fg) (i n : Nat) (ta : TA) (t : T2A) : Prop := ∀ (p : P0) (env : Ev) (σ : L2.St) (I H : Hp) (Q2 : List D → Prop) (Q : List V → Hp → Prop), RelL K p env σ I H → t env Q2 →
  (∀ ds vs I' H' J, Q2 ds → vs.length = n → Stp p I H I' H' → LJ env σ i I' H' J → Rps K J vs ds → Q vs H') → ta σ H Q
/-- the lent list -/
def dLv (i : Nat) : T2E := fun env Q => match env[i]? with | some (some (.own ds)) => Q (.list ds) | some (some (.dat d)) => Q d | _ => False
variable {te : TE} {a : T2E}
theorem sal_nil {i : Nat} : SAL K i 0 tNil dNil := fun _ _ _ I H _ _ r q k => by
  obtain ⟨J, hJ⟩ := LJ.ex r i
  exact k _ _ I H J q rfl (.refl r.same) hJ .nil
theorem sal_cons {i n : Nat} {t : TA} {u : T2A} (ha : SE K te a) (ht : SAL K i n t u) : SAL K i (n + 1) (tCons te t) (dCons a u) := by
  intro p env σ I H Q2 Q rl q k
  refine ha p env σ I H _ _ rl q fun d v I1 H1 q1 s1 h1 => ?_
  refine ht p env σ I1 H1 _ _ (rl.stp s1) q1 fun ds vs I3 H3 J q3 hl s3 hJ h3 => ?_
  have jj := hJ.same ((rl.stp s1).stp s3)
  exact k _ _ I3 H3 J q3 (by rw [List.length_cons, hl]) (s1.trans s3) hJ (.cons (Rp.mono (s3.ii.trans jj.1) d v h1) h3)
theorem sal_lend (i : Nat) {n : Nat} {t : TA} {u : T2A} (ht : SAL K i n t u) : SAL K i (n + 1) (tCons (tVar i) t) (dCons (dLv i) u) := by
  intro p env σ I H Q2 Q rl q k
  unfold dCons dLv at q
  split at q
  · rename_i ds e
    obtain ⟨v, hv, b, us, rfl, e2, e3, e4, e5⟩ := rl.r.sl i _ e
    refine ⟨_, hv, ht p env σ I H _ _ rl q fun es vs I3 H3 J q3 hl s3 hJ h3 => ?_⟩
    have jj := hJ.same (rl.stp s3)
    refine k _ _ I3 H3 J q3 (by rw [List.length_cons, hl]) s3 hJ (.cons ?_ h3)
    unfold LJ at hJ
    rw [e] at hJ
    obtain ⟨a, ws, h1, h2, rfl⟩ := hJ
    rw [hv] at h1
    cases h1
    have ne : p.m ≠ some b := fun q => (rl.r.st b q).1 e2
    rw [s3.gr.hh b _ e4 ne] at h2
    cases h2
    exact .lst upd_same (Rps.mono (s3.ii.trans jj.1) _ _ e5)
  · rename_i d e
    obtain ⟨v, hv, h⟩ := rl.r.sl i _ e
    refine ⟨_, hv, ht p env σ I H _ _ rl q fun es vs I3 H3 J q3 hl s3 hJ h3 => ?_⟩
    have jj := hJ.same (rl.stp s3)
    exact k _ _ I3 H3 J q3 (by rw [List.length_cons, hl]) s3 hJ (.cons (Rp.mono (s3.ii.trans jj.1) _ _ h) h3)
  · exact q.elim
/-- the call of a function of the text, with the list at name i lent -/
def dCBL (i : Nat) (f : RCD) (t : T2A) : T2E := fun env Q => match env[i]? with
  | some (some (.own ds)) => t env fun es => f es fun d => thawOk ds d ∧ Q d
  | _ => t env fun es => f es Q
theorem se_callL {n : Nat} {f : RCD} {E : XK} {ta : TA} {t : T2A} (i : Nat) (h : SAL K i n ta t) : SE K (tCall (spD K n f) [] E ta) (dCBL i f t) := by
  intro p env σ I H Q2 Q rl q k
  unfold dCBL at q
  split at q
  · rename_i ds0 e
    refine h p env σ I H _ _ rl q fun es vs I1 H1 J q1 hl s1 hJ h1 => ?_
    have r1 := rl.stp s1
    have jj := hJ.same r1
    obtain ⟨v, hv, b, us, rfl, e2, e3, e4, e5⟩ := r1.r.sl i _ e
    unfold LJ at hJ
    rw [e] at hJ
    obtain ⟨a, ws, g1, g2, rfl⟩ := hJ
    rw [hv] at g1
    cases g1
    rw [e4] at g2
    cases g2
    show spD K n f (vs ++ []) H1 Q E
    rw [List.append_nil]
    refine ⟨_, es, _, hl, jj.2, h1, q1, fun d v I' H' ⟨th, q'⟩ g r' => ?_⟩
    have hb : I' b = some (.lst us) := g.ii _ _ upd_same
    have g2 : Gr none I1 H1 (cutH I' b) H' := by
      refine ⟨fun c o q => ?_, fun c o q => ?_, g.hh, fun c q m => ?_, g.th⟩
      · have hc : c ≠ b := fun z => by rw [z, e3] at q; cases q
        rw [cutH_ne hc]
        exact g.ii _ _ (jj.1 _ _ q)
      · by_cases hc : c = b
        · rw [hc, cutH_self] at q; cases q
        · rw [cutH_ne hc] at q; exact g.ih _ _ q
      · by_cases hc : c = b
        · rw [hc, cutH_self]
        · rw [cutH_ne hc]
          exact g.fr c (by rw [upd_ne hc]; exact q) m
    exact k d v _ H' q' (s1.trans (.of g2)) (Rp.thaw hb e5 th r')
  · rename_i hno
    refine h p env σ I H _ _ rl q fun es vs I1 H1 J q1 hl s1 hJ h1 => ?_
    have hJ : J = I1 := by
      unfold LJ at hJ
      split at hJ
      · rename_i ds e
        exact (hno ds e).elim
      · exact hJ
    subst hJ
    show spD K n f (vs ++ []) H1 Q E
    rw [List.append_nil]
    exact ⟨J, es, Q2, hl, s1.ih, h1, q1, fun d v I' H' q' g r' => k d v I' H' q' (s1.trans (.of g)) r'⟩
/-- a list of one's own may be left for good here -/
def dFrzQ (i : Nat) (t : T2S) : T2S := fun E env => t E env ∨ match env[i]? with | some (some (.own ds)) => t E (env.set i (some (.dat (.list ds)))) | _ => False
theorem ss_frzQ {ts : TS} {t : T2S} (i : Nat) (h : SS K ts t) : SS K ts (dFrzQ i t) := by
  intro p env σ I H D2 E r q e
  rcases q with q | q
  · exact h p _ σ I H _ _ r q e
  · split at q
    · rename_i ds e2
      obtain ⟨I', _, r'⟩ := r.freeze e2
      exact h p _ σ I' H _ _ r' q e
    · exact q.elim
/-! ### xs.index(y), y in it; flat -/
def dIdx1 (ds : List D) (x : D) (Q : D → Prop) : Prop := flatD x = true ∧ ds.all flatD = true ∧ ∃ (j : Nat) (z : D), ds[j]? = some z ∧ PyData.eqv z x = true ∧ (∀ (m : Nat) (z' : D), m < j → ds[m]? = some z' → PyData.eqv z' x = false) ∧ Q (.int (j : Nat))
def dOIdx (i : Nat) (t : T2E) : T2E := fun env Q => match env[i]? with
  | some (some (.own ds)) => t env fun x => dIdx1 ds x Q
  | some (some (.dat (.list ds))) => t env fun x => dIdx1 ds x Q
  | _ => False
theorem se_oIdx (i : Nat) (h : SE K te a) : SE K (tBM K "list" (rIndex K) (tVar i) (tCons te tNil)) (dOIdx i a) := by
  intro p env σ I H Q2 Q r q k
  have go : ∀ (ds : List D), (env[i]? = some (some (.own ds)) ∨ env[i]? = some (some (.dat (.list ds)))) → a env (fun x => dIdx1 ds x Q2) → tBM K "list" (rIndex K) (tVar i) (tCons te tNil) σ H Q := by
    intro ds e q
    obtain ⟨b, vs, hv, hr, hs⟩ := own_list r e
    refine ⟨_, hv, .inl ⟨rfl, vs, hs I H (.refl r.same)⟩, h p env σ I H _ _ r q fun d v I1 H1 ⟨f1, f2, j, z, z1, z2, z3, q1⟩ s1 r1 => ?_⟩
    have hr1 := Rps.mono s1.ii _ _ hr
    obtain ⟨u, u1, u2⟩ := hr1.got z1
    have fz : flatD z = true := List.all_eq_true.mp f2 z (List.mem_of_getElem? z1)
    refine ⟨b, vs, v, j, u, rfl, rfl, hs I1 H1 s1, Rp.flat r1 f1, Rps.flat hr1 f2, u1, by rw [eqV_of u2 r1 fz f1]; exact z2, fun m w hm hw => ?_, k _ _ _ _ q1 s1 (.int _)⟩
    obtain ⟨w', w1, w2⟩ := hr1.get hw
    rw [eqV_of w2 r1 (List.all_eq_true.mp f2 w' (List.mem_of_getElem? w1)) f1]
    exact z3 m w' hm w1
  unfold dOIdx at q
  split at q
  · rename_i ds e; exact go ds (.inl e) q
  · rename_i ds e; exact go ds (.inr e) q
  · exact q.elim
/-! ### xs.insert(i, y) -/
def dIns (i : Nat) (t u : T2E) : T2S := fun E env => match env[i]? with
  | some (some (.own ds)) => t env fun k => u env fun d => (match k with | .int j => 0 ≤ j ∧ j < 1000000 ∧ ds.length < 1000000 ∧ E.nx (env.set i (some (.own (ds.take j.toNat ++ [d] ++ ds.drop j.toNat)))) | _ => False)
  | _ => False
def rIns : V → List V → Hp → VK → Prop := fun x vs H Q => ∃ (l : Addr) (xs : List V) (i : Int) (y : V), x = .ref l ∧ vs = [.int i, y] ∧ H l = some (.lst xs) ∧ xs.length < sizeLine ∧ 0 ≤ i ∧ i < 2 ^ 63 ∧
    Q .non (upd H l (.lst (xs.take i.toNat ++ [y] ++ xs.drop i.toNat)))
theorem ss_ins {tf : TE} {b : T2E} (i : Nat) (h : SE K te a) (h2 : SE K tf b) : SS K (tDrop (tBM K "list" rIns (tVar i) (tCons te (tCons tf tNil)))) (dIns i a b) := by
  intro p env σ I H D2 E r q e
  unfold dIns at q
  split at q
  · rename_i ds e2
    obtain ⟨v, hv, l, vs, rfl, _, _, e4, e5⟩ := r.r.sl i _ e2
    refine ⟨_, hv, .inl ⟨rfl, _, SqL.of e4⟩, h p env σ I H _ _ r q fun d v I1 H1 q1 s1 r1 => ?_⟩
    refine h2 p env σ I1 H1 _ _ (r.stp s1) q1 fun d' v' I2 H2 q2 s2 r2 => ?_
    have r' := r.stp (s1.trans s2)
    obtain ⟨v', hv', a', ws, rfl, _, _, f4, f5⟩ := r'.r.sl i _ e2
    rw [hv] at hv'; cases hv'
    cases d <;> first | exact q2.elim | skip
    cases r1
    obtain ⟨b0, b1, hl, q2⟩ := q2
    refine ⟨l, ws, _, _, rfl, rfl, f4, lt_line (by rw [f5.length]; exact hl), b0, by omega, ?_⟩
    exact e.nx _ _ _ _ q2 (r'.mutOwn e2 hv (Rps.append (Rps.append (f5.take _) (.cons r2 .nil)) (f5.drop _)))
  · exact q.elim
end
end Z2
namespace Z2
open PySem PySem.Spec PyProof.Rows L2
/-! ### sorted of tuples of ints and texts -/
abbrev KK := List (Int ⊕ List Nat)
def ltK (a b : KK) : Bool := lexLt itemOrd a b
theorem ltK_irr (a : KK) : ltK a a = false := lex_irrefl (O := itemOrd) a
theorem ltK_asym {a b : KK} (h : ltK a b = true) : ltK b a = false := by
  cases h2 : ltK b a with
  | false => rfl
  | true =>
    have := lex_trans (O := itemOrd) a b a h h2
    have h3 : ltK a a = true := this
    rw [ltK_irr] at h3
    exact nomatch h3
theorem ltK_total {a b : KK} (h1 : ltK a b = false) (h2 : ltK b a = false) : a = b := lex_total (O := itemOrd) a b h1 h2
theorem ltK_tr {x y z : KK} (h1 : ltK y x = false) (h2 : ltK z y = false) : ltK z x = false := by
  cases h : ltK z x with
  | false => rfl
  | true =>
    rcases lex_negTrans (O := itemOrd) z y x h with h' | h'
    · exact nomatch (show true = false from (show ltK z y = true from h').symm.trans h2)
    · exact nomatch (show true = false from (show ltK y x = true from h').symm.trans h1)
theorem swoK {α : Type} (f : α → KK) : SrtO.Swo fun x y : α => ltK (f x) (f y) := ⟨fun _ _ h => ltK_asym h, fun _ _ _ h1 h2 => ltK_tr h1 h2⟩
def keyAt (h : Heap) (sh : Nat → Bool) (v : Value) : KK := (tupKey h sh v).getD []
theorem keyAt_some {h : Heap} {sh : Nat → Bool} {v : Value} {k : KK} (e : tupKey h sh v = some k) : keyAt h sh v = k := by unfold keyAt; rw [e]; rfl
theorem tupKey_keep {h h' : Heap} {sh : Nat → Bool} {v : Value} {k : KK} (e : tupKey h sh v = some k) (kp : ∀ b o, h.get? b = some o → h'.get? b = some o) : tupKey h' sh v = some k := by
  obtain ⟨a, o, xs, n, rfl, ho, hd, hi⟩ := tupKey_some e
  unfold tupKey
  dsimp only
  rw [kp a o ho]
  dsimp only
  rw [hd]
  exact hi
theorem tupOf_keep {h h' : Heap} {sh : Nat → Bool} {v f : Value} (e : TupOf h sh v f) (kp : ∀ b o, h.get? b = some o → h'.get? b = some o) : TupOf h' sh v f := by
  obtain ⟨a, o, xs, n, e1, ho, hc, hd, r⟩ := e
  exact ⟨a, o, xs, n, e1, kp a o ho, hc, hd, r⟩
theorem tupsOf_ex {h : Heap} {sh : Nat → Bool} : ∀ {us : List Value}, (∀ u ∈ us, ∃ f, TupOf h sh u f) → ∃ fs, TupsOf h sh us fs ∧ fs.length = us.length
  | [], _ => ⟨[], .nil, rfl⟩
  | u :: us, hu => by
    obtain ⟨f, hf⟩ := hu u List.mem_cons_self
    obtain ⟨fs, h1, h2⟩ := tupsOf_ex fun v hv => hu v (List.mem_cons_of_mem _ hv)
    exact ⟨f :: fs, .cons hf h1, by rw [List.length_cons, List.length_cons, h2]⟩
theorem cmpT {prog : Program} {w : World} {A : Around} {s : Shared} {sh : Nat → Bool} {P : Keyed → Prop} (hP : ∀ p, P p → ∃ k, tupKey s.heap sh p.1 = some k) :
    SrtO.Cmp prog w A s (tuples' true) P (fun p q => ltK (keyAt s.heap sh p.1) (keyAt s.heap sh q.1)) := by
  intro p q hp hq
  obtain ⟨k, hk⟩ := hP p hp
  obtain ⟨l, hl⟩ := hP q hq
  refine tup_ltAt (shape := sh) true A _ p.1 q.1 k l hk hl ⟨rfl, ?_⟩
  show ltK k l = ltK (keyAt s.heap sh p.1) (keyAt s.heap sh q.1)
  rw [keyAt_some hk, keyAt_some hl]
/-- the items of a tuple as a key -/
def itV (sh : Nat → Bool) : Nat → List V → Option KK
  | _, [] => some []
  | i, .int n :: r => if sh i = true then none else (itV sh (i + 1) r).map (Sum.inl n :: ·)
  | i, .str x :: r => if sh i = true then (itV sh (i + 1) r).map (Sum.inr x.cps.toList :: ·) else none
  | _, _ :: _ => none
theorem itV_items {sh : Nat → Bool} : ∀ {ws : List V} {its : List Value} (i : Nat) {k : KK}, Vals ws its → itV sh i ws = some k → tupItems sh i its = some k
  | _, _, i, k, .nil, h => by
    have : some [] = some k := h
    cases this
    simp [tupItems]
  | w :: ws, u :: us, i, k, .cons r t, h => by
    cases w with
    | int n =>
      obtain ⟨tk, rfl⟩ := r
      have h : (if sh i = true then none else (itV sh (i + 1) ws).map (Sum.inl n :: ·)) = some k := h
      have e : tupItems sh i (.int n tk :: us) = if sh i = true then none else (tupItems sh (i + 1) us).map (Sum.inl n :: ·) := by simp [tupItems]
      rw [e]
      split at h
      · cases h
      · rename_i hs
        rw [if_neg hs]
        cases q : itV sh (i + 1) ws with
        | none => rw [q] at h; cases h
        | some l => rw [q] at h; rw [itV_items (i + 1) t q]; exact h
    | str n =>
      obtain ⟨tk, rfl⟩ := r
      have h : (if sh i = true then (itV sh (i + 1) ws).map (Sum.inr n.cps.toList :: ·) else none) = some k := h
      have e : tupItems sh i (.str n tk :: us) = if sh i = true then (tupItems sh (i + 1) us).map (Sum.inr n.cps.toList :: ·) else none := by simp [tupItems]
      rw [e]
      split at h
      · rename_i hs
        rw [if_pos hs]
        cases q : itV sh (i + 1) ws with
        | none => rw [q] at h; cases h
        | some l => rw [q] at h; rw [itV_items (i + 1) t q]; exact h
      · cases h
    | _ => simp [itV] at h
def KeyV (K : Fg) (H : Hp) (sh : Nat → Bool) (v : V) (k : KK) : Prop := ∃ t ws, v = .ref t ∧ SqT K H t ws ∧ itV sh 0 ws = some k ∧ ws ≠ []
theorem keyV_key {X : Cx} {pins : List (Addr × Obj)} {σ : L2.St} {H : Hp} {s : Shared} {sh : Nat → Bool} {v : V} {k : KK} {u : Value} (I : Inv X pins σ H s) (h : KeyV X.K H sh v k) (r : RelV v u) : tupKey s.heap sh u = some k ∧ ∃ f, TupOf s.heap sh u f := by
  obtain ⟨t, ws, rfl, h1, h2, h3⟩ := h
  cases r
  obtain ⟨its, rv, ⟨o, ho, hc, n, hd⟩, _⟩ := I.tuple h1
  have hit := itV_items 0 rv h2
  constructor
  · unfold tupKey
    dsimp only
    rw [ho]
    dsimp only
    rw [hd]
    exact hit
  · cases its with
    | nil =>
      cases rv
      exact absurd rfl h3
    | cons f fs =>
      refine ⟨f, t, o, _, n, rfl, ho, hc, hd, rfl, fun hs => ?_, fun hs => ?_⟩
      · obtain ⟨m, tk, _, e, _⟩ := tupItems_int hs hit
        exact ⟨m, tk, e⟩
      · obtain ⟨m, tk, _, e, _⟩ := tupItems_str hs hit
        exact ⟨m, tk, e⟩
/-- a list whose rearrangement by a function is known -/
theorem perm_lift {α β : Type} {f : α → β} : ∀ {l : List α} {m : List β}, m.Perm (l.map f) → ∃ l' : List α, l'.Perm l ∧ m = l'.map f
  | [], m, h => ⟨[], .nil, by rw [List.map_nil] at h; exact h.eq_nil⟩
  | a :: l, m, h => by
    have hm : f a ∈ m := h.mem_iff.mpr (by rw [List.map_cons]; exact List.mem_cons_self)
    obtain ⟨m1, m2, rfl⟩ := List.append_of_mem hm
    have h2 : (m1 ++ m2).Perm (l.map f) := by
      rw [List.map_cons] at h
      exact (List.perm_middle.symm.trans h).cons_inv
    obtain ⟨l', hp, he⟩ := perm_lift h2
    refine ⟨l'.take m1.length ++ a :: l'.drop m1.length, ?_, ?_⟩
    · refine List.perm_middle.trans (List.Perm.cons a ?_)
      rw [List.take_append_drop]
      exact hp
    · rw [List.map_append, List.map_cons, List.map_take, List.map_drop, ← he]
      simp
section
variable {prog : Program} {w : World} {A : Around} {E : Value → Shared → Prop} {s : Shared}
/-- sorted of a list or tuple at l: a copy of its items at B, then the copy is sorted -/
theorem sort_copy {l : Addr} {T : String} {o : Obj} {its : List Value} {n : Nat} {Q : Value → Shared → Prop} (hT : T = "list" ∨ T = "tuple") (ho : s.heap.get? l = some o) (hc : o.cls = .type T) (hd : o.data = .seq its.toArray n) (hz : its.length ≤ sizeLine)
    (h : ∀ (h1 : Heap) (B : Addr), (∀ b u, s.heap.get? b = some u → h1.get? b = some u) → s.heap.get? B = none → h1.get? B = some (seqObj "list" its.toArray 0) →
      wpAny (model prog w) A.in1.in1 (Builtin.«list.sort» ⟨[.ref B], []⟩) (fun f s' => f = .done (.ret .none) ∧ Q (.ref B) s') E { s with heap := h1 }) :
    wpAny (model prog w) A (call (.builtin "sorted") [.ref l]) Q E s := by
  refine Calls.call_function_entry kind_sorted plain_sorted entry_sorted (args_sorted1 _) ?_
  have hcol : ∀ R : List Value → Shared → Prop, (∀ h0 : Heap, (∀ b u, s.heap.get? b = some u → h0.get? b = some u) → R its { s with heap := h0 }) → wpAny (model prog w) A.in1 (collect (.ref l)) R E s := fun R hR =>
    wpAny_collect_seq l hT ho hc hd (fun h0 k0 => hR h0 k0) (by rw [List.size_toArray]; exact hz)
  unfold Builtin.«sorted»
  refine wpAny_bind (m := checkCount "sorted" 1 1 _) (wpAny_pure (wpAny_bind (hcol _ fun h0 k0 => wpAny_bind (wpAny_newList ?_ hz))))
  have eB : (h0.push (seqObj "list" its.toArray 0)).get? h0.objs.size = some (seqObj "list" its.toArray 0) := Heap.get?_push_size _ rfl
  have nB : s.heap.get? h0.objs.size = none := by
    cases hn : s.heap.get? h0.objs.size with
    | none => rfl
    | some u => exact absurd (Heap.lt_size (k0 _ _ hn)) (Nat.lt_irrefl _)
  have hs := h _ h0.objs.size (fun b u e => Heap.get?_push_of_some _ (k0 b u e)) nB eB
  refine wpAny_bind (wpAny_holding (wpAny_call_entry slot_list_sort ⟨_, eB, rfl⟩ entry_list_sort (wpAny_mono hs (fun f s' hq => ?_) fun _ _ z => z) (args_list_sort _)))
  obtain ⟨rfl, hq⟩ := hq
  exact ⟨_, rfl, wpAny_pure ⟨_, rfl, hq⟩⟩
end
section
variable {X : Cx}
def rSortT2 (K : Fg) : List V → Hp → VK → Prop := fun vs H Q => ∃ (a : Addr) (xs : List V) (sh : Nat → Bool) (kl : List KK), vs = [V.ref a] ∧ (SqL K H a xs ∨ SqT K H a xs) ∧ xs.length = kl.length ∧ (∀ p ∈ xs.zip kl, KeyV K H sh p.1 p.2) ∧
  ∀ (m : List (V × KK)) (p : Addr), m.Perm (xs.zip kl) → m.Pairwise (fun x y => ltK y.2 x.2 = false) → H p = none → Q (.ref p) (upd H p (.lst (m.map (·.1))))
/-- what stands together: the item, its key, its value -/
theorem trip {xs : List V} {its : List Value} {kl : List KK} (rv : Vals xs its) (hl : xs.length = kl.length) : ∃ L : List ((V × KK) × Value), L.map (·.1) = xs.zip kl ∧ L.map (·.2) = its ∧ ∀ e ∈ L, RelV e.1.1 e.2 ∧ e.1 ∈ xs.zip kl := by
  refine ⟨(xs.zip kl).zip its, ?_, ?_, fun e he => ?_⟩
  · exact List.map_fst_zip (by rw [List.length_zip, ← rv.length]; omega)
  · exact List.map_snd_zip (by rw [List.length_zip, ← rv.length]; omega)
  · refine ⟨?_, (List.of_mem_zip he).1⟩
    obtain ⟨i, hi, rfl⟩ := List.getElem_of_mem he
    rw [List.getElem_zip, List.getElem_zip]
    rw [List.length_zip, List.length_zip] at hi
    obtain ⟨u, hu, ru⟩ := rv.get (i := i) (x := xs[i]'(by omega)) (List.getElem?_eq_getElem (by omega))
    rw [List.getElem?_eq_getElem (by omega)] at hu
    cases hu
    exact ru
theorem vals_map {α : Type} {f : α → V} {g : α → Value} : ∀ {l : List α}, (∀ e ∈ l, RelV (f e) (g e)) → Vals (l.map f) (l.map g)
  | [], _ => .nil
  | a :: l, h => .cons (h a List.mem_cons_self) (vals_map fun e he => h e (List.mem_cons_of_mem _ he))
theorem cr_sortedT2 : CallR X (.builtin "sorted") (rSortT2 X.K) := by
  rintro pins s σ H vs us Q I r ⟨a, xs, sh, kl, rfl, hs, hkl, hx, q⟩
  have rf : us = [Value.ref a] := by cases r with | cons r0 t0 => cases t0; cases r0; rfl
  subst rf
  obtain ⟨its, T, o, n, rv, hz, hT, ho, hc, hd⟩ : ∃ (its : List Value) (T : String) (o : Obj) (n : Nat), Vals xs its ∧ its.length ≤ sizeLine ∧ (T = "list" ∨ T = "tuple") ∧ s.heap.get? a = some o ∧ o.cls = .type T ∧ o.data = .seq its.toArray n := by
    rcases hs with hs | hs
    · obtain ⟨its, rv, pl, hz⟩ := I.list hs
      obtain ⟨o, ho, hc, n, hd⟩ := pl.isList
      exact ⟨its, "list", o, n, rv, by rw [← rv.length]; exact hz, .inl rfl, ho, hc, hd⟩
    · obtain ⟨its, rv, ⟨o, ho, hc, n, hd⟩, hz⟩ := I.tuple hs
      exact ⟨its, "tuple", o, n, rv, by rw [← rv.length]; exact hz, .inr rfl, ho, hc, hd⟩
  obtain ⟨L, hL1, hL2, hLr⟩ := trip rv hkl
  have hkey : ∀ e ∈ L, tupKey s.heap sh e.2 = some e.1.2 ∧ ∃ f, TupOf s.heap sh e.2 f := fun e he => keyV_key I (hx _ (hLr e he).2) (hLr e he).1
  have hits : ∀ u ∈ its, ∃ k, tupKey s.heap sh u = some k ∧ ∃ f, TupOf s.heap sh u f := fun u hu => by
    rw [← hL2] at hu
    obtain ⟨e, he, rfl⟩ := List.mem_map.mp hu
    exact ⟨_, hkey e he⟩
  refine sort_copy hT ho hc hd hz fun h1 B kp nB eB => ?_
  have keyed : ∀ h' : Heap, (∀ b u, s.heap.get? b = some u → h'.get? b = some u) → ∀ u ∈ its, ∃ k, tupKey h' sh u = some k ∧ keyAt s.heap sh u = k ∧ ∃ f, TupOf h' sh u f := fun h' kp2 u hu => by
    obtain ⟨k, e, f, hf⟩ := hits u hu
    exact ⟨k, tupKey_keep e kp2, keyAt_some e, f, tupOf_keep hf kp2⟩
  refine SrtO.list_sort_ord (s := { s with heap := h1 }) (ltv := fun u v => ltK (keyAt s.heap sh u) (keyAt s.heap sh v)) (swoK _) eB hz (fun h2 h' kp' => ?_) fun out o1 o2 => ⟨rfl, ?_⟩
  · have kp2 : ∀ b u, s.heap.get? b = some u → h'.get? b = some u := fun b u e => kp' b u (fun z => by rw [z, nB] at e; cases e) (kp b u e)
    refine ⟨tuples' true, fun Q' E' q' => ?_, fun x y hx' hy' => ?_⟩
    · obtain ⟨fs, hf1, hf2⟩ := tupsOf_ex (h := h') (sh := sh) (us := its) fun u hu => (keyed h' kp2 u hu).elim fun _ z => z.2.2
      exact tup_kind (s := { s with heap := h' }) (by omega) hf1 q'
    · obtain ⟨k, e1, e2, _⟩ := keyed h' kp2 x.1 hx'
      obtain ⟨l, f1, f2, _⟩ := keyed h' kp2 y.1 hy'
      refine tup_ltAt (s := { s with heap := h' }) (shape := sh) true _ _ x.1 y.1 k l e1 f1 ⟨rfl, ?_⟩
      show ltK k l = ltK (keyAt s.heap sh x.1) (keyAt s.heap sh y.1)
      rw [e2, f2]
  · have hp := o2.perm
    rw [← hL2] at hp
    obtain ⟨L', hLp, rfl⟩ := perm_lift hp
    obtain ⟨ep, he'⟩ := PyProof.Rows.sortedHeap_at (vs := its) (out := (L'.map (·.2)).toArray) eB
    have hmem : ∀ e ∈ L', e ∈ L := fun e he => hLp.mem_iff.mp he
    have hlen : (L'.map fun e => e.1.1).length ≤ sizeLine := by
      rw [List.length_map, hLp.length_eq, ← List.length_map (f := (·.2)), hL2]
      exact hz
    have hn : H B = none := I.hok.gone nB
    have kept : ∀ b u, s.heap.get? b = some u → (sortedHeap h1 B its (L'.map (·.2)).toArray).get? b = some u := fun b u e => by
      have hb : b ≠ B := fun z => by rw [z, nB] at e; cases e
      rw [PyProof.Rows.sortedHeap_old hb (Heap.lt_size (kp b u e))]
      exact kp b u e
    have I2 := I.laidN (t' := s.toks) kept nB hn (o := .lst (L'.map fun e => e.1.1)) ⟨hlen, L'.map (·.2), ep, vals_map fun e he => (hLr e (hmem e he)).1, he'⟩
    refine ⟨.ref B, _, I2, rfl, ?_⟩
    have q2 := q (L'.map (·.1)) B (by rw [← hL1]; exact hLp.map _) ?_ hn
    · rw [List.map_map] at q2
      exact q2
    · unfold SrtO.Srtd at o1
      rw [List.pairwise_map] at o1 ⊢
      refine o1.imp_of_mem fun {x y} hx hy hxy => ?_
      have hxy : ltK (keyAt s.heap sh y.2) (keyAt s.heap sh x.2) = false := hxy
      rw [keyAt_some (hkey x (hmem x hx)).1, keyAt_some (hkey y (hmem y hy)).1] at hxy
      exact hxy
/-! ### sorted by a function of the text -/
def keysT (sp : Sp) (C : List V → Hp → Prop) : List V → List V → Hp → Prop
  | [], ks, H => C ks H
  | x :: xs, ks, H => sp [x] H (fun k H' => keysT sp C xs (ks ++ [k]) H') E0
def rSortKF (K : Fg) (F : Addr) (sp : Sp) : List V → List V → Hp → VK → Prop := fun vs zs H Q => ∃ (a : Addr) (xs : List V), vs = [V.ref a] ∧ zs = [V.ref F] ∧ SqL K H a xs ∧
  keysT sp (fun ks H' => ∃ (sh : Nat → Bool) (kl : List KK), xs.length = kl.length ∧ (∀ p ∈ ks.zip kl, KeyV K H' sh p.1 p.2) ∧
    ∀ (m : List (V × KK)) (p : Addr), m.Perm (xs.zip kl) → m.Pairwise (fun x y => ltK y.2 x.2 = false) → H' p = none → Q (.ref p) (upd H' p (.lst (m.map (·.1))))) xs [] H
theorem vals_snoc {vs : List V} {us : List Value} {v : V} {u : Value} (h : Vals vs us) (r : RelV v u) : Vals (vs ++ [v]) (us ++ [u]) := h.append (.cons r .nil)
/-- the sort itself, the keys being there -/
theorem ksk_run {pins : List (Addr × Obj)} {σ : L2.St} {H : Hp} {s : Shared} {A : Around} {D kS : Addr} {e e1 : Nat} {kA : Array Value} {xs : List V} {its : List Value} {ks : List V} {sh : Nat → Bool} {kl : List KK} {R : PySem.Fin → Shared → Prop} {E : Value → Shared → Prop}
    (I : Inv X (pins ++ [(D, seqObj "list" #[] e1), (kS, seqObj "list" kA e)]) σ H s) (fD : FpOk X pins H D) (fS : FpOk X pins H kS) (hne : kS ≠ D) (rv : Vals xs its) (rk : Vals ks kA.toList) (hkl : xs.length = kl.length) (hks : ks.length = xs.length) (hz : its.length ≤ sizeLine)
    (hx : ∀ p ∈ ks.zip kl, KeyV X.K H sh p.1 p.2)
    (h : ∀ (m : List (V × KK)) (h' : Heap), m.Perm (xs.zip kl) → m.Pairwise (fun x y => ltK y.2 x.2 = false) → Inv X pins σ (upd H D (.lst (m.map (·.1)))) { s with heap := h' } → R (.done (.ret .none)) { s with heap := h' }) :
    wpAny (model X.prog X.w) A (ksk_end D false its.toArray e1 (.ref kS) kA) R E s := by
  have pD := I.pin (D, seqObj "list" #[] e1) (List.mem_append_right _ (List.mem_append_right _ (.head _)))
  have pS := I.pin (kS, seqObj "list" kA e) (List.mem_append_right _ (List.mem_append_right _ (.tail _ (.head _))))
  obtain ⟨L, hL1, hL2, hLr⟩ := trip rk (show ks.length = kl.length by omega)
  have hkey : ∀ q ∈ L, tupKey s.heap sh q.2 = some q.1.2 ∧ ∃ f, TupOf s.heap sh q.2 f := fun q hq => keyV_key I (hx _ (hLr q hq).2) (hLr q hq).1
  have hkits : ∀ u ∈ kA.toList, ∃ k, tupKey s.heap sh u = some k ∧ ∃ f, TupOf s.heap sh u f := fun u hu => by
    rw [← hL2] at hu
    obtain ⟨q, hq, rfl⟩ := List.mem_map.mp hu
    exact ⟨_, hkey q hq⟩
  have hksz : kA.size = its.length := by rw [← Array.length_toList, ← rk.length, hks, rv.length]
  have hzip : (kA.zip its.toArray).toList = kA.toList.zip its := ksk_zip kA its
  have hzl : (kA.zip its.toArray).size = its.length := by rw [Array.size_zip, hksz, List.size_toArray, Nat.min_self]
  -- items and keys together
  have hlz : (xs.zip kl).length = its.length := by rw [List.length_zip, ← rv.length]; omega
  have hlk : (kA.toList.zip its).length = its.length := by rw [List.length_zip, Array.length_toList, hksz]; omega
  obtain ⟨M, hM⟩ : ∃ M : List ((V × KK) × Keyed), M = (xs.zip kl).zip (kA.toList.zip its) := ⟨_, rfl⟩
  have hM1 : M.map (·.1) = xs.zip kl := by rw [hM]; exact List.map_fst_zip (by omega)
  have hM2 : M.map (·.2) = kA.toList.zip its := by rw [hM]; exact List.map_snd_zip (by omega)
  have hMr : ∀ q ∈ M, RelV q.1.1 q.2.2 ∧ tupKey s.heap sh q.2.1 = some q.1.2 := fun q hq => by
    rw [hM] at hq
    obtain ⟨i, hi, rfl⟩ := List.getElem_of_mem hq
    rw [List.length_zip] at hi
    have h1 : i < its.length := by omega
    have h2 : i < xs.length := by rw [rv.length]; exact h1
    have h3 : i < kA.toList.length := by rw [Array.length_toList]; omega
    have h4 : i < kl.length := by omega
    simp only [List.getElem_zip]
    constructor
    · obtain ⟨u, hu, ru⟩ := rv.get (i := i) (x := xs[i]) (List.getElem?_eq_getElem h2)
      rw [List.getElem?_eq_getElem h1] at hu
      cases hu
      exact ru
    · obtain ⟨u, hu, ru⟩ := rk.get (i := i) (x := ks[i]'(by omega)) (List.getElem?_eq_getElem (by omega))
      rw [List.getElem?_eq_getElem h3] at hu
      cases hu
      refine (keyV_key I (hx (ks[i]'(by omega), kl[i]) ?_) ru).1
      have : (ks.zip kl)[i]'(by rw [List.length_zip]; omega) = (ks[i]'(by omega), kl[i]) := by rw [List.getElem_zip]
      rw [← this]
      exact List.getElem_mem _
  have fin : ∀ st' : SortSt, SrtO.Srtd (fun p q : Keyed => ltK (keyAt s.heap sh p.1) (keyAt s.heap sh q.1)) (arrOf st').toList → (arrOf st').toList.Perm (kA.toList.zip its) → failedOf st' = none →
      wpAny (model X.prog X.w) A (ksk_tail D false e1 (.ref kS) st') R E s := by
    intro st' h1 h2 hf
    rw [← hM2] at h2
    obtain ⟨M', hMp, hMe⟩ := perm_lift h2
    have hmem : ∀ q ∈ M', q ∈ M := fun q hq => hMp.mem_iff.mp hq
    have hsz : ((arrOf st').map (·.2)).toList = M'.map fun q => q.2.2 := by rw [Array.toList_map, hMe, List.map_map]; rfl
    have hM'l : M'.length = its.length := by
      rw [hMp.length_eq]
      have e1 := congrArg List.length hM1
      rw [List.length_map] at e1
      omega
    have hsz2 : ((arrOf st').map (·.2)).size = its.length := by rw [← Array.length_toList, hsz, List.length_map, hM'l]
    have s1 := Heap.SameBut.update s.heap kS (Obj.mapSeq fun _ => (#[] : Array Value))
    have na1 : (s.heap.update kS (Obj.mapSeq fun _ => (#[] : Array Value))).get? D = some (seqObj "list" #[] e1) := (s1.2 D hne.symm).trans pD.1
    have s2 := Heap.SameBut.update (s.heap.update kS (Obj.mapSeq fun _ => (#[] : Array Value))) D (Obj.mapSeq fun _ => (arrOf st').map (·.2))
    obtain ⟨c2, hc2⟩ : ∃ c2, ((s.heap.update kS (Obj.mapSeq fun _ => (#[] : Array Value))).update D (Obj.mapSeq fun _ => (arrOf st').map (·.2))).get? D = some (seqObj "list" ((arrOf st').map (·.2)) c2) :=
      ⟨_, get?_update_seq na1 fun _ => (arrOf st').map (·.2)⟩
    unfold ksk_tail
    try dsimp only
    refine wpAny_bind (listUpdate_at pS.1 rfl ?_ (by rw [hksz]; exact hz) (Nat.zero_le _))
    refine wpAny_bind (wpAny_letGo ?_)
    refine wpAny_bind (seqEpoch_at na1 rfl ?_)
    refine wpAny_bind (listUpdate_at na1 rfl ?_ (Nat.zero_le _) (Nat.le_trans (Nat.le_of_eq hsz2) (Nat.le_succ_of_le hz)))
    rw [hf]
    simp only [bne_self_eq_false, Bool.false_eq_true, if_false]
    refine wpAny_pure (h (M'.map (·.1)) _ (by rw [← hM1]; exact hMp.map _) ?_ ?_)
    · rw [List.pairwise_map]
      rw [hMe, SrtO.Srtd, List.pairwise_map] at h1
      refine h1.imp_of_mem fun {x y} hx hy hxy => ?_
      rw [keyAt_some (hMr x (hmem x hx)).2, keyAt_some (hMr y (hmem y hy)).2] at hxy
      exact hxy
    · have I0 : Inv X pins σ H s := I.unpinned
      have I1 : Inv X pins σ H { s with heap := s.heap.update kS (Obj.mapSeq fun _ => (#[] : Array Value)) } := I0.turnedL (t' := s.toks) (ch := [kS]) (fun b o hb q => (s1.2 b (fun z => hb (by rw [z]; exact List.mem_singleton.mpr rfl))).trans q) (fun b hb => by rw [List.mem_singleton.mp hb]; exact fS)
      refine Inv.take (s := { s with heap := s.heap.update kS (Obj.mapSeq fun _ => (#[] : Array Value)) }) (t' := s.toks) I1 (fun b ob hb q => (s2.2 b hb).trans q) fD ?_
      have hmm : (M'.map (·.1)).map (·.1) = M'.map fun q => q.1.1 := by rw [List.map_map]; rfl
      refine ⟨by rw [List.length_map, List.length_map, hM'l]; exact hz, ((arrOf st').map (·.2)).toList, c2, ?_, by rw [Array.toArray_toList]; exact hc2⟩
      rw [hmm, hsz]
      exact vals_map fun q hq => (hMr q (hmem q hq)).1
  unfold ksk_end
  try dsimp only
  by_cases h2 : its.toArray.size < 2
  · rw [if_pos h2, if_pos h2]
    simp only [Bool.false_eq_true, if_false]
    refine wpAny_bind (wpAny_pure ?_)
    rw [StateT.run_pure]
    refine wpAny_bind (wpAny_pure ?_)
    try dsimp only
    refine fin (SortSt.mk' general' (kA.zip its.toArray) #[] 7 none) ?_ (by show (kA.zip its.toArray).toList.Perm _; rw [hzip]) rfl
    show SrtO.Srtd _ (kA.zip its.toArray).toList
    rw [hzip]
    rw [List.size_toArray] at h2
    match hq : kA.toList.zip its with
    | [] => exact List.Pairwise.nil
    | [v] => exact List.pairwise_singleton _ _
    | _ :: _ :: l => rw [hq] at hlk; simp only [List.length_cons] at hlk; omega
  · rw [if_neg h2, if_neg h2]
    simp only [Bool.false_eq_true, if_false]
    rw [List.size_toArray] at h2
    obtain ⟨fs, hf1, hf2⟩ := tupsOf_ex (h := s.heap) (sh := sh) (us := kA.toList) fun u hu => by
      obtain ⟨_, _, f, hf⟩ := hkits u hu
      exact ⟨f, hf⟩
    have hk0 : wpAny (model X.prog X.w) A (keyKind' kA.toList.toArray) (fun κ s' => κ = tuples' true ∧ s' = s) E s := tup_kind (by rw [hf2, Array.length_toList]; omega) hf1 ⟨rfl, rfl⟩
    rw [Array.toArray_toList] at hk0
    refine wpAny_bind (wpAny_mono hk0 (fun κ s' hκ => ?_) fun _ _ z => z)
    obtain ⟨rfl, rfl⟩ := hκ
    have hall : SrtO.AllL (fun p : Keyed => p.1 ∈ kA.toList) (kA.zip its.toArray).toList := fun p hp => by
      rw [hzip] at hp
      exact (List.of_mem_zip hp).1
    refine wpAny_bind (wpAny_mono (SrtO.wpS_sortO (st0 := SortSt.mk' (tuples' true) (kA.zip its.toArray) #[] 7 none) (κ := tuples' true) (P := fun p : Keyed => p.1 ∈ kA.toList)
      (lt := fun p q : Keyed => ltK (keyAt s'.heap sh p.1) (keyAt s'.heap sh q.1))
      (Q := fun _ st' => SrtO.Srtd (fun p q : Keyed => ltK (keyAt s'.heap sh p.1) (keyAt s'.heap sh q.1)) (arrOf st').toList ∧ (arrOf st').toList.Perm (kA.toList.zip its) ∧ failedOf st' = none)
      (swoK _) (cmpT fun p hp => by obtain ⟨k, e, _⟩ := hkits p.1 hp; exact ⟨k, e⟩) rfl hall rfl rfl fun st' a1 a2 a3 => ⟨a1, by have := a2.perm; rw [← hzip]; exact this, a3⟩) ?_ fun _ _ z => z)
    rintro ⟨⟨⟩, st'⟩ s'' ⟨rfl, hp1, hp2, hf⟩
    try dsimp only
    exact fin st' hp1 hp2 hf
theorem fp_mv {X : Cx} {pins : List (Addr × Obj)} {H H' : Hp} {b : Addr} (f : FpOk X pins H b) (h : H' b = none) : FpOk X pins H' b := ⟨h, f.2⟩
theorem fp_pinOk {X : Cx} {pins : List (Addr × Obj)} {H : Hp} {s : Shared} {b : Addr} {o : Obj} (f : FpOk X pins H b) (e : s.heap.get? b = some o) (d : ∀ v, o.data ≠ .cell v) : s.heap.get? b = some o ∧ H b = none ∧ b ≠ X.env.locals ∧ b ∉ X.fs ∧ ∀ v, o.data ≠ .cell v :=
  ⟨e, f.1, f.2.1, f.2.2.1, d⟩
/-- the keys are reckoned, one item after another; then the sort -/
theorem ksk_keys {pins : List (Addr × Obj)} {σ : L2.St} {H : Hp} {s : Shared} {A : Around} {D kS : Addr} {e1 : Nat} {xs : List V} {its : List Value} {R : PySem.Fin → Shared → Prop} {F : Addr} {sp : Sp} {k : Nat} {C : List V → Hp → Prop}
    (G : FnR X.prog X.w X.K X.mg X.base CX0 k F sp) (hr : Room k A) (he0 : ∀ s H, Env0 X.prog X.w X.K X.mg X.base X.A X.stack s H → Env0 X.prog X.w X.K X.mg X.base A X.stack s H)
    (I : Inv X (pins ++ [(D, seqObj "list" #[] e1), (kS, seqObj "list" #[] 0)]) σ H s) (fD : FpOk X pins H D) (fS : FpOk X pins H kS) (hne : kS ≠ D) (rv : Vals xs its) (hz : its.length ≤ sizeLine)
    (hk : keysT sp C xs [] H)
    (h : ∀ (ks : List V) (kA : Array Value) (e : Nat) (H' : Hp) (s' : Shared), C ks H' → ks.length = xs.length → Vals ks kA.toList → Inv X (pins ++ [(D, seqObj "list" #[] e1), (kS, seqObj "list" kA e)]) σ H' s' → H' D = none → H' kS = none → wpAny (model X.prog X.w) A (ksk_end D false its.toArray e1 (.ref kS) kA) R X.xe s') :
    wpAny (model X.prog X.w) A (ksk_rest D (.ref F) false its.toArray e1 (.ref kS)) R X.xe s := by
  unfold ksk_rest
  refine wpAny_bind (wpAny_rule ?_)
  first
    | rw [List.forIn_toArray]
    | (rw [← Array.forIn_toList]; simp only [List.toList_toArray])
    | rw [← Array.forIn_toList]
  refine wpAny_bind (ksk_fold (fun i s' => ∃ (ks : List V) (kA : Array Value) (e : Nat) (H' : Hp), Inv X (pins ++ [(D, seqObj "list" #[] e1), (kS, seqObj "list" kA e)]) σ H' s' ∧ Vals ks kA.toList ∧ ks.length = i ∧ i ≤ its.length ∧ keysT sp C (xs.drop i) ks H') its 0 s
    ⟨[], #[], 0, H, I, .nil, rfl, Nat.zero_le _, hk⟩ ?step ?done)
  case step =>
    rintro j x s' hx ⟨ks, kA, e, H', I', rk, hkl, hj, hkt⟩
    rw [Nat.zero_add] at hkt hkl hj ⊢
    have hjl : j < its.length := (List.getElem?_eq_some_iff.mp hx).1
    have hjx : j < xs.length := by rw [rv.length]; exact hjl
    have hdrop : xs.drop j = xs[j] :: xs.drop (j + 1) := List.drop_eq_getElem_cons hjx
    rw [hdrop] at hkt
    have rx : RelV xs[j] x := by
      obtain ⟨u, hu, ru⟩ := rv.get (i := j) (x := xs[j]) (List.getElem?_eq_getElem hjx)
      rw [hx] at hu
      cases hu
      exact ru
    have hcall : wpAny (model X.prog X.w) A (call (.ref F) [x]) (EP (X.wish fun _ _ => False) (pins ++ [(D, seqObj "list" #[] e1), (kS, seqObj "list" kA e)]) σ (fun k H'' => keysT sp C (xs.drop (j + 1)) (ks ++ [k]) H'')) (fun _ _ => False) s' :=
      wpAny_mono (wpAny_call (SlX.run_at (X := X.wish fun _ _ => False) (us := [x]) (ws := [xs[j]]) G hr (he0 _ _ I'.env0) pass0 (I'.wish _) (.cons rx .nil) hkt)) (fun _ _ z => z) fun _ _ z => z
    refine wpAny_bind (wpAny_attempt (wpAny_mono hcall (fun v s'' hq => ?_) fun _ _ hF => hF.elim))
    obtain ⟨kv, H'', I'', rkv, hkt'⟩ := hq
    have I'' : Inv X (pins ++ [(D, seqObj "list" #[] e1), (kS, seqObj "list" kA e)]) σ H'' s'' := I''.unwish
    have pD := I''.pin (D, seqObj "list" #[] e1) (List.mem_append_right _ (List.mem_append_right _ (.head _)))
    have pS := I''.pin (kS, seqObj "list" kA e) (List.mem_append_right _ (List.mem_append_right _ (.tail _ (.head _))))
    have hksz : kA.size = j := by rw [← Array.length_toList, ← rk.length, hkl]
    try dsimp only
    have s1 := Heap.SameBut.update s''.heap kS (Obj.mapSeq (·.push v))
    obtain ⟨c2, hc2⟩ : ∃ c2, (s''.heap.update kS (Obj.mapSeq (·.push v))).get? kS = some (seqObj "list" (kA.push v) c2) := ⟨_, get?_update_seq pS.1 (·.push v)⟩
    refine wpAny_bind (listUpdate_at pS.1 rfl ?_ (by omega) (Nat.le_trans (Nat.le_of_eq (Array.size_push ..)) (by omega)))
    have Iu : Inv X pins σ H'' { s'' with heap := s''.heap.update kS (Obj.mapSeq (·.push v)) } :=
      (show Inv X pins σ H'' s'' from I''.unpinned).turnedL (t' := s''.toks) (ch := [kS]) (fun b o hb q => (s1.2 b (fun z => hb (by rw [z]; exact List.mem_singleton.mpr rfl))).trans q) (fun b hb => by rw [List.mem_singleton.mp hb]; exact fp_mv fS pS.2.1)
    have fD' := fp_mv fD pD.2.1
    have fS' := fp_mv fS pS.2.1
    refine wpAny_pure ⟨rfl, ks ++ [kv], kA.push v, c2, H'', Iu.pins_of fun p hp => ?_, ?_, by rw [List.length_append, List.length_singleton, hkl], by omega, hkt'⟩
    · rcases List.mem_append.mp hp with hp | hp
      · exact Iu.pin p (List.mem_append_right _ hp)
      · rcases List.mem_cons.mp hp with rfl | hp
        · exact fp_pinOk fD' ((s1.2 D hne.symm).trans pD.1) (fun v z => nomatch z)
        · rw [List.mem_singleton.mp hp]
          exact fp_pinOk fS' hc2 (fun v z => nomatch z)
    · rw [Array.toList_push]
      exact vals_snoc rk rkv
  case done =>
    rintro s' ⟨ks, kA, e, H', I', rk, hkl, hj, hkt⟩
    have pD := I'.pin (D, seqObj "list" #[] e1) (List.mem_append_right _ (List.mem_append_right _ (.head _)))
    have pS := I'.pin (kS, seqObj "list" kA e) (List.mem_append_right _ (List.mem_append_right _ (.tail _ (.head _))))
    have hd : xs.drop (0 + its.length) = [] := List.drop_eq_nil_of_le (by rw [rv.length]; omega)
    rw [hd] at hkt
    try dsimp only
    refine wpAny_bind (listItems_at pS.1 rfl ?_)
    exact h ks kA e H' s' hkt (by rw [hkl, rv.length]; omega) rk I' pD.2.1 pS.2.1
/-- a copy of the items, laid behind all that is there -/
theorem copy_laid (h : Heap) (its : List Value) : ∃ h1 : Heap, h1 = ((h.push (seqObj "list" #[] 0)).update h.objs.size (Obj.mapSeq (· ++ its.toArray))).push (seqObj "list" its.toArray 0) ∧ h1.objs.size = h.objs.size + 2 ∧
    h1.get? (h.objs.size + 1) = some (seqObj "list" its.toArray 0) ∧ ∀ b u, h.get? b = some u → b < h.objs.size ∧ h1.get? b = some u := by
  have z1 : ((h.push (seqObj "list" #[] 0)).update h.objs.size (Obj.mapSeq (· ++ its.toArray))).objs.size = h.objs.size + 1 := by simp only [Heap.size_update, size_push']
  refine ⟨_, rfl, by simp only [size_push', z1], z1 ▸ Heap.get?_push_size _ rfl, fun b u e => ⟨Heap.lt_size e, ?_⟩⟩
  have hb : b ≠ h.objs.size := Nat.ne_of_lt (Heap.lt_size e)
  exact Heap.get?_push_of_some _ ((Heap.get?_update_ne _ _ _ _ hb).trans (Heap.get?_push_of_some _ e))
theorem cr_sortedKF {F : Addr} {sp : Sp} {k : Nat} (G : FnR X.prog X.w X.K X.mg X.base CX0 k F sp) (hr : Room (k + 2) X.A) : CallRK X (.builtin "sorted") [Str.ofString "key"] (rSortKF X.K F sp) := by
  rintro pins s σ H vs zs us ws Q I r rz ⟨a, xs, rfl, rfl, hs, hk⟩
  obtain ⟨its, rv, pl, hz⟩ := I.list hs
  have e1 : us = [Value.ref a] := by cases r with | cons r0 t0 => cases t0; cases r0; rfl
  have e2 : ws = [Value.ref F] := by cases rz with | cons r0 t0 => cases t0; cases r0; rfl
  subst e1 e2
  have hzl : its.length ≤ sizeLine := by rw [← rv.length]; exact hz
  obtain ⟨h1, hh1, z1, g1, k1⟩ := copy_laid s.heap its
  show wpAny (model X.prog X.w) X.A (call (.builtin "sorted") [.ref a] [(Str.ofString "key", .ref F)]) (EP X pins σ Q) X.xe s
  refine call_function_entry_kw kind_sorted plain_sorted entry_sorted (ksk_s1 _ _) ?_
  unfold Builtin.«sorted»
  refine wpAny_bind (m := checkCount "sorted" 1 1 _) (wpAny_pure (wpAny_bind (collect_list pl.isList (wpAny_bind (wpAny_newList ?_ hzl)) hzl)))
  have zc : ((s.heap.push (seqObj "list" #[] 0)).update s.heap.objs.size (Obj.mapSeq (· ++ its.toArray))).objs.size = s.heap.objs.size + 1 := by simp only [Heap.size_update, size_push']
  dsimp only
  rw [zc, ← hh1]
  clear hh1 zc
  have hr2 : Room k X.A.in1.in1 := (show Room (k + 1) X.A.in1 from Room.in1 hr).in1
  refine wpAny_bind (wpAny_holding (wpAny_call_entry_kw slot_list_sort ⟨_, g1, rfl⟩ entry_list_sort ?body (ksk_l1 _ _)))
  case body =>
    show wpAny (model X.prog X.w) X.A.in1.in1 (Builtin.«list.sort» ⟨[.ref (s.heap.objs.size + 1)], [(Str.ofString "key", .ref F)]⟩) _ _ { s with heap := h1 }
    rw [ksk_t1]
    have sb := Heap.SameBut.update h1 (s.heap.objs.size + 1) (Obj.mapSeq fun _ => (#[] : Array Value))
    obtain ⟨ep, hD⟩ : ∃ ep, (h1.update (s.heap.objs.size + 1) (Obj.mapSeq fun _ => (#[] : Array Value))).get? (s.heap.objs.size + 1) = some (seqObj "list" #[] ep) := ⟨_, get?_update_seq g1 fun _ => #[]⟩
    have hkS : ((h1.update (s.heap.objs.size + 1) (Obj.mapSeq fun _ => (#[] : Array Value))).push (seqObj "tuple" its.toArray 0)).objs.size = s.heap.objs.size + 3 := by simp only [size_push', Heap.size_update, z1]
    unfold ksk_tree
    refine wpAny_bind (listItems_at g1 rfl (wpAny_bind (listUpdate_at g1 rfl (wpAny_bind (seqEpoch_at hD rfl (wpAny_bind (wpAny_newTuple (wpAny_bind (wpAny_newList (wpAny_holding ?_) (Nat.zero_le _))) hzl)))) (by rw [List.size_toArray]; exact hzl) (Nat.zero_le _))))
    have k6 : ∀ b u, s.heap.get? b = some u → (((h1.update (s.heap.objs.size + 1) (Obj.mapSeq fun _ => (#[] : Array Value))).push (seqObj "tuple" its.toArray 0)).push (seqObj "list" #[] 0)).get? b = some u := fun b u e =>
      Heap.get?_push_of_some _ (Heap.get?_push_of_some _ ((sb.2 b (Nat.ne_of_lt (Nat.lt_succ_of_lt (k1 b u e).1))).trans (k1 b u e).2))
    have gD : (((h1.update (s.heap.objs.size + 1) (Obj.mapSeq fun _ => (#[] : Array Value))).push (seqObj "tuple" its.toArray 0)).push (seqObj "list" #[] 0)).get? (s.heap.objs.size + 1) = some (seqObj "list" #[] ep) := Heap.get?_push_of_some _ (Heap.get?_push_of_some _ hD)
    have gS : (((h1.update (s.heap.objs.size + 1) (Obj.mapSeq fun _ => (#[] : Array Value))).push (seqObj "tuple" its.toArray 0)).push (seqObj "list" #[] 0)).get? ((h1.update (s.heap.objs.size + 1) (Obj.mapSeq fun _ => (#[] : Array Value))).push (seqObj "tuple" its.toArray 0)).objs.size = some (seqObj "list" #[] 0) := Heap.get?_push_size _ rfl
    have I6 : Inv X pins σ H { s with heap := ((h1.update (s.heap.objs.size + 1) (Obj.mapSeq fun _ => (#[] : Array Value))).push (seqObj "tuple" its.toArray 0)).push (seqObj "list" #[] 0) } := I.kept (t' := s.toks) k6
    have fresh : ∀ b, s.heap.objs.size ≤ b → FpOk X pins H b := fun b hb => I.fpOk hb (I.hok.fresh hb)
    have fD := fresh (s.heap.objs.size + 1) (Nat.le_add_right _ _)
    have fS := fresh (s.heap.objs.size + 3) (Nat.le_add_right _ _)
    have hne : s.heap.objs.size + 3 ≠ s.heap.objs.size + 1 := by omega
    rw [← hkS] at fS hne
    generalize ((h1.update (s.heap.objs.size + 1) (Obj.mapSeq fun _ => (#[] : Array Value))).push (seqObj "tuple" its.toArray 0)).objs.size = kS at fS gS hne ⊢
    generalize ((h1.update (s.heap.objs.size + 1) (Obj.mapSeq fun _ => (#[] : Array Value))).push (seqObj "tuple" its.toArray 0)).push (seqObj "list" #[] 0) = h6 at gD gS I6
    have Ip : Inv X (pins ++ [(s.heap.objs.size + 1, seqObj "list" #[] ep), (kS, seqObj "list" #[] 0)]) σ H { s with heap := h6 } := I6.pins_of fun p hp => by
      rcases List.mem_append.mp hp with z | z
      · exact I6.pin p (List.mem_append_right _ z)
      · simp only [List.mem_cons, List.not_mem_nil, or_false] at z
        rcases z with rfl | rfl
        · exact fp_pinOk (s := { s with heap := h6 }) fD gD (fun v z => nomatch z)
        · exact fp_pinOk (s := { s with heap := h6 }) fS gS (fun v z => nomatch z)
    refine ksk_keys G hr2 (fun _ _ e => e.in1.in1) Ip fD fS hne rv hzl hk fun ks kA e H' s' hC hkl rk I' hD' hS' => ?_
    obtain ⟨sh, kl, hkl2, hx, hq⟩ := hC
    exact ksk_run (A := X.A.in1.in1) I' (fp_mv fD hD') (fp_mv fS hS') hne rv rk hkl2 hkl hzl hx fun m h' hm1 hm2 I2 => ⟨_, rfl, wpAny_pure ⟨_, rfl, .ref _, _, I2, rfl, hq m _ hm1 hm2 hD'⟩⟩
end
end Z2
namespace Z2
open PySem PySem.Spec PyProof.Rows L2
section
variable {X : Cx}
def rSort1 (K : Fg) (sp : Sp) : V → Hp → VK → Prop := fun x H Q => ∃ (a : Addr) (xs : List V), x = V.ref a ∧ SqL K H a xs ∧
  keysT sp (fun ks H' => ∃ (sh : Nat → Bool) (kl : List KK), xs.length = kl.length ∧ (∀ p ∈ ks.zip kl, KeyV K H' sh p.1 p.2) ∧
    ∀ (m : List (V × KK)) (p : Addr), m.Perm (xs.zip kl) → m.Pairwise (fun x y => ltK y.2 x.2 = false) → H' p = none → Q (.ref p) (upd H' p (.lst (m.map (·.1))))) xs [] H
def tSortK (K : Fg) (sp : Sp) (te : TE) : TE := fun σ H Q => te σ H fun x H1 => rSort1 K sp x H1 Q
theorem pe_sortK {k : Nat} {g : Str} {ps : List Str} {sp : Sp} {p gp pos kpos : Pos} {e : Expr} {te : TE} (G : Fx X.prog X.w X.K X.mg X.base k g ps sp) (hr : Room (k + 2) X.A) (hgs : Gl X "sorted") (hms : X.mg "sorted" = none) (hgg : Gl X g) (ha : PA X [e] (tCons te tNil))
    (hdg : (g == ("__debug__" : Str)) = false := by decide)
    (h1 : backTo pos (starEach [e] X.env) = (false, eval e X.env) :: backTo pos (starEach [] X.env) := by rfl) (h2 : (backTo pos (starEach [e] X.env)).any (·.1) = false := by rfl)
    (h3 : (backToKw pos (keywordEach [⟨some "key", .Name g gp, kpos⟩] X.env)).all (·.1.isSome) = true := by rfl) (h4 : (backToKw pos (keywordEach [⟨some "key", .Name g gp, kpos⟩] X.env)).any (·.1.isNone) = false := by rfl) (h5 : (backToKw pos (keywordEach [⟨some "key", .Name g gp, kpos⟩] X.env)).filterMap (·.1) = [Str.ofString "key"] := by rfl) :
    PE X (.Call (.Name "sorted" p) [e] [⟨some "key", .Name g gp, kpos⟩] pos) (tSortK X.K sp te) := by
  obtain ⟨f, fd, F, hm, hk, hb⟩ := G.ex
  have G2 : FnR X.prog X.w X.K X.mg X.base CX0 k f sp := (F.raw hb .nil).imp fun vs H Q E q => by rw [List.append_nil]; exact q
  refine ⟨fun pins s σ H Q I q => ?_⟩
  refine wpAny_Call_Name_kw (ld_blt I hgs hms bt_sorted ?_ (by decide) (by decide))
  refine PyProof.Rows.callWith_kw (thn (ha.run pos pins s σ H (fun vs H1 => match vs with | [x] => rSort1 X.K sp x H1 Q | _ => False) I q) fun us s1 ⟨vs, H1, I1, r1, q1⟩ => ?_) h1 h2 h3 h4
  have hkw : PK X [⟨some "key", .Name g gp, kpos⟩] (tCons (tC (.ref f)) tNil) := pk_cons (kpos := kpos) (nm := some "key") (pe_glob (pos := gp) (v := .ref f) hgg hm rfl hdg) pk_nil
  dsimp only at q1
  split at q1
  · rename_i x
    refine thn (hkw.run pos pins s1 σ H1 (fun zs H2 => zs = [.ref f] ∧ rSort1 X.K sp x H2 Q) I1 ⟨rfl, q1⟩) fun ws s2 ⟨zs, H2, I2, r2, q2⟩ => ?_
    obtain ⟨rfl, a, xs, e1, e2, e3⟩ := q2
    rw [h5]
    exact cr_sortedKF G2 hr pins s2 σ H2 [x] [.ref f] us ws Q I2 r1 r2 ⟨a, xs, by rw [e1], rfl, e2, e3⟩
  · exact q1.elim
end
/-! ### over data -/
def itD (sh : Nat → Bool) : Nat → List D → Option KK
  | _, [] => some []
  | i, .int n :: r => if sh i = true then none else (itD sh (i + 1) r).map (Sum.inl n :: ·)
  | i, .str x :: r => if sh i = true then (itD sh (i + 1) r).map (Sum.inr x.cps.toList :: ·) else none
  | _, _ :: _ => none
def kyD (sh : Nat → Bool) : D → Option KK | .tuple (d :: ds) => itD sh 0 (d :: ds) | _ => none
section
variable {K : Fg}
theorem itD_itV {I : Hp} {sh : Nat → Bool} : ∀ {ds : List D} {vs : List V} (i : Nat) {k : KK}, Rps K I vs ds → itD sh i ds = some k → itV sh i vs = some k
  | _, _, i, k, .nil, h => h
  | d :: ds, v :: vs, i, k, .cons r t, h => by
    cases d with
    | int n =>
      cases r
      have h : (if sh i = true then none else (itD sh (i + 1) ds).map (Sum.inl n :: ·)) = some k := h
      show (if sh i = true then none else (itV sh (i + 1) vs).map (Sum.inl n :: ·)) = some k
      split at h
      · cases h
      · rename_i hs
        rw [if_neg hs]
        cases q : itD sh (i + 1) ds with
        | none => rw [q] at h; cases h
        | some l => rw [q] at h; rw [itD_itV (i + 1) t q]; exact h
    | str n =>
      cases r
      have h : (if sh i = true then (itD sh (i + 1) ds).map (Sum.inr n.cps.toList :: ·) else none) = some k := h
      show (if sh i = true then (itV sh (i + 1) vs).map (Sum.inr n.cps.toList :: ·) else none) = some k
      split at h
      · rename_i hs
        rw [if_pos hs]
        cases q : itD sh (i + 1) ds with
        | none => rw [q] at h; cases h
        | some l => rw [q] at h; rw [itD_itV (i + 1) t q]; exact h
      · cases h
    | _ => simp [itD] at h
theorem kyD_V {I H : Hp} {sh : Nat → Bool} {d : D} {v : V} {k : KK} (e : Same I H) (r : Rp K I v d) (h : kyD sh d = some k) : KeyV K H sh v k := by
  unfold kyD at h
  split at h
  · rename_i x xs
    cases r with
    | tup h1 h2 =>
      rename_i a vs
      refine ⟨a, vs, rfl, Same.sqt e h1, itD_itV 0 h2 h, fun z => ?_⟩
      subst z
      cases h2
  · cases h
theorem rps_zip {I : Hp} : ∀ {vs : List V} {ds : List D}, Rps K I vs ds → ∀ p ∈ vs.zip ds, Rp K I p.1 p.2
  | _, _, .nil, p, h => absurd h (by simp)
  | _, _, .cons r t, p, h => by
    rw [List.zip_cons_cons] at h
    rcases List.mem_cons.mp h with rfl | h
    · exact r
    · exact rps_zip t p h
theorem rps_of {I : Hp} : ∀ {L : List (V × D)}, (∀ p ∈ L, Rp K I p.1 p.2) → Rps K I (L.map (·.1)) (L.map (·.2))
  | [], _ => .nil
  | p :: L, h => .cons (h p List.mem_cons_self) (rps_of fun q hq => h q (List.mem_cons_of_mem _ hq))
/-- an order by keys -/
def OrdK (kf : D → KK) (ds : List D) : Prop := ds.Pairwise fun x y => ltK (kf y) (kf x) = false
theorem sorted_back {I : Hp} {vs : List V} {ds : List D} {kf : D → KK} (r : Rps K I vs ds) {m : List (V × KK)} (hp : m.Perm (vs.zip (ds.map kf))) (hw : m.Pairwise fun x y => ltK y.2 x.2 = false) : ∃ ds', ds'.Perm ds ∧ OrdK kf ds' ∧ Rps K I (m.map (·.1)) ds' := by
  have e : vs.zip (ds.map kf) = (vs.zip ds).map fun p => (p.1, kf p.2) := by
    rw [List.zip_map_right]
    rfl
  rw [e] at hp
  obtain ⟨L, hL, rfl⟩ := perm_lift hp
  refine ⟨L.map (·.2), ?_, ?_, ?_⟩
  · have := hL.map (·.2)
    rwa [List.map_snd_zip (by rw [r.length]; exact Nat.le_refl _)] at this
  · unfold OrdK
    rw [List.pairwise_map] at hw ⊢
    exact hw
  · rw [List.map_map]
    exact rps_of fun p hp => rps_zip r p (hL.mem_iff.mp hp)
/-- sorted(xs) of tuples -/
def dSortT : List D → (List D → Prop) → Prop := fun ds Q => match ds with
  | [x] => (match seqOf x with | some xs => ∃ (sh : Nat → Bool) (kf : D → KK), (∀ d ∈ xs, kyD sh d = some (kf d)) ∧ ∀ xs', xs'.Perm xs → OrdK kf xs' → Q xs' | none => False)
  | _ => False
theorem sc_sortT : SimCO K (rSortT2 K) dSortT := by
  intro I H vs ds Q2 Q e h q k
  unfold dSortT at q
  split at q
  · rename_i x
    split at q
    · rename_i xs e2
      obtain ⟨sh, kf, q1, q2⟩ := q
      obtain ⟨v, rfl, h1⟩ := h.one
      obtain ⟨a, ws, rfl, h2, h3⟩ := Rp.seq e h1 e2
      refine ⟨a, ws, sh, xs.map kf, rfl, h2, by rw [h3.length, List.length_map], fun p hp => ?_, fun m p hp hw h0 => ?_⟩
      · have e3 : ws.zip (xs.map kf) = (ws.zip xs).map fun p => (p.1, kf p.2) := by
          rw [List.zip_map_right]
          rfl
        rw [e3] at hp
        obtain ⟨q, hq, rfl⟩ := List.mem_map.mp hp
        exact kyD_V e (rps_zip h3 q hq) (q1 _ (List.of_mem_zip hq).2)
      · obtain ⟨ds', d1, d2, d3⟩ := sorted_back h3 hp hw
        exact k _ p _ (q2 ds' d1 d2) h0 d3
    · exact q.elim
  · exact q.elim
/-- sorted(xs, key=f) -/
def dSortKF (f : RCD) (a : T2E) : T2A := fun env Q => a env fun x => match x with
  | .list xs => ∃ (sh : Nat → Bool) (kd : D → D) (kf : D → KK), (∀ d ∈ xs, ∀ R : D → Prop, R (kd d) → f [d] R) ∧ (∀ d ∈ xs, kyD sh (kd d) = some (kf d)) ∧ ∀ xs', xs'.Perm xs → OrdK kf xs' → Q xs'
  | _ => False
theorem keys_run {f : RCD} {kd : D → D} {C : List V → Hp → Prop} : ∀ {vs : List V} {ds : List D} {ks : List V} {kds : List D} {I H : Hp}, (∀ d ∈ ds, ∀ R : D → Prop, R (kd d) → f [d] R) → Rps K I vs ds → Rps K I ks kds → Same I H →
    (∀ ks' I' H', Gr none I H I' H' → Rps K I' ks' (kds ++ ds.map kd) → C ks' H') → keysT (spD K 1 f) C vs ks H
  | _, _, ks, kds, I, H, hf, .nil, rk, e, h => by
    refine h ks I H (.refl e) ?_
    rw [List.map_nil, List.append_nil]
    exact rk
  | v :: vs, d :: ds, ks, kds, I, H, hf, .cons r t, rk, e, h => by
    refine ⟨I, [d], (· = kd d), rfl, e, .cons r .nil, hf d List.mem_cons_self _ rfl, fun d' v' I' H' hd g r' => ?_⟩
    subst hd
    refine keys_run (kds := kds ++ [kd d]) (fun d hd => hf d (List.mem_cons_of_mem _ hd)) (Rps.mono g.ii _ _ t) (Rps.append (Rps.mono g.ii _ _ rk) (.cons r' .nil)) g.ih fun ks' I2 H2 g2 r2 => h ks' I2 H2 (g.trans g2) ?_
    rw [List.append_assoc] at r2
    exact r2
theorem so_sortKF {f : RCD} {te : TE} {a : T2E} (ha : SE K te a) : SO K (tSortK K (spD K 1 f) te) (dSortKF f a) := by
  intro p env σ I H Q2 Q rl q k
  refine ha p env σ I H _ _ rl q fun d v I1 H1 q1 s1 h1 => ?_
  split at q1
  · rename_i xs
    obtain ⟨sh, kd, kf, f1, f2, q1⟩ := q1
    cases h1 with
    | lst h3 h4 =>
      rename_i b ws
      refine ⟨b, ws, rfl, SqL.of (s1.ih _ _ h3), keys_run f1 h4 .nil s1.ih fun ks I2 H2 g rk => ⟨sh, xs.map kf, by rw [h4.length, List.length_map], fun p hp => ?_, fun m p hp hw h0 => ?_⟩⟩
      · rw [List.nil_append] at rk
        obtain ⟨i, hi, rfl⟩ := List.getElem_of_mem hp
        rw [List.length_zip, List.length_map] at hi
        have hkl := rk.length
        rw [List.length_map] at hkl
        rw [List.getElem_zip, List.getElem_map]
        obtain ⟨d, hd, rd⟩ := rk.get (i := i) (x := ks[i]'(by omega)) (List.getElem?_eq_getElem (by omega))
        rw [List.getElem?_map, List.getElem?_eq_getElem (by omega)] at hd
        cases hd
        exact kyD_V g.ih rd (f2 _ (List.getElem_mem _))
      · obtain ⟨ds', d1, d2, d3⟩ := sorted_back (Rps.mono g.ii _ _ h4) hp hw
        have s2 : Stp _ I H I2 H2 := s1.trans (.of g)
        have hn : H p = none := by
          cases e : H p with
          | none => rfl
          | some o => exact absurd h0 (s2.gr.th p (by rw [e]; exact fun z => nomatch z))
        exact k ds' p (m.map (·.1)) I2 _ (q1 ds' d1 d2) (s2.trans (Stp.fresh s2.ih h0)) hn (Same.free s2.ih h0) upd_same d3
  · exact q1.elim
end
/-- there is just one such list -/
theorem ordK_uniq {kf : D → KK} : ∀ {xs ys : List D}, xs.Perm ys → OrdK kf xs → OrdK kf ys → (∀ x ∈ xs, ∀ y ∈ xs, kf x = kf y → x = y) → xs = ys
  | [], ys, h, _, _, _ => (h.symm.eq_nil).symm
  | x :: xs, [], h, _, _, _ => absurd h.length_eq (by simp)
  | x :: xs, y :: ys, h, hx, hy, inj => by
    have mx : x ∈ y :: ys := h.mem_iff.mp List.mem_cons_self
    have my : y ∈ x :: xs := h.mem_iff.mpr List.mem_cons_self
    have h1 : ltK (kf x) (kf y) = false := by
      rcases List.mem_cons.mp mx with rfl | mx
      · exact ltK_irr _
      · exact (List.pairwise_cons.mp hy).1 x mx
    have h2 : ltK (kf y) (kf x) = false := by
      rcases List.mem_cons.mp my with rfl | my
      · exact ltK_irr _
      · exact (List.pairwise_cons.mp hx).1 y my
    have e := inj x List.mem_cons_self y my (ltK_total h1 h2)
    subst e
    rw [ordK_uniq h.cons_inv (List.pairwise_cons.mp hx).2 (List.pairwise_cons.mp hy).2 fun a ha b hb => inj a (List.mem_cons_of_mem _ ha) b (List.mem_cons_of_mem _ hb)]
end Z2
namespace Z2
open PySem PySem.Spec PyProof.Rows L2
/-! ### zip of a tuple and a list -/
def ItzM (K : Fg) (a b : Addr) : It :=
  ⟨fun i H => ∃ (xs ys : List V) (x y : V), SqT K H a xs ∧ SqL K H b ys ∧ xs[i]? = some x ∧ ys[i]? = some y,
   fun i H v H' => ∃ T x y, v = .ref T ∧ H T = none ∧ H' = upd H T (.tup [x, y]) ∧ (∀ xs, SqT K H a xs → xs[i]? = some x) ∧ ∀ ys, SqL K H b ys → ys[i]? = some y,
   fun i H => ∃ xs ys : List V, SqT K H a xs ∧ SqL K H b ys ∧ i ≤ xs.length ∧ i ≤ ys.length ∧ (i = xs.length ∨ i = ys.length)⟩
structure ZipSt (a b z TI TO i1 i2 : Addr) (i : Nat) (h : Heap) : Prop where
  zz : IsZip h z TI TO .none
  ti : IsTupOf2 h TI (.ref i1) (.ref i2)
  to : ∃ x y, IsTupOf2 h TO x y
  it1 : h.IsTupleIter i1 a i
  it2 : h.IsListIter i2 b i
theorem turnM {P : Program} {w : World} {K : Fg} {elts : List Expr} {kk : Nat} {tpos : Pos} {a b z TI TO i1 i2 : Addr} (S : ZipSep2 z TI TO i1 i2 [i1, a] [i2, b]) (na : a ≠ i1) (nb : b ≠ i2) :
    Turn P w K (.Tuple elts kk tpos) (ItzM K a b) [z, TI, TO, i1, i2] z (ZipSt a b z TI TO i1 i2) where
  mem := List.mem_cons_self
  obj := by
    rintro i h ⟨h1, h2, ⟨x, y, h3⟩, ⟨o1, e1, _, d1⟩, o2, e2, _, d2⟩ c hc
    rcases (show c = z ∨ c = TI ∨ c = TO ∨ c = i1 ∨ c = i2 by simpa using hc) with rfl | rfl | rfl | rfl | rfl
    · exact ⟨_, h1, fun v q => nomatch q⟩
    · exact ⟨_, h2, fun v q => nomatch q⟩
    · exact ⟨_, h3, fun v q => nomatch q⟩
    · exact ⟨o1, e1, fun v q => by rw [d1] at q; cases q⟩
    · exact ⟨o2, e2, fun v q => by rw [d2] at q; cases q⟩
  keep := by
    rintro i h h' ⟨h1, h2, ⟨x, y, h3⟩, h4, h5⟩ k
    exact ⟨k z (by simp) _ h1, k TI (by simp) _ h2, ⟨x, y, k TO (by simp) _ h3⟩, h4.at fun o q => k i1 (by simp) o q, h5.at fun o q => k i2 (by simp) o q⟩
  item := by
    rintro X rfl rfl rfl hc i pins s σ H E I hf ⟨h1, h2, ⟨x0, y0, h3⟩, h4, h5⟩ ⟨xs, ys, x, y, hqx, hqy, hx, hy⟩
    obtain ⟨its, rv, p, _⟩ := I.tuple hqx
    obtain ⟨its2, rv2, p2, _⟩ := I.list hqy
    obtain ⟨u, hu, ru⟩ := rv.get hx
    obtain ⟨u2, hu2, ru2⟩ := rv2.get hy
    have hzl : z < s.heap.objs.size := Heap.lt_size h1
    have live : ∀ c ∈ [z, TI, TO, i1, i2], c < s.heap.objs.size := fun c hcm => by
      rcases (show c = z ∨ c = TI ∨ c = TO ∨ c = i1 ∨ c = i2 by simpa using hcm) with rfl | rfl | rfl | rfl | rfl
      · exact hzl
      · exact Heap.lt_size h2
      · exact Heap.lt_size h3
      · obtain ⟨_, e, _⟩ := h4; exact Heap.lt_size e
      · obtain ⟨_, e, _⟩ := h5; exact Heap.lt_size e
    have l1 : i < its.toArray.size := by simpa using (List.getElem?_eq_some_iff.mp hu).1
    have l2 : i < its2.toArray.size := by simpa using (List.getElem?_eq_some_iff.mp hu2).1
    have D1 := PySem.Draws.tuple (prog := X.prog) (w := X.w) (A := X.A.in1) (I.ok.hd hc) i1 a na its.toArray
    have D2 := PySem.Draws.list (prog := X.prog) (w := X.w) (A := X.A.in1) (I.ok.hd hc) i2 b nb its2.toArray
    refine wpAny_pyNext_zipD2_item S D1 D2 h1 h2 h3 ⟨h4, p⟩ ⟨h5, p2.isList⟩ l1 l2 fun v1 v2 h' tk e1 e2 g1 g2 g3 g4 g5 gz gk => ?_
    obtain rfl : v1 = u := Option.some.inj (e1.symm.trans (by simpa using hu))
    obtain rfl : v2 = u2 := Option.some.inj (e2.symm.trans (by simpa using hu2))
    refine ⟨_, rfl, wpAny_letOwnedTupleGo_zip (s := { s with heap := h', toks := tk }) g1 fun h'' z'' sb => ?_⟩
    have hT2 : h''.get? s.heap.objs.size = some { cls := .type "tuple", data := .seq #[v1, v2] } := (sb.2 _ (Nat.ne_of_gt hzl)).trans g5
    have new : ObjOk X.prog X.w (upd H s.heap.objs.size (.tup [x, y])) h'' s.heap.objs.size (.tup [x, y]) :=
      ⟨le_line (by show 2 ≤ 1000000; decide), [v1, v2], .cons ru (.cons ru2 .nil), ⟨_, hT2, rfl, _, rfl⟩⟩
    have I1 : Inv X pins σ (upd H s.heap.objs.size (.tup [x, y])) { s with heap := h'', toks := tk } :=
      I.turnedNew (ch := [z, TI, TO, i1, i2]) (fun c o hb q => by
        simp only [List.mem_cons, List.not_mem_nil, or_false, not_or] at hb
        exact (sb.2 c hb.1).trans (gk c o hb.1 hb.2.2.1 hb.2.2.2.1 hb.2.2.2.2 q)) hf (Nat.le_refl _) new
    refine ⟨.ref s.heap.objs.size, _, I1, rfl, ⟨_, x, y, rfl, I.hok.fresh (Nat.le_refl _), rfl, fun l hl => by rw [I.tuple_inj hl hqx]; exact hx, fun l hl => by rw [I.list_inj hl hqy]; exact hy⟩, ⟨z'', ?_, ⟨v1, v2, ?_⟩, ?_, ?_⟩, fun c hcm => ?_⟩
    · exact (sb.2 TI S.TIz).trans (gk TI _ S.TIz S.TITO S.TIi1 S.TIi2 h2)
    · exact (sb.2 TO S.TOz).trans g2
    · exact g3.1.at fun o q => (sb.2 i1 (Ne.symm S.zi1)).trans q
    · exact g4.1.at fun o q => (sb.2 i2 (Ne.symm S.zi2)).trans q
    · rw [upd_ne (Nat.ne_of_lt (live c hcm))]
      exact (hf c hcm).1
  done := by
    rintro X rfl rfl rfl hc i pins s σ H E I hf ⟨h1, h2, ⟨x0, y0, h3⟩, h4, h5⟩ ⟨xs, ys, hqx, hqy, b1, b2, hend⟩
    obtain ⟨its, rv, p, _⟩ := I.tuple hqx
    obtain ⟨its2, rv2, p2, _⟩ := I.list hqy
    have l1 := rv.length
    have l2 := rv2.length
    have D1 := PySem.Draws.tuple (prog := X.prog) (w := X.w) (A := X.A.in1) (I.ok.hd hc) i1 a na its.toArray
    have D2 := PySem.Draws.list (prog := X.prog) (w := X.w) (A := X.A.in1) (I.ok.hd hc) i2 b nb its2.toArray
    refine wpAny_pyNext_zipD2_end S D1 D2 h1 h2 h3 ⟨h4, p⟩ ⟨h5, p2.isList⟩ (by rw [List.size_toArray]; omega) (by rw [List.size_toArray]; omega) (by rw [List.size_toArray, List.size_toArray]; omega) fun h' tk gk => ⟨rfl, I.turnedL (t' := tk) (ch := [z, TI, TO, i1, i2]) (fun c o hb q => by
      simp only [List.mem_cons, List.not_mem_nil, or_false, not_or] at hb
      exact gk c o hb.1 hb.2.2.1 hb.2.2.2.1 hb.2.2.2.2 q) hf⟩
  self := fun A i s Q E st h => wpAny_pyIter_zip st.zz h
def iZipM (K : Fg) (ta : TA) : TI := fun σ H R => ta σ H fun vs H1 => ∃ a b xs ys, vs = [.ref a, .ref b] ∧ SqT K H1 a xs ∧ SqL K H1 b ys ∧ R (ItzM K a b) H1
theorem pi_zipM {X : Cx} {e e2 : Expr} {ta : TA} {p pos tpos : Pos} {elts : List Expr} {kk : Nat} (hg : Gl X "zip") (hm : X.mg "zip" = none) (ha : PA X [e, e2] ta)
    (st : starEach [e, e2] X.env = (false, eval e X.env) :: starEach [e2] X.env := by rfl) (pl : (backTo pos (starEach [e2] X.env)).any (·.1) = false := by rfl) :
    PI X (.Tuple elts kk tpos) (.Call (.Name "zip" p) [e, e2] [] pos) (iZipM X.K ta) := by
  refine ⟨fun pins s σ H R I h => Call_ (ld_blt I hg hm PyProof.Rows.boot_zip (PyProof.Rows.callWith_type1 (thn (ha.run pos pins s σ H _ I h) fun us s1 ⟨vs, H1, I1, r1, q1⟩ => ?_) st pl))⟩
  obtain ⟨a, b, xs, ys, rfl, hqx, hqy, q⟩ := q1
  have ev : us = [.ref a, .ref b] := by
    cases r1 with
    | cons r0 t0 => cases t0 with | cons r2 t2 => cases t2; cases r0; cases r2; rfl
  subst ev
  obtain ⟨its, rv, p1, _⟩ := I1.tuple hqx
  obtain ⟨its2, rv2, p2, _⟩ := I1.list hqy
  have la : a < s1.heap.objs.size := by obtain ⟨o, e, _⟩ := p1; exact Heap.lt_size e
  have lb : b < s1.heap.objs.size := p2.lt
  refine zip_begins2 (begins_tuple a its.toArray) (begins_list b its2.toArray) p1 p2.isList fun h' g1 g2 g3 g4 g5 gz gk => wpAny_pyIter_zip g1 ?_
  have I2 : Inv X pins σ H1 { s1 with heap := h' } := I1.kept (t' := s1.toks) gk
  have S : ZipSep2 (s1.heap.objs.size + 4) (s1.heap.objs.size + 2) (s1.heap.objs.size + 3) s1.heap.objs.size (s1.heap.objs.size + 1) [s1.heap.objs.size, a] [s1.heap.objs.size + 1, b] :=
    zip_sep2 (fun c hc => by rw [List.mem_singleton.mp hc]; exact la) (fun c hc => by rw [List.mem_singleton.mp hc]; exact lb)
  have na : a ≠ s1.heap.objs.size := Nat.ne_of_lt la
  have nb : b ≠ s1.heap.objs.size + 1 := Nat.ne_of_lt (Nat.lt_succ_of_lt lb)
  refine ⟨s1.heap.objs.size + 4, [s1.heap.objs.size + 4, s1.heap.objs.size + 2, s1.heap.objs.size + 3, s1.heap.objs.size, s1.heap.objs.size + 1], _, _, H1, rfl, I2, turnM S na nb, ⟨g1, g2, ⟨_, _, g3⟩, ⟨_, g4, rfl, rfl⟩, ⟨_, g5, rfl, rfl⟩⟩, fun c hc => ?_, q⟩
  have hle : s1.heap.objs.size ≤ c := by
    rcases (show c = s1.heap.objs.size + 4 ∨ c = s1.heap.objs.size + 2 ∨ c = s1.heap.objs.size + 3 ∨ c = s1.heap.objs.size ∨ c = s1.heap.objs.size + 1 by simpa using hc) with rfl | rfl | rfl | rfl | rfl <;> omega
  exact I1.fpOk hle (I1.hok.fresh hle)
section
variable {K : Fg}
theorem itr_zipM {I : Hp} {a b : Addr} {vs ws : List V} {ds es : List D} (h : SqT K I a vs) (r : Rps K I vs ds) (h2 : I b = some (.lst ws)) (r2 : Rps K I ws es) : ItR K I (ItzM K a b) (dZip ds es) where
  go := fun i I' H' e1 e2 hi => by
    rw [dZip_len] at hi
    obtain ⟨v, hv, _⟩ := r.got (List.getElem?_eq_getElem (show i < ds.length by omega))
    obtain ⟨w, hw, _⟩ := r2.got (List.getElem?_eq_getElem (show i < es.length by omega))
    exact ⟨vs, ws, v, w, Same.sqt e2 (Same.sqt e1 h), SqL.of (e2 _ _ (e1 _ _ h2)), hv, hw⟩
  stop := fun i I' H' e1 e2 hi => by
    rw [dZip_len] at hi
    exact ⟨vs, ws, Same.sqt e2 (Same.sqt e1 h), SqL.of (e2 _ _ (e1 _ _ h2)), by rw [r.length]; omega, by rw [r2.length]; omega, by rw [r.length, r2.length]; omega⟩
  yld := fun i x I' H' H'' e1 e2 hi y => by
    obtain ⟨T, u, z, rfl, h0, rfl, y1, y2⟩ := y
    obtain ⟨d, hd, q⟩ := r.get (y1 vs (Same.sqt e2 (Same.sqt e1 h)))
    obtain ⟨d2, hd2, q2⟩ := r2.get (y2 ws (SqL.of (e2 _ _ (e1 _ _ h2))))
    have g := Gr.new (m := none) (o := .tup [u, z]) e2 h0
    exact ⟨_, .tuple [d, d2], g, dZip_get hd hd2, .tup (SqT.of upd_same) (.cons (Rp.mono (e1.trans g.ii) _ _ q) (.cons (Rp.mono (e1.trans g.ii) _ _ q2) .nil))⟩
def diZipM (t : T2A) : T2I := fun env Q => t env fun ds => match ds with | [.tuple xs, .list ys] => Q (dZip xs ys) | _ => False
theorem si_zipM {n : Nat} {t : TA} {u : T2A} (h : SA K n t u) : SI K (iZipM K t) (diZipM u) := by
  intro p env σ I H Q2 R rl q k
  refine h p env σ I H _ _ rl q fun ds vs I1 H1 q1 hl s1 h1 => ?_
  split at q1
  · obtain ⟨v, w, rfl, h2, h3⟩ := h1.two
    cases h2 with
    | tup h4 h5 =>
      cases h3 with
      | lst h6 h7 => exact ⟨_, _, _, _, rfl, Same.sqt s1.ih h4, SqL.of (s1.ih _ _ h6), k _ _ _ _ q1 s1 (itr_zipM h4 h5 h6 h7)⟩
  · exact q1.elim
end
end Z2
namespace Z2
open PySem PySem.Spec PyProof.Rows L2
/-! ### xs[i], xs[j] = x, y -/
def dSwap (i : Nat) (t u w : T2E) : T2S := fun E env => t env fun d => match d with
  | .tuple [x, y] => (match env[i]? with
    | some (some (.own ds)) => u env fun k => (match k with
      | .int j => (match ixN ds.length j with
        | some n => w (env.set i (some (.own (ds.set n x)))) fun k2 => (match k2 with
          | .int j2 => (match ixN (ds.set n x).length j2 with
            | some n2 => E.nx ((env.set i (some (.own (ds.set n x)))).set i (some (.own ((ds.set n x).set n2 y))))
            | none => False)
          | _ => False)
        | none => False)
      | _ => False)
    | _ => False)
  | _ => False
theorem ss_swap {K : Fg} {te tu tw : TE} {t u w : T2E} (i : Nat) (h : SE K te t) (h2 : SE K tu u) (h3 : SE K tw w) :
    SS K (tAsg te (gSq K 2 (gCons (gSub (tVar i) tu rSetL) (gCons (gSub (tVar i) tw rSetL) gNil)))) (dSwap i t u w) := by
  intro p env σ I H D2 E r q e
  refine h p env σ I H _ _ r q fun d v I1 H1 q1 s1 r1 => ?_
  split at q1
  · rename_i x y
    cases r1 with
    | tup t1 t2 =>
      cases t2 with
      | cons a1 t2 =>
        cases t2 with
        | cons a2 t2 =>
          cases t2
          refine .inl ⟨_, _, rfl, Same.sqt (r.stp s1).same t1, rfl, ?_⟩
          split at q1
          · rename_i ds e2
            obtain ⟨w0, hw, a, vs, rfl, _, _, e4, e5⟩ := r.r.sl i _ e2
            refine ⟨_, _, rfl, _, hw, h2 p env σ I1 H1 _ _ (r.stp s1) q1 fun k uu I2 H2 q2 s2 rk => ?_⟩
            have r' := (r.stp s1).stp s2
            obtain ⟨v', hv', a', ws, rfl, _, _, f4, f5⟩ := r'.r.sl i _ e2
            rw [hw] at hv'
            cases hv'
            split at q2
            · split at q2
              · rename_i j _ n e3
                cases rk
                refine ⟨a, ws, _, n, rfl, rfl, f4, by rw [f5.length]; exact e3, ?_⟩
                have r2 := r'.mutOwn e2 hw (Rps.set (Rp.mono s2.ii _ _ a1) n f5)
                have il : i < env.length := (List.getElem?_eq_some_iff.mp e2).1
                have e2' : (env.set i (some (.own (ds.set n x))))[i]? = some (some (.own (ds.set n x))) := List.getElem?_set_self il
                refine ⟨_, _, rfl, _, hw, h3 p _ σ I2 _ _ _ r2 q2 fun k2 u2 I3 H3 q3 s3 rk2 => ?_⟩
                have r3 := r2.stp s3
                obtain ⟨v3, hv3, a3, ws3, rfl, _, _, g4, g5⟩ := r3.r.sl i _ e2'
                rw [hw] at hv3
                cases hv3
                split at q3
                · split at q3
                  · rename_i j2 _ n2 e6
                    cases rk2
                    refine ⟨a, ws3, _, n2, rfl, rfl, g4, by rw [g5.length]; exact e6, ?_⟩
                    exact ⟨rfl, e.nx _ _ _ _ q3 (r3.mutOwn e2' hw (Rps.set (Rp.mono (s2.ii.trans s3.ii) _ _ a2) n2 g5))⟩
                  · exact q3.elim
                · exact q3.elim
              · exact q2.elim
            · exact q2.elim
          · exact q1.elim
  · exact q1.elim
end Z2
namespace Z2
open PySem PySem.Spec PyProof.Rows L2
/-! ### sorted of ints, however many -/
def dSortI : List D → (List D → Prop) → Prop := fun ds Q => match ds with
  | [.list xs] => (match allInt xs with | some ns => ∀ ns' : List Int, ns'.Perm ns → ns'.Pairwise (· ≤ ·) → Q (ns'.map PyData.int) | none => False) | _ => False
theorem sc_sortI {K : Fg} : SimCO K (rSortedI K) dSortI := by
  intro I H vs ds Q2 Q e h q k
  unfold dSortI at q
  split at q
  · split at q
    · rename_i xs bs e2
      obtain ⟨v, rfl, h1⟩ := h.one
      cases h1 with
      | lst h3 h4 =>
        rename_i a ws
        obtain rfl := allInt_of e2
        obtain rfl := h4.ints
        exact ⟨a, bs, rfl, SqL.of (e _ _ h3), fun ns' l hp hw h0 => k _ l _ (q ns' hp hw) h0 (Rps.ofInts _)⟩
    · exact q.elim
  · exact q.elim
theorem dSortI_ints {ns : List Int} {Q : List D → Prop} (q : ∀ ns' : List Int, ns'.Perm ns → ns'.Pairwise (· ≤ ·) → Q (ns'.map PyData.int)) : dSortI [.list (ns.map PyData.int)] Q := by
  have e : allInt (ns.map PyData.int) = some ns := by
    have := allInt_map (fun x : Int => x) ns
    rw [List.map_id'] at this
    exact this
  unfold dSortI
  dsimp only
  rw [e]
  exact q
end Z2
namespace Z2
open PySem PySem.Spec PyProof.Rows L2
/-! ### a comprehension with two fors -/
/-- what a name owns behind a target it owned ahead of it, or it is data -/
def Sub2 (e env : Ev) : Prop := ∀ (j : Nat) (x : Sl), e[j]? = some (some x) → (∃ d, x = .dat d) ∨ env[j]? = some (some x)
theorem Sub2.refl (e : Ev) : Sub2 e e := fun _ _ h => .inr h
theorem Sub2.trans {a b c : Ev} (h : Sub2 a b) (k : Sub2 b c) : Sub2 a c := fun j x e => (h j x e).elim .inl (k j x)
def GP (g : T2G) : Prop := ∀ (d : D) (env : Ev) (Q : Ev → Prop), g d env Q → g d env fun e => Q e ∧ Sub2 e env
def GPs (g : T2Gs) : Prop := ∀ (ds : List D) (env : Ev) (Q : Ev → Prop), g ds env Q → g ds env fun e => Q e ∧ Sub2 e env
theorem gp_name (i : Nat) : GP (gN i) := fun d env Q q => ⟨q, fun j x e => by
  rcases getSet e with ⟨_, z, _⟩ | ⟨_, z⟩
  · cases z
    exact .inl ⟨_, rfl⟩
  · exact .inr z⟩
theorem gps_nil : GPs gsNil := fun ds env Q q => by
  unfold gsNil at q ⊢
  cases ds with
  | nil => exact ⟨q, .refl _⟩
  | cons _ _ => exact q.elim
theorem gps_mono_at {g : T2Gs} (h : GPs g) {ds : List D} {env : Ev} {Q : Ev → Prop} (q : g ds env Q) : g ds env fun e => Q e ∧ Sub2 e env := h ds env Q q
theorem gps_cons {g : T2G} {gs : T2Gs} (h : GP g) (hm : ∀ (d : D) (env : Ev) (Q Q' : Ev → Prop), (∀ e, Q e → Q' e) → g d env Q → g d env Q') (hs : GPs gs)
    (hsm : ∀ (ds : List D) (env : Ev) (Q Q' : Ev → Prop), (∀ e, Q e → Q' e) → gs ds env Q → gs ds env Q') : GPs (gsCons g gs) := fun ds env Q q => by
  unfold gsCons at q ⊢
  cases ds with
  | nil => exact q.elim
  | cons d es =>
    refine hm d env _ _ (fun e z => ?_) (h d env _ q)
    exact hsm es e _ _ (fun e' z' => ⟨z'.1, z'.2.trans z.2⟩) (hs es e Q z.1)
def GM (g : T2G) : Prop := ∀ (d : D) (env : Ev) (Q Q' : Ev → Prop), (∀ e, Q e → Q' e) → g d env Q → g d env Q'
def GMs (g : T2Gs) : Prop := ∀ (ds : List D) (env : Ev) (Q Q' : Ev → Prop), (∀ e, Q e → Q' e) → g ds env Q → g ds env Q'
theorem gm_name (i : Nat) : GM (gN i) := fun _ _ _ _ k q => k _ q
theorem gms_nil : GMs gsNil := fun ds env Q Q' k q => by
  unfold gsNil at q ⊢
  cases ds with
  | nil => exact k _ q
  | cons _ _ => exact q
theorem gms_cons {g : T2G} {gs : T2Gs} (h : GM g) (hs : GMs gs) : GMs (gsCons g gs) := fun ds env Q Q' k q => by
  unfold gsCons at q ⊢
  cases ds with
  | nil => exact q
  | cons d es => exact h d env _ _ (fun e z => hs es e _ _ k z) q
theorem gm_tup {n : Nat} {gs : T2Gs} (hs : GMs gs) : GM (gT n gs) := fun d env Q Q' k q => by
  unfold gT at q ⊢
  cases d <;> first | exact q | exact ⟨q.1, hs _ _ _ _ k q.2⟩
theorem gp_tup {n : Nat} {gs : T2Gs} (hs : GPs gs) : GP (gT n gs) := fun d env Q q => by
  unfold gT at q ⊢
  cases d <;> first | exact q | exact ⟨q.1, hs _ _ _ q.2⟩
/-- a target that sets names to data alone -/
structure GD (g : T2G) : Prop where
  p : GP g
  m : GM g
structure GDs (g : T2Gs) : Prop where
  p : GPs g
  m : GMs g
theorem gd_name (i : Nat) : GD (gN i) := ⟨gp_name i, gm_name i⟩
theorem gds_nil : GDs gsNil := ⟨gps_nil, gms_nil⟩
theorem gds_cons {g : T2G} {gs : T2Gs} (h : GD g) (hs : GDs gs) : GDs (gsCons g gs) := ⟨gps_cons h.p h.m hs.p hs.m, gms_cons h.m hs.m⟩
theorem gd_tup {n : Nat} {gs : T2Gs} (hs : GDs gs) : GD (gT n gs) := ⟨gp_tup hs.p, gm_tup hs.m⟩
def lcD2 (g : T2G) (tt : T2T) (ti1 : T2I) (g1 : T2G) (tt1 : T2T) (te : T2E) (vs1 : List Nat) (env : Ev) : List D → (List D → Prop) → Prop
  | [], Q => Q []
  | d :: ds, Q => g d env fun env1 => tt env1 fun b => if b = true then ti1 env1 fun es => es.length ≤ 1000 ∧ lcD g1 tt1 te (wipeE env1 vs1) es fun ys => lcD2 g tt ti1 g1 tt1 te vs1 env ds fun zs => Q (ys ++ zs) else lcD2 g tt ti1 g1 tt1 te vs1 env ds Q
def dLc2 (ti : T2I) (g : T2G) (tt : T2T) (ti1 : T2I) (g1 : T2G) (tt1 : T2T) (te : T2E) (vs vs1 : List Nat) : T2A := fun env Q => ti env fun ds => ds.length ≤ 1000 ∧ lcD2 g tt ti1 g1 tt1 te vs1 (wipeE env vs) ds Q
theorem wipeE_mem {env : Ev} {j : Nat} {x : Sl} : ∀ {vs : List Nat}, (wipeE env vs)[j]? = some (some x) → j ∉ vs ∧ env[j]? = some (some x)
  | [], h => ⟨List.not_mem_nil, h⟩
  | v :: vs, h => by
    unfold wipeE at h
    rcases getSet h with ⟨_, z, _⟩ | ⟨n, z⟩
    · cases z
    · obtain ⟨h1, h2⟩ := wipeE_mem z
      exact ⟨fun m => by
        rcases List.mem_cons.mp m with rfl | m
        · exact n rfl
        · exact h1 m, h2⟩
theorem wipe_at {σ1 σ : L2.St} {vs : List Nat} (w : L2.wipe σ1 vs = L2.wipe σ vs) {j : Nat} (h : j ∉ vs) : σ1[j]? = σ[j]? := by
  rw [← wipe_out h, ← wipe_out (σ := σ) h, w]
section
variable {K : Fg}
theorem so_lc2 {wi wi1 : TI} {g g1 : TG} {tt tt1 : TT} {te : TE} {ti ti1 : T2I} {g2 g3 : T2G} {tt2 tt3 : T2T} {te2 : T2E} {vs vs1 : List Nat} (hi : SI K wi ti) (hg : SG K vs g g2) (hd : GD g2) (ht : ST K tt tt2) (hi1 : SI K wi1 ti1) (hg1 : SG K vs1 g1 g3) (ht1 : ST K tt1 tt3) (he : SE K te te2) :
    SO K (tLc2 wi g tt wi1 g1 tt1 te vs vs1) (dLc2 ti g2 tt2 ti1 g3 tt3 te2 vs vs1) := by
  intro p env σ I H Q2 Q rl q k
  refine hi p env σ I H _ _ rl q fun ds J I1 H1 ⟨hlen, q1⟩ s1 it => ?_
  intro D hD
  have rl1 := rl.stp s1
  have hD0 : p.H0 D = none := by
    cases e : p.H0 D with
    | none => rfl
    | some o => exact absurd hD (rl1.r.gr.th D (by rw [e]; exact fun z => nomatch z))
  have hDI : I1 D = none := Same.free s1.ih hD
  have hDH : H D = none := by
    cases e : H D with
    | none => rfl
    | some o => exact absurd hD (s1.gr.th D (by rw [e]; exact fun z => nomatch z))
  have hm : p.m ≠ some D := fun e => (rl1.r.st D e).1 hD0
  have hown : ∀ (j : Nat) (x : List PyData), env[j]? = some (some (Sl.own x)) → σ[j]? ≠ some (some (V.ref D)) := fun j x e z => by
    obtain ⟨v, hv, a, ws, rfl, _, _, e4, _⟩ := rl1.r.sl j _ e
    rw [hv] at z
    cases z
    rw [hD] at e4; cases e4
  -- the list at D grows beside the names
  have put : ∀ {I' H' : Hp} {acc : List V} (v : V), Stp p I1 H1 I' H' → I' D = none → H' D = some (.lst acc) → Stp p I1 H1 I' (upd H' D (.lst (acc ++ [v]))) := fun {I' H' acc} v st d8 d9 =>
    ⟨⟨st.ii, fun b o z => by rw [upd_ne (ne_of_none z d8)]; exact st.ih b o z, fun b o z n => by
        have hb : b ≠ D := fun w => by rw [w, hD] at z; cases z
        rw [upd_ne hb]; exact st.gr.hh b o z n, st.gr.fr, fun b z => by
        have hb : b ≠ D := fun w => z (by rw [w]; exact hD)
        rw [upd_ne hb]; exact st.gr.th b z⟩, fun s e1 e2 => by
      obtain ⟨f0, l, c, n, ns, f1, f2, f3⟩ := st.st s e1 e2
      have hs : s ≠ D := fun w => hm (by rw [e1, w])
      exact ⟨f0, l, c, n, ns, by rw [upd_ne hs]; exact f1, f2, f3⟩⟩
  refine ⟨fun i m H' => m = ds.length - i ∧ i ≤ ds.length ∧ ∃ I' acc ys, RelL K p env σ I' H' ∧ Stp p I1 H1 I' H' ∧ I' D = none ∧ H' D = some (.lst acc) ∧ Rps K I' acc ys ∧ acc.length ≤ i * 1000 ∧ lcD2 g2 tt2 ti1 g3 tt3 te2 vs1 (wipeE env vs) (ds.drop i) fun zs => Q2 (ys ++ zs),
    ⟨ds.length, by simp, Nat.zero_le _, I1, [], [], rl1.beside hD0 hDI (fun _ _ z => by rw [hD] at z; cases z) (fun _ z => by rw [hD] at z; cases z) (rl1.freshCell (.refl rl1.same) hD) hown, Stp.fresh s1.ih hD, hDI, upd_same, .nil, Nat.zero_le _, q1⟩, ?_⟩
  rintro i m H' ⟨rfl, hi', I', acc, ys, r', st', hDI', hDH', rp, hacc, q'⟩
  by_cases hlt : i < ds.length
  · refine .inr ⟨it.go i I' H' st'.ii st'.ih hlt, fun H'' => ∃ I'' acc ys, RelL K p env σ I'' H'' ∧ Stp p I1 H1 I'' H'' ∧ I'' D = none ∧ H'' D = some (.lst acc) ∧ Rps K I'' acc ys ∧ acc.length ≤ (i + 1) * 1000 ∧ lcD2 g2 tt2 ti1 g3 tt3 te2 vs1 (wipeE env vs) (ds.drop (i + 1)) fun zs => Q2 (ys ++ zs),
      fun H'' z => ⟨ds.length - (i + 1), by omega, rfl, by omega, z⟩, fun x H2 y => ?_⟩
    obtain ⟨I2, d, gr1, hd2, rd⟩ := it.yld i x I' H' H2 st'.ii st'.ih hlt y
    have hdrop : ds.drop i = d :: ds.drop (i + 1) := by
      have hdd : ds[i] = d := Option.some.inj ((List.getElem?_eq_getElem hlt).symm.trans hd2)
      rw [List.drop_eq_getElem_cons hlt, hdd]
    rw [hdrop] at q'
    have st2 := st'.trans (Stp.of (p := p) gr1)
    have r2 := r'.grow' gr1
    have q2 := hd.p d (wipeE env vs) _ q'
    have keepD : ∀ {acc : List V} {I3 H3 I4 H4}, Stp p I3 H3 I4 H4 → I3 D = none → H3 D = some (.lst acc) → I4 D = none ∧ H4 D = some (.lst acc) := fun s a b =>
      ⟨s.gr.fr D a (by rw [b]; exact fun z => nomatch z), s.gr.hh D _ b hm⟩
    obtain ⟨d2, d3⟩ := keepD (Stp.of (p := p) gr1) hDI' hDH'
    refine hg p (wipeE env vs) (L2.wipe σ vs) I2 H2 x d _ _ (r2.wipe vs) rd q2 fun env1 σ1 I3 H3 ⟨q3, sub3⟩ r3 s3 w3 => ⟨by rw [w3]; exact wipe_wipe σ vs, ?_⟩
    obtain ⟨d4, d5⟩ := keepD s3 d2 d3
    refine ht p env1 σ1 I3 H3 _ _ r3 q3 fun b I4 H4 q4 s4 => ?_
    obtain ⟨d6, d7⟩ := keepD s4 d4 d5
    have s34 := s3.trans s4
    cases b with
    | false =>
      rw [if_neg Bool.false_ne_true] at q4 ⊢
      exact ⟨I4, acc, ys, r2.stp s34, st2.trans s34, d6, d7, Rps.mono (gr1.ii.trans s34.ii) _ _ rp, by omega, q4⟩
    | true =>
      rw [if_pos rfl] at q4 ⊢
      have r4 := r3.stp s4
      refine hi1 p env1 σ1 I4 H4 _ _ r4 q4 fun es J1 I5 H5 ⟨hl5, q5⟩ s5 it1 => ?_
      obtain ⟨d8, d9⟩ := keepD s5 d6 d7
      have s35 := s34.trans s5
      have st5 := st2.trans s35
      have rE := r2.stp s35
      have r5 := r4.stp s5
      -- what env1 owns is what env owns
      have at1 : ∀ (j : Nat) (x : Sl), env1[j]? = some (some x) → (∃ d, x = .dat d) ∨ (env[j]? = some (some x) ∧ σ1[j]? = σ[j]?) := fun j x e => by
        rcases sub3 j x e with h | h
        · exact .inl h
        · obtain ⟨h1, h2⟩ := wipeE_mem h
          refine .inr ⟨h2, ?_⟩
          rw [wipe_at w3 h1, wipe_out h1]
      have own1 : ∀ (j : Nat) (x : List PyData), env1[j]? = some (some (Sl.own x)) → σ1[j]? ≠ some (some (V.ref D)) := fun j x e z => by
        rcases at1 j _ e with ⟨d, h⟩ | ⟨h1, h2⟩
        · cases h
        · exact hown j x h1 (by rw [← h2]; exact z)
      have cell1 : ∀ {I6 H6}, Stp p I1 H1 I6 H6 → ∀ (j : Nat) (x : Sl) (v : V), env1[j]? = some (some x) → isMat x = true → σ1[j]? = some (some v) → ¬ Cell x v H6 D := fun st6 j x v e m sv => by
        rcases at1 j _ e with ⟨d, h⟩ | ⟨h1, h2⟩
        · subst h
          cases m
        · exact rl1.freshCell st6 hD j x v h1 m (by rw [← h2]; exact sv)
      refine ⟨fun j m H'' => m = es.length - j ∧ j ≤ es.length ∧ ∃ I'' acc us, RelL K p env σ I'' H'' ∧ RelL K p env1 σ1 I'' H'' ∧ Same I5 I'' ∧ Stp p I1 H1 I'' H'' ∧ I'' D = none ∧ H'' D = some (.lst acc) ∧ Rps K I'' acc us ∧ acc.length ≤ i * 1000 + j ∧ lcD g3 tt3 te2 (wipeE env1 vs1) (es.drop j) fun zs => lcD2 g2 tt2 ti1 g3 tt3 te2 vs1 (wipeE env vs) (ds.drop (i + 1)) fun ws => Q2 (us ++ (zs ++ ws)),
        ⟨es.length, by simp, Nat.zero_le _, I5, acc, ys, rE, r5, Same.refl _, st5, d8, d9, Rps.mono (gr1.ii.trans s35.ii) _ _ rp, by omega, q5⟩, ?_⟩
      rintro j m H6 ⟨rfl, hj, I6, acc6, us, rE6, r6, ss6, st6, e6, f6, rp6, hacc6, q6⟩
      by_cases hjl : j < es.length
      · refine .inr ⟨it1.go j I6 H6 ss6 st6.ih hjl, fun H'' => ∃ I'' acc us, RelL K p env σ I'' H'' ∧ RelL K p env1 σ1 I'' H'' ∧ Same I5 I'' ∧ Stp p I1 H1 I'' H'' ∧ I'' D = none ∧ H'' D = some (.lst acc) ∧ Rps K I'' acc us ∧ acc.length ≤ i * 1000 + (j + 1) ∧ lcD g3 tt3 te2 (wipeE env1 vs1) (es.drop (j + 1)) fun zs => lcD2 g2 tt2 ti1 g3 tt3 te2 vs1 (wipeE env vs) (ds.drop (i + 1)) fun ws => Q2 (us ++ (zs ++ ws)),
          fun H'' z => ⟨es.length - (j + 1), by omega, rfl, by omega, z⟩, fun x7 H7 y7 => ?_⟩
        obtain ⟨I7, e7, gr7, he7, rd7⟩ := it1.yld j x7 I6 H6 H7 ss6 st6.ih hjl y7
        have hdrop1 : es.drop j = e7 :: es.drop (j + 1) := by
          have hdd : es[j] = e7 := Option.some.inj ((List.getElem?_eq_getElem hjl).symm.trans he7)
          rw [List.drop_eq_getElem_cons hjl, hdd]
        rw [hdrop1] at q6
        have st7 := st6.trans (Stp.of (p := p) gr7)
        have r7 := r6.grow' gr7
        have rE7 := rE6.grow' gr7
        obtain ⟨a7, b7⟩ := keepD (Stp.of (p := p) gr7) e6 f6
        refine hg1 p (wipeE env1 vs1) (L2.wipe σ1 vs1) I7 H7 x7 e7 _ _ (r7.wipe vs1) rd7 q6 fun env8 σ8 I8 H8 q8 r8 s8 w8 => ⟨by rw [w8]; exact wipe_wipe σ1 vs1, ?_⟩
        obtain ⟨a8, b8⟩ := keepD s8 a7 b7
        refine ht1 p env8 σ8 I8 H8 _ _ r8 q8 fun b I9 H9 q9 s9 => ?_
        obtain ⟨a9, b9⟩ := keepD s9 a8 b8
        have s89 := s8.trans s9
        cases b with
        | false =>
          rw [if_neg Bool.false_ne_true] at q9 ⊢
          exact ⟨I9, acc6, us, rE7.stp s89, r7.stp s89, (ss6.trans gr7.ii).trans s89.ii, st7.trans s89, a9, b9, Rps.mono (gr7.ii.trans s89.ii) _ _ rp6, by omega, q9⟩
        | true =>
          rw [if_pos rfl] at q9 ⊢
          refine he p env8 σ8 I9 H9 _ _ (r8.stp s9) q9 fun e10 v10 I10 H10 q10 s10 r10 => ?_
          obtain ⟨a10, b10⟩ := keepD s10 a9 b9
          have sA := s89.trans s10
          have stA := st7.trans sA
          refine ⟨acc6, b10, Nat.lt_of_le_of_lt hacc6 (Nat.lt_of_lt_of_le (m := 1000000) (by omega) (le_line (Nat.le_refl _))), I10, acc6 ++ [v10], us ++ [e10],
            (rE7.stp sA).beside hD0 a10 (fun _ _ z => by rw [b10] at z; exact nomatch z) (fun _ z => by rw [b10] at z; exact nomatch z) (rl1.freshCell stA hD) hown,
            (r7.stp sA).beside hD0 a10 (fun _ _ z => by rw [b10] at z; exact nomatch z) (fun _ z => by rw [b10] at z; exact nomatch z) (cell1 stA) own1,
            (ss6.trans gr7.ii).trans sA.ii, put v10 stA a10 b10, a10, upd_same, Rps.append (Rps.mono (gr7.ii.trans sA.ii) _ _ rp6) (.cons r10 .nil), by rw [List.length_append, List.length_singleton]; omega, ?_⟩
          have ee : ∀ zs ws : List PyData, (us ++ [e10]) ++ (zs ++ ws) = us ++ ((e10 :: zs) ++ ws) := fun zs ws => by simp
          simp only [ee]
          exact q10
      · have hj2 : j = es.length := by omega
        subst hj2
        rw [List.drop_length] at q6
        exact .inl ⟨it1.stop _ I6 H6 ss6 st6.ih rfl, I6, acc6, us, rE6, st6, e6, f6, rp6, by omega, q6⟩
  · have hi2 : i = ds.length := by omega
    subst hi2
    rw [List.drop_length] at q'
    have q' : Q2 (ys ++ []) := q'
    rw [List.append_nil] at q'
    exact .inl ⟨it.stop _ I' H' st'.ii st'.ih rfl, k ys D acc I' H' q' (s1.trans st') hDH hDI' hDH' rp⟩
end
end Z2
namespace Z2
open PySem PySem.Spec PyProof.Rows L2
/-! ### a range kept in a name; tuple(range(..)) -/
theorem cr_rng1 {X : Cx} : CallR X (.type "range") (fun vs H Q => ∃ j, vs = [V.int j] ∧ ∀ p, H p = none → Q (.ref p) (upd H p (.rng 0 j))) := by
  intro pins s σ H vs us Q I r h
  obtain ⟨j, rfl, q⟩ := h
  obtain ⟨u1, rfl, ri⟩ := r.one
  obtain ⟨t, rfl⟩ := ri
  refine call_range_1 ⟨.ref s.heap.objs.size, upd H s.heap.objs.size (.rng 0 j), I.laid (t' := s.toks + 1 + 1) (fun b o e => Heap.get?_push_of_some _ e) (Nat.le_refl _) ?_, rfl, q _ (I.hok.fresh (Nat.le_refl _))⟩
  exact ⟨_, _, _, Heap.get?_push_size _ rfl⟩
/-- what is walked: a range that a name holds -/
def iRgV (ta : TE) : TI := fun σ H R => ta σ H fun x H1 => ∃ (a : Addr) (n : Int), x = .ref a ∧ H1 a = some (.rng 0 n) ∧ -(2 ^ 62) ≤ n ∧ n < 2 ^ 62 ∧ R (Itr 0 n.toNat) H1
theorem pi_rgV {X : Cx} {tg e : Expr} {ta : TE} (he : PE X e ta) : PI X tg e (iRgV ta) := by
  refine ⟨fun pins s σ H R I h => ?_⟩
  refine thn (he.run pins s σ H _ I h) fun v s1 ⟨x, H1, I1, r1, q1⟩ => ?_
  obtain ⟨a, n, rfl, ha, n1, n2, q⟩ := q1
  cases r1
  obtain ⟨t, u, w, g⟩ := I1.hok a _ ha
  have n1' : -(2 ^ 62) ≤ (0 : Int) := by decide
  have n2' : (0 : Int) < 2 ^ 62 := by decide
  refine wpAny_pyIter_range (show IsRange s1.heap a 0 n 1 t u w from g) (small_one n1' n2' n1 n2) ?_
  refine pi_one (tk := s1.toks) I1 _ (turn_range _ 0 n.toNat) ?_ q
  have e1 : (0 : Int) + ((0 : Nat) : Int) * 1 = 0 := by simp
  have e2 : ((n.toNat : Nat) : Int) - ((0 : Nat) : Int) = Builtin.Range.rangeSize 0 n 1 := by rw [rangeSize_one]; split <;> omega
  show IsRangeIter _ _ ((0 : Int) + ((0 : Nat) : Int) * 1) (((n.toNat : Nat) : Int) - ((0 : Nat) : Int)) 1
  rw [e1, e2]
  exact Heap.get?_push_size _ rfl
section
variable {K : Fg}
/-- x = range(e) -/
def dRngS (i : Nat) (t : T2A) : T2S := fun E env => t env fun ds => match ds with | [.int j] => E.nx (env.set i (some (.rng j))) | _ => False
theorem RelL.setRng {p : P0} {env : Ev} {σ : L2.St} {I H : Hp} (r : RelL K p env σ I H) {a : Addr} {n : Int} (h : I a = some (.rng 0 n)) (i : Nat) : RelL K p (env.set i (some (.rng n))) (σ.set i (some (.ref a))) I H := by
  refine ⟨⟨r.r.gr, fun j x e => ?_, fun j k x y b n e1 e2 e3 e4 => ?_, r.r.st, r.r.bs, r.r.sd.set _ _ _ (fun _ _ z => nomatch z), r.r.sm.set _ _ _ (fun _ z _ _ c => by cases z; exact c)⟩, by rw [List.length_set, List.length_set]; exact r.len⟩
  · rcases getSet e with ⟨rfl, q, hl⟩ | ⟨n, q⟩
    · cases q
      exact ⟨_, List.getElem?_set_self (by rw [← r.len]; exact hl), a, rfl, h⟩
    · obtain ⟨u, hu, q⟩ := r.r.sl j x q
      exact ⟨u, by rw [List.getElem?_set_ne n]; exact hu, q⟩
  · rcases getSet e1 with ⟨_, q, _⟩ | ⟨n1, q1⟩
    · cases q
    · rcases getSet e2 with ⟨_, q, _⟩ | ⟨n2, q2⟩
      · cases q
      · rw [List.getElem?_set_ne n1] at e3
        rw [List.getElem?_set_ne n2] at e4
        exact r.r.sep j k x y b n q1 q2 e3 e4
theorem ss_rng {n i : Nat} {t : TA} {u : T2A} (h : SA K n t u) : SS K (tAsg (tCB (fun vs H Q => ∃ j, vs = [V.int j] ∧ ∀ p, H p = none → Q (.ref p) (upd H p (.rng 0 j))) t) (gName i)) (dRngS i u) := by
  intro p env σ I H D2 E rl q er
  refine h p env σ I H _ _ rl q fun ds vs I1 H1 q1 hl s1 h1 => ?_
  split at q1
  · rename_i j
    obtain ⟨v, rfl, h2⟩ := h1.one
    cases h2
    refine ⟨j, rfl, fun a h0 => ?_⟩
    have g := Gr.new (m := none) (o := .rng 0 j) s1.ih h0
    have r2 := (rl.stp s1).stp (Stp.of g)
    exact er.nx _ _ _ _ q1 (r2.setRng upd_same i)
  · exact q1.elim
def diRgV (i : Nat) : T2I := fun env Q => match env[i]? with | some (some (.rng n)) => -1000000 ≤ n ∧ n ≤ 1000000 ∧ Q (dRange 0 n.toNat) | _ => False
theorem si_rgV (i : Nat) : SI K (iRgV (tVar i)) (diRgV i) := by
  intro p env σ I H Q2 R rl q k
  unfold diRgV at q
  split at q
  · rename_i n e
    obtain ⟨v, hv, a, rfl, ha⟩ := rl.r.sl i _ e
    exact ⟨_, hv, a, n, rfl, rl.same _ _ ha, by omega, by omega, k _ _ I H q.2.2 (.refl rl.same) (itr_range _ _)⟩
  · exact q.elim
/-- tuple(range(e)) -/
def dTupRg (a : T2E) : T2E := fun env Q => a env fun d => match d with | .int n => -1000000 ≤ n ∧ n ≤ 1000000 ∧ Q (.tuple (dRange 0 n.toNat)) | _ => False
theorem se_tupRg {ta : TE} {a : T2E} (ha : SE K ta a) : SE K (tTupRg (tRg1 ta)) (dTupRg a) := by
  intro p env σ I H Q2 Q rl q k
  refine ha p env σ I H _ _ rl q fun d v I1 H1 q1 s1 h1 => ?_
  cases d <;> first | exact q1.elim | skip
  rename_i n
  cases h1
  obtain ⟨n1, n2, q1⟩ := q1
  refine ⟨n, rfl, ⟨by omega, by omega, by omega, by omega, by omega⟩, fun l h0 => ?_⟩
  have g := Gr.new (m := none) (o := .tup (rgV 0 n)) s1.ih h0
  have e : (n - 0).toNat = n.toNat := by rw [Int.sub_zero]
  refine k _ _ _ _ q1 (s1.trans (.of g)) (.tup (SqT.of upd_same) ?_)
  have := rg_rps2 (K := K) (I := upd I1 l (.tup (rgV 0 n))) 0 n
  rwa [e] at this
end
end Z2
namespace Z2
open PySem PySem.Spec PyProof.Rows L2
/-! ### sorted of data of any depth -/
section
variable {X : Cx}
def rSortD (K : Fg) : List V → Hp → VK → Prop := fun vs H Q => ∃ (a : Addr) (ws : List V) (ds : List D), vs = [V.ref a] ∧ SqL K H a ws ∧ DpAll K H ws ds ∧ PySem.W.AllAlike ds ∧ PySem.W.Sortable ds ∧ (∀ d ∈ ds, d.depth ≤ 60) ∧ ws.length = ds.length ∧
  ∀ (m : List (V × D)) (p : Addr), m.Perm (ws.zip ds) → m.Pairwise (fun x y => ltK (PySem.W.keyToks y.2) (PySem.W.keyToks x.2) = false) → H p = none → Q (.ref p) (upd H p (.lst (m.map (·.1))))
theorem each_zip {H : Hp} : ∀ {ws : List V} {its : List Value} {ds : List D}, Vals ws its → ws.length = ds.length → PySem.W.EachIs (fun (u : Value) (p : V × D) => RelV p.1 u) its (ws.zip ds)
  | [], [], [], .nil, _ => .nil
  | [], [], _ :: _, .nil, h => by simp at h
  | _ :: _, _ :: _, [], .cons _ _, h => by simp at h
  | _ :: _, _ :: _, _ :: _, .cons r t, h => .cons r (each_zip (H := H) t (by simpa using h))
theorem each_vals : ∀ {us : List Value} {m : List (V × D)}, PySem.W.EachIs (fun (u : Value) (p : V × D) => RelV p.1 u) us m → Vals (m.map (·.1)) us
  | _, _, .nil => .nil
  | _, _, .cons r t => .cons r (each_vals t)
theorem cr_sortedD (hu : X.A.units + 65 < cLine) : CallR X (.builtin "sorted") (rSortD X.K) := by
  rintro pins s σ H vs us Q I r ⟨a, ws, ds, rfl, hs, hdp, hal, hso, hdep, hlen, q⟩
  have rf : us = [Value.ref a] := by cases r with | cons r0 t0 => cases t0; cases r0; rfl
  subst rf
  obtain ⟨its, rv, pl, hz⟩ := I.list hs
  obtain ⟨as, ra⟩ := Dp.readsAll I ds ws its hdp rv
  have e2 : (ws.zip ds).map (fun p : V × D => p.2) = ds := List.map_snd_zip (by rw [hlen]; exact Nat.le_refl _)
  have ra2 : ReadsAll s.heap its ((ws.zip ds).map fun p : V × D => p.2) as := by rw [e2]; exact ra
  refine PySem.W.sorted_data (bs := ws.zip ds) (enc := fun p => p.2) (R := fun u p => RelV p.1 u) (by simpa using pl.isList) (each_zip (H := H) rv hlen) (PySem.W.readsAll_each (fun p : V × D => p.2) ra2) (by rw [e2]; exact hal) (by rw [e2]; exact hso) ?_ (fun b hb => ?_) fun out ho he => ?_
  · show (ws.zip ds).length ≤ sizeLine
    rw [List.length_zip, hlen, Nat.min_self, ← hlen]
    exact hz
  · have hm : b.2 ∈ ds := (List.of_mem_zip hb).2
    have hd := hdep _ hm
    show X.A.units + 2 + b.2.depth < cLine
    omega
  · have nB : s.heap.get? (s.heap.objs.size + 1) = none := by
      cases hn : s.heap.get? (s.heap.objs.size + 1) with
      | none => rfl
      | some u => exact absurd (Nat.lt_of_succ_lt (Heap.lt_size hn)) (Nat.lt_irrefl _)
    have hn : H (s.heap.objs.size + 1) = none := I.hok.gone nB
    obtain ⟨c, hc⟩ := PyProof.Rows.sortedAll_at s.heap its out.toArray
    have hlen2 : (((ws.zip ds).mergeSort (PySem.W.dataLe false fun p => p.2)).map (·.1)).length ≤ sizeLine := by
      rw [List.length_map, List.length_mergeSort, List.length_zip, hlen, Nat.min_self, ← hlen]
      exact hz
    have I2 := I.laidN (t' := s.toks) (fun b u e => PyProof.Rows.sortedAll_old e) nB hn (o := .lst (((ws.zip ds).mergeSort (PySem.W.dataLe false fun p => p.2)).map (·.1))) ⟨hlen2, out, c, each_vals he, hc⟩
    refine ⟨.ref (s.heap.objs.size + 1), _, I2, rfl, q _ _ (List.mergeSort_perm _ _) ?_ hn⟩
    have le_iff : ∀ x y : V × D, PySem.W.dataLe false (fun p : V × D => p.2) x y = true ↔ ltK (PySem.W.keyToks y.2) (PySem.W.keyToks x.2) = false := fun x y => by
      rw [PySem.W.dataLe_eq]
      show (!PySem.W.dataLt y.2 x.2) = true ↔ _
      unfold PySem.W.dataLt ltK
      rw [Bool.not_eq_true']
    refine (List.pairwise_mergeSort (le := PySem.W.dataLe false fun p : V × D => p.2) (fun x y z h1 h2 => ?_) (fun x y => ?_) _).imp fun {x y} h => (le_iff x y).mp h
    · rw [le_iff] at h1 h2 ⊢
      exact ltK_tr h1 h2
    · rw [Bool.or_eq_true, le_iff, le_iff]
      cases h : ltK (PySem.W.keyToks y.2) (PySem.W.keyToks x.2) with
      | false => exact .inl rfl
      | true => exact .inr (ltK_asym h)
end
def dSortD : List D → (List D → Prop) → Prop := fun ds Q => match ds with
  | [.list xs] => PyData.canLayAll0 xs = true ∧ PySem.W.AllAlike xs ∧ PySem.W.Sortable xs ∧ (∀ d ∈ xs, d.depth ≤ 60) ∧ ∀ xs' : List D, xs'.Perm xs → OrdK PySem.W.keyToks xs' → Q xs'
  | _ => False
theorem sc_sortD {K : Fg} : SimCO K (rSortD K) dSortD := by
  intro I H vs ds Q2 Q e h q k
  unfold dSortD at q
  split at q
  · rename_i xs
    obtain ⟨q0, q1, q2, q3, q4⟩ := q
    obtain ⟨v, rfl, h1⟩ := h.one
    cases h1 with
    | lst h2 h3 =>
      rename_i a ws
      refine ⟨a, ws, xs, rfl, SqL.of (e _ _ h2), Rps.dp e xs ws q0 h3, q1, q2, q3, h3.length, fun m p hp hw h0 => ?_⟩
      have ez : ws.zip (xs.map PySem.W.keyToks) = (ws.zip xs).map fun p => (p.1, PySem.W.keyToks p.2) := by
        rw [List.zip_map_right]
        rfl
      have hp2 : (m.map fun p => (p.1, PySem.W.keyToks p.2)).Perm (ws.zip (xs.map PySem.W.keyToks)) := by
        rw [ez]
        exact hp.map _
      obtain ⟨ds', d1, d2, d3⟩ := sorted_back h3 hp2 (by rw [List.pairwise_map]; exact hw)
      rw [List.map_map] at d3
      exact k _ p _ (q4 ds' d1 d2) h0 d3
  · exact q.elim
/-! ### sorted of a tuple of ints -/
section
variable {X : Cx}
def rSortedIT (K : Fg) : List V → Hp → VK → Prop := fun vs H Q => ∃ (a : Addr) (ns : List Int), vs = [V.ref a] ∧ SqT K H a (ns.map V.int) ∧
  ∀ (ns' : List Int) (p : Addr), ns'.Perm ns → ns'.Pairwise (· ≤ ·) → H p = none → Q (.ref p) (upd H p (.lst (ns'.map V.int)))
theorem cr_sortedIT : CallR X (.builtin "sorted") (rSortedIT X.K) := by
  rintro pins s σ H vs us Q I r ⟨a, ns, rfl, hs, q⟩
  have rf : us = [Value.ref a] := by cases r with | cons r0 t0 => cases t0; cases r0; rfl
  subst rf
  obtain ⟨its, rv, ⟨o, ho, hc, n, hd⟩, hz⟩ := I.tuple hs
  have hzi : its.length ≤ sizeLine := by rw [← rv.length]; exact hz
  refine sort_copy (.inr rfl) ho hc hd hzi fun h1 B kp nB eB => ?_
  have hi := rv.ints
  refine SrtO.list_sort_ord (s := { s with heap := h1 }) SrtO.swo_int eB hzi (fun h2 => SrtO.ints_sortable hi h2) fun out o1 o2 => ⟨rfl, ?_⟩
  obtain ⟨k1, k2, k3⟩ := SrtO.ints_out hi o1 o2
  obtain ⟨ep, he'⟩ := PyProof.Rows.sortedHeap_at (vs := its) (out := out.toArray) eB
  have hlen : ((out.map SrtO.iv).map V.int).length ≤ sizeLine := by
    rw [List.length_map, k2.length_eq]
    rw [List.length_map] at hz
    exact hz
  have hn : H B = none := I.hok.gone nB
  have kept : ∀ b u, s.heap.get? b = some u → (sortedHeap h1 B its out.toArray).get? b = some u := fun b u e => by
    have hb : b ≠ B := fun z => by rw [z, nB] at e; cases e
    rw [PyProof.Rows.sortedHeap_old hb (Heap.lt_size (kp b u e))]
    exact kp b u e
  have I2 := I.laidN (t' := s.toks) kept nB hn (o := .lst ((out.map SrtO.iv).map V.int)) ⟨hlen, out, ep, vals_of_ints k1, he'⟩
  exact ⟨.ref B, _, I2, rfl, q _ B k2 k3 hn⟩
end
def dSortIT : List D → (List D → Prop) → Prop := fun ds Q => match ds with
  | [.tuple xs] => (match allInt xs with | some ns => ∀ ns' : List Int, ns'.Perm ns → ns'.Pairwise (· ≤ ·) → Q (ns'.map PyData.int) | none => False) | _ => False
theorem sc_sortIT {K : Fg} : SimCO K (rSortedIT K) dSortIT := by
  intro I H vs ds Q2 Q e h q k
  unfold dSortIT at q
  split at q
  · split at q
    · rename_i xs bs e2
      obtain ⟨v, rfl, h1⟩ := h.one
      cases h1 with
      | tup h3 h4 =>
        rename_i a ws
        obtain rfl := allInt_of e2
        obtain rfl := h4.ints
        exact ⟨a, bs, rfl, Same.sqt e h3, fun ns' l hp hw h0 => k _ l _ (q ns' hp hw) h0 (Rps.ofInts _)⟩
    · exact q.elim
  · exact q.elim
theorem dSortIT_ints {ns : List Int} {Q : List D → Prop} (q : ∀ ns' : List Int, ns'.Perm ns → ns'.Pairwise (· ≤ ·) → Q (ns'.map PyData.int)) : dSortIT [.tuple (ns.map PyData.int)] Q := by
  have e : allInt (ns.map PyData.int) = some ns := by
    have := allInt_map (fun x : Int => x) ns
    rw [List.map_id'] at this
    exact this
  unfold dSortIT
  dsimp only
  rw [e]
  exact q
end Z2
namespace Law
open PySem PySem.Spec PyProof.Rows L2 Z2
def top (i : Nat) : Stmt := PySem.Challenge.pw_allbide_k60_whole_ways.main.body.getD i (.Pass ⟨0, 0, 0, 0⟩)
abbrev N_L_stream : List Str := ["script"]
theorem sc_L_stream : FnScope N_L_stream ["script"] (defScope (top 43)) := ⟨rfl, rfl, rfl, by decide +kernel, rfl, by decide +kernel, by decide +kernel⟩
theorem bb_L_stream : BindsBy "_law_stream" (top 43) ["script"] := fun _ _ _ _ _ _ us hl => match us, hl with | [_], _ => rfl
abbrev N_L_next : List Str := ["stream", "many", "k", "cell", "digit"]
theorem sc_L_next : FnScope N_L_next ["stream", "many"] (defScope (top 44)) := ⟨rfl, rfl, rfl, by decide +kernel, rfl, by decide +kernel, by decide +kernel⟩
theorem bb_L_next : BindsBy "_law_next" (top 44) ["stream", "many"] := fun _ _ _ _ _ _ us hl => match us, hl with | [_, _], _ => rfl
abbrev N_L_gap : List Str := ["stream", "start", "end", "first", "second", "gaps", "low", "high", "pick"]
theorem sc_L_gap : FnScope N_L_gap ["stream", "start", "end", "first", "second"] (defScope (top 47)) := ⟨rfl, rfl, rfl, by decide +kernel, rfl, by decide +kernel, by decide +kernel⟩
theorem bb_L_gap : BindsBy "_law_gap" (top 47) ["stream", "start", "end", "first", "second"] := fun _ _ _ _ _ _ us hl => match us, hl with | [_, _, _, _, _], _ => rfl
def t_L_gap : T2S :=
  (dSeq (dAsg (tList (dCons (dOp dSub (dOp dIx (dVar 3) (dVar 2)) (dOp dIx (dVar 3) (dVar 1))) (dCons (dOp dSub (dOp dIx (dVar 4) (dVar 2)) (dOp dIx (dVar 4) (dVar 1))) dNil))) (gN 5))
  (dSeq (dAsg (dOp dSub (dCB dMinL (dCons (dVar 5) dNil)) (dOp dIx (tList (dCons (dC (.int (0))) (dCons (dC (.int (0))) (dCons (dC (.int (1))) (dCons (dC (.int (3))) dNil))))) (dCallS 0 f_next (dCons (dC (.int (4))) dNil)))) (gN 6))
  (dSeq (dAsg (dOp dAdd (dCB dMaxL (dCons (dVar 5) dNil)) (dOp dIx (tList (dCons (dC (.int (0))) (dCons (dC (.int (0))) (dCons (dC (.int (1))) (dCons (dC (.int (3))) dNil))))) (dCallS 0 f_next (dCons (dC (.int (4))) dNil)))) (gN 7))
  (dSeq (dAsg (dCallS 0 f_next (dCons (dC (.int (4))) dNil)) (gN 8))
  (dSeq (dIfS (dB (dOp dEq (dVar 8) (dC (.int (0)))))
  (dRet (dTup (dCons (dVar 1) (dCons (dVar 2) (dCons (dVar 6) (dCons (dC .none) dNil))))))
  dNext)
  (dSeq (dIfS (dB (dOp dEq (dVar 8) (dC (.int (1)))))
  (dRet (dTup (dCons (dVar 1) (dCons (dVar 2) (dCons (dC .none) (dCons (dVar 7) dNil))))))
  dNext)
  (dRet (dTup (dCons (dVar 1) (dCons (dVar 2) (dCons (dVar 6) (dCons (dVar 7) dNil))))))))))))
def f_L_gap : RCD := bodyS (N_L_gap.length - 1) 4 t_L_gap
theorem o_L_gap {a0 a1 a2 a3 : D} {Q : D → Prop} (h : t_L_gap { nx := fun _ => Q .none, rt := Q } [some .strm, some (.dat a0), some (.dat a1), some (.dat a2), some (.dat a3), none, none, none, none]) : f_L_gap [a0, a1, a2, a3] Q := ⟨rfl, h⟩
abbrev N_L_net : List Str := ["stream", "least", "most", "many", "wide", "size", "first", "second", "rules", "turn", "start", "end", "event", "time"]
theorem sc_L_net : FnScope N_L_net ["stream", "least", "most", "many", "wide"] (defScope (top 48)) := ⟨rfl, rfl, rfl, by decide +kernel, rfl, by decide +kernel, by decide +kernel⟩
theorem bb_L_net : BindsBy "_law_net" (top 48) ["stream", "least", "most", "many", "wide"] := fun _ _ _ _ _ _ us hl => match us, hl with | [_, _, _, _, _], _ => rfl
def t_L_net : T2S :=
  (dSeq (dAsg (dOp dAdd (dVar 1) (dCallS 0 f_next (dCons (dOp dAdd (dOp dSub (dVar 2) (dVar 1)) (dC (.int (1)))) dNil))) (gN 5))
  (dSeq (dAsg (dCB dTupOf (dCons (tList (dLc (diR1 (dCons (dVar 5) dNil)) (gN 12) (fun _ Q => Q true) (dOp dSub (dCallS 0 f_next (dCons (dOp dAdd (dOp dMul (dC (.int (2))) (dVar 4)) (dC (.int (1)))) dNil)) (dVar 4)) [12])) dNil)) (gN 6))
  (dSeq (dAsg (dCB dTupOf (dCons (tList (dLc (diS (dVar 6)) (gN 13) (fun _ Q => Q true) (dOp dAdd (dVar 13) (dOp dMul (dCallS 0 f_next (dCons (dOp dAdd (dVar 4) (dC (.int (1)))) dNil)) (dOp dSub (dCallS 0 f_next (dCons (dC (.int (3))) dNil)) (dC (.int (1)))))) [13])) dNil)) (gN 7))
  (dSeq (dAsgO dNil 8)
  (dSeq (dFor (diR1 (dCons (dCallS 0 f_next (dCons (dOp dAdd (dVar 3) (dC (.int (1)))) dNil)) dNil)) (gN 9)
  (dIfS (dB (dOp dGt (dVar 5) (dC (.int (1)))))
  (dSeq (dAsg (dCallS 0 f_next (dCons (dVar 5) dNil)) (gN 10))
  (dSeq (dAsg (dCallS 0 f_next (dCons (dOp dSub (dVar 5) (dC (.int (1)))) dNil)) (gN 11))
  (dApp 8 (dCallS 0 f_L_gap (dCons (dVar 10) (dCons (dOp dAdd (dVar 11) (dCB dIntOf (dCons (dOp dGe (dVar 11) (dVar 10)) dNil))) (dCons (dVar 6) (dCons (dVar 7) dNil))))))))
  dNext))
  (dFrz 8 (dRet (dTup (dCons (dTup (dCons (dVar 5) (dCons (dCB dTupOf (dCons (dVar 8) dNil)) dNil))) (dCons (dVar 6) (dCons (dVar 7) dNil)))))))))))
def f_L_net : RCD := bodyS (N_L_net.length - 1) 4 t_L_net
theorem o_L_net {a0 a1 a2 a3 : D} {Q : D → Prop} (h : t_L_net { nx := fun _ => Q .none, rt := Q } [some .strm, some (.dat a0), some (.dat a1), some (.dat a2), some (.dat a3), none, none, none, none, none, none, none, none, none]) : f_L_net [a0, a1, a2, a3] Q := ⟨rfl, h⟩
abbrev N_L_is_integer : List Str := ["actual"]
theorem sc_L_is_integer : FnScope N_L_is_integer ["actual"] (defScope (top 45)) := ⟨rfl, rfl, rfl, by decide +kernel, rfl, by decide +kernel, by decide +kernel⟩
theorem bb_L_is_integer : BindsBy "_law_is_integer" (top 45) ["actual"] := fun _ _ _ _ _ _ us hl => match us, hl with | [_], _ => rfl
def t_L_is_integer : T2S :=
  (dRet (dAndV (dIsi "int" (dVar 0)) (dNotV (dIsi "bool" (dVar 0)))))
def f_L_is_integer : RCD := bodyD N_L_is_integer.length 1 t_L_is_integer
theorem o_L_is_integer {a0 : D} {Q : D → Prop} (h : t_L_is_integer { nx := fun _ => Q .none, rt := Q } [some (.dat a0)]) : f_L_is_integer [a0] Q := ⟨rfl, h⟩
abbrev N_L_equal : List Str := ["actual", "due", "at"]
theorem sc_L_equal : FnScope N_L_equal ["actual", "due"] (defScope (top 46)) := ⟨rfl, rfl, rfl, by decide +kernel, rfl, by decide +kernel, by decide +kernel⟩
theorem bb_L_equal : BindsBy "_law_equal" (top 46) ["actual", "due"] := fun _ _ _ _ _ _ us hl => match us, hl with | [_, _], _ => rfl
def t_L_equal (n : Nat) : T2S :=
  (dSeq (dIfS (dB (dOp dIsN (dVar 1) (dC .none)))
  (dRet (dOp dIsN (dVar 0) (dC .none)))
  dNext)
  (dSeq (dIfS (dTru (dIsi "bool" (dVar 1)))
  (dRet (dAndV (dIsi "bool" (dVar 0)) (dOp dEq (dVar 0) (dVar 1))))
  dNext)
  (dSeq (dIfS (dTru (dIsi "int" (dVar 1)))
  (dRet (dAndV (dCB f_L_is_integer (dCons (dVar 0) dNil)) (dOp dEq (dVar 0) (dVar 1))))
  dNext)
  (dSeq (dIfS (dTru (dIsi "str" (dVar 1)))
  (dRet (dAndV (dIsi "str" (dVar 0)) (dOp dEq (dVar 0) (dVar 1))))
  dNext)
  (dSeq (dIfS (dAnd (dTru (dIsi "tuple" (dVar 1))) (dNot (dTru (dIsi "tuple" (dVar 0)))))
  (dRet (dC (.bool false)))
  dNext)
  (dSeq (dIfS (dAnd (dTru (dIsi "list" (dVar 1))) (dNot (dTru (dIsi "list" (dVar 0)))))
  (dRet (dC (.bool false)))
  dNext)
  (dSeq (dIfS (dB (dOp dNe (dCB dLen (dCons (dVar 0) dNil)) (dCB dLen (dCons (dVar 1) dNil))))
  (dRet (dC (.bool false)))
  dNext)
  (dRet (dCB (dBools fun bs => bs.all id) (dCons (tList (dLc (diR1 (dCons (dCB dLen (dCons (dVar 1) dNil)) dNil)) (gN 2) (fun _ Q => Q true) (dCB (f_equal n) (dCons (dOp dIx (dVar 0) (dVar 2)) (dCons (dOp dIx (dVar 1) (dVar 2)) dNil))) [2])) dNil))))))))))
abbrev N_news_for : List Str := ["events", "second", "event"]
theorem sc_news_for : FnScope N_news_for ["events", "second"] (defScope (top 33)) := ⟨rfl, rfl, rfl, by decide +kernel, rfl, by decide +kernel, by decide +kernel⟩
theorem bb_news_for : BindsBy "news_for" (top 33) ["events", "second"] := fun _ _ _ _ _ _ us hl => match us, hl with | [_, _], _ => rfl
def t_news_for : T2S :=
  (dRet (dCB dTupOf (dCons (tList (dLc (diS (dVar 0)) (gN 2) (fun _ Q => Q true) (dTup (dCons (dVar 2) (dCons (dOp dIx (dVar 1) (dVar 2)) dNil))) [2])) dNil)))
def f_news_for : RCD := bodyD N_news_for.length 2 t_news_for
theorem o_news_for {a0 a1 : D} {Q : D → Prop} (h : t_news_for { nx := fun _ => Q .none, rt := Q } [some (.dat a0), some (.dat a1), none]) : f_news_for [a0, a1] Q := ⟨rfl, h⟩
abbrev N_way_along : List Str := ["found", "second", "source"]
theorem sc_way_along : FnScope N_way_along ["found", "second"] (defScope (top 40)) := ⟨rfl, rfl, rfl, by decide +kernel, rfl, by decide +kernel, by decide +kernel⟩
theorem bb_way_along : BindsBy "way_along" (top 40) ["found", "second"] := fun _ _ _ _ _ _ us hl => match us, hl with | [_, _], _ => rfl
def t_way_along : T2S :=
  (dRet (dCB f_news_for (dCons (tList (dLc (diS (dVar 0)) (gN 2) (fun _ Q => Q true) (dOp dIx (dVar 2) (dC (.int (0)))) [2])) (dCons (dVar 1) dNil))))
def f_way_along : RCD := bodyD N_way_along.length 2 t_way_along
theorem o_way_along {a0 a1 : D} {Q : D → Prop} (h : t_way_along { nx := fun _ => Q .none, rt := Q } [some (.dat a0), some (.dat a1), none]) : f_way_along [a0, a1] Q := ⟨rfl, h⟩
abbrev N_is_whole : List Str := ["value"]
theorem sc_is_whole : FnScope N_is_whole ["value"] (defScope (top 7)) := ⟨rfl, rfl, rfl, by decide +kernel, rfl, by decide +kernel, by decide +kernel⟩
theorem bb_is_whole : BindsBy "is_whole" (top 7) ["value"] := fun _ _ _ _ _ _ us hl => match us, hl with | [_], _ => rfl
def t_is_whole : T2S :=
  (dRet (dAndV (dIsi "int" (dVar 0)) (dNotV (dIsi "bool" (dVar 0)))))
def f_is_whole : RCD := bodyD N_is_whole.length 1 t_is_whole
theorem o_is_whole {a0 : D} {Q : D → Prop} (h : t_is_whole { nx := fun _ => Q .none, rt := Q } [some (.dat a0)]) : f_is_whole [a0] Q := ⟨rfl, h⟩
abbrev N_is_integer : List Str := ["value", "least", "greatest"]
theorem sc_is_integer : FnScope N_is_integer ["value", "least", "greatest"] (defScope (top 8)) := ⟨rfl, rfl, rfl, by decide +kernel, rfl, by decide +kernel, by decide +kernel⟩
theorem bb_is_integer : BindsBy "is_integer" (top 8) ["value", "least", "greatest"] := fun _ _ _ _ _ _ us hl => match us, hl with | [_, _, _], _ => rfl
def t_is_integer : T2S :=
  (dRet (dAndV (dCB f_is_whole (dCons (dVar 0) dNil)) (dChain dLe dLe (dVar 1) (dVar 0) (dVar 2))))
def f_is_integer : RCD := bodyD N_is_integer.length 3 t_is_integer
theorem o_is_integer {a0 a1 a2 : D} {Q : D → Prop} (h : t_is_integer { nx := fun _ => Q .none, rt := Q } [some (.dat a0), some (.dat a1), some (.dat a2)]) : f_is_integer [a0, a1, a2] Q := ⟨rfl, h⟩
abbrev N_is_side : List Str := ["value"]
theorem sc_is_side : FnScope N_is_side ["value"] (defScope (top 10)) := ⟨rfl, rfl, rfl, by decide +kernel, rfl, by decide +kernel, by decide +kernel⟩
theorem bb_is_side : BindsBy "is_side" (top 10) ["value"] := fun _ _ _ _ _ _ us hl => match us, hl with | [_], _ => rfl
def t_is_side : T2S :=
  (dRet (dOrV (dOp dIsN (dVar 0) (dC .none)) (dCB f_is_integer (dCons (dVar 0) (dCons (dUn dNeg (dC (.int (100)))) (dCons (dC (.int (100))) dNil))))))
def f_is_side : RCD := bodyD N_is_side.length 1 t_is_side
theorem o_is_side {a0 : D} {Q : D → Prop} (h : t_is_side { nx := fun _ => Q .none, rt := Q } [some (.dat a0)]) : f_is_side [a0] Q := ⟨rfl, h⟩
abbrev N_is_event : List Str := ["value", "size"]
theorem sc_is_event : FnScope N_is_event ["value", "size"] (defScope (top 9)) := ⟨rfl, rfl, rfl, by decide +kernel, rfl, by decide +kernel, by decide +kernel⟩
theorem bb_is_event : BindsBy "is_event" (top 9) ["value", "size"] := fun _ _ _ _ _ _ us hl => match us, hl with | [_, _], _ => rfl
def t_is_event : T2S :=
  (dRet (dCB f_is_integer (dCons (dVar 0) (dCons (dC (.int (0))) (dCons (dOp dSub (dVar 1) (dC (.int (1)))) dNil)))))
def f_is_event : RCD := bodyD N_is_event.length 2 t_is_event
theorem o_is_event {a0 a1 : D} {Q : D → Prop} (h : t_is_event { nx := fun _ => Q .none, rt := Q } [some (.dat a0), some (.dat a1)]) : f_is_event [a0, a1] Q := ⟨rfl, h⟩
abbrev N_is_rule : List Str := ["value", "size", "start", "end", "low", "high"]
theorem sc_is_rule : FnScope N_is_rule ["value", "size"] (defScope (top 11)) := ⟨rfl, rfl, rfl, by decide +kernel, rfl, by decide +kernel, by decide +kernel⟩
theorem bb_is_rule : BindsBy "is_rule" (top 11) ["value", "size"] := fun _ _ _ _ _ _ us hl => match us, hl with | [_, _], _ => rfl
def t_is_rule : T2S :=
  (dSeq (dIfS (dOr (dNot (dTru (dIsi "tuple" (dVar 0)))) (dB (dOp dNe (dCB dLen (dCons (dVar 0) dNil)) (dC (.int (4))))))
  (dRet (dC (.bool false)))
  dNext)
  (dSeq (dAsg (dVar 0) (gT 4 (gsCons (gN 2) (gsCons (gN 3) (gsCons (gN 4) (gsCons (gN 5) gsNil))))))
  (dSeq (dIfS (dOr (dNot (dTru (dCB f_is_event (dCons (dVar 2) (dCons (dVar 1) dNil))))) (dOr (dNot (dTru (dCB f_is_event (dCons (dVar 3) (dCons (dVar 1) dNil))))) (dB (dOp dEq (dVar 2) (dVar 3)))))
  (dRet (dC (.bool false)))
  dNext)
  (dSeq (dIfS (dAnd (dB (dOp dIsN (dVar 4) (dC .none))) (dB (dOp dIsN (dVar 5) (dC .none))))
  (dRet (dC (.bool false)))
  dNext)
  (dRet (dAndV (dCB f_is_side (dCons (dVar 4) dNil)) (dCB f_is_side (dCons (dVar 5) dNil))))))))
def f_is_rule : RCD := bodyD N_is_rule.length 2 t_is_rule
theorem o_is_rule {a0 a1 : D} {Q : D → Prop} (h : t_is_rule { nx := fun _ => Q .none, rt := Q } [some (.dat a0), some (.dat a1), none, none, none, none]) : f_is_rule [a0, a1] Q := ⟨rfl, h⟩
abbrev N_is_net : List Str := ["value", "size", "rules", "rule"]
theorem sc_is_net : FnScope N_is_net ["value"] (defScope (top 12)) := ⟨rfl, rfl, rfl, by decide +kernel, rfl, by decide +kernel, by decide +kernel⟩
theorem bb_is_net : BindsBy "is_net" (top 12) ["value"] := fun _ _ _ _ _ _ us hl => match us, hl with | [_], _ => rfl
def t_is_net : T2S :=
  (dSeq (dIfS (dOr (dNot (dTru (dIsi "tuple" (dVar 0)))) (dB (dOp dNe (dCB dLen (dCons (dVar 0) dNil)) (dC (.int (2))))))
  (dRet (dC (.bool false)))
  dNext)
  (dSeq (dAsg (dVar 0) (gT 2 (gsCons (gN 1) (gsCons (gN 2) gsNil))))
  (dSeq (dIfS (dNot (dTru (dCB f_is_integer (dCons (dVar 1) (dCons (dC (.int (1))) (dCons (dC (.int (6))) dNil))))))
  (dRet (dC (.bool false)))
  dNext)
  (dSeq (dIfS (dOr (dNot (dTru (dIsi "tuple" (dVar 2)))) (dB (dOp dGt (dCB dLen (dCons (dVar 2) dNil)) (dC (.int (12))))))
  (dRet (dC (.bool false)))
  dNext)
  (dRet (dCB (dBools fun bs => bs.all id) (dCons (tList (dLc (diS (dVar 2)) (gN 3) (fun _ Q => Q true) (dCB f_is_rule (dCons (dVar 3) (dCons (dVar 1) dNil))) [3])) dNil)))))))
def f_is_net : RCD := bodyD N_is_net.length 1 t_is_net
theorem o_is_net {a0 : D} {Q : D → Prop} (h : t_is_net { nx := fun _ => Q .none, rt := Q } [some (.dat a0), none, none, none]) : f_is_net [a0] Q := ⟨rfl, h⟩
abbrev N_check_net : List Str := ["net"]
theorem sc_check_net : FnScope N_check_net ["net"] (defScope (top 13)) := ⟨rfl, rfl, rfl, by decide +kernel, rfl, by decide +kernel, by decide +kernel⟩
theorem bb_check_net : BindsBy "check_net" (top 13) ["net"] := fun _ _ _ _ _ _ us hl => match us, hl with | [_], _ => rfl
def t_check_net : T2S :=
  (dIfS (dNot (dTru (dCB f_is_net (dCons (dVar 0) dNil))))
  dNever
  dNext)
def f_check_net : RCD := bodyD N_check_net.length 1 t_check_net
theorem o_check_net {a0 : D} {Q : D → Prop} (h : t_check_net { nx := fun _ => Q .none, rt := Q } [some (.dat a0)]) : f_check_net [a0] Q := ⟨rfl, h⟩
abbrev N_rule_excess : List Str := ["rule", "times", "difference", "start", "end", "low", "high"]
theorem sc_rule_excess : FnScope N_rule_excess ["rule", "times"] (defScope (top 14)) := ⟨rfl, rfl, rfl, by decide +kernel, rfl, by decide +kernel, by decide +kernel⟩
theorem bb_rule_excess : BindsBy "rule_excess" (top 14) ["rule", "times"] := fun _ _ _ _ _ _ us hl => match us, hl with | [_, _], _ => rfl
def t_rule_excess : T2S :=
  (dSeq (dAsg (dVar 0) (gT 4 (gsCons (gN 3) (gsCons (gN 4) (gsCons (gN 5) (gsCons (gN 6) gsNil))))))
  (dSeq (dAsg (dOp dSub (dOp dIx (dVar 1) (dVar 4)) (dOp dIx (dVar 1) (dVar 3))) (gN 2))
  (dSeq (dIfS (dAnd (dB (dOp dNotN (dVar 5) (dC .none))) (dB (dOp dLt (dVar 2) (dVar 5))))
  (dRet (dOp dSub (dVar 2) (dVar 5)))
  dNext)
  (dSeq (dIfS (dAnd (dB (dOp dNotN (dVar 6) (dC .none))) (dB (dOp dGt (dVar 2) (dVar 6))))
  (dRet (dOp dSub (dVar 2) (dVar 6)))
  dNext)
  (dRet (dC (.int (0))))))))
def f_rule_excess : RCD := bodyD N_rule_excess.length 2 t_rule_excess
theorem o_rule_excess {a0 a1 : D} {Q : D → Prop} (h : t_rule_excess { nx := fun _ => Q .none, rt := Q } [some (.dat a0), some (.dat a1), none, none, none, none, none]) : f_rule_excess [a0, a1] Q := ⟨rfl, h⟩
abbrev N_rule_excesses : List Str := ["net", "times", "rule"]
theorem sc_rule_excesses : FnScope N_rule_excesses ["net", "times"] (defScope (top 15)) := ⟨rfl, rfl, rfl, by decide +kernel, rfl, by decide +kernel, by decide +kernel⟩
theorem bb_rule_excesses : BindsBy "rule_excesses" (top 15) ["net", "times"] := fun _ _ _ _ _ _ us hl => match us, hl with | [_, _], _ => rfl
def t_rule_excesses : T2S :=
  (dRet (dCB dTupOf (dCons (tList (dLc (diS (dOp dIx (dVar 0) (dC (.int (1))))) (gN 2) (fun _ Q => Q true) (dCB f_rule_excess (dCons (dVar 2) (dCons (dVar 1) dNil))) [2])) dNil)))
def f_rule_excesses : RCD := bodyD N_rule_excesses.length 2 t_rule_excesses
theorem o_rule_excesses {a0 a1 : D} {Q : D → Prop} (h : t_rule_excesses { nx := fun _ => Q .none, rt := Q } [some (.dat a0), some (.dat a1), none]) : f_rule_excesses [a0, a1] Q := ⟨rfl, h⟩
abbrev N_are_right_heights : List Str := ["net", "value", "missed", "height"]
theorem sc_are_right_heights : FnScope N_are_right_heights ["net", "value"] (defScope (top 19)) := ⟨rfl, rfl, rfl, by decide +kernel, rfl, by decide +kernel, by decide +kernel⟩
theorem bb_are_right_heights : BindsBy "are_right_heights" (top 19) ["net", "value"] := fun _ _ _ _ _ _ us hl => match us, hl with | [_, _], _ => rfl
def t_are_right_heights : T2S :=
  (dSeq (dIfS (dOr (dNot (dTru (dIsi "tuple" (dVar 1)))) (dB (dOp dNe (dCB dLen (dCons (dVar 1) dNil)) (dOp dIx (dVar 0) (dC (.int (0)))))))
  (dRet (dC (.bool false)))
  dNext)
  (dSeq (dIfS (dNot (dTru (dCB (dBools fun bs => bs.all id) (dCons (tList (dLc (diS (dVar 1)) (gN 3) (fun _ Q => Q true) (dCB f_is_whole (dCons (dVar 3) dNil)) [3])) dNil))))
  (dRet (dC (.bool false)))
  dNext)
  (dRet (dCB (dBools fun bs => bs.all id) (dCons (tList (dLc (diS (dCB f_rule_excesses (dCons (dVar 0) (dCons (dVar 1) dNil)))) (gN 2) (fun _ Q => Q true) (dOp dEq (dVar 2) (dC (.int (0)))) [2])) dNil)))))
def f_are_right_heights : RCD := bodyD N_are_right_heights.length 2 t_are_right_heights
theorem o_are_right_heights {a0 a1 : D} {Q : D → Prop} (h : t_are_right_heights { nx := fun _ => Q .none, rt := Q } [some (.dat a0), some (.dat a1), none, none]) : f_are_right_heights [a0, a1] Q := ⟨rfl, h⟩
abbrev N_is_news_time : List Str := ["value"]
theorem sc_is_news_time : FnScope N_is_news_time ["value"] (defScope (top 22)) := ⟨rfl, rfl, rfl, by decide +kernel, rfl, by decide +kernel, by decide +kernel⟩
theorem bb_is_news_time : BindsBy "is_news_time" (top 22) ["value"] := fun _ _ _ _ _ _ us hl => match us, hl with | [_], _ => rfl
def t_is_news_time : T2S :=
  (dRet (dCB f_is_integer (dCons (dVar 0) (dCons (dUn dNeg (dC (.int (500)))) (dCons (dC (.int (500))) dNil)))))
def f_is_news_time : RCD := bodyD N_is_news_time.length 1 t_is_news_time
theorem o_is_news_time {a0 : D} {Q : D → Prop} (h : t_is_news_time { nx := fun _ => Q .none, rt := Q } [some (.dat a0)]) : f_is_news_time [a0] Q := ⟨rfl, h⟩
abbrev N_check_told_times : List Str := ["net", "name", "times", "time"]
theorem sc_check_told_times : FnScope N_check_told_times ["net", "name", "times"] (defScope (top 30)) := ⟨rfl, rfl, rfl, by decide +kernel, rfl, by decide +kernel, by decide +kernel⟩
theorem bb_check_told_times : BindsBy "check_told_times" (top 30) ["net", "name", "times"] := fun _ _ _ _ _ _ us hl => match us, hl with | [_, _, _], _ => rfl
def t_check_told_times : T2S :=
  (dIfS (dOr (dNot (dTru (dCB f_are_right_heights (dCons (dVar 0) (dCons (dVar 2) dNil))))) (dNot (dTru (dCB (dBools fun bs => bs.all id) (dCons (tList (dLc (diS (dVar 2)) (gN 3) (fun _ Q => Q true) (dCB f_is_news_time (dCons (dVar 3) dNil)) [3])) dNil)))))
  dNever
  dNext)
def f_check_told_times : RCD := bodyD N_check_told_times.length 3 t_check_told_times
theorem o_check_told_times {a0 a1 a2 : D} {Q : D → Prop} (h : t_check_told_times { nx := fun _ => Q .none, rt := Q } [some (.dat a0), some (.dat a1), some (.dat a2), none]) : f_check_told_times [a0, a1, a2] Q := ⟨rfl, h⟩
abbrev N_check_ends : List Str := ["net", "first", "second"]
theorem sc_check_ends : FnScope N_check_ends ["net", "first", "second"] (defScope (top 31)) := ⟨rfl, rfl, rfl, by decide +kernel, rfl, by decide +kernel, by decide +kernel⟩
theorem bb_check_ends : BindsBy "check_ends" (top 31) ["net", "first", "second"] := fun _ _ _ _ _ _ us hl => match us, hl with | [_, _, _], _ => rfl
def t_check_ends : T2S :=
  (dSeq (dDrop (dCB f_check_net (dCons (dVar 0) dNil)))
  (dSeq (dDrop (dCB f_check_told_times (dCons (dVar 0) (dCons (dC (.str "first")) (dCons (dVar 1) dNil)))))
  (dDrop (dCB f_check_told_times (dCons (dVar 0) (dCons (dC (.str "second")) (dCons (dVar 2) dNil)))))))
def f_check_ends : RCD := bodyD N_check_ends.length 3 t_check_ends
theorem o_check_ends {a0 a1 a2 : D} {Q : D → Prop} (h : t_check_ends { nx := fun _ => Q .none, rt := Q } [some (.dat a0), some (.dat a1), some (.dat a2)]) : f_check_ends [a0, a1, a2] Q := ⟨rfl, h⟩
abbrev N_does_carry : List Str := ["bounds", "first", "second", "event", "other"]
theorem sc_does_carry : FnScope N_does_carry ["bounds", "first", "second", "event", "other"] (defScope (top 34)) := ⟨rfl, rfl, rfl, by decide +kernel, rfl, by decide +kernel, by decide +kernel⟩
theorem bb_does_carry : BindsBy "does_carry" (top 34) ["bounds", "first", "second", "event", "other"] := fun _ _ _ _ _ _ us hl => match us, hl with | [_, _, _, _, _], _ => rfl
def t_does_carry : T2S :=
  (dSeq (dIfS (dB (dOp dEq (dVar 3) (dVar 4)))
  (dRet (dC (.bool false)))
  dNext)
  (dSeq (dIfS (dB (dOp dGt (dOp dIx (dVar 2) (dVar 4)) (dOp dIx (dVar 1) (dVar 4))))
  (dRet (dOp dEq (dOp dIx (dOp dIx (dVar 0) (dVar 4)) (dVar 3)) (dOp dSub (dOp dIx (dVar 2) (dVar 3)) (dOp dIx (dVar 2) (dVar 4)))))
  dNext)
  (dSeq (dIfS (dB (dOp dLt (dOp dIx (dVar 2) (dVar 4)) (dOp dIx (dVar 1) (dVar 4))))
  (dRet (dOp dEq (dOp dIx (dOp dIx (dVar 0) (dVar 3)) (dVar 4)) (dOp dSub (dOp dIx (dVar 2) (dVar 4)) (dOp dIx (dVar 2) (dVar 3)))))
  dNext)
  (dRet (dC (.bool false))))))
def f_does_carry : RCD := bodyD N_does_carry.length 5 t_does_carry
theorem o_does_carry {a0 a1 a2 a3 a4 : D} {Q : D → Prop} (h : t_does_carry { nx := fun _ => Q .none, rt := Q } [some (.dat a0), some (.dat a1), some (.dat a2), some (.dat a3), some (.dat a4)]) : f_does_carry [a0, a1, a2, a3, a4] Q := ⟨rfl, h⟩
abbrev N_carrying_table : List Str := ["bounds", "first", "second", "events", "event", "other"]
theorem sc_carrying_table : FnScope N_carrying_table ["bounds", "first", "second"] (defScope (top 35)) := ⟨rfl, rfl, rfl, by decide +kernel, rfl, by decide +kernel, by decide +kernel⟩
theorem bb_carrying_table : BindsBy "carrying_table" (top 35) ["bounds", "first", "second"] := fun _ _ _ _ _ _ us hl => match us, hl with | [_, _, _], _ => rfl
def t_carrying_table : T2S :=
  (dSeq (dRngS 3 (dCons (dCB dLen (dCons (dVar 1) dNil)) dNil))
  (dRet (tList (dLc (diRgV 3) (gN 4) (fun _ Q => Q true) (tList (dLc (diRgV 3) (gN 5) (fun _ Q => Q true) (dCB f_does_carry (dCons (dVar 0) (dCons (dVar 1) (dCons (dVar 2) (dCons (dVar 4) (dCons (dVar 5) dNil)))))) [5])) [4]))))
def f_carrying_table : RCD := bodyD N_carrying_table.length 3 t_carrying_table
theorem o_carrying_table {a0 a1 a2 : D} {Q : D → Prop} (h : t_carrying_table { nx := fun _ => Q .none, rt := Q } [some (.dat a0), some (.dat a1), some (.dat a2), none, none, none]) : f_carrying_table [a0, a1, a2] Q := ⟨rfl, h⟩
abbrev N_bundle_of : List Str := ["carrying", "event", "both", "other"]
theorem sc_bundle_of : FnScope N_bundle_of ["carrying", "event"] (defScope (top 36)) := ⟨rfl, rfl, rfl, by decide +kernel, rfl, by decide +kernel, by decide +kernel⟩
theorem bb_bundle_of : BindsBy "bundle_of" (top 36) ["carrying", "event"] := fun _ _ _ _ _ _ us hl => match us, hl with | [_, _], _ => rfl
def t_bundle_of : T2S :=
  (dSeq (dAsg (tList (dLc (diR1 (dCons (dCB dLen (dCons (dVar 0) dNil)) dNil)) (gN 3) (fun _ Q => Q true) (dAndV (dOp dIx (dOp dIx (dVar 0) (dVar 1)) (dVar 3)) (dOp dIx (dOp dIx (dVar 0) (dVar 3)) (dVar 1))) [3])) (gN 2))
  (dRet (dCB dTupOf (dCons (tList (dLc (diR1 (dCons (dCB dLen (dCons (dVar 0) dNil)) dNil)) (gN 3) (dOr (dB (dOp dEq (dVar 3) (dVar 1))) (dTru (dOp dIx (dVar 2) (dVar 3)))) (dVar 3) [3])) dNil))))
def f_bundle_of : RCD := bodyD N_bundle_of.length 2 t_bundle_of
theorem o_bundle_of {a0 a1 : D} {Q : D → Prop} (h : t_bundle_of { nx := fun _ => Q .none, rt := Q } [some (.dat a0), some (.dat a1), none, none]) : f_bundle_of [a0, a1] Q := ⟨rfl, h⟩
abbrev N_is_source : List Str := ["carrying", "bundle", "outside", "event", "other"]
theorem sc_is_source : FnScope N_is_source ["carrying", "bundle"] (defScope (top 37)) := ⟨rfl, rfl, rfl, by decide +kernel, rfl, by decide +kernel, by decide +kernel⟩
theorem bb_is_source : BindsBy "is_source" (top 37) ["carrying", "bundle"] := fun _ _ _ _ _ _ us hl => match us, hl with | [_, _], _ => rfl
def t_is_source : T2S :=
  (dSeq (dAsg (tList (dLc (diR1 (dCons (dCB dLen (dCons (dVar 0) dNil)) dNil)) (gN 3) (dB (dOp (dIn true) (dVar 3) (dVar 1))) (dVar 3) [3])) (gN 2))
  (dRet (dNotV (dCB (dBools fun bs => bs.any id) (dCons (tList (dLc2 (diS (dVar 2)) (gN 3) (fun _ Q => Q true) (diS (dVar 1)) (gN 4) (fun _ Q => Q true) (dOp dIx (dOp dIx (dVar 0) (dVar 3)) (dVar 4)) [3, 4] [4])) dNil)))))
def f_is_source : RCD := bodyD N_is_source.length 2 t_is_source
theorem o_is_source {a0 a1 : D} {Q : D → Prop} (h : t_is_source { nx := fun _ => Q .none, rt := Q } [some (.dat a0), some (.dat a1), none, none, none]) : f_is_source [a0, a1] Q := ⟨rfl, h⟩
abbrev N_sources_of : List Str := ["bounds", "first", "second", "carrying", "found", "event", "bundle"]
theorem sc_sources_of : FnScope N_sources_of ["bounds", "first", "second"] (defScope (top 38)) := ⟨rfl, rfl, rfl, by decide +kernel, rfl, by decide +kernel, by decide +kernel⟩
theorem bb_sources_of : BindsBy "sources_of" (top 38) ["bounds", "first", "second"] := fun _ _ _ _ _ _ us hl => match us, hl with | [_, _, _], _ => rfl
def t_sources_of : T2S :=
  (dSeq (dAsg (dCB f_carrying_table (dCons (dVar 0) (dCons (dVar 1) (dCons (dVar 2) dNil)))) (gN 3))
  (dSeq (dAsgO dNil 4)
  (dSeq (dFor (diR1 (dCons (dCB dLen (dCons (dVar 1) dNil)) dNil)) (gN 5)
  (dIfS (dB (dOp dNe (dOp dIx (dVar 1) (dVar 5)) (dOp dIx (dVar 2) (dVar 5))))
  (dSeq (dAsg (dCB f_bundle_of (dCons (dVar 3) (dCons (dVar 5) dNil))) (gN 6))
  (dIfS (dAnd (dB (dOp dEq (dOp dIx (dVar 6) (dC (.int (0)))) (dVar 5))) (dTru (dCB f_is_source (dCons (dVar 3) (dCons (dVar 6) dNil)))))
  (dApp 4 (dVar 6))
  dNext))
  dNext))
  (dFrz 4 (dRet (dVar 4))))))
def f_sources_of : RCD := bodyD N_sources_of.length 3 t_sources_of
theorem o_sources_of {a0 a1 a2 : D} {Q : D → Prop} (h : t_sources_of { nx := fun _ => Q .none, rt := Q } [some (.dat a0), some (.dat a1), some (.dat a2), none, none, none, none]) : f_sources_of [a0, a1, a2] Q := ⟨rfl, h⟩
abbrev N_lengths_of : List Str := ["walks", "row", "found"]
theorem sc_lengths_of : FnScope N_lengths_of ["walks"] (defScope (top 28)) := ⟨rfl, rfl, rfl, by decide +kernel, rfl, by decide +kernel, by decide +kernel⟩
theorem bb_lengths_of : BindsBy "lengths_of" (top 28) ["walks"] := fun _ _ _ _ _ _ us hl => match us, hl with | [_], _ => rfl
def t_lengths_of : T2S :=
  (dRet (dCB dTupOf (dCons (tList (dLc (diS (dVar 0)) (gN 1) (fun _ Q => Q true) (dCB dTupOf (dCons (tList (dLc (diS (dVar 1)) (gN 2) (fun _ Q => Q true) (dIf (dB (dOp dIsN (dVar 2) (dC .none))) (dC .none) (dOp dIx (dVar 2) (dC (.int (0))))) [2])) dNil)) [1])) dNil)))
def f_lengths_of : RCD := bodyD N_lengths_of.length 1 t_lengths_of
theorem o_lengths_of {a0 : D} {Q : D → Prop} (h : t_lengths_of { nx := fun _ => Q .none, rt := Q } [some (.dat a0), none, none]) : f_lengths_of [a0] Q := ⟨rfl, h⟩
abbrev N_edge_course : List Str := ["net", "value", "index", "side", "start", "end", "low", "high"]
theorem sc_edge_course : FnScope N_edge_course ["net", "value"] (defScope (top 16)) := ⟨rfl, rfl, rfl, by decide +kernel, rfl, by decide +kernel, by decide +kernel⟩
theorem bb_edge_course : BindsBy "edge_course" (top 16) ["net", "value"] := fun _ _ _ _ _ _ us hl => match us, hl with | [_, _], _ => rfl
def t_edge_course : T2S :=
  (dSeq (dIfS (dOr (dNot (dTru (dIsi "tuple" (dVar 1)))) (dB (dOp dNe (dCB dLen (dCons (dVar 1) dNil)) (dC (.int (2))))))
  (dRet (dC .none))
  dNext)
  (dSeq (dAsg (dVar 1) (gT 2 (gsCons (gN 2) (gsCons (gN 3) gsNil))))
  (dSeq (dIfS (dOr (dNot (dTru (dCB f_is_integer (dCons (dVar 2) (dCons (dC (.int (0))) (dCons (dOp dSub (dCB dLen (dCons (dOp dIx (dVar 0) (dC (.int (1)))) dNil)) (dC (.int (1)))) dNil)))))) (dNot (dTru (dIsi "str" (dVar 3)))))
  (dRet (dC .none))
  dNext)
  (dSeq (dAsg (dOp dIx (dOp dIx (dVar 0) (dC (.int (1)))) (dVar 2)) (gT 4 (gsCons (gN 4) (gsCons (gN 5) (gsCons (gN 6) (gsCons (gN 7) gsNil))))))
  (dSeq (dIfS (dAnd (dB (dOp dEq (dVar 3) (dC (.str "high")))) (dB (dOp dNotN (dVar 7) (dC .none))))
  (dRet (dTup (dCons (dVar 4) (dCons (dVar 5) (dCons (dVar 7) dNil)))))
  dNext)
  (dSeq (dIfS (dAnd (dB (dOp dEq (dVar 3) (dC (.str "low")))) (dB (dOp dNotN (dVar 6) (dC .none))))
  (dRet (dTup (dCons (dVar 5) (dCons (dVar 4) (dCons (dUn dNeg (dVar 6)) dNil)))))
  dNext)
  (dRet (dC .none))))))))
def f_edge_course : RCD := bodyD N_edge_course.length 2 t_edge_course
theorem o_edge_course {a0 a1 : D} {Q : D → Prop} (h : t_edge_course { nx := fun _ => Q .none, rt := Q } [some (.dat a0), some (.dat a1), none, none, none, none, none, none]) : f_edge_course [a0, a1] Q := ⟨rfl, h⟩
abbrev N_all_edges : List Str := ["net", "found", "index", "edge", "course", "start", "end", "weight"]
theorem sc_all_edges : FnScope N_all_edges ["net"] (defScope (top 17)) := ⟨rfl, rfl, rfl, by decide +kernel, rfl, by decide +kernel, by decide +kernel⟩
theorem bb_all_edges : BindsBy "all_edges" (top 17) ["net"] := fun _ _ _ _ _ _ us hl => match us, hl with | [_], _ => rfl
def t_all_edges : T2S :=
  (dSeq (dAsgO dNil 1)
  (dSeq (dFor (diR1 (dCons (dCB dLen (dCons (dOp dIx (dVar 0) (dC (.int (1)))) dNil)) dNil)) (gN 2)
  (dFor (diS (dTup (dCons (dTup (dCons (dVar 2) (dCons (dC (.str "high")) dNil))) (dCons (dTup (dCons (dVar 2) (dCons (dC (.str "low")) dNil))) dNil)))) (gN 3)
  (dSeq (dAsg (dCB f_edge_course (dCons (dVar 0) (dCons (dVar 3) dNil))) (gN 4))
  (dIfS (dB (dOp dNotN (dVar 4) (dC .none)))
  (dSeq (dAsg (dVar 4) (gT 3 (gsCons (gN 5) (gsCons (gN 6) (gsCons (gN 7) gsNil)))))
  (dApp 1 (dTup (dCons (dVar 3) (dCons (dVar 5) (dCons (dVar 6) (dCons (dVar 7) dNil)))))))
  dNext))))
  (dFrz 1 (dRet (dCB dTupOf (dCons (dVar 1) dNil))))))
def f_all_edges : RCD := bodyD N_all_edges.length 1 t_all_edges
theorem o_all_edges {a0 : D} {Q : D → Prop} (h : t_all_edges { nx := fun _ => Q .none, rt := Q } [some (.dat a0), none, none, none, none, none, none, none]) : f_all_edges [a0] Q := ⟨rfl, h⟩
abbrev N_walks_without_edges : List Str := ["size", "start", "end"]
theorem sc_walks_without_edges : FnScope N_walks_without_edges ["size"] (defScope (top 24)) := ⟨rfl, rfl, rfl, by decide +kernel, rfl, by decide +kernel, by decide +kernel⟩
theorem bb_walks_without_edges : BindsBy "walks_without_edges" (top 24) ["size"] := fun _ _ _ _ _ _ us hl => match us, hl with | [_], _ => rfl
def t_walks_without_edges : T2S :=
  (dRet (tList (dLc (diR1 (dCons (dVar 0) dNil)) (gN 1) (fun _ Q => Q true) (tList (dLc (diR1 (dCons (dVar 0) dNil)) (gN 2) (fun _ Q => Q true) (dIf (dB (dOp dEq (dVar 1) (dVar 2))) (dTup (dCons (dC (.int (0))) (dCons (dTup dNil) dNil))) (dC .none)) [2])) [1])))
def f_walks_without_edges : RCD := bodyD N_walks_without_edges.length 1 t_walks_without_edges
theorem o_walks_without_edges {a0 : D} {Q : D → Prop} (h : t_walks_without_edges { nx := fun _ => Q .none, rt := Q } [some (.dat a0), none, none]) : f_walks_without_edges [a0] Q := ⟨rfl, h⟩
abbrev N_longer_row : List Str := ["row", "courses", "longer", "edge", "start", "end", "weight", "length", "walk"]
theorem sc_longer_row : FnScope N_longer_row ["row", "courses"] (defScope (top 25)) := ⟨rfl, rfl, rfl, by decide +kernel, rfl, by decide +kernel, by decide +kernel⟩
theorem bb_longer_row : BindsBy "longer_row" (top 25) ["row", "courses"] := fun _ _ _ _ _ _ us hl => match us, hl with | [_, _], _ => rfl
def t_longer_row : T2S :=
  (dSeq (dAsgO (dCBO dListOf (dCons (dVar 0) dNil)) 2)
  (dSeq (dFor (diS (dVar 1)) (gT 4 (gsCons (gN 3) (gsCons (gN 4) (gsCons (gN 5) (gsCons (gN 6) gsNil)))))
  (dIfS (dB (dOp dNotN (dOp dIx (dVar 0) (dVar 4)) (dC .none)))
  (dSeq (dAsg (dOp dIx (dVar 0) (dVar 4)) (gT 2 (gsCons (gN 7) (gsCons (gN 8) gsNil))))
  (dIfS (dOr (dB (dOp dIsN (dOIx 2 (dVar 5)) (dC .none))) (dB (dOp dLt (dOp dAdd (dVar 7) (dVar 6)) (dOp dIx (dOIx 2 (dVar 5)) (dC (.int (0)))))))
  (dSetIx 2 (dTup (dCons (dOp dAdd (dVar 7) (dVar 6)) (dCons (dOp dAdd (dVar 8) (dTup (dCons (dVar 3) dNil))) dNil))) (dVar 5))
  dNext))
  dNext))
  (dFrz 2 (dRet (dVar 2)))))
def f_longer_row : RCD := bodyD N_longer_row.length 2 t_longer_row
theorem o_longer_row {a0 a1 : D} {Q : D → Prop} (h : t_longer_row { nx := fun _ => Q .none, rt := Q } [some (.dat a0), some (.dat a1), none, none, none, none, none, none, none]) : f_longer_row [a0, a1] Q := ⟨rfl, h⟩
abbrev N_round_below : List Str := ["walks", "event", "row", "length", "walk"]
theorem sc_round_below : FnScope N_round_below ["walks"] (defScope (top 26)) := ⟨rfl, rfl, rfl, by decide +kernel, rfl, by decide +kernel, by decide +kernel⟩
theorem bb_round_below : BindsBy "round_below" (top 26) ["walks"] := fun _ _ _ _ _ _ us hl => match us, hl with | [_], _ => rfl
def t_round_below : T2S :=
  (dSeq (dFor (diEnumA (dCons (dVar 0) dNil)) (gT 2 (gsCons (gN 1) (gsCons (gN 2) gsNil)))
  (dSeq (dAsg (dOp dIx (dVar 2) (dVar 1)) (gT 2 (gsCons (gN 3) (gsCons (gN 4) gsNil))))
  (dIfS (dB (dOp dLt (dVar 3) (dC (.int (0)))))
  (dRet (dVar 4))
  dNext)))
  (dRet (dC .none)))
def f_round_below : RCD := bodyD N_round_below.length 1 t_round_below
theorem o_round_below {a0 : D} {Q : D → Prop} (h : t_round_below { nx := fun _ => Q .none, rt := Q } [some (.dat a0), none, none, none, none]) : f_round_below [a0] Q := ⟨rfl, h⟩
abbrev N_least_walks : List Str := ["net", "size", "courses", "walks", "_", "row"]
theorem sc_least_walks : FnScope N_least_walks ["net"] (defScope (top 27)) := ⟨rfl, rfl, rfl, by decide +kernel, rfl, by decide +kernel, by decide +kernel⟩
theorem bb_least_walks : BindsBy "least_walks" (top 27) ["net"] := fun _ _ _ _ _ _ us hl => match us, hl with | [_], _ => rfl
def t_least_walks : T2S :=
  (dSeq (dAsg (dOp dIx (dVar 0) (dC (.int (0)))) (gN 1))
  (dSeq (dAsg (dCB f_all_edges (dCons (dVar 0) dNil)) (gN 2))
  (dSeq (dAsg (dCB f_walks_without_edges (dCons (dVar 1) dNil)) (gN 3))
  (dSeq (dFor (diR1 (dCons (dVar 1) dNil)) (gN 4)
  (dSeq (dAsg (tList (dLc (diS (dVar 3)) (gN 5) (fun _ Q => Q true) (dCB f_longer_row (dCons (dVar 5) (dCons (dVar 2) dNil))) [5])) (gN 3))
  (dIfS (dB (dOp dNotN (dCB f_round_below (dCons (dVar 3) dNil)) (dC .none)))
  (dRet (dVar 3))
  dNext)))
  (dRet (dVar 3))))))
def f_least_walks : RCD := bodyD N_least_walks.length 1 t_least_walks
theorem o_least_walks {a0 : D} {Q : D → Prop} (h : t_least_walks { nx := fun _ => Q .none, rt := Q } [some (.dat a0), none, none, none, none, none]) : f_least_walks [a0] Q := ⟨rfl, h⟩
abbrev N_bounds_of : List Str := ["net"]
theorem sc_bounds_of : FnScope N_bounds_of ["net"] (defScope (top 32)) := ⟨rfl, rfl, rfl, by decide +kernel, rfl, by decide +kernel, by decide +kernel⟩
theorem bb_bounds_of : BindsBy "bounds_of" (top 32) ["net"] := fun _ _ _ _ _ _ us hl => match us, hl with | [_], _ => rfl
def t_bounds_of : T2S :=
  (dRet (dCB f_lengths_of (dCons (dCB f_least_walks (dCons (dVar 0) dNil)) dNil)))
def f_bounds_of : RCD := bodyD N_bounds_of.length 1 t_bounds_of
theorem o_bounds_of {a0 : D} {Q : D → Prop} (h : t_bounds_of { nx := fun _ => Q .none, rt := Q } [some (.dat a0)]) : f_bounds_of [a0] Q := ⟨rfl, h⟩
abbrev N_sources : List Str := ["net", "first", "second"]
theorem sc_sources : FnScope N_sources ["net", "first", "second"] (defScope (top 39)) := ⟨rfl, rfl, rfl, by decide +kernel, rfl, by decide +kernel, by decide +kernel⟩
theorem bb_sources : BindsBy "sources" (top 39) ["net", "first", "second"] := fun _ _ _ _ _ _ us hl => match us, hl with | [_, _, _], _ => rfl
def t_sources : T2S :=
  (dSeq (dDrop (dCB f_check_ends (dCons (dVar 0) (dCons (dVar 1) (dCons (dVar 2) dNil)))))
  (dRet (dCB f_sources_of (dCons (dCB f_bounds_of (dCons (dVar 0) dNil)) (dCons (dVar 1) (dCons (dVar 2) dNil))))))
def f_sources : RCD := bodyD N_sources.length 3 t_sources
theorem o_sources {a0 a1 a2 : D} {Q : D → Prop} (h : t_sources { nx := fun _ => Q .none, rt := Q } [some (.dat a0), some (.dat a1), some (.dat a2)]) : f_sources [a0, a1, a2] Q := ⟨rfl, h⟩
abbrev N_way : List Str := ["net", "first", "second"]
theorem sc_way : FnScope N_way ["net", "first", "second"] (defScope (top 41)) := ⟨rfl, rfl, rfl, by decide +kernel, rfl, by decide +kernel, by decide +kernel⟩
theorem bb_way : BindsBy "way" (top 41) ["net", "first", "second"] := fun _ _ _ _ _ _ us hl => match us, hl with | [_, _, _], _ => rfl
def t_way : T2S :=
  (dRet (dCB f_way_along (dCons (dCB f_sources (dCons (dVar 0) (dCons (dVar 1) (dCons (dVar 2) dNil)))) (dCons (dVar 2) dNil))))
def f_way : RCD := bodyD N_way.length 3 t_way
theorem o_way {a0 a1 a2 : D} {Q : D → Prop} (h : t_way { nx := fun _ => Q .none, rt := Q } [some (.dat a0), some (.dat a1), some (.dat a2)]) : f_way [a0, a1, a2] Q := ⟨rfl, h⟩
abbrev N_L_edges : List Str := ["net", "found", "at", "start", "end", "low", "high"]
theorem sc_L_edges : FnScope N_L_edges ["net"] (defScope (top 49)) := ⟨rfl, rfl, rfl, by decide +kernel, rfl, by decide +kernel, by decide +kernel⟩
theorem bb_L_edges : BindsBy "_law_edges" (top 49) ["net"] := fun _ _ _ _ _ _ us hl => match us, hl with | [_], _ => rfl
def t_L_edges : T2S :=
  (dSeq (dAsgO dNil 1)
  (dSeq (dFor (diR1 (dCons (dCB dLen (dCons (dOp dIx (dVar 0) (dC (.int (1)))) dNil)) dNil)) (gN 2)
  (dSeq (dAsg (dOp dIx (dOp dIx (dVar 0) (dC (.int (1)))) (dVar 2)) (gT 4 (gsCons (gN 3) (gsCons (gN 4) (gsCons (gN 5) (gsCons (gN 6) gsNil))))))
  (dSeq (dIfS (dB (dOp dNotN (dVar 6) (dC .none)))
  (dApp 1 (dTup (dCons (dTup (dCons (dVar 2) (dCons (dC (.str "high")) dNil))) (dCons (dVar 3) (dCons (dVar 4) (dCons (dVar 6) dNil))))))
  dNext)
  (dIfS (dB (dOp dNotN (dVar 5) (dC .none)))
  (dApp 1 (dTup (dCons (dTup (dCons (dVar 2) (dCons (dC (.str "low")) dNil))) (dCons (dVar 4) (dCons (dVar 3) (dCons (dOp dSub (dC (.int (0))) (dVar 5)) dNil))))))
  dNext))))
  (dFrz 1 (dRet (dVar 1)))))
def f_L_edges : RCD := bodyD N_L_edges.length 1 t_L_edges
theorem o_L_edges {a0 : D} {Q : D → Prop} (h : t_L_edges { nx := fun _ => Q .none, rt := Q } [some (.dat a0), none, none, none, none, none, none]) : f_L_edges [a0] Q := ⟨rfl, h⟩
abbrev N_L_bounds : List Str := ["net", "bounds", "event", "turn", "edge", "start", "end", "weight", "length"]
theorem sc_L_bounds : FnScope N_L_bounds ["net"] (defScope (top 50)) := ⟨rfl, rfl, rfl, by decide +kernel, rfl, by decide +kernel, by decide +kernel⟩
theorem bb_L_bounds : BindsBy "_law_bounds" (top 50) ["net"] := fun _ _ _ _ _ _ us hl => match us, hl with | [_], _ => rfl
def t_L_bounds (w : World) : T2S :=
  (dSeq (dNewD w 1)
  (dSeq (dFor (diR1 (dCons (dOp dIx (dVar 0) (dC (.int (0)))) dNil)) (gN 2)
  (dPutD w 1 (dTup (dCons (dVar 2) (dCons (dVar 2) dNil))) (dC (.int (0)))))
  (dSeq (dFor (diR1 (dCons (dOp dIx (dVar 0) (dC (.int (0)))) dNil)) (gN 3)
  (dFor (diS (dCB f_L_edges (dCons (dVar 0) dNil))) (gT 4 (gsCons (gN 4) (gsCons (gN 5) (gsCons (gN 6) (gsCons (gN 7) gsNil)))))
  (dFor (diR1 (dCons (dOp dIx (dVar 0) (dC (.int (0)))) dNil)) (gN 2)
  (dIfS (dB (dInO false 1 (dTup (dCons (dVar 2) (dCons (dVar 5) dNil)))))
  (dSeq (dAsg (dOp dAdd (dGetD w 1 (dTup (dCons (dVar 2) (dCons (dVar 5) dNil)))) (dVar 7)) (gN 8))
  (dIfS (dOr (dB (dInO true 1 (dTup (dCons (dVar 2) (dCons (dVar 6) dNil))))) (dB (dOp dLt (dVar 8) (dGetD w 1 (dTup (dCons (dVar 2) (dCons (dVar 6) dNil)))))))
  (dPutD w 1 (dTup (dCons (dVar 2) (dCons (dVar 6) dNil))) (dVar 8))
  dNext))
  dNext))))
  (dFrzD 1 (dRet (dVar 1))))))
def f_L_bounds (w : World) : RCD := bodyD N_L_bounds.length 1 (t_L_bounds w)
theorem o_L_bounds {w : World} {a0 : D} {Q : D → Prop} (h : t_L_bounds w { nx := fun _ => Q .none, rt := Q } [some (.dat a0), none, none, none, none, none, none, none, none]) : f_L_bounds w [a0] Q := ⟨rfl, h⟩
abbrev N_L_subsets : List Str := ["size", "found", "event", "many", "row"]
theorem sc_L_subsets : FnScope N_L_subsets ["size"] (defScope (top 53)) := ⟨rfl, rfl, rfl, by decide +kernel, rfl, by decide +kernel, by decide +kernel⟩
theorem bb_L_subsets : BindsBy "_law_subsets" (top 53) ["size"] := fun _ _ _ _ _ _ us hl => match us, hl with | [_], _ => rfl
def t_L_subsets : T2S :=
  (dSeq (dAsg (tList (dCons (dTup dNil) dNil)) (gN 1))
  (dSeq (dFor (diR1 (dCons (dVar 0) dNil)) (gN 2)
  (dAsg (dOp dAdd (dVar 1) (tList (dLc (diS (dVar 1)) (gN 4) (fun _ Q => Q true) (dOp dAdd (dVar 4) (dTup (dCons (dVar 2) dNil))) [4]))) (gN 1)))
  (dRet (tList (dLc (diS (tList (dCBO dSortD (dCons (tList (dLc (diS (dVar 1)) (gN 4) (fun _ Q => Q true) (dTup (dCons (dCB dLen (dCons (dVar 4) dNil)) (dCons (dVar 4) dNil))) [4])) dNil)))) (gT 2 (gsCons (gN 3) (gsCons (gN 4) gsNil))) (fun _ Q => Q true) (dVar 4) [3, 4])))))
def f_L_subsets : RCD := bodyD N_L_subsets.length 1 t_L_subsets
theorem o_L_subsets {a0 : D} {Q : D → Prop} (h : t_L_subsets { nx := fun _ => Q .none, rt := Q } [some (.dat a0), none, none, none, none]) : f_L_subsets [a0] Q := ⟨rfl, h⟩
abbrev N_L_joint : List Str := ["bounds", "times", "news", "found", "event", "time", "lows", "highs", "other", "value"]
theorem sc_L_joint : FnScope N_L_joint ["bounds", "times", "news"] (defScope (top 51)) := ⟨rfl, rfl, rfl, by decide +kernel, rfl, by decide +kernel, by decide +kernel⟩
theorem bb_L_joint : BindsBy "_law_joint" (top 51) ["bounds", "times", "news"] := fun _ _ _ _ _ _ us hl => match us, hl with | [_, _, _], _ => rfl
def t_L_joint : T2S :=
  (dSeq (dAsgO dNil 3)
  (dSeq (dFor (diR1 (dCons (dCB dLen (dCons (dVar 1) dNil)) dNil)) (gN 4)
  (dSeq (dAsg (dOp dIx (dVar 1) (dVar 4)) (gN 5))
  (dSeq (dAsg (tList (dLc (diS (dVar 2)) (gT 2 (gsCons (gN 8) (gsCons (gN 9) gsNil))) (dB (dOp (dInF false) (dTup (dCons (dVar 4) (dCons (dVar 8) dNil))) (dVar 0))) (dOp dSub (dVar 9) (dOp dGetF (dVar 0) (dTup (dCons (dVar 4) (dCons (dVar 8) dNil))))) [8, 9])) (gN 6))
  (dSeq (dAsg (tList (dLc (diS (dVar 2)) (gT 2 (gsCons (gN 8) (gsCons (gN 9) gsNil))) (dB (dOp (dInF false) (dTup (dCons (dVar 8) (dCons (dVar 4) dNil))) (dVar 0))) (dOp dAdd (dVar 9) (dOp dGetF (dVar 0) (dTup (dCons (dVar 8) (dCons (dVar 4) dNil))))) [8, 9])) (gN 7))
  (dApp 3 (dCB dMinL (dCons (dOp dAdd (tList (dCons (dCB dMaxL (dCons (dOp dAdd (tList (dCons (dVar 5) dNil)) (dVar 6)) dNil)) dNil)) (dVar 7)) dNil)))))))
  (dFrz 3 (dRet (dCB dTupOf (dCons (dVar 3) dNil))))))
def f_L_joint : RCD := bodyD N_L_joint.length 3 t_L_joint
theorem o_L_joint {a0 a1 a2 : D} {Q : D → Prop} (h : t_L_joint { nx := fun _ => Q .none, rt := Q } [some (.dat a0), some (.dat a1), some (.dat a2), none, none, none, none, none, none, none]) : f_L_joint [a0, a1, a2] Q := ⟨rfl, h⟩
abbrev N_L_leads : List Str := ["bounds", "first", "second", "chosen", "event"]
theorem sc_L_leads : FnScope N_L_leads ["bounds", "first", "second", "chosen"] (defScope (top 52)) := ⟨rfl, rfl, rfl, by decide +kernel, rfl, by decide +kernel, by decide +kernel⟩
theorem bb_L_leads : BindsBy "_law_leads" (top 52) ["bounds", "first", "second", "chosen"] := fun _ _ _ _ _ _ us hl => match us, hl with | [_, _, _, _], _ => rfl
def t_L_leads : T2S :=
  (dRet (dOp dEq (dCB f_L_joint (dCons (dVar 0) (dCons (dVar 1) (dCons (dCB dTupOf (dCons (tList (dLc (diS (dVar 3)) (gN 4) (fun _ Q => Q true) (dTup (dCons (dVar 4) (dCons (dOp dIx (dVar 2) (dVar 4)) dNil))) [4])) dNil)) dNil)))) (dVar 2)))
def f_L_leads : RCD := bodyD N_L_leads.length 4 t_L_leads
theorem o_L_leads {a0 a1 a2 a3 : D} {Q : D → Prop} (h : t_L_leads { nx := fun _ => Q .none, rt := Q } [some (.dat a0), some (.dat a1), some (.dat a2), some (.dat a3), none]) : f_L_leads [a0, a1, a2, a3] Q := ⟨rfl, h⟩
abbrev N_L_due : List Str := ["net", "first", "second", "bounds", "found", "chosen", "event"]
theorem sc_L_due : FnScope N_L_due ["net", "first", "second"] (defScope (top 54)) := ⟨rfl, rfl, rfl, by decide +kernel, rfl, by decide +kernel, by decide +kernel⟩
theorem bb_L_due : BindsBy "_law_due" (top 54) ["net", "first", "second"] := fun _ _ _ _ _ _ us hl => match us, hl with | [_, _, _], _ => rfl
def t_L_due (w : World) : T2S :=
  (dSeq (dAsg (dCB (f_L_bounds w) (dCons (dVar 0) dNil)) (gN 3))
  (dSeq (dAsg (tList (dLc (diS (dCB f_L_subsets (dCons (dOp dIx (dVar 0) (dC (.int (0)))) dNil))) (gN 5) (dTru (dCB f_L_leads (dCons (dVar 3) (dCons (dVar 1) (dCons (dVar 2) (dCons (dVar 5) dNil)))))) (dVar 5) [5])) (gN 4))
  (dRet (dCB dTupOf (dCons (tList (dLc (diS (dOp dIx (dVar 4) (dC (.int (0))))) (gN 6) (fun _ Q => Q true) (dTup (dCons (dVar 6) (dCons (dOp dIx (dVar 2) (dVar 6)) dNil))) [6])) dNil)))))
def f_L_due (w : World) : RCD := bodyD N_L_due.length 3 (t_L_due w)
theorem o_L_due {w : World} {a0 a1 a2 : D} {Q : D → Prop} (h : t_L_due w { nx := fun _ => Q .none, rt := Q } [some (.dat a0), some (.dat a1), some (.dat a2), none, none, none, none]) : f_L_due w [a0, a1, a2] Q := ⟨rfl, h⟩
abbrev N_law : List Str := ["script", "stream", "net", "first", "second"]
theorem sc_law : FnScope N_law ["script"] (defScope (top 55)) := ⟨rfl, rfl, rfl, by decide +kernel, rfl, by decide +kernel, by decide +kernel⟩
theorem bb_law : BindsBy "law" (top 55) ["script"] := fun _ _ _ _ _ _ us hl => match us, hl with | [_], _ => rfl
def t_law (w : World) : T2S :=
  (dSeq (dAsg (dCallS 1 f_L_net (dCons (dC (.int (1))) (dCons (dC (.int (5))) (dCons (dC (.int (10))) (dCons (dC (.int (6))) dNil))))) (gT 3 (gsCons (gN 2) (gsCons (gN 3) (gsCons (gN 4) gsNil)))))
  (dSeq (dIfS (dNot (dTru (dCB (f_equal 8) (dCons (dCB f_way (dCons (dVar 2) (dCons (dVar 3) (dCons (dVar 4) dNil)))) (dCons (dCB (f_L_due w) (dCons (dVar 2) (dCons (dVar 3) (dCons (dVar 4) dNil)))) dNil)))))
  (dRet (dC (.bool false)))
  dNext)
  (dSeq (dIfS (dNot (dTru (dCB (f_equal 8) (dCons (dCB f_way (dCons (dVar 2) (dCons (dVar 4) (dCons (dVar 3) dNil)))) (dCons (dCB (f_L_due w) (dCons (dVar 2) (dCons (dVar 4) (dCons (dVar 3) dNil)))) dNil)))))
  (dRet (dC (.bool false)))
  dNext)
  (dRet (dAndV (dCB (f_equal 8) (dCons (dCB f_way (dCons (dVar 2) (dCons (dVar 3) (dCons (dVar 3) dNil)))) (dCons (dTup dNil) dNil))) (dOp dEq (dOp dEq (dCB f_way (dCons (dVar 2) (dCons (dVar 3) (dCons (dVar 4) dNil)))) (dTup dNil)) (dOp dEq (dVar 3) (dVar 4))))))))
local macro_rules | `(tactic| walk_at "Z") => `(tactic| simp only [↓dSeq, ↓dNext, ↓dAsg, ↓dAsgO, ↓dDrop, ↓dRet, ↓dRetN, ↓dIfS, ↓dNever, ↓dBreak, ↓dCont, ↓dFor, ↓forD, ↓dFrz, ↓dFrzM, ↓dNewM, ↓dMIx, ↓dPar, ↓dMSet, ↓dNewD, ↓dPutD, ↓dGetD, ↓dRetPop, ↓dLstRg, ↓dLenOwn, ↓dMaxL, ↓dMinL, ↓dCBK, ↓dLenSet, ↓ownD, ↓dOLen, ↓dOTru, ↓dOIx, ↓diOwn, ↓dPop, ↓dPopA, ↓dAugA, ↓dLstRg2, ↓dInD, ↓dAppPop, ↓dGetF, ↓dInF, ↓dInO, ↓dNewK, ↓dPutK, ↓dGetK, ↓dInK, ↓dGet2K, ↓dCBX, ↓dRaise, ↓dTry, ↓dHs, ↓dXf, ↓dIsX, ↓dFGet1, ↓dOGet2, ↓dDcI, ↓dItemsK, ↓dInW, ↓dCBL, ↓dLv, ↓dOInD, ↓dOIdx, ↓dIns, ↓dSortKF, ↓dSortT, ↓diZipM, ↓dSwap, ↓dLc2, ↓dRngS, ↓diRgV, ↓dTupRg, ↓endsU2, ↓dTruK, ↓dFrzD, ↓dRem, ↓dmaxDf, ↓dminDf, ↓dApp, ↓dExt, ↓dSetIx, ↓dCallS, ↓envD, ↓wipeE, ↓dVar, ↓dC, ↓dOp, ↓dOpO, ↓dUn, ↓dCB, ↓dCBO, ↓dNil, ↓dCons, ↓dTup, ↓tList, ↓dB, ↓dTru, ↓dAnd, ↓dOr, ↓dNot, ↓dAndV, ↓dOrV, ↓dNotV, ↓dIf, ↓dChain, ↓d2I, ↓d2IC, ↓dAdd, ↓dMul, ↓dSub, ↓dDiv, ↓dMod, ↓dPow, ↓dLt, ↓dLe, ↓dGt, ↓dGe, ↓dNeg, ↓dIsN, ↓dNotN, ↓dIsB, ↓dNotBl, ↓dEq, ↓dNe, ↓dIn, ↓dIx, ↓dPart, ↓dNoPart, ↓dSl, ↓dRev, ↓dRevO, ↓dLen, ↓dTupOf, ↓dListOf, ↓dCatL, ↓dRepL, ↓dInt1, ↓dIntOf, ↓dInt2, ↓dIsi, ↓seqOf, ↓gN, ↓gsNil, ↓gsCons, ↓gT, ↓diS, ↓diR1, ↓diEnumA, ↓diZip, ↓diR2, ↓dLc, List.map_cons, List.map_nil, List.cons_append, List.nil_append, ↓List.getElem?_cons_zero, ↓List.getElem?_cons_succ, ↓List.set_cons_zero, ↓List.set_cons_succ, List.replicate, Nat.sub_self, Nat.reduceSub, List.length_cons, List.length_nil, if_true, if_false, Bool.false_eq_true, Bool.true_eq_false, Bool.not_true, Bool.not_false, reduceIte, reduceCtorEq, and_true, true_and, Nat.reduceAdd])
local macro_rules | `(tactic| walk_at "DZ") => `(tactic| dsimp only [↓dSeq, ↓dNext, ↓dAsg, ↓dAsgO, ↓dDrop, ↓dRet, ↓dRetN, ↓dIfS, ↓dNever, ↓dBreak, ↓dCont, ↓dFor, ↓forD, ↓dFrz, ↓dFrzM, ↓dNewM, ↓dMIx, ↓dPar, ↓dMSet, ↓dNewD, ↓dPutD, ↓dGetD, ↓dRetPop, ↓dLstRg, ↓dLenOwn, ↓dMaxL, ↓dMinL, ↓dCBK, ↓dLenSet, ↓ownD, ↓dOLen, ↓dOTru, ↓dOIx, ↓diOwn, ↓dPop, ↓dPopA, ↓dAugA, ↓dLstRg2, ↓dInD, ↓dAppPop, ↓dGetF, ↓dInF, ↓dInO, ↓dNewK, ↓dPutK, ↓dGetK, ↓dInK, ↓dGet2K, ↓dCBX, ↓dRaise, ↓dTry, ↓dHs, ↓dXf, ↓dIsX, ↓dFGet1, ↓dOGet2, ↓dDcI, ↓dItemsK, ↓dInW, ↓dCBL, ↓dLv, ↓dOInD, ↓dOIdx, ↓dIns, ↓dSortKF, ↓dSortT, ↓diZipM, ↓dSwap, ↓dLc2, ↓dRngS, ↓diRgV, ↓dTupRg, ↓endsU2, ↓dTruK, ↓dFrzD, ↓dRem, ↓dmaxDf, ↓dminDf, ↓dApp, ↓dExt, ↓dSetIx, ↓dCallS, ↓envD, ↓wipeE, ↓dVar, ↓dC, ↓dOp, ↓dOpO, ↓dUn, ↓dCB, ↓dCBO, ↓dNil, ↓dCons, ↓dTup, ↓tList, ↓dB, ↓dTru, ↓dAnd, ↓dOr, ↓dNot, ↓dAndV, ↓dOrV, ↓dNotV, ↓dIf, ↓dChain, ↓d2I, ↓d2IC, ↓dAdd, ↓dMul, ↓dSub, ↓dDiv, ↓dMod, ↓dPow, ↓dLt, ↓dLe, ↓dGt, ↓dGe, ↓dNeg, ↓dIsN, ↓dNotN, ↓dIsB, ↓dNotBl, ↓dEq, ↓dNe, ↓dIn, ↓dIx, ↓dPart, ↓dNoPart, ↓dSl, ↓dRev, ↓dRevO, ↓dLen, ↓dTupOf, ↓dListOf, ↓dCatL, ↓dRepL, ↓dInt1, ↓dIntOf, ↓dInt2, ↓dIsi, ↓seqOf, ↓gN, ↓gsNil, ↓gsCons, ↓gT, ↓diS, ↓diR1, ↓diEnumA, ↓diZip, ↓diR2, ↓dLc, ↓List.getElem?_cons_zero, ↓List.getElem?_cons_succ, ↓List.set_cons_zero, ↓List.set_cons_succ, List.getElem?_cons_zero, List.getElem?_cons_succ, List.set_cons_zero, List.set_cons_succ, List.map_cons, List.map_nil, List.cons_append, List.nil_append, List.replicate, List.length_cons, List.length_nil, Bool.not_true, Bool.not_false])
theorem is_whole_ok (v : D) (Q : D → Prop) (q : Q (.bool (whI v))) : f_is_whole [v] Q := by
  refine ⟨rfl, ?_⟩
  show t_is_whole _ _
  unfold t_is_whole
  walk_at "Z"
  rw [isT_int, isT_bool]
  cases v <;> simpa [isI, isB, whI] using q
theorem is_integer_ok (v : D) (l g : Int) (Q : D → Prop) (q : Q (.bool (inI v l g))) : f_is_integer [v, .int l, .int g] Q := by
  refine ⟨rfl, ?_⟩
  show t_is_integer _ _
  unfold t_is_integer
  walk_at "DZ"
  refine is_whole_ok _ _ ?_
  cases v <;> simp only [whI, inI, if_true, if_false, Bool.false_eq_true, reduceIte] at q ⊢ <;> try exact q
  rename_i i
  by_cases h : l ≤ i
  · simpa [h] using q
  · simpa [h] using q
theorem L_is_integer_ok (v : D) (Q : D → Prop) (q : Q (.bool (isI v && !isB v))) : f_L_is_integer [v] Q := by
  refine ⟨rfl, ?_⟩
  show t_L_is_integer _ _
  unfold t_L_is_integer
  walk_at "Z"
  rw [isT_int, isT_bool]
  cases v <;> simpa [isI, isB] using q
theorem lc_pairs {n : Nat} {as bs : List D} {Q : D → Prop} (hl : as.length = bs.length) (hb : bs.length ≤ 1000000) (ok : bs.all (okD n) = true) (ca : PyData.canLayAll0 as = true) (cb : PyData.canLayAll0 bs = true) (q : Q (.bool (sqs as bs))) {env : Ev}
    (h0 : env[0]? = some (some (.dat (.list as))) ∨ env[0]? = some (some (.dat (.tuple as)))) (h1 : env[1]? = some (some (.dat (.list bs))) ∨ env[1]? = some (some (.dat (.tuple bs)))) (h2 : 2 < env.length) :
    lcD (gN 2) (fun _ Q => Q true) (dCB (f_equal n) (dCons (dOp dIx (dVar 0) (dVar 2)) (dCons (dOp dIx (dVar 1) (dVar 2)) dNil))) env (dRange 0 bs.length)
      (fun ys => (dBools fun bs => bs.all id) [.list ys] Q) := by
  refine lc_map (fun d => match d with | .int i => PyData.bool (sq (as.getD i.toNat .none) (bs.getD i.toNat .none)) | _ => .none) (fun d hd R hR => ?_) ?_
  · obtain ⟨i, hi, rfl⟩ := mem_dRange hd
    have ea : as[i]? = some as[i] := List.getElem?_eq_getElem (by omega)
    have eb : bs[i]? = some bs[i] := List.getElem?_eq_getElem hi
    have e2 : (env.set 2 (some (.dat (.int (0 + (i : Nat))))))[2]? = some (some (.dat (.int (0 + (i : Nat))))) := List.getElem?_set_self h2
    have e0 : (env.set 2 (some (.dat (.int (0 + (i : Nat))))))[0]? = env[0]? := List.getElem?_set_ne (by decide)
    have e1 : (env.set 2 (some (.dat (.int (0 + (i : Nat))))))[1]? = env[1]? := List.getElem?_set_ne (by decide)
    have fin : f_equal n [as[i], bs[i]] R := by
      refine ⟨List.all_eq_true.mp ok _ (List.getElem_mem hi), canLayAll_mem ca _ (List.getElem_mem _), canLayAll_mem cb _ (List.getElem_mem hi), ?_⟩
      dsimp only at hR
      rw [Int.zero_add, Int.toNat_natCast, List.getD_eq_getElem?_getD, List.getD_eq_getElem?_getD, ea, eb] at hR
      exact hR
    rcases h0 with h0 | h0 <;> rcases h1 with h1 | h1 <;>
      simp only [gN, dCB, dCons, dNil, dOp, dIx, dVar, e0, e1, e2, h0, h1, seqOf, atI_ge ea, atI_ge eb] <;> exact fin
  · have e : (dRange 0 bs.length).map (fun d => match d with | .int i => PyData.bool (sq (as.getD i.toNat .none) (bs.getD i.toNat .none)) | _ => .none) = (List.range bs.length).map fun i => PyData.bool (sq (as.getD i .none) (bs.getD i .none)) := by
      unfold dRange
      rw [List.map_map]
      refine List.map_congr_left fun i _ => ?_
      show PyData.bool _ = PyData.bool _
      rw [Int.zero_add, Int.toNat_natCast]
    rw [e]
    unfold dBools
    dsimp only
    rw [allBool_map]
    dsimp only
    rw [sqs_all as bs hl] at q
    rw [List.all_map]
    exact q
theorem t_equal_ok (n : Nat) (a d : D) (Q : D → Prop) (ok : okD (n + 1) d = true) (ca : PyData.canLay0 a = true) (cd : PyData.canLay0 d = true) (q : Q (.bool (sq a d))) : bodyD N_L_equal.length 2 (t_L_equal n) [a, d] Q := by
  refine ⟨rfl, ?_⟩
  show t_L_equal n _ _
  unfold t_L_equal
  walk_at "Z"
  simp only [isT_int, isT_bool, isT_str, isT_list, isT_tuple, isNone]
  cases d with
  | none => cases a <;> simpa [sq] using q
  | bool b =>
    cases a <;> simp only [isB, if_true, if_false, Bool.false_eq_true, reduceIte, shaped_bool, true_and] <;> simpa [sq, PyData.eqv] using q
  | int b =>
    simp only [isB, isI, if_true, if_false, Bool.false_eq_true, reduceIte]
    refine L_is_integer_ok a _ ?_
    cases a <;> simp only [isB, isI, if_true, if_false, Bool.false_eq_true, reduceIte, shaped_int, true_and, Bool.not_true, Bool.not_false, Bool.and_true, Bool.and_false, Bool.false_and, Bool.true_and] <;> simpa [sq, PyData.eqv] using q
  | str b =>
    have sb := shaped_str cd
    cases a <;> simp only [isB, isI, isS, if_true, if_false, Bool.false_eq_true, reduceIte, sb] <;> try (simpa [sq, PyData.eqv] using q)
    rw [show SeqAt.shaped _ = true from shaped_str ca]
    simpa [sq, PyData.eqv] using q
  | dict b => simp [okD] at ok
  | tuple bs =>
    unfold okD at ok
    rw [Bool.and_eq_true] at ok
    unfold PyData.canLay0 at cd
    cases a <;> simp only [isB, isI, isS, isTu, isLi, if_true, if_false, Bool.false_eq_true, reduceIte, Bool.not_true, Bool.not_false] <;> try (simpa [sq] using q)
    rename_i as
    unfold PyData.canLay0 at ca
    simp only [shaped_int, true_and, PyData.eqv]
    have hb := of_decide_eq_true ok.1
    by_cases hl : as.length = bs.length
    · have e : ((as.length : Int) == (bs.length : Int)) = true := by rw [hl]; simp
      simp only [e, Bool.not_true, Bool.false_eq_true, if_false]
      refine ⟨by omega, by omega, ?_⟩
      have e2 : ((bs.length : Int)).toNat = bs.length := Int.toNat_natCast _
      rw [e2]
      refine ⟨by rw [dRange_length]; exact hb, ?_⟩
      refine lc_pairs hl hb ok.2 ca cd ?_ (.inr rfl) (.inr rfl) (by show 2 < 3; decide)
      unfold sq at q
      exact q
    · have e : ((as.length : Int) == (bs.length : Int)) = false := by
        apply beq_eq_false_iff_ne.mpr
        omega
      simp only [e, Bool.not_false, if_true]
      have z : sqs as bs = false := by
        cases h : sqs as bs with
        | false => rfl
        | true => exact absurd (sqs_len _ _ h) hl
      unfold sq at q
      dsimp only at q
      rw [z] at q
      exact q
  | list bs =>
    unfold okD at ok
    rw [Bool.and_eq_true] at ok
    unfold PyData.canLay0 at cd
    cases a <;> simp only [isB, isI, isS, isTu, isLi, if_true, if_false, Bool.false_eq_true, reduceIte, Bool.not_true, Bool.not_false] <;> try (simpa [sq] using q)
    rename_i as
    unfold PyData.canLay0 at ca
    simp only [shaped_int, true_and, PyData.eqv]
    have hb := of_decide_eq_true ok.1
    by_cases hl : as.length = bs.length
    · have e : ((as.length : Int) == (bs.length : Int)) = true := by rw [hl]; simp
      simp only [e, Bool.not_true, Bool.false_eq_true, if_false]
      refine ⟨by omega, by omega, ?_⟩
      have e2 : ((bs.length : Int)).toNat = bs.length := Int.toNat_natCast _
      rw [e2]
      refine ⟨by rw [dRange_length]; exact hb, ?_⟩
      refine lc_pairs hl hb ok.2 ca cd ?_ (.inl rfl) (.inl rfl) (by show 2 < 3; decide)
      unfold sq at q
      exact q
    · have e : ((as.length : Int) == (bs.length : Int)) = false := by
        apply beq_eq_false_iff_ne.mpr
        omega
      simp only [e, Bool.not_false, if_true]
      have z : sqs as bs = false := by
        cases h : sqs as bs with
        | false => rfl
        | true => exact absurd (sqs_len _ _ h) hl
      unfold sq at q
      dsimp only at q
      rw [z] at q
      exact q
/- nets -/
def SideOk (far : Int) (d : D) : Prop := d = .none ∨ ∃ i : Int, d = .int i ∧ -far ≤ i ∧ i ≤ far
def RuleOk (size far : Int) (y : D) : Prop := ∃ (s e : Int) (lo hi : D), y = .tuple [.int s, .int e, lo, hi] ∧ 0 ≤ s ∧ s < size ∧ 0 ≤ e ∧ e < size ∧ s ≠ e ∧ SideOk far lo ∧ SideOk far hi ∧ ¬ (lo = .none ∧ hi = .none)
theorem is_event_ok (v : D) (size : Int) (Q : D → Prop) (q : Q (.bool (inI v 0 (size - 1)))) : f_is_event [v, .int size] Q := by
  refine ⟨rfl, ?_⟩
  show t_is_event _ _
  unfold t_is_event
  walk_at "Z"
  exact is_integer_ok v 0 (size - 1) Q q
def sideB (v : D) : Bool := isNone v || inI v (-100) 100
theorem is_side_ok (v : D) (Q : D → Prop) (q : Q (.bool (sideB v))) : f_is_side [v] Q := by
  refine ⟨rfl, ?_⟩
  show t_is_side _ _
  unfold t_is_side
  walk_at "Z"
  cases v <;> simp only [sideB, isNone, Bool.true_or, Bool.false_or, if_true, if_false, Bool.false_eq_true, reduceIte] at q ⊢ <;> first | exact q | exact is_integer_ok _ (-100) 100 Q q
def ruleB (v : D) (size : Int) : Bool := match v with
  | .tuple [s, e, l, h] => inI s 0 (size - 1) && inI e 0 (size - 1) && !(PyData.eqv s e) && !(isNone l && isNone h) && sideB l && sideB h
  | _ => false
theorem is_rule_ok (v : D) (size : Int) (Q : D → Prop) (q : Q (.bool (ruleB v size))) : f_is_rule [v, .int size] Q := by
  refine ⟨rfl, ?_⟩
  show t_is_rule _ _
  unfold t_is_rule
  walk_at "Z"
  simp only [isT_tuple]
  cases v with
  | tuple xs =>
    simp only [isTu, Bool.not_true, if_false, Bool.false_eq_true, reduceIte, shaped_int, true_and, eqv_intD]
    by_cases hl : xs.length = 4
    · match xs, hl with
      | [s, e, l, h], _ =>
        have e4 : decide ((([s, e, l, h] : List D).length : Int) = 4) = true := rfl
        simp only [e4, Bool.not_true, Bool.false_eq_true, if_false]
        simp only [List.length_cons, List.length_nil, Nat.reduceAdd, true_and]
        refine is_event_ok s size _ ?_
        dsimp only
        cases hs : inI s 0 (size - 1) with
        | false => simpa [ruleB, hs] using q
        | true =>
          simp only [Bool.not_true, Bool.false_eq_true, if_false]
          refine is_event_ok e size _ ?_
          dsimp only
          cases he : inI e 0 (size - 1) with
          | false => simpa [ruleB, hs, he] using q
          | true =>
            simp only [Bool.not_true, Bool.false_eq_true, if_false]
            obtain ⟨i, rfl, _, _⟩ := inI_int hs
            obtain ⟨j, rfl, _, _⟩ := inI_int he
            refine ⟨shaped_int _, shaped_int _, ?_⟩
            rw [eqv_intD]
            by_cases hij : i = j
            · simpa [ruleB, hs, he, hij, eqv_intD] using q
            · simp only [hij, decide_false, Bool.false_eq_true, if_false]
              have fin : ∀ l h : D, (isNone l && isNone h) = false → Q (.bool (sideB l && sideB h)) → f_is_side [l] fun d => match d with
                  | PyData.bool c => if c = true then f_is_side [h] Q else Q (PyData.bool false)
                  | x => False := fun l h _ q => by
                refine is_side_ok l _ ?_
                dsimp only
                cases hl : sideB l with
                | false => simpa [hl] using q
                | true =>
                  simp only [if_true]
                  refine is_side_ok h _ ?_
                  simpa [hl] using q
              cases hl : isNone l with
              | false =>
                simp only [Bool.false_eq_true, if_false]
                refine fin l h (by rw [hl]; rfl) ?_
                simpa [ruleB, hs, he, hij, eqv_intD, hl] using q
              | true =>
                cases hh : isNone h with
                | true => simpa [ruleB, hs, he, hij, eqv_intD, hl, hh] using q
                | false =>
                  simp only [Bool.false_eq_true, if_false, if_true]
                  refine fin l h (by rw [hl, hh]; rfl) ?_
                  simpa [ruleB, hs, he, hij, eqv_intD, hl, hh] using q
    · have e4 : decide ((xs.length : Int) = 4) = false := decide_eq_false (by omega)
      simp only [e4, Bool.not_false, if_true]
      have z : ruleB (.tuple xs) size = false := by
        unfold ruleB
        split
        · rename_i z; cases z; exact absurd rfl hl
        · rfl
      rw [z] at q
      exact q
  | _ => simpa only [isTu, ruleB, Bool.not_false, if_true] using q
def netB (v : D) : Bool := match v with
  | .tuple [.int n, .tuple rs] => inI (.int n) 1 6 && decide (rs.length ≤ 12) && rs.all (ruleB · n)
  | _ => false
theorem is_net_ok (v : D) (Q : D → Prop) (q : Q (.bool (netB v))) : f_is_net [v] Q := by
  refine ⟨rfl, ?_⟩
  show t_is_net _ _
  unfold t_is_net
  walk_at "Z"
  simp only [isT_tuple]
  cases v with
  | tuple xs =>
    simp only [isTu, Bool.not_true, if_false, Bool.false_eq_true, reduceIte, shaped_int, true_and, eqv_intD]
    by_cases hl : xs.length = 2
    · match xs, hl with
      | [s, r], _ =>
        have e4 : decide ((([s, r] : List D).length : Int) = 2) = true := rfl
        simp only [e4, Bool.not_true, Bool.false_eq_true, if_false]
        simp only [List.length_cons, List.length_nil, Nat.reduceAdd, true_and]
        refine is_integer_ok s 1 6 _ ?_
        dsimp only
        cases hs : inI s 1 6 with
        | false =>
          simp only [Bool.not_false, if_true]
          have z : netB (.tuple [s, r]) = false := by
            unfold netB
            split
            · rename_i z; cases z; rw [hs]; rfl
            · rfl
          rw [z] at q; exact q
        | true =>
          simp only [Bool.not_true, Bool.false_eq_true, if_false]
          obtain ⟨n, rfl, _, _⟩ := inI_int hs
          cases r with
          | tuple rs =>
            simp only [isTu, Bool.not_true, if_false, Bool.false_eq_true, reduceIte]
            by_cases h12 : rs.length ≤ 12
            · have e12 : decide ((12 : Int) < (rs.length : Int)) = false := decide_eq_false (by omega)
              simp only [e12, Bool.false_eq_true, if_false]
              refine ⟨by omega, ?_⟩
              refine lc_map (fun d => PyData.bool (ruleB d n)) (fun d _ R hR => ?_) ?_
              · walk_at "Z"
                exact is_rule_ok d n R hR
              · unfold dBools
                dsimp only
                rw [allBool_map]
                dsimp only
                rw [List.all_map]
                simp only [netB, hs, decide_eq_true h12, Bool.true_and] at q
                exact q
            · have e12 : decide ((12 : Int) < (rs.length : Int)) = true := decide_eq_true (by omega)
              simp only [e12, if_true]
              simpa [netB, h12] using q
          | _ => simpa only [isTu, netB, Bool.not_false, if_true] using q
    · have e4 : decide ((xs.length : Int) = 2) = false := decide_eq_false (by omega)
      simp only [e4, Bool.not_false, if_true]
      have z : netB (.tuple xs) = false := by
        unfold netB
        split
        · rename_i z; cases z; exact absurd rfl hl
        · rfl
      rw [z] at q
      exact q
  | _ => simpa only [isTu, netB, Bool.not_false, if_true] using q
theorem rule_good {n far : Int} {r : D} (hf : far ≤ 100) (h : RuleOk n far r) : ruleB r n = true := by
  obtain ⟨s, e, lo, hi, rfl, s0, s1, e0, e1, hne, hl, hh, hb⟩ := h
  have side : ∀ d, SideOk far d → sideB d = true := fun d hd => by
    rcases hd with rfl | ⟨i, rfl, i0, i1⟩
    · rfl
    · simp only [sideB, inI, decide_eq_true (show -100 ≤ i by omega), decide_eq_true (show i ≤ 100 by omega), Bool.and_true, Bool.or_true]
  have hn : (isNone lo && isNone hi) = false := by
    cases lo <;> cases hi <;> first | rfl | exact absurd ⟨rfl, rfl⟩ hb
  have d1 : decide (0 ≤ s) = true := decide_eq_true s0
  have d2 : decide (s ≤ n - 1) = true := decide_eq_true (by omega)
  have d3 : decide (0 ≤ e) = true := decide_eq_true e0
  have d4 : decide (e ≤ n - 1) = true := decide_eq_true (by omega)
  simp only [ruleB, inI, d1, d2, d3, d4, eqv_intD, decide_eq_false hne, hn, side lo hl, side hi hh, Bool.and_true, Bool.not_false]
theorem net_good {n far : Int} {rs : List D} (hf : far ≤ 100) (h0 : 1 ≤ n) (h1 : n ≤ 6) (h2 : rs.length ≤ 12) (h3 : ∀ r ∈ rs, RuleOk n far r) : netB (.tuple [.int n, .tuple rs]) = true := by
  simp only [netB, inI, decide_eq_true h0, decide_eq_true h1, decide_eq_true h2, Bool.and_true, Bool.true_and]
  exact List.all_eq_true.mpr fun r hr => rule_good hf (h3 r hr)
theorem check_net_ok {v : D} {Q : D → Prop} (h : netB v = true) (q : Q .none) : f_check_net [v] Q := by
  refine o_check_net ?_
  unfold t_check_net
  walk_at "DZ"
  refine is_net_ok _ _ ?_
  rw [h]
  exact q
structure Ed where
  k : Nat
  d : Str
  s : Int
  e : Int
  w : Int
def eV (x : Ed) : D := .tuple [.int (x.k : Nat), .str x.d]
def eD (x : Ed) : D := .tuple [eV x, .int x.s, .int x.e, .int x.w]
def hiE (k : Nat) (s e : Int) : D → List Ed | .int h => [⟨k, "high", s, e, h⟩] | _ => []
def loE (k : Nat) (s e : Int) : D → List Ed | .int l => [⟨k, "low", e, s, -l⟩] | _ => []
def edR (k : Nat) : D → List Ed | .tuple [.int s, .int e, lo, hi] => hiE k s e hi ++ loE k s e lo | _ => []
def edN (rs : List D) (n : Nat) : List Ed := (List.range n).flatMap fun k => edR k (rs.getD k .none)
theorem edN_succ (rs : List D) (n : Nat) : edN rs (n + 1) = edN rs n ++ edR n (rs.getD n .none) := by
  unfold edN
  rw [List.range_succ, List.flatMap_append, List.flatMap_singleton]
theorem edR_le (k : Nat) (r : D) : (edR k r).length ≤ 2 := by
  unfold edR
  split
  · rename_i s e lo hi
    have h1 : (hiE k s e hi).length ≤ 1 := by unfold hiE; split <;> simp
    have h2 : (loE k s e lo).length ≤ 1 := by unfold loE; split <;> simp
    rw [List.length_append]
    omega
  · simp
theorem edN_le (rs : List D) : ∀ n : Nat, (edN rs n).length ≤ 2 * n
  | 0 => by simp [edN]
  | n + 1 => by
    rw [edN_succ, List.length_append]
    have := edN_le rs n
    have := edR_le n (rs.getD n .none)
    omega
def crH (s e : Int) : D → D | .int h => .tuple [.int s, .int e, .int h] | _ => .none
def crL (s e : Int) : D → D | .int l => .tuple [.int e, .int s, .int (-l)] | _ => .none
theorem sides_ne : PyData.eqv (.str "high") (.str "high") = true ∧ PyData.eqv (.str "low") (.str "low") = true ∧ PyData.eqv (.str "high") (.str "low") = false ∧ PyData.eqv (.str "low") (.str "high") = false := by decide
theorem sides_lay : PyData.canLay0 (.str "high") = true ∧ PyData.canLay0 (.str "low") = true := by first | exact ⟨rfl, rfl⟩ | decide +kernel
theorem sides_sh : SeqAt.shaped (.str "high") = true ∧ SeqAt.shaped (.str "low") = true := ⟨shaped_str sides_lay.1, shaped_str sides_lay.2⟩
theorem edge_course_hi {n s e far : Int} {rs : List D} {k : Nat} {lo hi : D} {Q : D → Prop} (hr : rs[k]? = some (.tuple [.int s, .int e, lo, hi])) (sh : SideOk far hi) (sl : SideOk far lo) (q : Q (crH s e hi)) : f_edge_course [.tuple [.int n, .tuple rs], .tuple [.int (k : Nat), .str "high"]] Q := by
  refine o_edge_course ?_
  unfold t_edge_course
  have a1 : atI [PyData.int n, PyData.tuple rs] 1 = some (.tuple rs) := rfl
  have hk : k < rs.length := by
    apply Classical.byContradiction
    intro hn
    rw [List.getElem?_eq_none (by omega)] at hr
    cases hr
  have ar : atI rs (k : Int) = some (.tuple [.int s, .int e, lo, hi]) := atI_nat hr
  have hin : inI (.int (k : Nat)) 0 ((rs.length : Int) - 1) = true := inI_good (by omega) (by omega)
  walk_at "DZ"
  simp only [isT_tuple, isTu, Bool.not_true, Bool.false_eq_true, if_false]
  refine ⟨shaped_int _, shaped_int _, ?_⟩
  rw [eqv_intD]
  rw [if_neg (by decide)]
  refine ⟨trivial, ?_⟩
  rw [a1]
  dsimp only
  refine is_integer_ok _ _ _ _ ?_
  rw [hin]
  dsimp only
  simp only [isT_str, isS, Bool.not_true, Bool.false_eq_true, if_false]
  rw [ar]
  dsimp only
  refine ⟨rfl, sides_sh.1, sides_sh.1, ?_⟩
  simp only [sides_ne.1, sides_ne.2.2.1, if_true, Bool.false_eq_true, if_false]
  rcases sh with rfl | ⟨h, rfl, _, _⟩
  · simp only [isNone, Bool.not_true, Bool.false_eq_true, if_false]
    exact ⟨sides_sh.1, sides_sh.2, q⟩
  · exact q
theorem edge_course_lo {n s e far : Int} {rs : List D} {k : Nat} {lo hi : D} {Q : D → Prop} (hr : rs[k]? = some (.tuple [.int s, .int e, lo, hi])) (sh : SideOk far hi) (sl : SideOk far lo) (q : Q (crL s e lo)) : f_edge_course [.tuple [.int n, .tuple rs], .tuple [.int (k : Nat), .str "low"]] Q := by
  refine o_edge_course ?_
  unfold t_edge_course
  have a1 : atI [PyData.int n, PyData.tuple rs] 1 = some (.tuple rs) := rfl
  have hk : k < rs.length := by
    apply Classical.byContradiction
    intro hn
    rw [List.getElem?_eq_none (by omega)] at hr
    cases hr
  have ar : atI rs (k : Int) = some (.tuple [.int s, .int e, lo, hi]) := atI_nat hr
  have hin : inI (.int (k : Nat)) 0 ((rs.length : Int) - 1) = true := inI_good (by omega) (by omega)
  walk_at "DZ"
  simp only [isT_tuple, isTu, Bool.not_true, Bool.false_eq_true, if_false]
  refine ⟨shaped_int _, shaped_int _, ?_⟩
  rw [eqv_intD]
  rw [if_neg (by decide)]
  refine ⟨trivial, ?_⟩
  rw [a1]
  dsimp only
  refine is_integer_ok _ _ _ _ ?_
  rw [hin]
  dsimp only
  simp only [isT_str, isS, Bool.not_true, Bool.false_eq_true, if_false]
  rw [ar]
  dsimp only
  refine ⟨rfl, sides_sh.2, sides_sh.1, ?_⟩
  simp only [sides_ne.2.1, sides_ne.2.2.2, if_true, Bool.false_eq_true, if_false]
  refine ⟨sides_sh.2, sides_sh.2, ?_⟩
  rcases sl with rfl | ⟨h, rfl, _, _⟩
  · exact q
  · exact q
theorem mem_crH {k : Nat} {s e : Int} {hi : D} {far : Int} (sh : SideOk far hi) : (crH s e hi = .none ∧ hiE k s e hi = []) ∨ ∃ h, crH s e hi = .tuple [.int s, .int e, .int h] ∧ hiE k s e hi = [⟨k, "high", s, e, h⟩] := by
  rcases sh with rfl | ⟨h, rfl, _, _⟩
  · exact .inl ⟨rfl, rfl⟩
  · exact .inr ⟨h, rfl, rfl⟩
theorem mem_crL {k : Nat} {s e : Int} {lo : D} {far : Int} (sh : SideOk far lo) : (crL s e lo = .none ∧ loE k s e lo = []) ∨ ∃ h, crL s e lo = .tuple [.int e, .int s, .int h] ∧ loE k s e lo = [⟨k, "low", e, s, h⟩] := by
  rcases sh with rfl | ⟨h, rfl, _, _⟩
  · exact .inl ⟨rfl, rfl⟩
  · exact .inr ⟨-h, rfl, rfl⟩
/-- what a drawn net and one of its rules are -/
structure NR (n far : Int) (rs : List D) : Prop where
  n0 : 1 ≤ n
  n1 : n ≤ 6
  fa : far ≤ 100
  rl : rs.length ≤ 12
  ro : ∀ r ∈ rs, RuleOk n far r
theorem all_edges_ok {n far : Int} {rs : List D} {Q : D → Prop} (h : NR n far rs) (q : Q (.tuple ((edN rs rs.length).map eD))) : f_all_edges [.tuple [.int n, .tuple rs]] Q := by
  have hl := edN_le rs
  have h12 := h.rl
  refine o_all_edges ?_
  unfold t_all_edges
  refine seq_gen fun N hN => ?_
  walk_at "DZ"
  subst hN
  refine seq_gen fun N hN => ?_
  have a1 : atI [PyData.int n, PyData.tuple rs] 1 = some (.tuple rs) := rfl
  unfold dFor
  walk_at "DZ"
  rw [a1]
  dsimp only
  refine ⟨by omega, by omega, ?_⟩
  rw [Int.toNat_natCast]
  refine for_inv (fun i env => ∃ a b c d e f : Option Sl, env = [some (.dat (.tuple [.int n, .tuple rs])), some (.own ((edN rs i).map eD)), a, b, c, d, e, f]) (fun i d env hd hi M hM => ?_) (fun env hi => ?_) ⟨_, _, _, _, _, _, rfl⟩
  · obtain ⟨a, b, c, d', e, f, rfl⟩ := hi
    have hi : i < rs.length := by
      apply Classical.byContradiction
      intro hn
      rw [List.getElem?_eq_none (by rw [dRange_length]; omega)] at hd
      cases hd
    obtain rfl : d = .int (i : Nat) := by
      unfold dRange at hd
      rw [List.getElem?_map, List.getElem?_range hi, Option.map_some, Int.zero_add] at hd
      exact (Option.some.inj hd).symm
    have ei : rs[i]? = some rs[i] := List.getElem?_eq_getElem hi
    have hr := h.ro rs[i] (List.getElem_mem hi)
    obtain ⟨s, e', lo, hi', hre, s0, s1, e0, e1, hne, sl, sh, hb⟩ := hr
    rw [hre] at ei
    have es : edN rs (i + 1) = edN rs i ++ (hiE i s e' hi' ++ loE i s e' lo) := by
      rw [edN_succ, getD_some ei]
      rfl
    walk_at "DZ"
    have hle := hl i
    refine edge_course_hi ei sh sl ?_
    rcases mem_crH (k := i) (s := s) (e := e') sh with ⟨z1, z2⟩ | ⟨w1, z1, z2⟩
    · rw [z1]
      simp only [isNone, Bool.not_true, Bool.false_eq_true, if_false]
      refine edge_course_lo ei sh sl ?_
      rcases mem_crL (k := i) (s := s) (e := e') sl with ⟨y1, y2⟩ | ⟨w2, y1, y2⟩
      · rw [y1]
        simp only [Bool.not_true, Bool.false_eq_true, if_false]
        have el : (edN rs i).map eD = (edN rs (i + 1)).map eD := by rw [es, z2, y2, List.append_nil, List.append_nil]
        rw [el]
        exact hM _ ⟨_, _, _, _, _, _, rfl⟩
      · rw [y1]
        simp only [Bool.not_false, if_true]
        have el : (edN rs i).map eD ++ [eD ⟨i, "low", e', s, w2⟩] = (edN rs (i + 1)).map eD := by rw [es, z2, y2, List.map_append]; rfl
        refine ⟨rfl, by rw [List.length_map]; omega, ?_⟩
        exact hM _ ⟨_, _, _, _, _, _, by rw [← el]; rfl⟩
    · rw [z1]
      simp only [isNone, Bool.not_false, if_true]
      refine ⟨rfl, by rw [List.length_map]; omega, ?_⟩
      refine edge_course_lo ei sh sl ?_
      rcases mem_crL (k := i) (s := s) (e := e') sl with ⟨y1, y2⟩ | ⟨w2, y1, y2⟩
      · rw [y1]
        simp only [Bool.not_true, Bool.false_eq_true, if_false]
        have el : (edN rs i).map eD ++ [eD ⟨i, "high", s, e', w1⟩] = (edN rs (i + 1)).map eD := by rw [es, z2, y2, List.map_append]; rfl
        exact hM _ ⟨_, _, _, _, _, _, by rw [← el]; rfl⟩
      · rw [y1]
        simp only [Bool.not_false, if_true]
        have el : (edN rs i).map eD ++ [eD ⟨i, "high", s, e', w1⟩] ++ [eD ⟨i, "low", e', s, w2⟩] = (edN rs (i + 1)).map eD := by rw [es, z2, y2, List.map_append, List.append_assoc]; rfl
        refine ⟨rfl, by rw [List.length_append, List.length_map]; show _ + 1 < _; omega, ?_⟩
        exact hM _ ⟨_, _, _, _, _, _, by rw [← el]; rfl⟩
  · obtain ⟨a, b, c, d, e, f, rfl⟩ := hi
    subst hN
    walk_at "DZ"
    rw [dRange_length]
    exact q
theorem mem_ed {n far : Int} {rs : List D} {x : Ed} (h : ∀ r ∈ rs, RuleOk n far r) (hx : x ∈ edN rs rs.length) :
    ∃ s e lo hi, rs[x.k]? = some (.tuple [.int s, .int e, lo, hi]) ∧ 0 ≤ s ∧ s < n ∧ 0 ≤ e ∧ e < n ∧ SideOk far lo ∧ SideOk far hi ∧
      ((x = ⟨x.k, "high", s, e, x.w⟩ ∧ hi = .int x.w) ∨ (x = ⟨x.k, "low", e, s, x.w⟩ ∧ lo = .int (-x.w))) := by
  unfold edN at hx
  obtain ⟨k, hk, hx⟩ := List.mem_flatMap.mp hx
  have hk := List.mem_range.mp hk
  have ei : rs[k]? = some rs[k] := List.getElem?_eq_getElem hk
  obtain ⟨s, e, lo, hi, hre, s0, s1, e0, e1, hne, sl, sh, hb⟩ := h rs[k] (List.getElem_mem hk)
  rw [hre] at ei
  rw [getD_some ei] at hx
  have hx : x ∈ hiE k s e hi ++ loE k s e lo := hx
  rcases List.mem_append.mp hx with hx | hx
  · rcases sh with rfl | ⟨w, rfl, w0, w1⟩
    · exact absurd hx List.not_mem_nil
    · obtain rfl := List.mem_singleton.mp hx
      exact ⟨s, e, lo, _, ei, s0, s1, e0, e1, sl, .inr ⟨w, rfl, w0, w1⟩, .inl ⟨rfl, rfl⟩⟩
  · rcases sl with rfl | ⟨w, rfl, w0, w1⟩
    · exact absurd hx List.not_mem_nil
    · obtain rfl := List.mem_singleton.mp hx
      refine ⟨s, e, _, hi, ei, s0, s1, e0, e1, .inr ⟨w, rfl, w0, w1⟩, sh, .inr ⟨rfl, ?_⟩⟩
      show PyData.int w = PyData.int (- -w)
      rw [Int.neg_neg]
theorem edge_course_ok {n far : Int} {rs : List D} {x : Ed} {Q : D → Prop} (h : NR n far rs) (hx : x ∈ edN rs rs.length) (q : Q (.tuple [.int x.s, .int x.e, .int x.w])) : f_edge_course [.tuple [.int n, .tuple rs], eV x] Q := by
  obtain ⟨s, e, lo, hi, hr, s0, s1, e0, e1, sl, sh, ⟨hx, rfl⟩ | ⟨hx, rfl⟩⟩ := mem_ed h.ro hx
  · rw [hx] at q ⊢
    exact edge_course_hi hr sh sl q
  · rw [hx] at q ⊢
    refine edge_course_lo hr sh sl ?_
    show Q (.tuple [_, _, .int (- -x.w)])
    rw [Int.neg_neg]
    exact q
theorem ed_uniq {n far : Int} {rs : List D} {x y : Ed} (h : ∀ r ∈ rs, RuleOk n far r) (hx : x ∈ edN rs rs.length) (hy : y ∈ edN rs rs.length) (hk : x.k = y.k) (hd : x.d = y.d) : x = y := by
  obtain ⟨s, e, lo, hi, hr, s0, s1, e0, e1, sl, sh, hh⟩ := mem_ed h hx
  obtain ⟨s', e', lo', hi', hr', s0', s1', e0', e1', sl', sh', hh'⟩ := mem_ed h hy
  rw [hk, hr'] at hr
  injection hr with hr
  injection hr with hr
  simp only [List.cons.injEq, PyData.int.injEq, and_true] at hr
  obtain ⟨rfl, rfl, rfl, rfl⟩ := hr
  have hne : (("high" : Str) : Str) ≠ ("low" : Str) := by decide
  obtain ⟨xk, xd, xs, xe, xw⟩ := x
  obtain ⟨yk, yd, ys, ye, yw⟩ := y
  simp only [Ed.mk.injEq, true_and, and_true] at hh hh' hk hd ⊢
  subst hk
  subst hd
  rcases hh with ⟨⟨hd, rfl, rfl⟩, rfl⟩ | ⟨⟨hd, rfl, rfl⟩, rfl⟩ <;> rcases hh' with ⟨⟨hd', rfl, rfl⟩, hw⟩ | ⟨⟨hd', rfl, rfl⟩, hw⟩
  · injection hw with hw
    exact ⟨rfl, rfl, rfl, rfl, hw⟩
  · exact absurd (hd.symm.trans hd') hne
  · exact absurd (hd'.symm.trans hd) hne
  · injection hw with hw
    exact ⟨rfl, rfl, rfl, rfl, by omega⟩
theorem L_edges_ok {n far : Int} {rs : List D} {Q : D → Prop} (h : NR n far rs) (q : Q (.list ((edN rs rs.length).map eD))) : f_L_edges [.tuple [.int n, .tuple rs]] Q := by
  have hl := edN_le rs
  have h12 := h.rl
  refine o_L_edges ?_
  unfold t_L_edges
  refine seq_gen fun N hN => ?_
  walk_at "DZ"
  subst hN
  refine seq_gen fun N hN => ?_
  have a1 : atI [PyData.int n, PyData.tuple rs] 1 = some (.tuple rs) := rfl
  unfold dFor
  walk_at "DZ"
  rw [a1]
  dsimp only
  refine ⟨by omega, by omega, ?_⟩
  rw [Int.toNat_natCast]
  refine for_rng (fun i env => ∃ a b c d e : Option Sl, env = [some (.dat (.tuple [.int n, .tuple rs])), some (.own ((edN rs i).map eD)), a, b, c, d, e]) (fun i env hi hInv M hM => ?_) (fun env hInv => ?_) ⟨_, _, _, _, _, rfl⟩
  · obtain ⟨a, b, c, d', e, rfl⟩ := hInv
    have ei : rs[i]? = some rs[i] := List.getElem?_eq_getElem hi
    have hr := h.ro rs[i] (List.getElem_mem hi)
    obtain ⟨s, e', lo, hi', hre, s0, s1, e0, e1, hne, sl, sh, hb⟩ := hr
    rw [hre] at ei
    have es : edN rs (i + 1) = edN rs i ++ (hiE i s e' hi' ++ loE i s e' lo) := by
      rw [edN_succ, getD_some ei]
      rfl
    have hle := hl i
    have ar : atI rs (i : Int) = some (.tuple [.int s, .int e', lo, hi']) := atI_nat ei
    walk_at "DZ"
    rw [a1]
    dsimp only
    rw [ar]
    dsimp only
    refine ⟨rfl, ?_⟩
    rcases sh with rfl | ⟨w1, rfl, _, _⟩
    · simp only [isNone, Bool.not_true, Bool.false_eq_true, if_false]
      rcases sl with rfl | ⟨w2, rfl, _, _⟩
      · exact absurd ⟨rfl, rfl⟩ hb
      · simp only [isNone, Bool.not_false, if_true]
        have el : (edN rs i).map eD ++ [eD ⟨i, "low", e', s, -w2⟩] = (edN rs (i + 1)).map eD := by rw [es, List.map_append]; rfl
        exact ⟨by rw [List.length_map]; omega, hM _ ⟨_, _, _, _, _, by rw [← el, Int.zero_sub]; rfl⟩⟩
    · simp only [isNone, Bool.not_false, if_true]
      refine ⟨by rw [List.length_map]; omega, ?_⟩
      rcases sl with rfl | ⟨w2, rfl, _, _⟩
      · simp only [isNone, Bool.not_true, Bool.false_eq_true, if_false]
        have el : (edN rs i).map eD ++ [eD ⟨i, "high", s, e', w1⟩] = (edN rs (i + 1)).map eD := by rw [es, List.map_append]; rfl
        exact hM _ ⟨_, _, _, _, _, by rw [← el]; rfl⟩
      · simp only [isNone, Bool.not_false, if_true]
        have el : (edN rs i).map eD ++ [eD ⟨i, "high", s, e', w1⟩] ++ [eD ⟨i, "low", e', s, -w2⟩] = (edN rs (i + 1)).map eD := by rw [es, List.map_append, List.append_assoc]; rfl
        exact ⟨by rw [List.length_append, List.length_map]; show _ + 1 < _; omega, hM _ ⟨_, _, _, _, _, by rw [← el, Int.zero_sub]; rfl⟩⟩
  · obtain ⟨a, b, c, d, e, rfl⟩ := hInv
    subst hN
    walk_at "DZ"
    exact q
def oD : Option Int → D | some i => .int i | none => .none
theorem isNone_oD (o : Option Int) : isNone (oD o) = o.isNone := by cases o <;> rfl
/-- a table as rows -/
def rowL (n : Nat) (f : Nat → D) : List D := (List.range n).map f
def tabL (n : Nat) (T : GR.Tb) : List (List D) := (List.range n).map fun i => rowL n fun j => oD (T i j)
theorem rowL_len (n : Nat) (f : Nat → D) : (rowL n f).length = n := by unfold rowL; rw [List.length_map, List.length_range]
theorem tabL_len (n : Nat) (T : GR.Tb) : (tabL n T).length = n := by unfold tabL; rw [List.length_map, List.length_range]
theorem rowL_get {n j : Nat} (f : Nat → D) (h : j < n) : (rowL n f)[j]? = some (f j) := by unfold rowL; rw [List.getElem?_map, List.getElem?_range h]; rfl
theorem tabL_get {n i : Nat} (T : GR.Tb) (h : i < n) : (tabL n T)[i]? = some (rowL n fun j => oD (T i j)) := by unfold tabL; rw [List.getElem?_map, List.getElem?_range h]; rfl
theorem ixN_nat {n j : Nat} (h : j < n) : ixN n (j : Int) = some j := by
  unfold ixN
  rw [if_pos (by omega), if_pos (by omega), Int.toNat_natCast]
theorem atRow_get {α : Type} {rows : List α} {i : Nat} {x : α} {f : Nat → α → Prop} (h : rows[i]? = some x) (q : f i x) : atRow rows (.int (i : Nat)) f := by
  unfold atRow
  dsimp only
  rw [ixN_nat (lt_of_get h)]
  dsimp only
  rw [h]
  exact q
theorem atRow_tab {n i : Nat} {T : GR.Tb} {f : Nat → List D → Prop} (h : i < n) (q : f i (rowL n fun j => oD (T i j))) : atRow (tabL n T) (.int (i : Nat)) f := atRow_get (tabL_get T h) q
theorem atRow_row {n j : Nat} {g : Nat → D} {f : Nat → D → Prop} (h : j < n) (q : f j (g j)) : atRow (rowL n g) (.int (j : Nat)) f := atRow_get (rowL_get g h) q
theorem ext_get {α : Type} {xs ys : List α} (h : ∀ i : Nat, xs[i]? = ys[i]?) : xs = ys := List.ext_getElem? h
theorem rowL_set {n j : Nat} (f : Nat → D) (d : D) : (rowL n f).set j d = rowL n fun b => if b = j then d else f b := by
  refine ext_get fun i => ?_
  by_cases hi : i < n
  · rw [rowL_get _ hi]
    by_cases e : i = j
    · subst e
      rw [if_pos rfl, List.getElem?_set_self (by rw [rowL_len]; exact hi)]
    · rw [if_neg e, List.getElem?_set_ne (fun q => e q.symm), rowL_get _ hi]
  · rw [List.getElem?_eq_none (by rw [List.length_set, rowL_len]; omega), List.getElem?_eq_none (by rw [rowL_len]; omega)]
theorem tabL_set {n i j : Nat} (T : GR.Tb) (o : Option Int) : (tabL n T).set i ((rowL n fun b => oD (T i b)).set j (oD o)) = tabL n (GR.upd2 T i j o) := by
  refine ext_get fun a => ?_
  by_cases ha : a < n
  · rw [tabL_get _ ha]
    by_cases e : a = i
    · subst e
      rw [List.getElem?_set_self (by rw [tabL_len]; exact ha), rowL_set]
      congr 2
      funext b
      unfold GR.upd2
      by_cases hb : b = j
      · simp [hb]
      · simp [hb]
    · rw [List.getElem?_set_ne (fun q => e q.symm), tabL_get _ ha]
      congr 2
      funext b
      unfold GR.upd2
      rw [if_neg (fun q => e q.1)]
  · rw [List.getElem?_eq_none (by rw [List.length_set, tabL_len]; omega), List.getElem?_eq_none (by rw [tabL_len]; omega)]
theorem lcM_map {g : T2G} {te : T2A} {env : Ev} {ds : List D} {Q : List (List D) → Prop} (f : D → List D) (h : ∀ d ∈ ds, ∀ R : List D → Prop, R (f d) → g d env fun env1 => te env1 R) (q : Q (ds.map f)) : lcM g te env ds Q := by
  induction ds generalizing Q with
  | nil => exact q
  | cons d ds ih =>
    refine h d List.mem_cons_self _ ?_
    exact ih (fun e he => h e (List.mem_cons_of_mem _ he)) q
theorem lc_rng {g : T2G} {te : T2E} {env : Ev} {n : Nat} {Q : List D → Prop} (f : Nat → D) (h : ∀ i, i < n → ∀ R : D → Prop, R (f i) → g (.int (i : Nat)) env fun env1 => te env1 R) (q : Q (rowL n f)) :
    lcD g (fun _ Q => Q true) te env (dRange 0 n) Q := by
  refine lc_map (fun d => match d with | .int i => f i.toNat | _ => .none) (fun d hd R hR => ?_) ?_
  · obtain ⟨i, hi, rfl⟩ := mem_dRange hd
    rw [Int.zero_add]
    refine h i hi R ?_
    dsimp only at hR
    rw [Int.zero_add, Int.toNat_natCast] at hR
    exact hR
  · have e : (dRange 0 n).map (fun d => match d with | .int i => f i.toNat | _ => .none) = rowL n f := by
      unfold dRange rowL
      rw [List.map_map]
      refine List.map_congr_left fun i _ => ?_
      show f (0 + (i : Int)).toNat = f i
      rw [Int.zero_add, Int.toNat_natCast]
    rw [e]
    exact q
theorem lcM_rng {g : T2G} {te : T2A} {env : Ev} {n : Nat} {Q : List (List D) → Prop} (f : Nat → List D) (h : ∀ i, i < n → ∀ R : List D → Prop, R (f i) → g (.int (i : Nat)) env fun env1 => te env1 R) (q : Q ((List.range n).map f)) :
    lcM g te env (dRange 0 n) Q := by
  refine lcM_map (fun d => match d with | .int i => f i.toNat | _ => []) (fun d hd R hR => ?_) ?_
  · obtain ⟨i, hi, rfl⟩ := mem_dRange hd
    rw [Int.zero_add]
    refine h i hi R ?_
    dsimp only at hR
    rw [Int.zero_add, Int.toNat_natCast] at hR
    exact hR
  · have e : (dRange 0 n).map (fun d => match d with | .int i => f i.toNat | _ => []) = (List.range n).map f := by
      unfold dRange
      rw [List.map_map]
      refine List.map_congr_left fun i _ => ?_
      show f (0 + (i : Int)).toNat = f i
      rw [Int.zero_add, Int.toNat_natCast]
    rw [e]
    exact q
/-! ### the graph of a net -/
abbrev gs (x : Ed) : Nat := x.s.toNat
abbrev ge (x : Ed) : Nat := x.e.toNat
abbrev gw (x : Ed) : Int := x.w
abbrev es (rs : List D) : List Ed := edN rs rs.length
theorem ed_in {n far : Int} {rs : List D} (h : NR n far rs) {x : Ed} (hx : x ∈ es rs) : 0 ≤ x.s ∧ x.s < n ∧ 0 ≤ x.e ∧ x.e < n ∧ x.s ≠ x.e := by
  obtain ⟨s, e, lo, hi, hr, s0, s1, e0, e1, _, _, hh⟩ := mem_ed h.ro hx
  have hne : s ≠ e := by
    have hm : PyData.tuple [.int s, .int e, lo, hi] ∈ rs := by
      obtain ⟨hk, e⟩ := List.getElem?_eq_some_iff.mp hr
      rw [← e]; exact List.getElem_mem hk
    obtain ⟨s', e', lo', hi', hre, _, _, _, _, hne, _⟩ := h.ro _ hm
    simp only [PyData.tuple.injEq, List.cons.injEq, PyData.int.injEq] at hre
    omega
  rcases hh with ⟨e, _⟩ | ⟨e, _⟩
  · rw [e]; exact ⟨s0, s1, e0, e1, hne⟩
  · rw [e]; exact ⟨e0, e1, s0, s1, fun q => hne q.symm⟩
theorem ed_rng {n far : Int} {rs : List D} (h : NR n far rs) : ∀ x ∈ es rs, gs x < n.toNat ∧ ge x < n.toNat := fun x hx => by
  have := ed_in h hx
  show x.s.toNat < _ ∧ x.e.toNat < _
  omega
/-- the table of the edges -/
def T0 : GR.Tb := fun i j => if i = j then some 0 else none
def stE (T : GR.Tb) (x : Ed) : GR.Tb := GR.upd2 T (gs x) (ge x) (GR.omin (T (gs x) (ge x)) (some x.w))
def T1 (xs : List Ed) : GR.Tb := xs.foldl stE T0
theorem T1_diag {xs : List Ed} (h : ∀ x ∈ xs, gs x ≠ ge x) (i : Nat) : T1 xs i i = some 0 := by
  unfold T1
  refine GR.foldl_inv (P := fun _ (T : GR.Tb) => T i i = some 0) (by unfold T0; simp) fun pre x T hx hT => ?_
  unfold stE GR.upd2
  rw [if_neg (fun q => h x hx (q.1.symm.trans q.2)), hT]
theorem T1_sound {xs es : List Ed} (h : ∀ x ∈ xs, x ∈ es) : GR.Sound gs ge gw es (T1 xs) := by
  unfold T1
  refine GR.foldl_inv (P := fun _ (T : GR.Tb) => GR.Sound gs ge gw es T) (fun i j L e => ?_) fun pre x T hx hT => ?_
  · unfold T0 at e
    split at e
    · rename_i hij; cases e; exact ⟨[], hij, rfl⟩
    · cases e
  · unfold stE
    refine hT.upd fun L e => ?_
    rcases GR.omin_cases (T (gs x) (ge x)) (some x.w) with z | z
    · rw [z] at e; exact hT _ _ _ e
    · rw [z] at e; cases e; exact ⟨[x], GR.isW_one (h x hx), GR.wlen_one x⟩
theorem T1_le (xs : List Ed) : ∀ x ∈ xs, GR.ole (T1 xs (gs x) (ge x)) (some x.w) := by
  unfold T1
  refine GR.foldl_inv (f := stE) (l := xs) (b := T0) (P := fun pre T => ∀ x ∈ pre, GR.ole (T (gs x) (ge x)) (some x.w)) (fun x hx => absurd hx List.not_mem_nil) fun pre x T hx hT y hy => ?_
  have mono : ∀ a b, GR.ole (stE T x a b) (T a b) := fun a b => by
    unfold stE GR.upd2
    split
    · rename_i z; obtain ⟨rfl, rfl⟩ := z; exact GR.omin_left _ _
    · exact GR.ole_refl _
  rcases List.mem_append.mp hy with hy | hy
  · exact GR.ole_trans (mono _ _) (hT y hy)
  · obtain rfl := List.mem_singleton.mp hy
    unfold stE GR.upd2
    rw [if_pos ⟨rfl, rfl⟩]
    exact GR.omin_right _ _
abbrev NoNegR (rs : List D) : Prop := GR.NoNeg gs ge gw (es rs)
abbrev DstR (rs : List D) (i j : Nat) (o : Option Int) : Prop := GR.Dst gs ge gw (es rs) i j o
/-- a table of the tight bounds -/
structure TB (n : Nat) (rs : List D) (T : GR.Tb) : Prop where
  dst : ∀ i j, i < n → j < n → DstR rs i j (T i j)
  diag : ∀ i, i < n → T i i = some 0
theorem filt_map {α : Type} (g : α → Option Int) : ∀ l : List α, (l.filter fun a => (g a).isSome).map (fun a => PyData.int ((g a).getD 0)) = (l.filterMap g).map PyData.int
  | [] => rfl
  | a :: l => by
    have ih := filt_map g l
    cases hz : g a with
    | none => simp [List.filter_cons, List.filterMap_cons, hz, ih]
    | some L => simp [List.filter_cons, List.filterMap_cons, hz, ih]
theorem allInt_ints (ns : List Int) : allInt (ns.map PyData.int) = some ns := by
  have := allInt_map id ns
  rw [List.map_id] at this
  exact this
theorem lc_list {α : Type} {g : T2G} {tt : T2T} {te : T2E} {env : Ev} (G f : α → D) (keep : α → Bool) : ∀ {l : List α} {Q : List D → Prop},
    (∀ a ∈ l, ∀ (R : D → Prop) (N : Prop), (keep a = true → R (f a)) → (keep a = false → N) → g (G a) env fun env1 => tt env1 fun b => if b = true then te env1 R else N) →
    Q ((l.filter keep).map f) → lcD g tt te env (l.map G) Q
  | [], Q, h, q => q
  | a :: l, Q, h, q => by
    refine h a List.mem_cons_self _ _ (fun hk => ?_) (fun hk => ?_)
    · refine lc_list G f keep (fun e he => h e (List.mem_cons_of_mem _ he)) ?_
      rw [List.filter_cons_of_pos hk] at q
      exact q
    · refine lc_list G f keep (fun e he => h e (List.mem_cons_of_mem _ he)) ?_
      rw [List.filter_cons_of_neg (by rw [hk]; exact Bool.false_ne_true)] at q
      exact q
theorem lc_row {g : T2G} {te : T2E} {env : Ev} {n : Nat} {Q : List D → Prop} (G f : Nat → D) (h : ∀ i, i < n → ∀ R : D → Prop, R (f i) → g (G i) env fun env1 => te env1 R) (q : Q (rowL n f)) :
    lcD g (fun _ Q => Q true) te env (rowL n G) Q := by
  unfold rowL
  refine lc_list G f (fun _ => true) (fun i hi R N r1 _ => h i (List.mem_range.mp hi) R (r1 rfl)) ?_
  rw [List.filter_eq_self.mpr fun _ _ => rfl]
  exact q
/-- a walk found, with its length -/
def wD : Option (List Ed) → D | some p => .tuple [.int (GR.wlen gw p), .tuple (p.map eV)] | none => .none
def rowW (n : Nat) (R : GR.Wt Ed) : List D := rowL n fun j => wD (R j)
def walksD (n : Nat) (W : Nat → GR.Wt Ed) : D := .list (rowL n fun i => .list (rowW n (W i)))
theorem isNone_wD (o : Option (List Ed)) : isNone (wD o) = o.isNone := by cases o <;> rfl
theorem rowW_set {n j : Nat} (R : GR.Wt Ed) (o : Option (List Ed)) : (rowW n R).set j (wD o) = rowW n (GR.upd1 R j o) := by
  unfold rowW
  rw [rowL_set]
  congr 1
  funext b
  unfold GR.upd1
  by_cases e : b = j
  · simp [e]
  · simp [e]
theorem at_rowL {n j : Nat} (f : Nat → D) (h : j < n) : atI (rowL n f) (j : Int) = some (f j) := atI_nat (rowL_get f h)
theorem at_rowW {n j : Nat} (R : GR.Wt Ed) (h : j < n) : atI (rowW n R) (j : Int) = some (wD (R j)) := at_rowL _ h
theorem walks_without_ok {m : Nat} {Q : D → Prop} (hm : m ≤ 6) (q : Q (walksD m fun i j => if i = j then some [] else none)) : f_walks_without_edges [.int (m : Nat)] Q := by
  refine o_walks_without_edges ?_
  unfold t_walks_without_edges
  walk_at "DZ"
  refine ⟨by omega, by omega, by rw [dRange_length]; omega, ?_⟩
  rw [Int.toNat_natCast]
  refine lc_rng (fun i => .list (rowW m fun j => if i = j then some [] else none)) (fun i hi R hR => ?_) q
  walk_at "DZ"
  refine ⟨by omega, by omega, by rw [dRange_length]; omega, ?_⟩
  refine lc_rng (fun j => wD (if i = j then some [] else none)) (fun j hj R hR => ?_) hR
  walk_at "DZ"
  refine ⟨shaped_int _, shaped_int _, ?_⟩
  rw [eqv_intD]
  by_cases e : i = j
  · rw [decide_eq_true (by omega), if_pos rfl]
    rw [if_pos e] at hR
    exact hR
  · rw [decide_eq_false (by omega), if_neg (by decide)]
    rw [if_neg e] at hR
    exact hR
theorem longer_row_ok {n far : Int} {rs : List D} {R : GR.Wt Ed} {Q : D → Prop} (h : NR n far rs) (hl : ∀ j p, R j = some p → p.length ≤ 1000) (q : Q (.list (rowW n.toNat (GR.bfRow gs ge gw (es rs) R)))) : f_longer_row [.list (rowW n.toNat R), .tuple ((es rs).map eD)] Q := by
  have hrg := ed_rng h
  generalize n.toNat = m at hrg q ⊢
  refine o_longer_row ?_
  unfold t_longer_row
  refine seq_gen fun N hN => ?_
  walk_at "DZ"
  subst hN
  refine seq_gen fun N hN => ?_
  unfold dFor
  walk_at "DZ"
  refine for_inv (fun i env => ∃ a b c d e f : Option Sl, env = [some (.dat (.list (rowW m R))), some (.dat (.tuple ((es rs).map eD))), some (.own (rowW m (((es rs).take i).foldl (GR.bfOne gs ge gw R) R))), a, b, c, d, e, f]) (fun i d env hd hi M hM => ?_) (fun env hi => ?_) ⟨_, _, _, _, _, _, rfl⟩
  · obtain ⟨a, b, c, d', e, f, rfl⟩ := hi
    rw [List.getElem?_map] at hd
    obtain ⟨x, hx, rfl⟩ := Option.map_eq_some_iff.mp hd
    have hxm : x ∈ es rs := List.mem_of_getElem? hx
    have hin := ed_in h hxm
    have hr := hrg x hxm
    have et : (es rs).take (i + 1) = (es rs).take i ++ [x] := by rw [List.take_add_one, hx]; rfl
    rw [et] at hM
    simp only [List.foldl_append, List.foldl_cons, List.foldl_nil] at hM
    generalize ((es rs).take i).foldl (GR.bfOne gs ge gw R) R = U at hM ⊢
    have hs : x.s = ((gs x : Nat) : Int) := (Int.toNat_of_nonneg hin.1).symm
    have he : x.e = ((ge x : Nat) : Int) := (Int.toNat_of_nonneg hin.2.2.1).symm
    unfold eD
    walk_at "DZ"
    refine ⟨rfl, ?_⟩
    rw [hs, he, at_rowW R hr.1]
    dsimp only
    cases hp : R (gs x) with
    | none =>
      rw [GR.bfOne_n hp] at hM
      exact hM _ ⟨_, _, _, _, _, _, rfl⟩
    | some p =>
      have hpl := hl _ _ hp
      unfold wD
      dsimp only [isNone, Bool.not_false]
      rw [if_pos rfl]
      refine ⟨rfl, ?_⟩
      rw [at_rowW U hr.2]
      dsimp only
      have new : ∀ (V : GR.Wt Ed), V = GR.upd1 U (ge x) (some (p ++ [x])) → (p.map eV).length + 1 ≤ 1000000 ∧ (match ixN (rowW m U).length ((ge x : Nat) : Int) with
          | some k => M [some (.dat (.list (rowW m R))), some (.dat (.tuple ((es rs).map eD))), some (.own ((rowW m U).set k (.tuple [.int (GR.wlen gw p + x.w), .tuple (p.map eV ++ [eV x])]))), some (.dat (eV x)), some (.dat (.int ((gs x : Nat) : Int))), some (.dat (.int ((ge x : Nat) : Int))), some (.dat (.int x.w)), some (.dat (.int (GR.wlen gw p))), some (.dat (.tuple (p.map eV)))]
          | none => False) ∨ V ≠ GR.bfOne gs ge gw R U x := fun V hV => by
        by_cases c : V = GR.bfOne gs ge gw R U x
        · refine .inl ⟨by rw [List.length_map]; omega, ?_⟩
          rw [ixN_nat (by unfold rowW; rw [rowL_len]; exact hr.2)]
          dsimp only
          have e2 : (PyData.tuple [.int (GR.wlen gw p + x.w), .tuple (p.map eV ++ [eV x])]) = wD (some (p ++ [x])) := by
            unfold wD
            dsimp only
            rw [GR.wlen_append, GR.wlen_one, List.map_append]
            rfl
          rw [e2, rowW_set, ← hV, c]
          exact hM _ ⟨_, _, _, _, _, _, rfl⟩
        · exact .inr c
      cases hq : U (ge x) with
      | none =>
        refine ite_t rfl ?_
        exact (new _ rfl).resolve_right (fun z => z (GR.bfOne_a hp hq).symm)
      | some u =>
        refine ite_f (fun z => nomatch z) ?_
        unfold wD
        dsimp only
        rw [atI_0]
        dsimp only
        have bo := GR.bfOne_b (sv := gs) (ev := ge) (wv := gw) hp hq
        by_cases c : GR.wlen gw p + x.w < GR.wlen gw u
        · rw [decide_eq_true c, if_pos rfl]
          exact (new _ rfl).resolve_right (fun z => z (by rw [bo, if_pos c]))
        · rw [decide_eq_false c, if_neg (by decide)]
          rw [bo, if_neg c] at hM
          exact hM _ ⟨_, _, _, _, _, _, rfl⟩
  · obtain ⟨a, b, c, d', e, f, rfl⟩ := hi
    subst hN
    walk_at "DZ"
    rw [List.length_map, List.take_length]
    exact q
theorem round_below_ok {m : Nat} {W : Nat → GR.Wt Ed} {Q : D → Prop} (hd : ∀ i, i < m → ∃ p, W i i = some p) (q0 : (∀ i, i < m → GR.ole (some 0) (GR.oL gw (W i i))) → Q .none) (q1 : ∀ i p, i < m → W i i = some p → GR.wlen gw p < 0 → Q (.tuple (p.map eV))) : f_round_below [walksD m W] Q := by
  refine o_round_below ?_
  unfold t_round_below walksD
  refine seq_gen fun N hN => ?_
  unfold dFor
  walk_at "DZ"
  refine for_inv (fun i env => ∃ a b c d : Option Sl, (∀ j, j < i → GR.ole (some 0) (GR.oL gw (W j j))) ∧ env = [some (.dat (.list (rowL m fun i => .list (rowW m (W i))))), a, b, c, d]) (fun i d env he hi M hM => ?_) (fun env hi => ?_) ⟨_, _, _, _, fun j hj => absurd hj (Nat.not_lt_zero _), rfl⟩
  · obtain ⟨a, b, c, d', hj, rfl⟩ := hi
    obtain ⟨y, hy, rfl⟩ := dEnum_get he
    have him : i < m := by have := lt_of_get hy; rwa [rowL_len] at this
    rw [rowL_get _ him] at hy
    cases hy
    obtain ⟨p, hp⟩ := hd i him
    walk_at "DZ"
    refine ⟨rfl, ?_⟩
    rw [at_rowW _ him, hp]
    unfold wD
    dsimp only
    refine ⟨rfl, ?_⟩
    by_cases c : GR.wlen gw p < 0
    · rw [decide_eq_true c, if_pos rfl]
      exact q1 i p him hp c
    · rw [decide_eq_false c, if_neg (by decide)]
      refine hM _ ⟨_, _, _, _, fun j hj' => ?_, rfl⟩
      by_cases e : j = i
      · subst e; rw [hp]; exact Int.not_lt.mp c
      · exact hj j (by omega)
  · obtain ⟨a, b, c, d', hj, rfl⟩ := hi
    subst hN
    walk_at "DZ"
    rw [dEnum_length, rowL_len] at hj
    exact q0 hj
theorem least_walks_ok {n far : Int} {rs : List D} {Q : D → Prop} (h : NR n far rs)
    (q0 : ∀ W, (∀ i, i < n.toNat → GR.Kd gs ge gw (es rs) n.toNat i (W i)) → (∀ i, i < n.toNat → GR.ole (some 0) (GR.oL gw (W i i))) → Q (walksD n.toNat W))
    (q1 : ∀ W k, k < n.toNat → (∀ i, i < n.toNat → GR.Kd gs ge gw (es rs) (k + 1) i (W i)) → (∀ i p, i < n.toNat → GR.IsW gs ge (es rs) i i p → p.length ≤ k → 0 ≤ GR.wlen gw p) → (∃ i p, i < n.toNat ∧ W i i = some p ∧ GR.wlen gw p < 0) → Q (walksD n.toNat W)) : f_least_walks [.tuple [.int n, .tuple rs]] Q := by
  obtain ⟨m, rfl⟩ : ∃ m : Nat, n = (m : Int) := ⟨n.toNat, by have := h.n0; omega⟩
  have hm : m ≤ 6 := by have := h.n1; omega
  have lr := @longer_row_ok (m : Int) far rs
  rw [Int.toNat_natCast] at q0 q1 lr
  have a0 : atI [PyData.int (m : Int), PyData.tuple rs] 0 = some (.int m) := rfl
  refine o_least_walks ?_
  unfold t_least_walks
  refine seq_gen fun N hN => ?_
  walk_at "DZ"
  rw [a0]
  dsimp only
  subst hN
  try dsimp only
  refine seq_gen fun N hN => ?_
  walk_at "DZ"
  refine all_edges_ok h ?_
  subst hN
  try dsimp only
  refine seq_gen fun N hN => ?_
  walk_at "DZ"
  refine walks_without_ok hm ?_
  subst hN
  try dsimp only
  refine seq_gen fun N hN => ?_
  unfold dFor
  walk_at "DZ"
  refine ⟨by omega, by omega, ?_⟩
  rw [Int.toNat_natCast]
  have diag : ∀ {k : Nat} {W : Nat → GR.Wt Ed}, (∀ i, i < m → GR.Kd gs ge gw (es rs) k i (W i)) → ∀ i, i < m → ∃ p, W i i = some p := fun {k W} hK i hi => by
    have := (hK i hi).le i [] rfl (Nat.zero_le _)
    cases hz : W i i with
    | none => rw [hz] at this; exact this.elim
    | some p => exact ⟨p, rfl⟩
  refine for_rng (fun k env => ∃ (W : Nat → GR.Wt Ed) (a b : Option Sl), (∀ i, i < m → GR.Kd gs ge gw (es rs) k i (W i)) ∧ (∀ i, i < m → GR.ole (some 0) (GR.oL gw (W i i))) ∧ env = [some (.dat (.tuple [.int m, .tuple rs])), some (.dat (.int m)), some (.dat (.tuple ((es rs).map eD))), some (.dat (walksD m W)), a, b]) (fun k env hk hInv M hM => ?_) (fun env hInv => ?_) ⟨_, _, _, fun i _ => .zero i, fun i _ => ?_, rfl⟩
  · obtain ⟨W, a, b, hK, hpos, rfl⟩ := hInv
    have nn : ∀ i p, i < m → GR.IsW gs ge (es rs) i i p → p.length ≤ k → 0 ≤ GR.wlen gw p := fun i p hi hp hl => by
      have := GR.ole_trans (hpos i hi) ((hK i hi).le i p hp hl)
      exact this
    refine seq_gen fun N2 hN2 => ?_
    unfold walksD
    walk_at "DZ"
    refine ⟨by rw [rowL_len]; omega, ?_⟩
    refine lc_row _ (fun i => .list (rowW m (GR.bfRow gs ge gw (es rs) (W i)))) (fun i hi R hR => ?_) ?_
    · walk_at "DZ"
      exact lr h (fun j p hp => by have := ((hK i hi).ok j p hp).2; omega) hR
    obtain ⟨V, hV⟩ : ∃ V : Nat → GR.Wt Ed, V = fun i => GR.bfRow gs ge gw (es rs) (W i) := ⟨_, rfl⟩
    have hK' : ∀ i, i < m → GR.Kd gs ge gw (es rs) (k + 1) i (V i) := fun i hi => by rw [hV]; exact (hK i hi).succ
    show N2 [_, _, _, some (.dat (walksD m fun i => GR.bfRow gs ge gw (es rs) (W i))), _, _]
    rw [← hV]
    subst hN2
    walk_at "DZ"
    refine round_below_ok (diag hK') (fun hp => ?_) (fun i p hi hp hn => ?_)
    · refine ite_f (fun z => nomatch z) ?_
      exact hM _ ⟨V, _, _, hK', hp, rfl⟩
    · refine ite_t rfl ?_
      exact q1 V k hk hK' nn ⟨i, p, hi, hp, hn⟩
  · obtain ⟨W, a, b, hK, hpos, rfl⟩ := hInv
    subst hN
    walk_at "DZ"
    exact q0 W hK hpos
  · show GR.ole (some 0) (GR.oL gw (if i = i then some [] else none))
    rw [if_pos rfl]
    exact Int.le_refl _
/-- the least walks of a net that can be kept -/
structure LW (m : Nat) (rs : List D) (W : Nat → GR.Wt Ed) : Prop where
  kd : ∀ i, i < m → GR.Kd gs ge gw (es rs) m i (W i)
  pos : ∀ i, i < m → GR.ole (some 0) (GR.oL gw (W i i))
  dst : ∀ i j, i < m → DstR rs i j (GR.oL gw (W i j))
theorem LW.diag {m : Nat} {rs : List D} {W : Nat → GR.Wt Ed} (h : LW m rs W) (i : Nat) (hi : i < m) : ∃ p, W i i = some p := by
  have := (h.kd i hi).le i [] rfl (Nat.zero_le _)
  cases hz : W i i with
  | none => rw [hz] at this; exact this.elim
  | some p => exact ⟨p, rfl⟩
/-- a table with a round below 0 of k + 1 edges, none shorter -/
structure LN (m : Nat) (rs : List D) (k : Nat) (W : Nat → GR.Wt Ed) : Prop where
  kd : ∀ i, i < m → GR.Kd gs ge gw (es rs) (k + 1) i (W i)
  nn : ∀ i p, i < m → GR.IsW gs ge (es rs) i i p → p.length ≤ k → 0 ≤ GR.wlen gw p
  km : k < m
  neg : ∃ i p, i < m ∧ W i i = some p ∧ GR.wlen gw p < 0
theorem LN.diag {m k : Nat} {rs : List D} {W : Nat → GR.Wt Ed} (h : LN m rs k W) (i : Nat) (hi : i < m) : ∃ p, W i i = some p := by
  have := (h.kd i hi).le i [] rfl (Nat.zero_le _)
  cases hz : W i i with
  | none => rw [hz] at this; exact this.elim
  | some p => exact ⟨p, rfl⟩
theorem least_walks_spec {n far : Int} {rs : List D} {Q : D → Prop} (h : NR n far rs) (q0 : NoNegR rs → ∀ W, LW n.toNat rs W → Q (walksD n.toNat W)) (q1 : ¬ NoNegR rs → ∀ W k, LN n.toNat rs k W → Q (walksD n.toNat W)) : f_least_walks [.tuple [.int n, .tuple rs]] Q := by
  refine least_walks_ok h (fun W hK hpos => ?_) (fun W k hk hK nn hneg => ?_)
  · obtain ⟨hz, hd⟩ := GR.Kd.dst (ed_rng h) hK hpos
    exact q0 hz W ⟨hK, hpos, hd⟩
  · refine q1 (fun hz => ?_) W k ⟨hK, nn, hk, hneg⟩
    obtain ⟨i, p, hi, hp, hn⟩ := hneg
    have := hz i p ((hK i hi).ok i p hp).1
    omega
theorem round_below_kept {m : Nat} {rs : List D} {W : Nat → GR.Wt Ed} {Q : D → Prop} (h : LW m rs W) (q : Q .none) : f_round_below [walksD m W] Q :=
  round_below_ok h.diag (fun _ => q) fun i p hi hp hn => by
    have := h.pos i hi
    rw [hp] at this
    exact absurd hn (Int.not_lt.mpr this)
/-- a told round -/
structure TR (m : Nat) (rs : List D) (p : List Ed) : Prop where
  ex : ∃ i, i < m ∧ GR.IsW gs ge (es rs) i i p
  neg : GR.wlen gw p < 0
  few : ∀ i q, i < m → GR.IsW gs ge (es rs) i i q → GR.wlen gw q < 0 → p.length ≤ q.length
  le : p.length ≤ m
theorem round_below_not {m k : Nat} {rs : List D} {W : Nat → GR.Wt Ed} {Q : D → Prop} (h : LN m rs k W) (q : ∀ p, TR m rs p → Q (.tuple (p.map eV))) : f_round_below [walksD m W] Q :=
  round_below_ok h.diag (fun hp => by
    obtain ⟨i, p, hi, e, hn⟩ := h.neg
    have := hp i hi
    rw [e] at this
    exact absurd hn (Int.not_lt.mpr this)) fun i p hi hp hn => by
    have hw := (h.kd i hi).ok i p hp
    refine q p ⟨⟨i, hi, hw.1⟩, hn, fun j u hj hu hun => ?_, by have := h.km; omega⟩
    apply Classical.byContradiction
    intro hc
    have := h.nn j u hj hu (by omega)
    omega
theorem nr_net {n far : Int} {rs : List D} (h : NR n far rs) : netB (.tuple [.int n, .tuple rs]) = true := net_good h.fa h.n0 h.n1 h.rl h.ro
/-- right heights, from the least walks -/
def htL (m : Nat) (W : Nat → GR.Wt Ed) (e : Nat) : List Int := (List.range m).filterMap fun i => GR.oL gw (W i e)
def ht (m : Nat) (W : Nat → GR.Wt Ed) (e : Nat) : Int := minD (htL m W e)
theorem htL_pos {m : Nat} {rs : List D} {W : Nat → GR.Wt Ed} (h : LW m rs W) {e : Nat} (he : e < m) : 0 < (htL m W e).length := by
  obtain ⟨p, hp⟩ := h.diag e he
  have : GR.wlen gw p ∈ htL m W e := List.mem_filterMap.mpr ⟨e, List.mem_range.mpr he, by rw [hp]; rfl⟩
  exact List.length_pos_of_mem this
theorem ht_right {m : Nat} {rs : List D} {W : Nat → GR.Wt Ed} (hr : ∀ x ∈ es rs, gs x < m ∧ ge x < m) (h : LW m rs W) : ∀ x ∈ es rs, ht m W (ge x) - ht m W (gs x) ≤ x.w := by
  intro x hx
  have hx' := hr x hx
  obtain ⟨i, hi, e⟩ := List.mem_filterMap.mp (minD_mem (htL_pos h hx'.1))
  have hi := List.mem_range.mp hi
  obtain ⟨p, p1, p2⟩ := (h.dst i (gs x) hi).ex _ e
  have hw : GR.IsW gs ge (es rs) i (ge x) (p ++ [x]) := GR.isW_append.mpr ⟨_, p1, GR.isW_one hx⟩
  obtain ⟨L, e2, l2⟩ := (h.dst i (ge x) hi).le _ hw
  have hm : L ∈ htL m W (ge x) := List.mem_filterMap.mpr ⟨i, List.mem_range.mpr hi, e2⟩
  have := minD_le L hm
  rw [GR.wlen_append, GR.wlen_one, p2] at l2
  show minD (htL m W (ge x)) - minD (htL m W (gs x)) ≤ x.w
  have l2 : L ≤ minD (htL m W (gs x)) + x.w := l2
  omega
/-- heights at the events -/
def hts (m : Nat) (t : Nat → Int) : D := .tuple (rowL m fun e => .int (t e))
def RightH (rs : List D) (t : Nat → Int) : Prop := ∀ x ∈ es rs, t (ge x) - t (gs x) ≤ x.w
def ruleHold (t : Nat → Int) : D → Bool
  | .tuple [.int s, .int e, lo, hi] => (match lo with | .int l => decide (l ≤ t e.toNat - t s.toNat) | _ => true) && (match hi with | .int h => decide (t e.toNat - t s.toNat ≤ h) | _ => true)
  | _ => false
theorem right_iff {n far : Int} {rs : List D} (h : NR n far rs) (t : Nat → Int) : RightH rs t ↔ rs.all (ruleHold t) = true := by
  rw [List.all_eq_true]
  constructor
  · intro hr r hrm
    obtain ⟨s, e, lo, hi, rfl, s0, s1, e0, e1, hne, sl, sh, hb⟩ := h.ro r hrm
    obtain ⟨k, hk, ek⟩ := List.getElem_of_mem hrm
    have er : rs[k]? = some (.tuple [.int s, .int e, lo, hi]) := by rw [List.getElem?_eq_getElem hk, ek]
    have mem : ∀ x, x ∈ hiE k s e hi ++ loE k s e lo → x ∈ es rs := fun x hx => List.mem_flatMap.mpr ⟨k, List.mem_range.mpr hk, by rw [getD_some er]; exact hx⟩
    unfold ruleHold
    dsimp only
    rw [Bool.and_eq_true]
    constructor
    · rcases sl with rfl | ⟨l, rfl, _, _⟩
      · rfl
      · have := hr ⟨k, "low", e, s, -l⟩ (mem _ (List.mem_append.mpr (.inr (List.mem_singleton.mpr rfl))))
        have this : t s.toNat - t e.toNat ≤ -l := this
        exact decide_eq_true (by omega)
    · rcases sh with rfl | ⟨l, rfl, _, _⟩
      · rfl
      · have := hr ⟨k, "high", s, e, l⟩ (mem _ (List.mem_append.mpr (.inl (List.mem_singleton.mpr rfl))))
        have this : t e.toNat - t s.toNat ≤ l := this
        exact decide_eq_true this
  · intro hr x hx
    obtain ⟨s, e, lo, hi, her, s0, s1, e0, e1, sl, sh, hh⟩ := mem_ed h.ro hx
    have hrm : PyData.tuple [.int s, .int e, lo, hi] ∈ rs := List.mem_of_getElem? her
    have := hr _ hrm
    unfold ruleHold at this
    dsimp only at this
    rw [Bool.and_eq_true] at this
    rcases hh with ⟨hx, rfl⟩ | ⟨hx, rfl⟩
    · have z := of_decide_eq_true this.2
      rw [hx]
      exact z
    · have z : -x.w ≤ t e.toNat - t s.toNat := of_decide_eq_true this.1
      rw [hx]
      show t s.toNat - t e.toNat ≤ x.w
      omega
/-- where a row of edges leads from v, and how long it is -/
def endsF (rs : List D) : Int → Int → List Ed → Option (Int × Int)
  | v, L, [] => some (v, L)
  | v, L, x :: xs => if x.s = v then endsF rs x.e (L + x.w) xs else none
theorem eqv_eV (x y : Ed) : PyData.eqv (eV x) (eV y) = true ↔ x.k = y.k ∧ x.d = y.d := by
  unfold eV
  show (PyData.eqv (.int (x.k : Nat)) (.int (y.k : Nat)) && (PyData.eqv (.str x.d) (.str y.d) && true)) = true ↔ _
  rw [eqv_intD, eqv_str, Bool.and_true, Bool.and_eq_true, decide_eq_true_iff, decide_eq_true_iff]
  constructor
  · rintro ⟨a, b⟩; exact ⟨by omega, b⟩
  · rintro ⟨a, b⟩; exact ⟨by omega, b⟩
theorem eV_ok {n far : Int} {rs : List D} {x : Ed} (h : ∀ r ∈ rs, RuleOk n far r) (hx : x ∈ es rs) : okN 1 (eV x) := by
  have hd : x.d = "high" ∨ x.d = "low" := by
    obtain ⟨s, e, lo, hi, hr, s0, s1, e0, e1, sl, sh, ⟨hx, _⟩ | ⟨hx, _⟩⟩ := mem_ed h hx
    · left; rw [hx]
    · right; rw [hx]
  refine .tup fun d hdm => ?_
  simp only [List.mem_cons, List.not_mem_nil, or_false] at hdm
  rcases hdm with rfl | rfl
  · exact .int _ _
  · rcases hd with e | e
    · rw [e]; exact .str _ sides_lay.1
    · rw [e]; exact .str _ sides_lay.2
theorem filter_one {α : Type} {p : α → Bool} {x : α} : ∀ {xs : List α}, x ∈ xs → p x = true → (∀ y ∈ xs, p y = true → y = x) → ∃ k, xs.filter p = x :: k
  | y :: ys, hx, hp, hu => by
    by_cases e : p y = true
    · have := hu y List.mem_cons_self e
      subst this
      exact ⟨ys.filter p, by rw [List.filter_cons_of_pos e]⟩
    · rw [List.filter_cons_of_neg e]
      rcases List.mem_cons.mp hx with rfl | hx
      · exact absurd hp e
      · exact filter_one hx hp fun z hz => hu z (List.mem_cons_of_mem _ hz)
theorem endsF_walk {rs : List D} : ∀ {xs : List Ed} {i j : Nat} {L : Int}, (∀ x ∈ xs, 0 ≤ x.s ∧ 0 ≤ x.e) → GR.IsW gs ge (es rs) i j xs → endsF rs (i : Int) L xs = some ((j : Int), L + GR.wlen gw xs)
  | [], i, j, L, _, h => by cases (show i = j from h); show some (_, _) = _; rw [GR.wlen_nil, Int.add_zero]
  | x :: xs, i, j, L, hp, h => by
    have h0 := hp x List.mem_cons_self
    have hs : x.s = (i : Int) := by
      have : x.s.toNat = i := h.2.1
      omega
    have he : x.e = ((ge x : Nat) : Int) := (Int.toNat_of_nonneg h0.2).symm
    show (if x.s = (i : Int) then endsF rs x.e (L + x.w) xs else none) = _
    rw [if_pos hs, he, endsF_walk (fun y hy => hp y (List.mem_cons_of_mem _ hy)) h.2.2, GR.wlen_cons]
    congr 2
    show L + x.w + _ = L + (x.w + _)
    omega
/-! ### greatest and least of what may be none -/
def mxO : List Int → Option Int | [] => none | n :: ns => some (maxD (n :: ns))
def mnO : List Int → Option Int | [] => none | n :: ns => some (minD (n :: ns))
def cLo (x : Int) : Option Int → Int | some l => if l > x then l else x | none => x
def cHi (a : Int) : Option Int → Int | some h => if h < a then h else a | none => a
def clampI (x : Int) (lo hi : Option Int) : Int := cHi (cLo x lo) hi
theorem mxO_some {ns : List Int} {l : Int} : mxO ns = some l ↔ (l ∈ ns ∧ ∀ y ∈ ns, y ≤ l) := by
  cases ns with
  | nil => exact ⟨(fun h => nomatch h), (fun h => absurd h.1 List.not_mem_nil)⟩
  | cons n ns =>
    constructor
    · intro h
      cases h
      exact ⟨maxD_mem (Nat.succ_pos _), maxD_ge⟩
    · rintro ⟨h1, h2⟩
      show some _ = _
      rw [Int.le_antisymm (h2 _ (maxD_mem (Nat.succ_pos _))) (maxD_ge l h1)]
theorem mnO_some {ns : List Int} {l : Int} : mnO ns = some l ↔ (l ∈ ns ∧ ∀ y ∈ ns, l ≤ y) := by
  cases ns with
  | nil => exact ⟨(fun h => nomatch h), (fun h => absurd h.1 List.not_mem_nil)⟩
  | cons n ns =>
    constructor
    · intro h
      cases h
      exact ⟨minD_mem (Nat.succ_pos _), minD_le⟩
    · rintro ⟨h1, h2⟩
      show some _ = _
      rw [Int.le_antisymm (minD_le l h1) (h2 _ (minD_mem (Nat.succ_pos _)))]
theorem mxO_none {ns : List Int} : mxO ns = none ↔ ns = [] := by cases ns <;> simp [mxO]
theorem mnO_none {ns : List Int} : mnO ns = none ↔ ns = [] := by cases ns <;> simp [mnO]
theorem clamp_as (x : Int) (lows highs : List Int) : minD (maxD (x :: lows) :: highs) = clampI x (mxO lows) (mnO highs) := by
  have e1 : maxD (x :: lows) = cLo x (mxO lows) := by
    cases h : mxO lows with
    | none => rw [mxO_none.mp h]; rfl
    | some l =>
      obtain ⟨h1, h2⟩ := mxO_some.mp h
      refine Int.le_antisymm ?_ ?_
      · have hm := maxD_mem (ns := x :: lows) (Nat.succ_pos _)
        rcases List.mem_cons.mp hm with e | e
        · rw [e]; unfold cLo; dsimp only; split <;> omega
        · have := h2 _ e; unfold cLo; dsimp only; split <;> omega
      · have g1 := maxD_ge (ns := x :: lows) x List.mem_cons_self
        have g2 := maxD_ge (ns := x :: lows) l (List.mem_cons_of_mem _ h1)
        unfold cLo; dsimp only; split <;> omega
  unfold clampI
  rw [← e1]
  generalize maxD (x :: lows) = a
  cases h : mnO highs with
  | none => rw [mnO_none.mp h]; rfl
  | some l =>
    obtain ⟨h1, h2⟩ := mnO_some.mp h
    refine Int.le_antisymm ?_ ?_
    · have g1 := minD_le (ns := a :: highs) a List.mem_cons_self
      have g2 := minD_le (ns := a :: highs) l (List.mem_cons_of_mem _ h1)
      unfold cHi; dsimp only; split <;> omega
    · have hm := minD_mem (ns := a :: highs) (Nat.succ_pos _)
      rcases List.mem_cons.mp hm with e | e
      · rw [e]; unfold cHi; dsimp only; split <;> omega
      · have := h2 _ e; unfold cHi; dsimp only; split <;> omega
/-! ### news at the tight bounds -/
def nN (y : Nat × Int) : D := .tuple [.int (y.1 : Nat), .int y.2]
def lows (T : GR.Tb) (c : Nat) (row : List (Nat × Int)) : List Int := row.filterMap fun y => (T c y.1).map (y.2 - ·)
def highs (T : GR.Tb) (c : Nat) (row : List (Nat × Int)) : List Int := row.filterMap fun y => (T y.1 c).map (y.2 + ·)
def movI (T : GR.Tb) (t : Nat → Int) (row : List (Nat × Int)) (c : Nat) : Int := clampI (t c) (mxO (lows T c row)) (mnO (highs T c row))
theorem mem_lows {T : GR.Tb} {c : Nat} {row : List (Nat × Int)} {l : Int} : l ∈ lows T c row ↔ ∃ y ∈ row, ∃ d, T c y.1 = some d ∧ l = y.2 - d := by
  unfold lows
  rw [List.mem_filterMap]
  constructor
  · rintro ⟨y, hy, h⟩
    obtain ⟨d, hd, rfl⟩ := Option.map_eq_some_iff.mp h
    exact ⟨y, hy, d, hd, rfl⟩
  · rintro ⟨y, hy, d, hd, rfl⟩
    exact ⟨y, hy, by rw [hd]; rfl⟩
theorem mem_highs {T : GR.Tb} {c : Nat} {row : List (Nat × Int)} {l : Int} : l ∈ highs T c row ↔ ∃ y ∈ row, ∃ d, T y.1 c = some d ∧ l = y.2 + d := by
  unfold highs
  rw [List.mem_filterMap]
  constructor
  · rintro ⟨y, hy, h⟩
    obtain ⟨d, hd, rfl⟩ := Option.map_eq_some_iff.mp h
    exact ⟨y, hy, d, hd, rfl⟩
  · rintro ⟨y, hy, d, hd, rfl⟩
    exact ⟨y, hy, by rw [hd]; rfl⟩
/-- the tight bounds go over an edge -/
theorem TB.edge_l {m : Nat} {rs : List D} {T : GR.Tb} (h : TB m rs T) (hr : ∀ x ∈ es rs, gs x < m ∧ ge x < m) {x : Ed} (hx : x ∈ es rs) {e : Nat} (he : e < m) {d : Int} (hd : T (ge x) e = some d) : ∃ d', T (gs x) e = some d' ∧ d' ≤ x.w + d := by
  have hx' := hr x hx
  obtain ⟨p, p1, p2⟩ := (h.dst _ _ hx'.2 he).ex d hd
  obtain ⟨L, e1, l1⟩ := (h.dst _ _ hx'.1 he).le (x :: p) ⟨hx, rfl, p1⟩
  rw [GR.wlen_cons, p2] at l1
  exact ⟨L, e1, l1⟩
theorem TB.edge_r {m : Nat} {rs : List D} {T : GR.Tb} (h : TB m rs T) (hr : ∀ x ∈ es rs, gs x < m ∧ ge x < m) {x : Ed} (hx : x ∈ es rs) {e : Nat} (he : e < m) {d : Int} (hd : T e (gs x) = some d) : ∃ d', T e (ge x) = some d' ∧ d' ≤ d + x.w := by
  have hx' := hr x hx
  obtain ⟨p, p1, p2⟩ := (h.dst _ _ he hx'.1).ex d hd
  obtain ⟨L, e1, l1⟩ := (h.dst _ _ he hx'.2).le (p ++ [x]) (GR.isW_append.mpr ⟨_, p1, GR.isW_one hx⟩)
  rw [GR.wlen_append, GR.wlen_one, p2] at l1
  exact ⟨L, e1, l1⟩
/-- moved heights are right -/
theorem mov_right {m : Nat} {rs : List D} {T : GR.Tb} {t : Nat → Int} {row : List (Nat × Int)} (h : TB m rs T) (hr : ∀ x ∈ es rs, gs x < m ∧ ge x < m) (ht : RightH rs t) (hrow : ∀ y ∈ row, y.1 < m) : RightH rs (movI T t row) := by
  intro x hx
  have hx' := hr x hx
  have h0 := ht x hx
  have hl : ∀ l, mxO (lows T (ge x) row) = some l → ∃ l', mxO (lows T (gs x) row) = some l' ∧ l - x.w ≤ l' := fun l e => by
    obtain ⟨h1, h2⟩ := mxO_some.mp e
    obtain ⟨y, hy, d, hd, rfl⟩ := mem_lows.mp h1
    obtain ⟨d', e', l'⟩ := h.edge_l hr hx (hrow y hy) hd
    have hm : y.2 - d' ∈ lows T (gs x) row := mem_lows.mpr ⟨y, hy, d', e', rfl⟩
    cases hz : mxO (lows T (gs x) row) with
    | none => rw [mxO_none.mp hz] at hm; exact absurd hm List.not_mem_nil
    | some l2 => exact ⟨l2, rfl, by have := (mxO_some.mp hz).2 _ hm; omega⟩
  have hh : ∀ g, mnO (highs T (gs x) row) = some g → ∃ g', mnO (highs T (ge x) row) = some g' ∧ g' ≤ g + x.w := fun g e => by
    obtain ⟨h1, h2⟩ := mnO_some.mp e
    obtain ⟨y, hy, d, hd, rfl⟩ := mem_highs.mp h1
    obtain ⟨d', e', l'⟩ := h.edge_r hr hx (hrow y hy) hd
    have hm : y.2 + d' ∈ highs T (ge x) row := mem_highs.mpr ⟨y, hy, d', e', rfl⟩
    cases hz : mnO (highs T (ge x) row) with
    | none => rw [mnO_none.mp hz] at hm; exact absurd hm List.not_mem_nil
    | some l2 => exact ⟨l2, rfl, by have := (mnO_some.mp hz).2 _ hm; omega⟩
  show clampI (t (ge x)) _ _ - clampI (t (gs x)) _ _ ≤ x.w
  generalize mxO (lows T (ge x) row) = lb at hl ⊢
  generalize mxO (lows T (gs x) row) = la at hl ⊢
  generalize mnO (highs T (ge x) row) = gb at hh ⊢
  generalize mnO (highs T (gs x) row) = ga at hh ⊢
  have step : ∀ a b : Int, b - a ≤ x.w → cHi b gb - cHi a ga ≤ x.w := fun a b hab => by
    cases ga with
    | none => cases gb with
      | none => exact hab
      | some g => unfold cHi; dsimp only; split <;> omega
    | some g =>
      obtain ⟨g', e, hg⟩ := hh g rfl
      rw [e]
      unfold cHi; dsimp only; split <;> split <;> omega
  unfold clampI
  refine step _ _ ?_
  cases lb with
  | none => cases la with
    | none => exact h0
    | some l => unfold cLo; dsimp only; split <;> omega
  | some l =>
    obtain ⟨l', e, hl'⟩ := hl l rfl
    rw [e]
    unfold cLo; dsimp only; split <;> split <;> omega
/-- two pieces of news fit -/
def fit2 (T : GR.Tb) (y z : Nat × Int) : Bool := match T y.1 z.1 with | some d => decide (z.2 - y.2 ≤ d) | none => true
def fitAll (T : GR.Tb) (row : List (Nat × Int)) : Prop := ∀ y ∈ row, ∀ z ∈ row, fit2 T y z = true
theorem fit2_le {T : GR.Tb} {y z : Nat × Int} (h : fit2 T y z = true) {d : Int} (e : T y.1 z.1 = some d) : z.2 - y.2 ≤ d := by
  unfold fit2 at h
  rw [e] at h
  exact of_decide_eq_true h
/-- news that fit are heard -/
theorem mov_at {m : Nat} {rs : List D} {T : GR.Tb} {t : Nat → Int} {row : List (Nat × Int)} (h : TB m rs T) (hrow : ∀ y ∈ row, y.1 < m) (hf : fitAll T row) {y : Nat × Int} (hy : y ∈ row) : movI T t row y.1 = y.2 := by
  have hd := h.diag y.1 (hrow y hy)
  have hlo : mxO (lows T y.1 row) = some y.2 := by
    refine mxO_some.mpr ⟨mem_lows.mpr ⟨y, hy, 0, hd, by omega⟩, fun l hl => ?_⟩
    obtain ⟨z, hz, d, e, rfl⟩ := mem_lows.mp hl
    have := fit2_le (hf y hy z hz) e
    omega
  have hhi : mnO (highs T y.1 row) = some y.2 := by
    refine mnO_some.mpr ⟨mem_highs.mpr ⟨y, hy, 0, hd, by omega⟩, fun l hl => ?_⟩
    obtain ⟨z, hz, d, e, rfl⟩ := mem_highs.mp hl
    have := fit2_le (hf z hz y hy) e
    omega
  unfold movI clampI
  rw [hlo, hhi]
  unfold cHi cLo
  dsimp only
  split <;> split <;> omega
theorem fit_one {m : Nat} {rs : List D} {T : GR.Tb} (h : TB m rs T) {y : Nat × Int} (hy : y.1 < m) : fitAll T [y] := by
  intro a ha b hb
  rw [List.mem_singleton.mp ha, List.mem_singleton.mp hb]
  unfold fit2
  rw [h.diag y.1 hy]
  exact decide_eq_true (by omega)
/-! ### the program's -/
def bT (m : Nat) (T : GR.Tb) : D := .tuple (rowL m fun i => .tuple (rowL m fun j => oD (T i j)))
def mkD (T : GR.Tb) (c : Nat) (y : Nat × Int) : D := .tuple [oD ((T c y.1).map (y.2 - ·)), oD ((T y.1 c).map (y.2 + ·))]
theorem lengths_of_ok {m : Nat} {W : Nat → GR.Wt Ed} {Q : D → Prop} (hm : m ≤ 6) (q : Q (bT m fun i j => GR.oL gw (W i j))) : f_lengths_of [walksD m W] Q := by
  refine o_lengths_of ?_
  unfold t_lengths_of walksD
  walk_at "DZ"
  refine ⟨by rw [rowL_len]; omega, ?_⟩
  refine lc_row _ (fun i => .tuple (rowL m fun j => oD (GR.oL gw (W i j)))) (fun i hi R hR => ?_) q
  walk_at "DZ"
  unfold rowW
  refine ⟨by rw [rowL_len]; omega, ?_⟩
  refine lc_row _ (fun j => oD (GR.oL gw (W i j))) (fun j hj R hR => ?_) hR
  walk_at "DZ"
  cases hz : W i j with
  | none => rw [hz] at hR; exact hR
  | some p =>
    rw [hz] at hR
    unfold wD
    refine ite_f (fun z => nomatch z) ?_
    dsimp only
    rw [atI_0]
    exact hR
theorem LW.tb {m : Nat} {rs : List D} {W : Nat → GR.Wt Ed} (h : LW m rs W) (hz : NoNegR rs) : TB m rs fun i j => GR.oL gw (W i j) :=
  ⟨fun i j hi _ => h.dst i j hi, fun i hi => (h.dst i i hi).uniq (GR.Dst.self hz)⟩
theorem TB.uniq {m : Nat} {rs : List D} {T U : GR.Tb} (h : TB m rs T) (h' : TB m rs U) {i j : Nat} (hi : i < m) (hj : j < m) : T i j = U i j := (h.dst i j hi hj).uniq (h'.dst i j hi hj)
def tv (ts : List Int) (i : Int) : Int := ts.getD i.toNat 0
def exHi (d : Int) (hi : D) : Int := match hi with | .int h => if h < d then d - h else 0 | _ => 0
def exLo (d : Int) (lo hi : D) : Int := match lo with | .int l => if d < l then d - l else exHi d hi | _ => exHi d hi
def excI (r : D) (ts : List Int) : Int := match r with | .tuple [.int s, .int e, lo, hi] => exLo (tv ts e - tv ts s) lo hi | _ => 0
theorem at_tv {ts : List Int} {i : Int} (h0 : 0 ≤ i) (h1 : i < ts.length) : atI (ts.map PyData.int) i = some (.int (tv ts i)) := by
  have hi : i.toNat < ts.length := by omega
  refine atI_int h0 ?_
  rw [List.getElem?_map]
  unfold tv
  rw [List.getElem?_eq_getElem hi, List.getD_eq_getElem?_getD, List.getElem?_eq_getElem hi]
  rfl
theorem rule_excess_ok {n far : Int} {r : D} {ts : List Int} {Q : D → Prop} (hr : RuleOk n far r) (ht : (ts.length : Int) = n) (q : Q (.int (excI r ts))) : f_rule_excess [r, .tuple (ts.map PyData.int)] Q := by
  obtain ⟨s, e, lo, hi, rfl, s0, s1, e0, e1, hne, hl, hh, hb⟩ := hr
  refine o_rule_excess ?_
  unfold t_rule_excess
  have as := at_tv (ts := ts) s0 (by omega)
  have ae := at_tv (ts := ts) e0 (by omega)
  refine seq_gen fun N hN => ?_
  walk_at "DZ"
  refine ⟨rfl, ?_⟩
  subst hN
  walk_at "DZ"
  rw [as, ae]
  dsimp only
  generalize hd : tv ts e - tv ts s = d at q ⊢
  have eq : excI (.tuple [.int s, .int e, lo, hi]) ts = exLo d lo hi := by show exLo (tv ts e - tv ts s) lo hi = _; rw [hd]
  rw [eq] at q
  rcases hl with rfl | ⟨l, rfl, _, _⟩ <;> rcases hh with rfl | ⟨h, rfl, _, _⟩
  · exact absurd ⟨rfl, rfl⟩ hb
  · simp only [isNone, Bool.not_true, Bool.not_false, Bool.false_eq_true, if_false, if_true, exLo, exHi] at q ⊢
    by_cases c : h < d <;> simpa [c] using q
  · simp only [isNone, Bool.not_true, Bool.not_false, Bool.false_eq_true, if_false, if_true, exLo, exHi] at q ⊢
    by_cases c : d < l <;> simpa [c] using q
  · simp only [isNone, Bool.not_true, Bool.not_false, Bool.false_eq_true, if_false, if_true, exLo, exHi] at q ⊢
    by_cases c : d < l
    · simpa [c] using q
    · by_cases c2 : h < d <;> simpa [c, c2] using q
theorem hts_ts (m : Nat) (t : Nat → Int) : hts m t = .tuple (((List.range m).map t).map PyData.int) := by
  unfold hts rowL
  rw [List.map_map]
  rfl
theorem tv_at {m : Nat} {t : Nat → Int} {i : Int} (h0 : 0 ≤ i) (h1 : i < m) : tv ((List.range m).map t) i = t i.toNat := by
  unfold tv
  rw [List.getD_eq_getElem?_getD, List.getElem?_map, List.getElem?_range (by omega)]
  rfl
theorem exc_hold {n far : Int} {r : D} {m : Nat} {t : Nat → Int} (hn : n = (m : Int)) (hr : RuleOk n far r) : decide (excI r ((List.range m).map t) = 0) = ruleHold t r := by
  obtain ⟨s, e, lo, hi, rfl, s0, s1, e0, e1, hne, sl, sh, hb⟩ := hr
  have ex : excI (.tuple [.int s, .int e, lo, hi]) ((List.range m).map t) = exLo (t e.toNat - t s.toNat) lo hi := by
    show exLo (tv _ e - tv _ s) lo hi = _
    rw [tv_at e0 (by omega), tv_at s0 (by omega)]
  rw [ex]
  unfold ruleHold
  dsimp only
  generalize t e.toNat - t s.toNat = d
  rw [Bool.eq_iff_iff, decide_eq_true_iff]
  rcases sl with rfl | ⟨l, rfl, _, _⟩ <;> rcases sh with rfl | ⟨g, rfl, _, _⟩
  · exact absurd ⟨rfl, rfl⟩ hb
  · show (if g < d then d - g else 0) = 0 ↔ (true && decide (d ≤ g)) = true
    rw [Bool.true_and, decide_eq_true_iff]
    split <;> omega
  · show (if d < l then d - l else 0) = 0 ↔ (decide (l ≤ d) && true) = true
    rw [Bool.and_true, decide_eq_true_iff]
    split <;> omega
  · show (if d < l then d - l else if g < d then d - g else 0) = 0 ↔ (decide (l ≤ d) && decide (d ≤ g)) = true
    rw [Bool.and_eq_true, decide_eq_true_iff, decide_eq_true_iff]
    split
    · omega
    · split <;> omega
theorem are_right_heights_ok {n far : Int} {rs : List D} {t : Nat → Int} {Q : D → Prop} (h : NR n far rs) (q : Q (.bool (rs.all (ruleHold t)))) : f_are_right_heights [.tuple [.int n, .tuple rs], hts n.toNat t] Q := by
  obtain ⟨m, rfl⟩ : ∃ m : Nat, n = (m : Int) := ⟨n.toNat, by have := h.n0; omega⟩
  have hm : m ≤ 6 := by have := h.n1; omega
  rw [Int.toNat_natCast]
  have a0 : atI [PyData.int (m : Int), PyData.tuple rs] 0 = some (.int m) := rfl
  have a1 : atI [PyData.int (m : Int), PyData.tuple rs] 1 = some (.tuple rs) := rfl
  have h12 := h.rl
  refine o_are_right_heights ?_
  unfold t_are_right_heights
  refine seq_gen fun N hN => ?_
  unfold hts
  walk_at "DZ"
  simp only [isT_tuple, isTu, Bool.not_true, Bool.false_eq_true, if_false]
  rw [a0, rowL_len]
  refine ⟨shaped_int _, shaped_int _, ?_⟩
  refine ite_f (by rw [eqv_intD, decide_eq_true rfl]; decide) ?_
  subst hN
  try dsimp only
  refine seq_gen fun N hN => ?_
  walk_at "DZ"
  refine ⟨by rw [rowL_len]; omega, ?_⟩
  refine lc_row _ (fun _ => .bool true) (fun i hi R hR => ?_) ?_
  · walk_at "DZ"
    exact is_whole_ok _ _ hR
  have al : ((List.range m).map fun _ => true).all id = true := by simp
  unfold dBools rowL
  dsimp only
  rw [allBool_map (fun _ : Nat => true)]
  dsimp only
  rw [al]
  refine ite_f (fun z => nomatch z) ?_
  subst hN
  walk_at "DZ"
  refine o_rule_excesses ?_
  unfold t_rule_excesses
  walk_at "DZ"
  rw [a1]
  refine ⟨by omega, ?_⟩
  refine lc_map (fun r => .int (excI r ((List.range m).map t))) (fun r hr R hR => ?_) ?_
  · walk_at "DZ"
    have := rule_excess_ok (ts := (List.range m).map t) (h.ro r hr) (by rw [List.length_map, List.length_range]) hR
    rw [List.map_map] at this
    exact this
  refine ⟨by rw [List.length_map]; omega, ?_⟩
  have hlc := lc_list (g := gN 2) (tt := fun _ Q => Q true) (te := dOp dEq (dVar 2) (dC (.int 0))) (env := [some (.dat (.tuple [.int m, .tuple rs])), some (.dat (.tuple ((List.range m).map fun e => .int (t e)))), none, none]) (l := rs) (fun r => .int (excI r ((List.range m).map t))) (fun r => .bool (ruleHold t r)) (fun _ => true) (Q := fun ys => dBools (fun bs => bs.all id) [.list ys] Q) (fun r hr R N' r1 _ => by
    walk_at "DZ"
    refine ⟨shaped_int _, shaped_int _, ?_⟩
    rw [eqv_intD, exc_hold rfl (h.ro r hr)]
    exact r1 rfl) (by
    rw [List.filter_eq_self.mpr fun _ _ => rfl]
    unfold dBools
    dsimp only
    rw [allBool_map]
    dsimp only
    have e : (rs.map (ruleHold t)).all id = rs.all (ruleHold t) := by rw [List.all_map]; rfl
    rw [e]
    exact q)
  exact hlc
theorem is_news_time_ok (v : D) (Q : D → Prop) (q : Q (.bool (inI v (-500) 500))) : f_is_news_time [v] Q := by
  refine o_is_news_time ?_
  unfold t_is_news_time
  walk_at "DZ"
  exact is_integer_ok v (-500) 500 Q q
def NewsN (m : Nat) (y : Nat × Int) : Prop := y.1 < m ∧ -500 ≤ y.2 ∧ y.2 ≤ 500
/-- how far a tight bound can be -/
theorem TB.far {n far : Int} {rs : List D} {T : GR.Tb} (hf : 0 ≤ far) (h : NR n far rs) (hz : NoNegR rs) (ht : TB n.toNat rs T) {i j : Nat} (hi : i < n.toNat) (hj : j < n.toNat) {L : Int} (e : T i j = some L) : -(5 * far) ≤ L ∧ L ≤ 5 * far := by
  have hw : ∀ x ∈ es rs, -far ≤ x.w ∧ x.w ≤ far := fun x hx => by
    obtain ⟨s, e, lo, hi, hr, s0, s1, e0, e1, sl, sh, hh⟩ := mem_ed h.ro hx
    rcases hh with ⟨_, rfl⟩ | ⟨_, rfl⟩
    · rcases sh with z | ⟨i, z, h1, h2⟩
      · cases z
      · cases z; exact ⟨h1, h2⟩
    · rcases sl with z | ⟨i, z, h1, h2⟩
      · cases z
      · injection z with z; omega
  have hlen : ∀ p : List Ed, (∀ x ∈ p, x ∈ es rs) → -(p.length * far) ≤ GR.wlen gw p ∧ GR.wlen gw p ≤ p.length * far := by
    intro p
    induction p with
    | nil => intro _; rw [GR.wlen_nil]; simp
    | cons x p ih =>
      intro hp
      have h1 := hw x (hp x List.mem_cons_self)
      have h2 := ih fun y hy => hp y (List.mem_cons_of_mem _ hy)
      have e : ((x :: p).length : Int) * far = p.length * far + far := by
        rw [List.length_cons]
        show ((p.length : Int) + 1) * far = _
        rw [Int.add_mul, Int.one_mul]
      rw [GR.wlen_cons, e]
      have : gw x = x.w := rfl
      omega
  obtain ⟨p, p1, p2⟩ := (ht.dst i j hi hj).ex L e
  obtain ⟨q, q1, q2, q3⟩ := GR.short_walk (ed_rng h) hz _ (Nat.le_refl _) hi p1
  obtain ⟨L', e', l'⟩ := (ht.dst i j hi hj).le q q1
  rw [e] at e'
  cases e'
  have h3 := hlen q (GR.isW_mem q1)
  have hq : q.length ≤ 5 := by have := h.n1; omega
  have h4 : (q.length : Int) * far ≤ 5 * far := Int.mul_le_mul_of_nonneg_right (by omega) hf
  omega
/-- right heights, from the tight bounds -/
def khL (m : Nat) (T : GR.Tb) (e : Nat) : List Int := (List.range m).filterMap fun i => T i e
def kh (m : Nat) (T : GR.Tb) (e : Nat) : Int := minD (khL m T e)
theorem mem_khL {m : Nat} {T : GR.Tb} {e : Nat} {l : Int} : l ∈ khL m T e ↔ ∃ i, i < m ∧ T i e = some l := by
  unfold khL
  rw [List.mem_filterMap]
  constructor
  · rintro ⟨i, hi, h⟩; exact ⟨i, List.mem_range.mp hi, h⟩
  · rintro ⟨i, hi, h⟩; exact ⟨i, List.mem_range.mpr hi, h⟩
theorem khL_pos {m : Nat} {rs : List D} {T : GR.Tb} (h : TB m rs T) {e : Nat} (he : e < m) : 0 < (khL m T e).length :=
  List.length_pos_of_mem (mem_khL.mpr ⟨e, he, h.diag e he⟩)
theorem kh_right {m : Nat} {rs : List D} {T : GR.Tb} (hr : ∀ x ∈ es rs, gs x < m ∧ ge x < m) (h : TB m rs T) : RightH rs (kh m T) := by
  intro x hx
  have hx' := hr x hx
  obtain ⟨i, hi, e⟩ := mem_khL.mp (minD_mem (khL_pos h hx'.1))
  obtain ⟨d, e2, l2⟩ := h.edge_r hr hx hi e
  have := minD_le d (mem_khL.mpr ⟨i, hi, e2⟩)
  show minD (khL m T (ge x)) - minD (khL m T (gs x)) ≤ x.w
  omega
theorem kh_range {n far : Int} {rs : List D} {T : GR.Tb} (hf : 0 ≤ far) (h : NR n far rs) (hz : NoNegR rs) (ht : TB n.toNat rs T) {e : Nat} (he : e < n.toNat) : -(5 * far) ≤ kh n.toNat T e ∧ kh n.toNat T e ≤ 0 := by
  obtain ⟨i, hi, e1⟩ := mem_khL.mp (minD_mem (khL_pos ht he))
  have h1 := TB.far hf h hz ht hi he e1
  have h2 := minD_le 0 (mem_khL.mpr ⟨e, he, ht.diag e he⟩)
  exact ⟨h1.1, h2⟩
theorem tab_rows (m : Nat) (T : GR.Tb) : (tabL m T).map PyData.list = rowL m fun i => .list (rowL m fun j => oD (T i j)) := by
  unfold tabL rowL
  rw [List.map_map]
  rfl
def bL (m : Nat) (T : GR.Tb) : D := .list (rowL m fun i => .list (rowL m fun j => oD (T i j)))
theorem right_shift {rs : List D} {t : Nat → Int} (h : RightH rs t) (s : Int) : RightH rs fun e => t e + s := fun x hx => by
  have := h x hx
  show t (ge x) + s - (t (gs x) + s) ≤ x.w
  omega
theorem NR.take {n far : Int} {rs : List D} (h : NR n far rs) (k : Nat) : NR n far (rs.take k) :=
  ⟨h.n0, h.n1, h.fa, by rw [List.length_take]; have := h.rl; omega, fun r hr => h.ro r (List.mem_of_mem_take hr)⟩
theorem noNeg_nil : NoNegR [] := fun i p h => match p, h with | [], _ => Int.le_refl _ | _ :: _, h => absurd h.1 List.not_mem_nil
theorem NR.nil {n far : Int} {rs : List D} (h : NR n far rs) : NR n far [] := ⟨h.n0, h.n1, h.fa, Nat.zero_le _, fun r hr => absurd hr List.not_mem_nil⟩
theorem cut_one (rs : List D) : Z2.cutD rs none (some 1) = rs.take 1 := by
  unfold Z2.cutD HT.sIx
  dsimp only
  rw [if_neg (by decide), List.drop_zero, Nat.sub_zero]
  cases rs with
  | nil => rfl
  | cons r rs => simp
theorem filterMap_congr {α β : Type} {f g : α → Option β} : ∀ {l : List α}, (∀ a ∈ l, f a = g a) → l.filterMap f = l.filterMap g
  | [], _ => rfl
  | a :: l, h => by
    have ih := filterMap_congr (f := f) (g := g) (l := l) fun b hb => h b (List.mem_cons_of_mem _ hb)
    rw [List.filterMap_cons, List.filterMap_cons, h a List.mem_cons_self, ih]
theorem right_walk {m : Nat} {rs : List D} {T : GR.Tb} {t : Nat → Int} (h : TB m rs T) (ht : RightH rs t) {i j : Nat} (hi : i < m) (hj : j < m) {d : Int} (e : T i j = some d) : t j - t i ≤ d := by
  obtain ⟨p, p1, p2⟩ := (h.dst i j hi hj).ex d e
  have := GR.pot_walk (wv := gw) (t := t) (fun x hx => ht x hx) p1
  omega
/-- right heights that have the news stay -/
theorem mov_fix {m : Nat} {rs : List D} {T : GR.Tb} {t : Nat → Int} {row : List (Nat × Int)} (h : TB m rs T) (ht : RightH rs t) (hrow : ∀ y ∈ row, y.1 < m ∧ t y.1 = y.2) {c : Nat} (hc : c < m) : movI T t row c = t c := by
  have h1 : ∀ l ∈ lows T c row, l ≤ t c := fun l hl => by
    obtain ⟨y, hy, d, e, rfl⟩ := mem_lows.mp hl
    have := right_walk h ht hc (hrow y hy).1 e
    have := (hrow y hy).2
    omega
  have h2 : ∀ l ∈ highs T c row, t c ≤ l := fun l hl => by
    obtain ⟨y, hy, d, e, rfl⟩ := mem_highs.mp hl
    have := right_walk h ht (hrow y hy).1 hc e
    have := (hrow y hy).2
    omega
  have e1 : cLo (t c) (mxO (lows T c row)) = t c := by
    cases hz : mxO (lows T c row) with
    | none => rfl
    | some l =>
      have := h1 l (mxO_some.mp hz).1
      unfold cLo; dsimp only; split <;> omega
  unfold movI clampI
  rw [e1]
  cases hz : mnO (highs T c row) with
  | none => rfl
  | some l =>
    have := h2 l (mnO_some.mp hz).1
    unfold cHi; dsimp only; split <;> omega
theorem mov_congr {m : Nat} {rs : List D} {T U : GR.Tb} (h : TB m rs T) (h' : TB m rs U) {t : Nat → Int} {row : List (Nat × Int)} (hrow : ∀ y ∈ row, y.1 < m) {c : Nat} (hc : c < m) : movI T t row c = movI U t row c := by
  have e1 : lows T c row = lows U c row := by
    unfold lows
    exact filterMap_congr fun y hy => by rw [h.uniq h' hc (hrow y hy)]
  have e2 : highs T c row = highs U c row := by
    unfold highs
    exact filterMap_congr fun y hy => by rw [h.uniq h' (hrow y hy) hc]
  unfold movI
  rw [e1, e2]
theorem hts_congr {m : Nat} {t u : Nat → Int} (h : ∀ e, e < m → t e = u e) : hts m t = hts m u := by
  unfold hts rowL
  congr 1
  exact List.map_congr_left fun e he => by rw [h e (List.mem_range.mp he)]
theorem hts_ok (m : Nat) (t : Nat → Int) : okN 1 (hts m t) := .tup fun d hd => by
  obtain ⟨e, _, rfl⟩ := List.mem_map.mp hd
  exact .int _ _
theorem hts_okD {m n : Nat} (hm : m ≤ 6) (t : Nat → Int) : okD (n + 2) (hts m t) = true := by
  unfold hts okD
  rw [Bool.and_eq_true]
  refine ⟨decide_eq_true (by rw [rowL_len]; omega), List.all_eq_true.mpr fun d hd => ?_⟩
  obtain ⟨e, _, rfl⟩ := List.mem_map.mp hd
  rfl
theorem equal_refl {n : Nat} {d : D} {Q : D → Prop} (h1 : okD n d = true) (h2 : PyData.canLay0 d = true) (q : Q (.bool true)) : f_equal n [d, d] Q := ⟨h1, h2, h2, by rw [sq_refl h2]; exact q⟩
theorem fit2_wD {W : Nat → GR.Wt Ed} {y z : Nat × Int} : fit2 (fun i j => GR.oL gw (W i j)) y z = match W y.1 z.1 with | some p => decide (z.2 - y.2 ≤ GR.wlen gw p) | none => true := by
  show (match GR.oL gw (W y.1 z.1) with | some d => decide (z.2 - y.2 ≤ d) | none => true) = _
  cases W y.1 z.1 <;> rfl
/-- joint news: of different events -/
structure JointN (m : Nat) (row : List (Nat × Int)) : Prop where
  ok : ∀ y ∈ row, NewsN m y
  nd : (row.map (·.1)).Nodup
  le : row.length ≤ 6
/-- all of a row fit, by some tight bounds or by others -/
theorem fitAll_congr {m : Nat} {rs : List D} {T U : GR.Tb} (h : TB m rs T) (h' : TB m rs U) {row : List (Nat × Int)} (hrow : ∀ y ∈ row, y.1 < m) : fitAll T row ↔ fitAll U row := by
  have e : ∀ y ∈ row, ∀ z ∈ row, fit2 T y z = fit2 U y z := fun y hy z hz => by
    unfold fit2
    rw [h.uniq h' (hrow y hy) (hrow z hz)]
  exact ⟨fun h y hy z hz => by rw [← e y hy z hz]; exact h y hy z hz, fun h y hy z hz => by rw [e y hy z hz]; exact h y hy z hz⟩
/-! ### moved and mirrored -/
theorem mxO_map_add (ns : List Int) (s : Int) : mxO (ns.map (· + s)) = (mxO ns).map (· + s) := by
  cases h : mxO ns with
  | none => rw [mxO_none.mp h]; rfl
  | some l =>
    obtain ⟨h1, h2⟩ := mxO_some.mp h
    refine mxO_some.mpr ⟨List.mem_map.mpr ⟨l, h1, rfl⟩, fun y hy => ?_⟩
    obtain ⟨z, hz, rfl⟩ := List.mem_map.mp hy
    have := h2 z hz
    dsimp only
    omega
theorem mnO_map_add (ns : List Int) (s : Int) : mnO (ns.map (· + s)) = (mnO ns).map (· + s) := by
  cases h : mnO ns with
  | none => rw [mnO_none.mp h]; rfl
  | some l =>
    obtain ⟨h1, h2⟩ := mnO_some.mp h
    refine mnO_some.mpr ⟨List.mem_map.mpr ⟨l, h1, rfl⟩, fun y hy => ?_⟩
    obtain ⟨z, hz, rfl⟩ := List.mem_map.mp hy
    have := h2 z hz
    dsimp only
    omega
theorem mxO_map_neg (ns : List Int) : mxO (ns.map (0 - ·)) = (mnO ns).map (0 - ·) := by
  cases h : mnO ns with
  | none => rw [mnO_none.mp h]; rfl
  | some l =>
    obtain ⟨h1, h2⟩ := mnO_some.mp h
    refine mxO_some.mpr ⟨List.mem_map.mpr ⟨l, h1, rfl⟩, fun y hy => ?_⟩
    obtain ⟨z, hz, rfl⟩ := List.mem_map.mp hy
    have := h2 z hz
    dsimp only
    omega
theorem mnO_map_neg (ns : List Int) : mnO (ns.map (0 - ·)) = (mxO ns).map (0 - ·) := by
  cases h : mxO ns with
  | none => rw [mxO_none.mp h]; rfl
  | some l =>
    obtain ⟨h1, h2⟩ := mxO_some.mp h
    refine mnO_some.mpr ⟨List.mem_map.mpr ⟨l, h1, rfl⟩, fun y hy => ?_⟩
    obtain ⟨z, hz, rfl⟩ := List.mem_map.mp hy
    have := h2 z hz
    dsimp only
    omega
def rowAdd (row : List (Nat × Int)) (s : Int) : List (Nat × Int) := row.map fun y => (y.1, y.2 + s)
def rowNeg (row : List (Nat × Int)) : List (Nat × Int) := row.map fun y => (y.1, 0 - y.2)
theorem lows_add (T : GR.Tb) (c : Nat) (row : List (Nat × Int)) (s : Int) : lows T c (rowAdd row s) = (lows T c row).map (· + s) := by
  unfold lows rowAdd
  induction row with
  | nil => rfl
  | cons y row ih =>
    rw [List.map_cons, List.filterMap_cons, List.filterMap_cons]
    dsimp only
    cases hz : T c y.1 with
    | none => exact ih
    | some d =>
      show (y.2 + s - d) :: _ = ((y.2 - d) + s) :: _
      rw [ih]
      congr 1
      omega
theorem highs_add (T : GR.Tb) (c : Nat) (row : List (Nat × Int)) (s : Int) : highs T c (rowAdd row s) = (highs T c row).map (· + s) := by
  unfold highs rowAdd
  induction row with
  | nil => rfl
  | cons y row ih =>
    rw [List.map_cons, List.filterMap_cons, List.filterMap_cons]
    dsimp only
    cases hz : T y.1 c with
    | none => exact ih
    | some d =>
      show (y.2 + s + d) :: _ = ((y.2 + d) + s) :: _
      rw [ih]
      congr 1
      omega
theorem clamp_add (x s : Int) (lo hi : Option Int) : clampI (x + s) (lo.map (· + s)) (hi.map (· + s)) = clampI x lo hi + s := by
  unfold clampI
  have e : cLo (x + s) (lo.map (· + s)) = cLo x lo + s := by
    cases lo with
    | none => rfl
    | some l =>
      show (if l + s > x + s then l + s else x + s) = (if l > x then l else x) + s
      split <;> split <;> omega
  rw [e]
  generalize cLo x lo = a
  cases hi with
  | none => rfl
  | some g =>
    show (if g + s < a + s then g + s else a + s) = (if g < a then g else a) + s
    split <;> split <;> omega
theorem mov_add (T : GR.Tb) (t : Nat → Int) (row : List (Nat × Int)) (s : Int) (c : Nat) : movI T (fun e => t e + s) (rowAdd row s) c = movI T t row c + s := by
  unfold movI
  rw [lows_add, highs_add, mxO_map_add, mnO_map_add, clamp_add]
theorem fit_add {T : GR.Tb} {row : List (Nat × Int)} {s : Int} (h : fitAll T row) : fitAll T (rowAdd row s) := by
  intro y hy z hz
  obtain ⟨y', hy', rfl⟩ := List.mem_map.mp hy
  obtain ⟨z', hz', rfl⟩ := List.mem_map.mp hz
  have := h y' hy' z' hz'
  unfold fit2 at this ⊢
  dsimp only at this ⊢
  cases hd : T y'.1 z'.1 with
  | none => rfl
  | some d =>
    rw [hd] at this
    have := of_decide_eq_true this
    exact decide_eq_true (by omega)
/-- the table of the net that is turned over -/
def tr (T : GR.Tb) : GR.Tb := fun i j => T j i
theorem lows_neg (T : GR.Tb) (c : Nat) (row : List (Nat × Int)) : lows (tr T) c (rowNeg row) = (highs T c row).map (0 - ·) := by
  unfold lows highs rowNeg tr
  induction row with
  | nil => rfl
  | cons y row ih =>
    rw [List.map_cons, List.filterMap_cons, List.filterMap_cons]
    dsimp only
    cases hz : T y.1 c with
    | none => exact ih
    | some d =>
      show (0 - y.2 - d) :: _ = (0 - (y.2 + d)) :: _
      rw [ih]
      congr 1
      omega
theorem highs_neg (T : GR.Tb) (c : Nat) (row : List (Nat × Int)) : highs (tr T) c (rowNeg row) = (lows T c row).map (0 - ·) := by
  unfold lows highs rowNeg tr
  induction row with
  | nil => rfl
  | cons y row ih =>
    rw [List.map_cons, List.filterMap_cons, List.filterMap_cons]
    dsimp only
    cases hz : T c y.1 with
    | none => exact ih
    | some d =>
      show (0 - y.2 + d) :: _ = (0 - (y.2 - d)) :: _
      rw [ih]
      congr 1
      omega
theorem clamp_neg (x : Int) (lo hi : Option Int) (h : ∀ l g, lo = some l → hi = some g → l ≤ g) : clampI (0 - x) (hi.map (0 - ·)) (lo.map (0 - ·)) = 0 - clampI x lo hi := by
  unfold clampI
  cases lo with
  | none =>
    cases hi with
    | none => rfl
    | some g =>
      show (if 0 - g > 0 - x then 0 - g else 0 - x) = 0 - (if g < x then g else x)
      split <;> split <;> omega
  | some l =>
    cases hi with
    | none =>
      show (if 0 - l < 0 - x then 0 - l else 0 - x) = 0 - (if l > x then l else x)
      split <;> split <;> omega
    | some g =>
      have := h l g rfl rfl
      show (if 0 - l < (if 0 - g > 0 - x then 0 - g else 0 - x) then 0 - l else (if 0 - g > 0 - x then 0 - g else 0 - x)) = 0 - (if g < (if l > x then l else x) then g else (if l > x then l else x))
      repeat' split
      all_goals omega
/-- the least high mark is no less than the greatest low one -/
theorem marks_le {m : Nat} {rs : List D} {T : GR.Tb} {row : List (Nat × Int)} (h : TB m rs T) (hrow : ∀ y ∈ row, y.1 < m) (hf : fitAll T row) {c : Nat} (hc : c < m) : ∀ l g, mxO (lows T c row) = some l → mnO (highs T c row) = some g → l ≤ g := by
  intro l g h1 h2
  obtain ⟨y, hy, d, e, rfl⟩ := mem_lows.mp (mxO_some.mp h1).1
  obtain ⟨z, hz, d', e', rfl⟩ := mem_highs.mp (mnO_some.mp h2).1
  have t := GR.Dst.tri (h.dst _ _ (hrow z hz) hc) (h.dst _ _ hc (hrow y hy)) (h.dst _ _ (hrow z hz) (hrow y hy))
  rw [e, e'] at t
  cases hd : T z.1 y.1 with
  | none => rw [hd] at t; exact t.elim
  | some u =>
    rw [hd] at t
    have t : u ≤ d' + d := t
    have := fit2_le (hf z hz y hy) hd
    omega
theorem mov_neg {m : Nat} {rs : List D} {T : GR.Tb} {t : Nat → Int} {row : List (Nat × Int)} (h : TB m rs T) (hrow : ∀ y ∈ row, y.1 < m) (hf : fitAll T row) {c : Nat} (hc : c < m) : movI (tr T) (fun e => 0 - t e) (rowNeg row) c = 0 - movI T t row c := by
  unfold movI
  rw [lows_neg, highs_neg, mxO_map_neg, mnO_map_neg, clamp_neg _ _ _ (marks_le h hrow hf hc)]
theorem fit_neg {T : GR.Tb} {row : List (Nat × Int)} (h : fitAll T row) : fitAll (tr T) (rowNeg row) := by
  intro y hy z hz
  obtain ⟨y', hy', rfl⟩ := List.mem_map.mp hy
  obtain ⟨z', hz', rfl⟩ := List.mem_map.mp hz
  have := h z' hz' y' hy'
  unfold fit2 tr at *
  dsimp only at this ⊢
  cases hd : T z'.1 y'.1 with
  | none => rfl
  | some d =>
    rw [hd] at this
    have := of_decide_eq_true this
    exact decide_eq_true (by omega)
theorem rev_walk {xs ys : List Ed} (h : ∀ x ∈ ys, ∃ y ∈ xs, gs y = ge x ∧ ge y = gs x ∧ y.w = x.w) : ∀ {p : List Ed} {i j : Nat}, GR.IsW gs ge ys i j p → ∃ q, GR.IsW gs ge xs j i q ∧ GR.wlen gw q = GR.wlen gw p
  | [], i, j, hp => ⟨[], (show i = j from hp).symm, rfl⟩
  | x :: p, i, j, hp => by
    obtain ⟨q, h1, h2⟩ := rev_walk h hp.2.2
    obtain ⟨y, hy, y1, y2, y3⟩ := h x hp.1
    refine ⟨q ++ [y], GR.isW_append.mpr ⟨_, h1, ?_⟩, ?_⟩
    · rw [← y1]
      have e : i = ge y := by rw [y2]; exact hp.2.1.symm
      rw [e]
      exact GR.isW_one hy
    · rw [GR.wlen_append, GR.wlen_one, GR.wlen_cons, h2]
      show _ + y.w = x.w + _
      rw [y3]
      omega
def negD' : D → D | .int i => .int (0 - i) | d => d
def mirR : D → D | .tuple [s, e, lo, hi] => .tuple [s, e, negD' hi, negD' lo] | d => d
theorem side_neg {far : Int} {d : D} (h : SideOk far d) : SideOk far (negD' d) := by
  rcases h with rfl | ⟨i, rfl, h0, h1⟩
  · exact .inl rfl
  · exact .inr ⟨0 - i, rfl, by omega, by omega⟩
theorem side_negneg {far : Int} {d : D} (h : SideOk far d) : negD' (negD' d) = d := by
  rcases h with rfl | ⟨i, rfl, h0, h1⟩
  · rfl
  · show PyData.int (0 - (0 - i)) = _
    rw [show 0 - (0 - i) = i by omega]
theorem NR.mir {n far : Int} {rs : List D} (h : NR n far rs) : NR n far (rs.map mirR) := by
  refine ⟨h.n0, h.n1, h.fa, by rw [List.length_map]; exact h.rl, fun r hr => ?_⟩
  obtain ⟨r', hr', rfl⟩ := List.mem_map.mp hr
  obtain ⟨s, e, lo, hi, rfl, s0, s1, e0, e1, hne, sl, sh, hb⟩ := h.ro r' hr'
  refine ⟨s, e, negD' hi, negD' lo, rfl, s0, s1, e0, e1, hne, side_neg sh, side_neg sl, fun z => hb ⟨?_, ?_⟩⟩
  · rcases sl with rfl | ⟨i, rfl, _, _⟩
    · rfl
    · cases z.2
  · rcases sh with rfl | ⟨i, rfl, _, _⟩
    · rfl
    · cases z.1
theorem mir_mir {n far : Int} {rs : List D} (h : NR n far rs) : (rs.map mirR).map mirR = rs := by
  rw [List.map_map]
  refine (List.map_congr_left fun r hr => ?_).trans (List.map_id rs)
  obtain ⟨s, e, lo, hi, rfl, s0, s1, e0, e1, hne, sl, sh, hb⟩ := h.ro r hr
  show PyData.tuple [_, _, negD' (negD' lo), negD' (negD' hi)] = _
  rw [side_negneg sl, side_negneg sh]
  rfl
theorem es_mir {n far : Int} {rs : List D} (h : NR n far rs) : ∀ x ∈ es (rs.map mirR), ∃ y ∈ es rs, gs y = ge x ∧ ge y = gs x ∧ y.w = x.w := by
  intro x hx
  obtain ⟨s, e, lo, hi, hr, s0, s1, e0, e1, sl, sh, hh⟩ := mem_ed h.mir.ro hx
  rw [List.getElem?_map] at hr
  obtain ⟨r, hr2, hm⟩ := Option.map_eq_some_iff.mp hr
  obtain ⟨s', e', lo', hi', rfl, _, _, _, _, hne, sl', sh', hb⟩ := h.ro r (List.mem_of_getElem? hr2)
  have hm : PyData.tuple [.int s', .int e', negD' hi', negD' lo'] = .tuple [.int s, .int e, lo, hi] := hm
  simp only [PyData.tuple.injEq, List.cons.injEq, PyData.int.injEq, and_true] at hm
  obtain ⟨rfl, rfl, rfl, rfl⟩ := hm
  have hk := lt_of_get hr2
  have mem : ∀ y, y ∈ hiE x.k s' e' hi' ++ loE x.k s' e' lo' → y ∈ es rs := fun y hy => List.mem_flatMap.mpr ⟨x.k, List.mem_range.mpr hk, by rw [getD_some hr2]; exact hy⟩
  rcases hh with ⟨hx, hw⟩ | ⟨hx, hw⟩
  · rcases sl' with rfl | ⟨l, rfl, _, _⟩
    · cases hw
    · have hw : (0 - l) = x.w := by injection hw
      refine ⟨⟨x.k, "low", e', s', -l⟩, mem _ (List.mem_append.mpr (.inr (List.mem_singleton.mpr rfl))), ?_, ?_, ?_⟩
      · show e'.toNat = x.e.toNat; rw [hx]
      · show s'.toNat = x.s.toNat; rw [hx]
      · show -l = x.w; omega
  · rcases sh' with rfl | ⟨l, rfl, _, _⟩
    · cases hw
    · have hw : (0 - l) = -x.w := by injection hw
      refine ⟨⟨x.k, "high", s', e', l⟩, mem _ (List.mem_append.mpr (.inl (List.mem_singleton.mpr rfl))), ?_, ?_, ?_⟩
      · show s'.toNat = x.e.toNat; rw [hx]
      · show e'.toNat = x.s.toNat; rw [hx]
      · show l = x.w; omega
theorem noNeg_mir {n far : Int} {rs : List D} (h : NR n far rs) (hz : NoNegR rs) : NoNegR (rs.map mirR) := fun i p hp => by
  obtain ⟨q, q1, q2⟩ := rev_walk (es_mir h) hp
  rw [← q2]
  exact hz i q q1
theorem TB.mir {n far : Int} {rs : List D} {T : GR.Tb} (h : NR n far rs) (hT : TB n.toNat rs T) : TB n.toNat (rs.map mirR) (tr T) := by
  refine ⟨fun i j hi hj => ⟨fun L e => ?_, fun p hp => ?_⟩, fun i hi => hT.diag i hi⟩
  · obtain ⟨p, p1, p2⟩ := (hT.dst j i hj hi).ex L e
    have hm := mir_mir h
    have hes := es_mir h.mir
    rw [hm] at hes
    obtain ⟨q, q1, q2⟩ := rev_walk hes p1
    exact ⟨q, q1, q2.trans p2⟩
  · obtain ⟨q, q1, q2⟩ := rev_walk (es_mir h) hp
    rw [← q2]
    exact (hT.dst j i hj hi).le q q1
theorem right_mir {n far : Int} {rs : List D} {t : Nat → Int} (h : NR n far rs) (ht : RightH rs t) : RightH (rs.map mirR) fun e => 0 - t e := fun x hx => by
  obtain ⟨y, hy, y1, y2, y3⟩ := es_mir h x hx
  have := ht y hy
  rw [y1, y2, y3] at this
  show 0 - t (ge x) - (0 - t (gs x)) ≤ x.w
  omega
/-- how far moved heights can be -/
theorem mov_range {n far B : Int} {rs : List D} {T : GR.Tb} {t : Nat → Int} {row : List (Nat × Int)} (hf : 0 ≤ far) (h : NR n far rs) (hz : NoNegR rs) (hT : TB n.toNat rs T) (hrow : ∀ y ∈ row, y.1 < n.toNat ∧ -B ≤ y.2 ∧ y.2 ≤ B) {c : Nat} (hc : c < n.toNat) (ht : -(B + 5 * far) ≤ t c ∧ t c ≤ B + 5 * far) : -(B + 5 * far) ≤ movI T t row c ∧ movI T t row c ≤ B + 5 * far := by
  have h1 : ∀ l ∈ lows T c row, -(B + 5 * far) ≤ l ∧ l ≤ B + 5 * far := fun l hl => by
    obtain ⟨y, hy, d, e, rfl⟩ := mem_lows.mp hl
    have := TB.far hf h hz hT hc (hrow y hy).1 e
    have := (hrow y hy).2
    omega
  have h2 : ∀ l ∈ highs T c row, -(B + 5 * far) ≤ l ∧ l ≤ B + 5 * far := fun l hl => by
    obtain ⟨y, hy, d, e, rfl⟩ := mem_highs.mp hl
    have := TB.far hf h hz hT (hrow y hy).1 hc e
    have := (hrow y hy).2
    omega
  have e1 : -(B + 5 * far) ≤ cLo (t c) (mxO (lows T c row)) ∧ cLo (t c) (mxO (lows T c row)) ≤ B + 5 * far := by
    cases hz : mxO (lows T c row) with
    | none => exact ht
    | some l =>
      have := h1 l (mxO_some.mp hz).1
      unfold cLo; dsimp only; split <;> omega
  unfold movI clampI
  generalize cLo (t c) (mxO (lows T c row)) = a at e1 ⊢
  cases hz : mnO (highs T c row) with
  | none => exact e1
  | some l =>
    have := h2 l (mnO_some.mp hz).1
    unfold cHi; dsimp only; split <;> omega
theorem cut_one_map (row : List (Nat × Int)) : Z2.cutD (row.map nN) none (some 1) = (row.take 1).map nN := by
  rw [cut_one, List.map_take]
/-! ### nets that two drawn rows of times keep -/
theorem drawn_ints {m : Nat} {ys : List D} {P : Nat → Int → Prop} (hl : ys.length = m) (h : ∀ i y, ys[i]? = some y → ∃ b : Int, y = .int b ∧ P i b) : ∃ t : Nat → Int, ys = rowL m (fun e => PyData.int (t e)) ∧ ∀ e, e < m → P e (t e) := by
  refine ⟨fun e => match ys[e]? with | some (.int b) => b | _ => 0, ?_, fun e he => ?_⟩
  · refine ext_get fun i => ?_
    by_cases hi : i < m
    · rw [rowL_get _ hi]
      obtain ⟨b, hb, _⟩ := h i _ (List.getElem?_eq_getElem (by omega : i < ys.length))
      have e : ys[i]? = some (.int b) := by rw [List.getElem?_eq_getElem (by omega), hb]
      dsimp only
      rw [e]
    · rw [List.getElem?_eq_none (by omega), List.getElem?_eq_none (by rw [rowL_len]; omega)]
  · obtain ⟨b, hb, hp⟩ := h e _ (List.getElem?_eq_getElem (by omega : e < ys.length))
    have e2 : ys[e]? = some (.int b) := by rw [List.getElem?_eq_getElem (by omega), hb]
    dsimp only
    rw [e2]
    exact hp
theorem F2.get {α β : Type} {P : α → β → Prop} : ∀ {as : List α} {bs : List β}, F2 P as bs → ∀ (i : Nat) (b : β), bs[i]? = some b → ∃ a, as[i]? = some a ∧ P a b
  | _, _, .nil, i, b, h => by rw [List.getElem?_nil] at h; cases h
  | _, _, .cons h1 h2, 0, b, h => by rw [List.getElem?_cons_zero] at h; cases h; exact ⟨_, List.getElem?_cons_zero, h1⟩
  | _, _, .cons h1 h2, i + 1, b, h => by
    rw [List.getElem?_cons_succ] at h
    obtain ⟨a, e, p⟩ := F2.get h2 i b h
    exact ⟨a, by rw [List.getElem?_cons_succ]; exact e, p⟩
theorem min2 (a b : Int) : minD [a, b] ≤ a ∧ minD [a, b] ≤ b ∧ (minD [a, b] = a ∨ minD [a, b] = b) := by
  have h := minD_mem (ns := [a, b]) (by simp)
  simp only [List.mem_cons, List.not_mem_nil, or_false] at h
  exact ⟨minD_le a (by simp), minD_le b (by simp), h⟩
theorem max2 (a b : Int) : a ≤ maxD [a, b] ∧ b ≤ maxD [a, b] ∧ (maxD [a, b] = a ∨ maxD [a, b] = b) := by
  have h := maxD_mem (ns := [a, b]) (by simp)
  simp only [List.mem_cons, List.not_mem_nil, or_false] at h
  exact ⟨maxD_ge a (by simp), maxD_ge b (by simp), h⟩
theorem slack {d : Int} (d0 : 0 ≤ d) (d1 : d < 4) : ∃ x : Int, atI [PyData.int 0, .int 0, .int 1, .int 3] d = some (.int x) ∧ 0 ≤ x ∧ x ≤ 3 := by
  have : d = 0 ∨ d = 1 ∨ d = 2 ∨ d = 3 := by omega
  rcases this with rfl | rfl | rfl | rfl
  · exact ⟨0, atI_0, by omega, by omega⟩
  · exact ⟨0, atI_1, by omega, by omega⟩
  · exact ⟨1, atI_2, by omega, by omega⟩
  · exact ⟨3, atI_3, by omega, by omega⟩
theorem L_gap_ok {m : Nat} {t1 t2 : Nat → Int} {s u w : Int} {Q : D → Prop} (s0 : 0 ≤ s) (s1 : s < m) (u0 : 0 ≤ u) (u1 : u < m) (hne : s ≠ u) (h1 : ∀ e, e < m → -w ≤ t1 e ∧ t1 e ≤ w) (h2 : ∀ e, e < m → -(2 * w) ≤ t2 e ∧ t2 e ≤ 2 * w)
    (q : ∀ r, RuleOk m (4 * w + 3) r → ruleHold t1 r = true → ruleHold t2 r = true → Q r) : f_L_gap [.int s, .int u, hts m t1, hts m t2] Q := by
  have base : ∀ (t : Nat → Int) (k : Int), 0 ≤ k → k < m → atI (rowL m fun e => PyData.int (t e)) k = some (.int (t k.toNat)) := fun t k k0 k1 => atI_int k0 (rowL_get _ (by omega))
  have b1 := h1 s.toNat (by omega)
  have b2 := h1 u.toNat (by omega)
  have b3 := h2 s.toNat (by omega)
  have b4 := h2 u.toNat (by omega)
  refine o_L_gap ?_
  unfold t_L_gap hts
  refine seq_gen fun N hN => ?_
  walk_at "DZ"
  rw [base t1 u u0 u1, base t1 s s0 s1, base t2 u u0 u1, base t2 s s0 s1]
  dsimp only
  generalize hg1 : t1 u.toNat - t1 s.toNat = g1
  generalize hg2 : t2 u.toNat - t2 s.toNat = g2
  have c1 := min2 g1 g2
  have c2 := max2 g1 g2
  subst hN
  try dsimp only
  refine seq_gen fun N hN => ?_
  walk_at "DZ"
  rw [show allInt [PyData.int g1, .int g2] = some [g1, g2] from rfl]
  dsimp only
  refine ⟨Nat.succ_pos _, trivial, next_mk (by omega) (by omega) fun d d0 d1 => ?_⟩
  try dsimp only
  obtain ⟨x, ex, x0, x1⟩ := slack d0 d1
  rw [ex]
  subst hN
  try dsimp only
  refine seq_gen fun N hN => ?_
  walk_at "DZ"
  rw [show allInt [PyData.int g1, .int g2] = some [g1, g2] from rfl]
  dsimp only
  refine ⟨Nat.succ_pos _, trivial, next_mk (by omega) (by omega) fun d d0 d1 => ?_⟩
  try dsimp only
  obtain ⟨y, ey, y0, y1⟩ := slack d0 d1
  rw [ey]
  have fin : ∀ lo hi : D, (lo = .none ∨ lo = .int (minD [g1, g2] - x)) → (hi = .none ∨ hi = .int (maxD [g1, g2] + y)) → ¬ (lo = .none ∧ hi = .none) → Q (.tuple [.int s, .int u, lo, hi]) := fun lo hi hl hh hb => by
    refine q _ ⟨s, u, lo, hi, rfl, s0, s1, u0, u1, hne, ?_, ?_, hb⟩ ?_ ?_
    · rcases hl with rfl | rfl
      · exact .inl rfl
      · exact .inr ⟨_, rfl, by omega, by omega⟩
    · rcases hh with rfl | rfl
      · exact .inl rfl
      · exact .inr ⟨_, rfl, by omega, by omega⟩
    · unfold ruleHold
      dsimp only
      rw [hg1]
      rcases hl with rfl | rfl <;> rcases hh with rfl | rfl <;> simp only [Bool.and_eq_true, decide_eq_true_eq, Bool.true_and, Bool.and_true, true_and, and_true] <;> omega
    · unfold ruleHold
      dsimp only
      rw [hg2]
      rcases hl with rfl | rfl <;> rcases hh with rfl | rfl <;> simp only [Bool.and_eq_true, decide_eq_true_eq, Bool.true_and, Bool.and_true, true_and, and_true] <;> omega
  subst hN
  try dsimp only
  refine seq_gen fun N hN => ?_
  walk_at "DZ"
  refine ⟨trivial, next_mk (by omega) (by omega) fun p p0 p1 => ?_⟩
  subst hN
  try dsimp only
  refine seq_gen fun N hN => ?_
  walk_at "DZ"
  refine ⟨shaped_int _, shaped_int _, ?_⟩
  rw [eqv_intD]
  by_cases hp : p = 0
  · refine ite_t (decide_eq_true hp) ?_
    exact fin _ _ (.inr rfl) (.inl rfl) (fun z => nomatch z.1)
  · refine ite_f (fun z => hp (of_decide_eq_true z)) ?_
    subst hN
    refine seq_gen fun N hN => ?_
    walk_at "DZ"
    refine ⟨shaped_int _, shaped_int _, ?_⟩
    rw [eqv_intD]
    by_cases hp : p = 1
    · refine ite_t (decide_eq_true hp) ?_
      exact fin _ _ (.inl rfl) (.inr rfl) (fun z => nomatch z.2)
    · refine ite_f (fun z => hp (of_decide_eq_true z)) ?_
      subst hN
      walk_at "DZ"
      exact fin _ _ (.inr rfl) (.inr rfl) (fun z => nomatch z.1)
/-- a net, and two rows of times that keep it -/
structure Two (n w : Int) (rs : List D) (t1 t2 : Nat → Int) : Prop where
  nr : NR n (4 * w + 3) rs
  b1 : ∀ e, e < n.toNat → -w ≤ t1 e ∧ t1 e ≤ w
  b2 : ∀ e, e < n.toNat → -(2 * w) ≤ t2 e ∧ t2 e ≤ 2 * w
  h1 : RightH rs t1
  h2 : RightH rs t2
theorem Two.nn {n w : Int} {rs : List D} {t1 t2 : Nat → Int} (h : Two n w rs t1 t2) : NoNegR rs := GR.pot_noNeg h.h1
theorem mul_dir {a b w : Int} (w0 : 0 ≤ w) (a0 : 0 ≤ a) (a1 : a ≤ w) (h : b = -1 ∨ b = 0 ∨ b = 1) : -w ≤ a * b ∧ a * b ≤ w := by
  rcases h with rfl | rfl | rfl <;> omega
theorem L_net_ok {least most many w : Int} {Q : D → Prop} (m0 : 1 ≤ least) (m1 : least ≤ most) (m2 : most ≤ 6) (r0 : 0 ≤ many) (r1 : many ≤ 12) (w0 : 0 ≤ w) (w1 : w ≤ 24)
    (q : ∀ (n : Int) (rs : List D) (t1 t2 : Nat → Int), least ≤ n → n ≤ most → (rs.length : Int) ≤ many → Two n w rs t1 t2 → Q (.tuple [.tuple [.int n, .tuple rs], hts n.toNat t1, hts n.toNat t2])) : f_L_net [.int least, .int most, .int many, .int w] Q := by
  refine o_L_net ?_
  unfold t_L_net
  refine seq_gen fun N hN => ?_
  walk_at "DZ"
  refine ⟨trivial, next_mk (by omega) (by omega) fun n n0 n1 => ?_⟩
  try dsimp only
  obtain ⟨m, hm⟩ : ∃ m : Nat, least + n = (m : Int) := ⟨(least + n).toNat, by omega⟩
  rw [hm]
  have hm6 : m ≤ 6 := by omega
  subst hN
  refine seq_gen fun N hN => ?_
  walk_at "DZ"
  refine ⟨by omega, by omega, by rw [dRange_length]; omega, ?_⟩
  rw [Int.toNat_natCast]
  refine lc_all (fun _ y => ∃ b : Int, y = .int b ∧ -w ≤ b ∧ b ≤ w) (fun d hd R hR => ?_) (fun ys hys => ?_)
  · walk_at "DZ"
    refine ⟨trivial, .inl ⟨by omega, by omega⟩, next_mk (by omega) (by omega) fun b b0 b1 => ?_⟩
    exact hR _ ⟨b - w, rfl, by omega, by omega⟩
  obtain ⟨t1, rfl, hb1⟩ := drawn_ints (m := m) (P := fun _ b => -w ≤ b ∧ b ≤ w) (by rw [← hys.length, dRange_length]) (fun i y hy => by obtain ⟨a, _, h⟩ := F2.get hys i y hy; exact h)
  subst hN
  refine seq_gen fun N hN => ?_
  walk_at "DZ"
  refine ⟨by rw [rowL_len]; omega, ?_⟩
  refine lc_all (fun d y => ∃ (x : Int) (b : Int), d = .int x ∧ y = .int b ∧ x - w ≤ b ∧ b ≤ x + w) (fun d hd R hR => ?_) (fun ys hys => ?_)
  · obtain ⟨e, _, rfl⟩ := List.mem_map.mp hd
    walk_at "DZ"
    refine ⟨trivial, next_mk (by omega) (by omega) fun b b0 b1 => ?_⟩
    try dsimp only
    refine ⟨trivial, next_mk (by omega) (by omega) fun c c0 c1 => ?_⟩
    have := mul_dir (a := b) (b := c - 1) w0 b0 (by omega) (by omega)
    refine ⟨.inl ⟨by omega, by omega⟩, ?_⟩
    exact hR (.int (t1 e + b * (c - 1))) ⟨t1 e, _, rfl, rfl, by omega, by omega⟩
  have hyl : ys.length = m := by rw [← hys.length, rowL_len]
  obtain ⟨t2, rfl, hb2⟩ := drawn_ints (m := m) (P := fun i b => i < m → t1 i - w ≤ b ∧ b ≤ t1 i + w) hyl (fun i y hy => by
    obtain ⟨a, e, x, b, rfl, rfl, h1, h2⟩ := F2.get hys i y hy
    have hi : i < m := by have := lt_of_get hy; omega
    rw [rowL_get _ hi] at e
    cases e
    exact ⟨b, rfl, fun _ => ⟨h1, h2⟩⟩)
  have hb2' : ∀ e, e < m → -(2 * w) ≤ t2 e ∧ t2 e ≤ 2 * w := fun e he => by have := hb1 e he; have := hb2 e he he; omega
  subst hN
  refine seq_gen fun N hN => ?_
  walk_at "DZ"
  subst hN
  refine seq_gen fun N hN => ?_
  refine for_gen fun B hB => ?_
  unfold dFor
  walk_at "DZ"
  refine ⟨trivial, next_mk (by omega) (by omega) fun c c0 c1 => ?_⟩
  try dsimp only
  refine ⟨by omega, by omega, ?_⟩
  refine for_rng (n := c.toNat) (fun i env => ∃ (rs : List D) (a b c d e : Option Sl), rs.length ≤ i ∧ (∀ r ∈ rs, RuleOk m (4 * w + 3) r) ∧ rs.all (ruleHold t1) = true ∧ rs.all (ruleHold t2) = true ∧ env = [some .strm, some (.dat (.int least)), some (.dat (.int most)), some (.dat (.int many)), some (.dat (.int w)), some (.dat (.int (m : Nat))), some (.dat (hts m t1)), some (.dat (hts m t2)), some (.own rs), a, b, c, d, e]) (fun i env hi hInv M hM => ?_) (fun env hInv => ?_) ⟨[], _, _, _, _, _, Nat.le_refl _, fun y hy => absurd hy List.not_mem_nil, rfl, rfl, rfl⟩
  · obtain ⟨rs, a, b, c', d, e, hl, hr, g1, g2, rfl⟩ := hInv
    subst hB
    walk_at "DZ"
    by_cases hm1 : (1 : Int) < m
    · refine ite_t (decide_eq_true hm1) ?_
      refine ⟨trivial, next_mk (by omega) (by omega) fun s s0 s1 => ?_⟩
      try dsimp only
      refine ⟨trivial, next_mk (by omega) (by omega) fun u u0 u1 => ?_⟩
      try dsimp only
      have fin : ∀ v : Int, 0 ≤ v → v < m → s ≠ v → True ∧ f_L_gap [.int s, .int v, hts m t1, hts m t2] fun x => rs.length < 1000000 ∧ M [some .strm, some (.dat (.int least)), some (.dat (.int most)), some (.dat (.int many)), some (.dat (.int w)), some (.dat (.int (m : Nat))), some (.dat (hts m t1)), some (.dat (hts m t2)), some (.own (rs ++ [x])), some (.dat (.int (i : Nat))), some (.dat (.int s)), some (.dat (.int u)), d, e] := fun v v0 v1 hv => by
        refine ⟨trivial, L_gap_ok s0 s1 v0 v1 hv hb1 hb2' fun r hr1 hr2 hr3 => ⟨by omega, ?_⟩⟩
        refine hM _ ⟨rs ++ [r], _, _, _, _, _, by rw [List.length_append, List.length_singleton]; omega, fun z hz => ?_, ?_, ?_, rfl⟩
        · rcases List.mem_append.mp hz with hz | hz
          · exact hr z hz
          · rw [List.mem_singleton.mp hz]; exact hr1
        · rw [List.all_append, g1]; show (true && (ruleHold t1 r && true)) = true; rw [hr2]; rfl
        · rw [List.all_append, g2]; show (true && (ruleHold t2 r && true)) = true; rw [hr3]; rfl
      by_cases hc : s ≤ u
      · rw [decide_eq_true hc]
        exact fin (u + 1) (by omega) (by omega) (by omega)
      · rw [decide_eq_false hc]
        exact fin (u + 0) (by omega) (by omega) (by omega)
    · refine ite_f (fun z => hm1 (of_decide_eq_true z)) ?_
      exact hM _ ⟨rs, _, _, _, _, _, by omega, hr, g1, g2, rfl⟩
  · obtain ⟨rs, a, b, c', d, e, hl, hr, g1, g2, rfl⟩ := hInv
    subst hN
    walk_at "DZ"
    have nr : NR m (4 * w + 3) rs := ⟨by omega, by omega, by omega, by omega, hr⟩
    have := q (m : Nat) rs t1 t2 (by omega) (by omega) (by omega) ⟨nr, by rw [Int.toNat_natCast]; exact hb1, by rw [Int.toNat_natCast]; exact hb2', (right_iff nr t1).mpr g1, (right_iff nr t2).mpr g2⟩
    rw [Int.toNat_natCast] at this
    exact this
theorem mxO_one (o : Option Int) : mxO (o.toList) = o := by cases o <;> rfl
theorem mnO_one (o : Option Int) : mnO (o.toList) = o := by cases o <;> rfl
def loY (T : GR.Tb) (c : Nat) (y : Nat × Int) : Option Int := (T c y.1).map (y.2 - ·)
def hiY (T : GR.Tb) (c : Nat) (y : Nat × Int) : Option Int := (T y.1 c).map (y.2 + ·)
theorem mov_one (T : GR.Tb) (t : Nat → Int) (y : Nat × Int) (c : Nat) : movI T t [y] c = clampI (t c) (loY T c y) (hiY T c y) := by
  have e1 : lows T c [y] = (loY T c y).toList := by
    unfold lows loY
    cases hz : T c y.1 with
    | none => simp [List.filterMap_cons, hz]
    | some d => simp [List.filterMap_cons, hz]
  have e2 : highs T c [y] = (hiY T c y).toList := by
    unfold highs hiY
    cases hz : T y.1 c with
    | none => simp [List.filterMap_cons, hz]
    | some d => simp [List.filterMap_cons, hz]
  unfold movI
  rw [e1, e2, mxO_one, mnO_one]
/-- a row told, one piece behind the other -/
def tellR (T : GR.Tb) (t : Nat → Int) (row : List (Nat × Int)) : Nat → Int := row.foldl (fun t y => movI T t [y]) t
theorem tellR_snoc (T : GR.Tb) (t : Nat → Int) (row : List (Nat × Int)) (y : Nat × Int) : tellR T t (row ++ [y]) = movI T (tellR T t row) [y] := by
  unfold tellR
  rw [List.foldl_append]
  rfl
theorem tellR_congr {m : Nat} {T U : GR.Tb} (h : ∀ i j, i < m → j < m → T i j = U i j) : ∀ {row : List (Nat × Int)} {t u : Nat → Int}, (∀ y ∈ row, y.1 < m) → (∀ c, c < m → t c = u c) → ∀ c, c < m → tellR T t row c = tellR U u row c
  | [], t, u, _, htu, c, hc => htu c hc
  | y :: row, t, u, hr, htu, c, hc => by
    refine tellR_congr h (row := row) (fun z hz => hr z (List.mem_cons_of_mem _ hz)) (fun c hc => ?_) c hc
    have hy := hr y List.mem_cons_self
    show movI T t [y] c = movI U u [y] c
    rw [mov_one, mov_one, htu c hc]
    unfold loY hiY
    rw [h c y.1 hc hy, h y.1 c hy hc]
theorem tellR_right {m : Nat} {rs : List D} {T : GR.Tb} (hT : TB m rs T) (hr : ∀ x ∈ es rs, gs x < m ∧ ge x < m) : ∀ {row : List (Nat × Int)} {t : Nat → Int}, RightH rs t → (∀ y ∈ row, y.1 < m) → RightH rs (tellR T t row)
  | [], t, ht, _ => ht
  | y :: row, t, ht, hrow => tellR_right hT hr (row := row) (mov_right hT hr ht fun z hz => by rw [List.mem_singleton.mp hz]; exact hrow y List.mem_cons_self) fun z hz => hrow z (List.mem_cons_of_mem _ hz)
theorem atI_last {α : Type} (xs : List α) (x : α) : atI (xs ++ [x]) (-1) = some x := by
  unfold atI ixN
  rw [if_neg (by decide), if_pos (by rw [List.length_append, List.length_singleton]; omega)]
  show (xs ++ [x])[_]? = _
  have e : ((-1 : Int) + ((xs ++ [x]).length : Nat)).toNat = xs.length := by rw [List.length_append, List.length_singleton]; omega
  rw [e, List.getElem?_append_right (Nat.le_refl _), Nat.sub_self]
  rfl
/-! limits -/
def flim (T : GR.Tb) (c : Nat) (p : Option Int × Option Int) (y : Nat × Int) : Option Int × Option Int :=
  ((match p.1 with | none => loY T c y | some a => some (clampI a (loY T c y) (hiY T c y))), (match p.2 with | none => hiY T c y | some a => some (clampI a (loY T c y) (hiY T c y))))
def lim (T : GR.Tb) (c : Nat) (row : List (Nat × Int)) : Option Int × Option Int := row.foldl (flim T c) (none, none)
def limD (p : Option Int × Option Int) : D := .tuple [oD p.1, oD p.2]
theorem lim_snoc (T : GR.Tb) (c : Nat) (row : List (Nat × Int)) (y : Nat × Int) : lim T c (row ++ [y]) = flim T c (lim T c row) y := by
  unfold lim
  rw [List.foldl_append]
  rfl
theorem eqv_oD (a b : Option Int) : PyData.eqv (oD a) (oD b) = decide (a = b) := by
  cases a <;> cases b <;> first | rfl | skip
  rename_i x y
  show PyData.eqv (.int x) (.int y) = _
  rw [eqv_intD]
  simp
theorem shaped_oD (a : Option Int) : SeqAt.shaped (oD a) = true := by
  cases a
  · exact shaped_none
  · exact shaped_int _
def stl (p : Option Int × Option Int) : Option Int := if p.1 = p.2 then p.1 else none
/-! ### limits do what the row does -/
def OL (p : Option Int × Option Int) : Prop := ∀ a b, p.1 = some a → p.2 = some b → a ≤ b
theorem clamp_le {x : Int} {lo hi : Option Int} (h : OL (lo, hi)) : (∀ a, lo = some a → a ≤ clampI x lo hi) ∧ (∀ b, hi = some b → clampI x lo hi ≤ b) := by
  cases lo with
  | none =>
    cases hi with
    | none => exact ⟨(fun _ z => nomatch z), (fun _ z => nomatch z)⟩
    | some b => exact ⟨(fun _ z => nomatch z), fun b' z => by cases z; unfold clampI cLo cHi; dsimp only; split <;> omega⟩
  | some a =>
    cases hi with
    | none => exact ⟨(fun a' z => by cases z; unfold clampI cLo cHi; dsimp only; split <;> omega), (fun _ z => nomatch z)⟩
    | some b =>
      have := h a b rfl rfl
      exact ⟨(fun a' z => by cases z; unfold clampI cLo cHi; dsimp only; split <;> split <;> omega), (fun b' z => by cases z; unfold clampI cLo cHi; dsimp only; split <;> split <;> omega)⟩
theorem clamp_mono {x y : Int} {lo hi : Option Int} (h : x ≤ y) : clampI x lo hi ≤ clampI y lo hi := by
  cases lo with
  | none =>
    cases hi with
    | none => exact h
    | some b => unfold clampI cLo cHi; dsimp only; split <;> split <;> omega
  | some a =>
    cases hi with
    | none => unfold clampI cLo cHi; dsimp only; split <;> split <;> omega
    | some b => unfold clampI cLo cHi; dsimp only; (repeat' split) <;> omega
/-- between its limits, a clamped number is the number -/
theorem clamp_cases (x : Int) (lo hi : Option Int) : (clampI x lo hi = x ∧ (∀ a, lo = some a → OL (lo, hi) → a ≤ x) ∧ (∀ b, hi = some b → x ≤ b)) ∨ (∃ a, lo = some a ∧ x < a ∧ (OL (lo, hi) → clampI x lo hi = a)) ∨ (∃ b, hi = some b ∧ b < x ∧ (OL (lo, hi) → clampI x lo hi = b)) := by
  cases lo with
  | none =>
    cases hi with
    | none => exact .inl ⟨rfl, (fun _ z => nomatch z), (fun _ z => nomatch z)⟩
    | some b =>
      by_cases c : b < x
      · exact .inr (.inr ⟨b, rfl, c, fun _ => by show (if b < x then b else x) = b; rw [if_pos c]⟩)
      · exact .inl ⟨by show (if b < x then b else x) = x; rw [if_neg c], (fun _ z => nomatch z), fun b' z => by cases z; omega⟩
  | some a =>
    by_cases c : a > x
    · refine .inr (.inl ⟨a, rfl, c, fun h => ?_⟩)
      cases hi with
      | none => show (if a > x then a else x) = a; rw [if_pos c]
      | some b =>
        have := h a b rfl rfl
        show (if b < (if a > x then a else x) then b else (if a > x then a else x)) = a
        rw [if_pos c, if_neg (by omega)]
    · cases hi with
      | none => exact .inl ⟨by show (if a > x then a else x) = x; rw [if_neg c], (fun a' z _ => by cases z; omega), (fun _ z => nomatch z)⟩
      | some b =>
        by_cases c2 : b < x
        · refine .inr (.inr ⟨b, rfl, c2, fun _ => ?_⟩)
          show (if b < (if a > x then a else x) then b else (if a > x then a else x)) = b
          rw [if_neg c, if_pos c2]
        · refine .inl ⟨?_, (fun a' z _ => by cases z; omega), fun b' z => by cases z; omega⟩
          show (if b < (if a > x then a else x) then b else (if a > x then a else x)) = x
          rw [if_neg c, if_neg c2]
def fl1 (a lo hi : Option Int) : Option Int := match a with | none => lo | some a => some (clampI a lo hi)
def fl2 (a lo hi : Option Int) : Option Int := match a with | none => hi | some a => some (clampI a lo hi)
theorem fl_OL {a b lo hi : Option Int} (h1 : OL (a, b)) (h2 : OL (lo, hi)) : OL (fl1 a lo hi, fl2 b lo hi) := by
  intro u v eu ev
  cases a with
  | none =>
    cases b with
    | none => exact h2 u v eu ev
    | some b =>
      have eu : lo = some u := eu
      have ev : some (clampI b lo hi) = some v := ev
      cases ev
      exact (clamp_le h2).1 u eu
  | some a =>
    have eu : some (clampI a lo hi) = some u := eu
    cases eu
    cases b with
    | none =>
      have ev : hi = some v := ev
      exact (clamp_le h2).2 v ev
    | some b =>
      have ev : some (clampI b lo hi) = some v := ev
      cases ev
      exact clamp_mono (h1 a b rfl rfl)
theorem clamp_eq {x y : Int} {lo hi : Option Int} (h : OL (lo, hi)) (h1 : ∀ a, lo = some a → a ≤ y) (h2 : ∀ b, hi = some b → y ≤ b) (h3 : x ≤ y ∨ ∃ b, hi = some b ∧ y = b) (h4 : y ≤ x ∨ ∃ a, lo = some a ∧ y = a) : clampI x lo hi = y := by
  rcases clamp_cases x lo hi with ⟨e, g1, g2⟩ | ⟨a, rfl, c, g⟩ | ⟨b, rfl, c, g⟩
  · rw [e]
    rcases h3 with h3 | ⟨b, rfl, rfl⟩
    · rcases h4 with h4 | ⟨a, rfl, rfl⟩
      · omega
      · have := g1 y rfl h; omega
    · have := g2 y rfl
      rcases h4 with h4 | ⟨a, rfl, rfl⟩
      · omega
      · have := g1 y rfl h; omega
  · rw [g h]
    have := h1 a rfl
    rcases h4 with h4 | ⟨a', e, rfl⟩
    · omega
    · cases e; rfl
  · rw [g h]
    have := h2 b rfl
    rcases h3 with h3 | ⟨b', e, rfl⟩
    · omega
    · cases e; rfl
theorem clamp_comp {x : Int} {a b lo hi : Option Int} (h1 : OL (a, b)) (h2 : OL (lo, hi)) : clampI (clampI x a b) lo hi = clampI x (fl1 a lo hi) (fl2 b lo hi) := by
  symm
  have l := clamp_le (x := clampI x a b) h2
  have r := clamp_le (x := x) h1
  refine clamp_eq (fl_OL h1 h2) (fun u e => ?_) (fun v e => ?_) ?_ ?_
  · cases a with
    | none => exact l.1 u e
    | some a =>
      have e : some (clampI a lo hi) = some u := e
      cases e
      exact clamp_mono (r.1 a rfl)
  · cases b with
    | none => exact l.2 v e
    | some b =>
      have e : some (clampI b lo hi) = some v := e
      cases e
      exact clamp_mono (r.2 b rfl)
  · rcases clamp_cases (clampI x a b) lo hi with ⟨e, _, _⟩ | ⟨u, rfl, c, g⟩ | ⟨u, rfl, c, g⟩
    · rw [e]
      rcases clamp_cases x a b with ⟨e', _, _⟩ | ⟨w, rfl, c', g'⟩ | ⟨w, rfl, c', g'⟩
      · exact .inl (by omega)
      · exact .inl (by rw [g' h1]; omega)
      · refine .inr ⟨clampI w lo hi, rfl, ?_⟩
        rw [g' h1] at e ⊢
        exact e.symm
    · rw [g h2]
      rcases clamp_cases x a b with ⟨e', _, _⟩ | ⟨w, rfl, c', g'⟩ | ⟨w, rfl, c', g'⟩
      · exact .inl (by omega)
      · exact .inl (by rw [g' h1] at c; omega)
      · refine .inr ⟨clampI w (some u) hi, rfl, ?_⟩
        rw [g' h1] at g
        exact (g h2).symm
    · cases b with
      | none => exact .inr ⟨u, rfl, g h2⟩
      | some b =>
        by_cases c2 : u < b
        · refine .inr ⟨clampI b lo (some u), rfl, ?_⟩
          rw [g h2]
          rcases clamp_cases b lo (some u) with ⟨_, _, k⟩ | ⟨w, rfl, k, g3⟩ | ⟨w, e3, k, g3⟩
          · have := k u rfl; omega
          · have := h2 w u rfl rfl; omega
          · cases e3; exact (g3 h2).symm
        · have := r.2 b rfl; omega
  · rcases clamp_cases (clampI x a b) lo hi with ⟨e, _, _⟩ | ⟨u, rfl, c, g⟩ | ⟨u, rfl, c, g⟩
    · rw [e]
      rcases clamp_cases x a b with ⟨e', _, _⟩ | ⟨w, rfl, c', g'⟩ | ⟨w, rfl, c', g'⟩
      · exact .inl (by omega)
      · refine .inr ⟨clampI w lo hi, rfl, ?_⟩
        rw [g' h1] at e ⊢
        exact e.symm
      · exact .inl (by rw [g' h1]; omega)
    · cases a with
      | none => exact .inr ⟨u, rfl, g h2⟩
      | some a =>
        by_cases c2 : a < u
        · refine .inr ⟨clampI a (some u) hi, rfl, ?_⟩
          rw [g h2]
          rcases clamp_cases a (some u) hi with ⟨_, k, _⟩ | ⟨w, e3, k, g3⟩ | ⟨w, rfl, k, g3⟩
          · have := k u rfl h2; omega
          · cases e3; exact (g3 h2).symm
          · have := h2 u w rfl rfl; omega
        · have := r.1 a rfl; omega
    · rw [g h2]
      rcases clamp_cases x a b with ⟨e', _, _⟩ | ⟨w, rfl, c', g'⟩ | ⟨w, rfl, c', g'⟩
      · exact .inl (by omega)
      · refine .inr ⟨clampI w lo (some u), rfl, ?_⟩
        rw [g' h1] at g
        exact (g h2).symm
      · exact .inl (by rw [g' h1] at c; omega)
theorem one_OL {m : Nat} {rs : List D} {T : GR.Tb} {t : Nat → Int} (hT : TB m rs T) (ht : RightH rs t) {c : Nat} (hc : c < m) {y : Nat × Int} (hy : y.1 < m) : OL (loY T c y, hiY T c y) := by
  intro a b ea eb
  obtain ⟨d, e1, rfl⟩ := Option.map_eq_some_iff.mp ea
  obtain ⟨g, e2, rfl⟩ := Option.map_eq_some_iff.mp eb
  have h1 := right_walk hT ht hc hy e1
  have h2 := right_walk hT ht hy hc e2
  omega
theorem tell_lim {m : Nat} {rs : List D} {T : GR.Tb} {t : Nat → Int} (hT : TB m rs T) (ht : RightH rs t) {c : Nat} (hc : c < m) : ∀ {row : List (Nat × Int)} {p : Option Int × Option Int} {u : Nat → Int} {x : Int}, (∀ y ∈ row, y.1 < m) → OL p → u c = clampI x p.1 p.2 → tellR T u row c = clampI x (row.foldl (flim T c) p).1 (row.foldl (flim T c) p).2 ∧ OL (row.foldl (flim T c) p)
  | [], p, u, x, _, hp, hu => ⟨hu, hp⟩
  | y :: row, p, u, x, hrow, hp, hu => by
    have hy := hrow y List.mem_cons_self
    have ho := one_OL hT ht hc hy
    refine tell_lim hT ht hc (row := row) (p := flim T c p y) (u := movI T u [y]) (x := x) (fun z hz => hrow z (List.mem_cons_of_mem _ hz)) (fl_OL hp ho) ?_
    rw [mov_one, hu]
    exact clamp_comp hp ho
theorem tell_as {m : Nat} {rs : List D} {T : GR.Tb} {t : Nat → Int} (hT : TB m rs T) (ht : RightH rs t) {c : Nat} (hc : c < m) {row : List (Nat × Int)} (hrow : ∀ y ∈ row, y.1 < m) (u : Nat → Int) : tellR T u row c = clampI (u c) (lim T c row).1 (lim T c row).2 :=
  (tell_lim hT ht hc (p := (none, none)) hrow (fun a _ z => nomatch z) rfl).1
theorem lim_OL {m : Nat} {rs : List D} {T : GR.Tb} {t : Nat → Int} (hT : TB m rs T) (ht : RightH rs t) {c : Nat} (hc : c < m) {row : List (Nat × Int)} (hrow : ∀ y ∈ row, y.1 < m) : OL (lim T c row) :=
  (tell_lim hT ht hc (p := (none, none)) (u := t) (x := t c) hrow (fun a _ z => nomatch z) rfl).2
theorem lim_congr {m : Nat} {T U : GR.Tb} (h : ∀ i j, i < m → j < m → T i j = U i j) {c : Nat} (hc : c < m) {row : List (Nat × Int)} (hrow : ∀ y ∈ row, y.1 < m) : lim T c row = lim U c row := by
  unfold lim
  generalize ((none, none) : Option Int × Option Int) = p
  induction row generalizing p with
  | nil => rfl
  | cons y row ih =>
    have hy := hrow y List.mem_cons_self
    rw [List.foldl_cons, List.foldl_cons]
    have e : flim T c p y = flim U c p y := by
      unfold flim loY hiY
      rw [h c y.1 hc hy, h y.1 c hy hc]
    rw [e]
    exact ih (fun z hz => hrow z (List.mem_cons_of_mem _ hz)) _
def LB (B : Int) (p : Option Int × Option Int) : Prop := (∀ a, p.1 = some a → -B ≤ a ∧ a ≤ B) ∧ (∀ a, p.2 = some a → -B ≤ a ∧ a ≤ B)
theorem clamp_LB {B x : Int} {lo hi : Option Int} (h : LB B (lo, hi)) (hx : -B ≤ x ∧ x ≤ B) : -B ≤ clampI x lo hi ∧ clampI x lo hi ≤ B := by
  unfold clampI
  have h1 : -B ≤ cLo x lo ∧ cLo x lo ≤ B := by
    cases lo with
    | none => exact hx
    | some a => have := h.1 a rfl; unfold cLo; dsimp only; split <;> omega
  generalize cLo x lo = z at h1 ⊢
  cases hi with
  | none => exact h1
  | some a => have := h.2 a rfl; unfold cHi; dsimp only; split <;> omega
theorem lim_LB {n far B : Int} {rs : List D} {T : GR.Tb} (hf : 0 ≤ far) (h : NR n far rs) (hz : NoNegR rs) (hT : TB n.toNat rs T) {c : Nat} (hc : c < n.toNat) {row : List (Nat × Int)} (hrow : ∀ y ∈ row, y.1 < n.toNat ∧ -B ≤ y.2 ∧ y.2 ≤ B) : LB (B + 5 * far) (lim T c row) := by
  unfold lim
  have h0 : LB (B + 5 * far) ((none, none) : Option Int × Option Int) := ⟨(fun _ z => nomatch z), (fun _ z => nomatch z)⟩
  generalize ((none, none) : Option Int × Option Int) = p at h0 ⊢
  induction row generalizing p with
  | nil => exact h0
  | cons y row ih =>
    have hy := hrow y List.mem_cons_self
    rw [List.foldl_cons]
    refine ih (fun z hz => hrow z (List.mem_cons_of_mem _ hz)) _ ?_
    have hlb : LB (B + 5 * far) (loY T c y, hiY T c y) := by
      constructor
      · intro a e
        obtain ⟨d, e1, rfl⟩ := Option.map_eq_some_iff.mp e
        have := TB.far hf h hz hT hc hy.1 e1
        omega
      · intro a e
        obtain ⟨d, e1, rfl⟩ := Option.map_eq_some_iff.mp e
        have := TB.far hf h hz hT hy.1 hc e1
        omega
    obtain ⟨a, b⟩ := p
    constructor
    · intro u e
      cases a with
      | none => exact hlb.1 u e
      | some a => have e : some (clampI a _ _) = some u := e; cases e; exact clamp_LB hlb (h0.1 a rfl)
    · intro u e
      cases b with
      | none => exact hlb.2 u e
      | some a => have e : some (clampI a _ _) = some u := e; cases e; exact clamp_LB hlb (h0.2 a rfl)
theorem rowL_congr {m : Nat} {f g : Nat → D} (h : ∀ i, i < m → f i = g i) : rowL m f = rowL m g := by
  unfold rowL
  exact List.map_congr_left fun e he => h e (List.mem_range.mp he)
/-! ### tight bounds in a dict, by turns over the edges -/
def rel (i : Nat) (x : Ed) (T : GR.Tb) : GR.Tb := GR.upd2 T i (ge x) (GR.omin (T i (ge x)) (GR.oadd (T i (gs x)) (some x.w)))
def Pk (m : Nat) (rs : List D) (k : Nat) (T : GR.Tb) : Prop := ∀ (i j : Nat) (p : List Ed), i < m → GR.IsW gs ge (es rs) i j p → p.length ≤ k → GR.ole (T i j) (some (GR.wlen gw p))
structure Rx (rs : List D) (T0 T : GR.Tb) (R : Ed → Nat → Prop) : Prop where
  so : GR.Sound gs ge gw (es rs) T
  mo : ∀ a b, GR.ole (T a b) (T0 a b)
  rx : ∀ x i, R x i → GR.ole (T i (ge x)) (GR.oadd (T0 i (gs x)) (some x.w))
theorem rel_mono (i : Nat) (x : Ed) (T : GR.Tb) (a b : Nat) : GR.ole (rel i x T a b) (T a b) := by
  unfold rel GR.upd2
  split
  · rename_i z; obtain ⟨rfl, rfl⟩ := z; exact GR.omin_left _ _
  · exact GR.ole_refl _
theorem Rx.step {rs : List D} {T0 T : GR.Tb} {R R' : Ed → Nat → Prop} (h : Rx rs T0 T R) {x : Ed} (hx : x ∈ es rs) (i : Nat) (hR : ∀ y j, R' y j → R y j ∨ (y = x ∧ j = i)) : Rx rs T0 (rel i x T) R' := by
  refine ⟨?_, fun a b => GR.ole_trans (rel_mono i x T a b) (h.mo a b), fun y j hy => ?_⟩
  · refine h.so.upd fun L e => ?_
    rcases GR.omin_cases (T i (ge x)) (GR.oadd (T i (gs x)) (some x.w)) with z | z
    · rw [z] at e; exact h.so _ _ _ e
    · rw [z] at e
      cases hz : T i (gs x) with
      | none => rw [hz] at e; cases e
      | some a =>
        rw [hz] at e
        have e : some (a + x.w) = some L := e
        cases e
        obtain ⟨p, p1, p2⟩ := h.so _ _ _ hz
        exact ⟨p ++ [x], GR.isW_append.mpr ⟨_, p1, GR.isW_one hx⟩, by rw [GR.wlen_append, GR.wlen_one, p2]⟩
  · rcases hR y j hy with hy | ⟨rfl, rfl⟩
    · exact GR.ole_trans (rel_mono i x T _ _) (h.rx y j hy)
    · unfold rel GR.upd2
      rw [if_pos ⟨rfl, rfl⟩]
      exact GR.ole_trans (GR.omin_right _ _) (GR.oadd_mono (h.mo _ _) (GR.ole_refl _))
theorem Rx.start {rs : List D} {T : GR.Tb} (h : GR.Sound gs ge gw (es rs) T) : Rx rs T T fun _ _ => False := ⟨h, fun _ _ => GR.ole_refl _, fun _ _ z => z.elim⟩
theorem last_edge {α : Type} : ∀ {k : Nat} {p : List α}, p.length ≤ k + 1 → p.length ≤ k ∨ ∃ q x, p = q ++ [x] ∧ q.length ≤ k := fun {k p} h => by
  by_cases c : p.length ≤ k
  · exact .inl c
  · have hne : p ≠ [] := fun z => by subst z; exact c (Nat.zero_le _)
    refine .inr ⟨p.dropLast, p.getLast hne, (List.dropLast_concat_getLast hne).symm, ?_⟩
    rw [List.length_dropLast]
    omega
theorem Pk.next {m k : Nat} {rs : List D} {T0 T : GR.Tb} {R : Ed → Nat → Prop} (hk : Pk m rs k T0) (h : Rx rs T0 T R) (hR : ∀ x ∈ es rs, ∀ i, i < m → R x i) : Pk m rs (k + 1) T := by
  intro i j p hi hp hl
  rcases last_edge hl with hl' | ⟨q, x, rfl, hl'⟩
  · exact GR.ole_trans (h.mo i j) (hk i j p hi hp hl')
  · obtain ⟨v, h1, h2⟩ := GR.isW_append.mp hp
    have hx : x ∈ es rs := h2.1
    have hv : gs x = v := h2.2.1
    have hj : ge x = j := h2.2.2
    subst hv hj
    refine GR.ole_trans (h.rx x i (hR x hx i hi)) ?_
    rw [GR.wlen_append, GR.wlen_one]
    exact GR.oadd_mono (hk i _ q hi h1 hl') (GR.ole_refl (some x.w))
theorem tb_of {m : Nat} {rs : List D} {T : GR.Tb} (hr : ∀ x ∈ es rs, gs x < m ∧ ge x < m) (hz : NoNegR rs) (so : GR.Sound gs ge gw (es rs) T) (hk : Pk m rs m T) : TB m rs T := by
  have dst : ∀ i j, i < m → j < m → DstR rs i j (T i j) := fun i j hi hj => ⟨fun L e => so i j L e, fun p hp => by
    obtain ⟨q, q1, q2, q3⟩ := GR.short_walk hr hz _ (Nat.le_refl _) hi hp
    have := hk i j q hi q1 (by omega)
    cases hT : T i j with
    | none => rw [hT] at this; exact this.elim
    | some L =>
      rw [hT] at this
      have : L ≤ GR.wlen gw q := this
      exact ⟨L, rfl, by omega⟩⟩
  exact ⟨dst, fun i hi => (dst i i hi hi).uniq (GR.Dst.self hz)⟩
theorem upd2_id (T : GR.Tb) (i j : Nat) : GR.upd2 T i j (T i j) = T := by
  funext a b
  unfold GR.upd2
  by_cases c : a = i ∧ b = j
  · rw [if_pos c, c.1, c.2]
  · rw [if_neg c]
/-! the dict of a table -/
def k2 (i j : Nat) : List Int := [(i : Int), (j : Int)]
theorem k2_inj {i j a b : Nat} : k2 i j = k2 a b ↔ i = a ∧ j = b := by
  unfold k2
  simp only [List.cons.injEq, and_true]
  omega
structure DT (m : Nat) (ks : List (List Key × D)) (T : GR.Tb) : Prop where
  sh : ∃ is : List (List Int × D), ks = ksOf is ∧ ∀ q ∈ is, scal q.2 = true
  va : ∀ i j : Nat, i < m → j < m → valD ks (kI (k2 i j)) = (T i j).map PyData.int
theorem DT.keys {m : Nat} {ks : List (List Key × D)} {T : GR.Tb} (h : DT m ks T) : ∀ y ∈ ks, ∃ ms, y.1 = kI ms := fun y hy => by
  obtain ⟨is, rfl, _⟩ := h.sh
  obtain ⟨q, _, rfl⟩ := List.mem_map.mp hy
  exact ⟨_, rfl⟩
theorem putD_len (ks : List (List Key × D)) (k : List Key) (d : D) : (putD ks k d).length ≤ ks.length + 1 := by
  unfold putD
  split
  · rw [List.length_map]; omega
  · rw [List.length_append, List.length_singleton]; omega
theorem valD_snoc (ks : List (List Key × D)) (k k' : List Key) (d : D) (h : valD ks k = none) : valD (ks ++ [(k, d)]) k' = if k' = k then some d else valD ks k' := by
  unfold valD at h ⊢
  rw [List.find?_append]
  have h0 : ks.find? (fun x => decide (x.1 = k)) = none := by
    cases hz : ks.find? (fun x => decide (x.1 = k)) with
    | none => rfl
    | some x => rw [hz] at h; cases h
  by_cases c : k' = k
  · subst c
    rw [if_pos rfl, h0]
    show Option.map _ (Option.or none (List.find? _ [(k', d)])) = _
    rw [Option.none_or, List.find?_cons, decide_eq_true rfl]
    rfl
  · rw [if_neg c]
    cases hz : ks.find? (fun x => decide (x.1 = k')) with
    | some x => rfl
    | none =>
      show Option.map _ (Option.or none (List.find? _ [(k, d)])) = _
      rw [Option.none_or, List.find?_cons, decide_eq_false (fun z => c z.symm)]
      rfl
theorem valD_repl (k k' : List Key) (d : D) : ∀ ks : List (List Key × D), (valD ks k).isSome = true → valD (ks.map fun x => if x.1 = k then (x.1, d) else x) k' = if k' = k then some d else valD ks k'
  | [], h => nomatch h
  | (k1, d1) :: ks, h => by
    rw [List.map_cons]
    by_cases c : k1 = k
    · subst c
      rw [if_pos rfl]
      by_cases c2 : k' = k1
      · subst c2
        rw [if_pos rfl]
        unfold valD
        rw [List.find?_cons, decide_eq_true rfl]
        rfl
      · rw [if_neg c2]
        have e1 : ∀ (d : D) (l : List (List Key × D)), valD ((k1, d) :: l) k' = valD l k' := fun d l => by unfold valD; rw [List.find?_cons, decide_eq_false (fun z => c2 z.symm)]
        rw [e1, e1]
        by_cases c3 : (valD ks k1).isSome = true
        · rw [valD_repl k1 k' d ks c3, if_neg c2]
        · have e : (ks.map fun x => if x.1 = k1 then (x.1, d) else x) = ks := by
            have hn : ∀ x ∈ ks, x.1 ≠ k1 := fun x hx e => by
              refine c3 ?_
              unfold valD
              rw [Option.isSome_map, List.find?_isSome]
              exact ⟨x, hx, decide_eq_true e⟩
            calc (ks.map fun x => if x.1 = k1 then (x.1, d) else x) = ks.map id := List.map_congr_left fun x hx => by rw [if_neg (hn x hx)]; rfl
              _ = ks := List.map_id ks
          rw [e]
    · rw [if_neg c]
      have h' : (valD ks k).isSome = true := by
        unfold valD at h ⊢
        rw [List.find?_cons, decide_eq_false c] at h
        exact h
      have ih := valD_repl k k' d ks h'
      by_cases c2 : k1 = k'
      · subst c2
        rw [if_neg c]
        unfold valD
        rw [List.find?_cons, decide_eq_true rfl, List.find?_cons, decide_eq_true rfl]
      · have e1 : ∀ (l : List (List Key × D)), valD ((k1, d1) :: l) k' = valD l k' := fun l => by unfold valD; rw [List.find?_cons, decide_eq_false c2]
        rw [e1, e1]
        exact ih
theorem valD_put (ks : List (List Key × D)) (k k' : List Key) (d : D) : valD (putD ks k d) k' = if k' = k then some d else valD ks k' := by
  unfold putD
  by_cases c : (valD ks k).isSome = true
  · rw [if_pos c]; exact valD_repl k k' d ks c
  · rw [if_neg c]
    refine valD_snoc ks k k' d ?_
    cases hz : valD ks k with
    | none => rfl
    | some x => rw [hz] at c; exact absurd rfl c
theorem putD_sh {is : List (List Int × D)} (hs : ∀ q ∈ is, scal q.2 = true) (k : List Int) {d : D} (hd : scal d = true) : ∃ is' : List (List Int × D), putD (ksOf is) (kI k) d = ksOf is' ∧ ∀ q ∈ is', scal q.2 = true := by
  unfold putD
  split
  · refine ⟨is.map fun q => if q.1 = k then (q.1, d) else q, ?_, fun q hq => ?_⟩
    · unfold ksOf
      rw [List.map_map, List.map_map]
      refine List.map_congr_left fun q _ => ?_
      show (if kI q.1 = kI k then (kI q.1, d) else (kI q.1, q.2)) = _
      dsimp only [Function.comp]
      by_cases c : q.1 = k
      · rw [if_pos (by rw [c]), if_pos c]
      · rw [if_neg (fun z => c (kI_inj z)), if_neg c]
    · obtain ⟨q', hq', rfl⟩ := List.mem_map.mp hq
      by_cases c : q'.1 = k
      · rw [if_pos c]; exact hd
      · rw [if_neg c]; exact hs q' hq'
  · refine ⟨is ++ [(k, d)], ?_, fun q hq => ?_⟩
    · unfold ksOf
      rw [List.map_append]
      rfl
    · rcases List.mem_append.mp hq with hq | hq
      · exact hs q hq
      · rw [List.mem_singleton.mp hq]; exact hd
theorem DT.put {m : Nat} {ks : List (List Key × D)} {T : GR.Tb} (h : DT m ks T) (i j : Nat) (v : Int) : DT m (putD ks (kI (k2 i j)) (.int v)) (GR.upd2 T i j (some v)) := by
  constructor
  · obtain ⟨is, rfl, hs⟩ := h.sh
    exact putD_sh hs _ rfl
  · intro a b ha hb
    rw [valD_put]
    unfold GR.upd2
    by_cases c : a = i ∧ b = j
    · rw [if_pos (by rw [c.1, c.2]), if_pos c]; rfl
    · rw [if_neg (fun z => c (k2_inj.mp (kI_inj z))), if_neg c]
      exact h.va a b ha hb
theorem getF_ks (k : List Int) : ∀ is : List (List Int × D), getF (is.map fun q => (PyData.tuple (q.1.map PyData.int), q.2)) k = valD (ksOf is) (kI k)
  | [] => rfl
  | (ns, d) :: is => by
    have ih := getF_ks k is
    unfold getF at ih ⊢
    unfold valD at ih ⊢
    unfold ksOf at ih ⊢
    rw [List.map_cons, List.map_cons, List.find?_cons, List.find?_cons]
    dsimp only
    rw [keyI_ints]
    by_cases c : ns = k
    · rw [decide_eq_true (by rw [c]), decide_eq_true (by rw [c])]; rfl
    · rw [decide_eq_false (fun z => c (Option.some.inj z)), decide_eq_false (fun z => c (kI_inj z))]
      exact ih
/-- a dict that holds the table -/
def BdD (m : Nat) (T : GR.Tb) (d : D) : Prop := ∃ kvs, d = .dict kvs ∧ ∀ i j : Nat, i < m → j < m → getF kvs (k2 i j) = (T i j).map PyData.int
theorem key_nat (i j : Nat) : keyD (.tuple [.int (i : Nat), .int (j : Nat)]) = some (kI (k2 i j)) := rfl
theorem keyI_nat (i j : Nat) : keyI (.tuple [.int (i : Nat), .int (j : Nat)]) = some (k2 i j) := rfl
def TdD (k : Nat) : GR.Tb := fun i j => if i = j ∧ i < k then some 0 else none
theorem TdD_set (i : Nat) : GR.upd2 (TdD i) i i (some 0) = TdD (i + 1) := by
  funext a b
  unfold GR.upd2 TdD
  by_cases c : a = i ∧ b = i
  · rw [if_pos c, if_pos ⟨by omega, by omega⟩]
  · rw [if_neg c]
    by_cases d : a = b ∧ a < i
    · rw [if_pos d, if_pos ⟨d.1, by omega⟩]
    · rw [if_neg d, if_neg (fun z => by omega)]
theorem L_bounds_ok {w : World} {n far : Int} {rs : List D} {Q : D → Prop} (h : NR n far rs) (hz : NoNegR rs) (q : ∀ T d, TB n.toNat rs T → BdD n.toNat T d → Q d) : f_L_bounds w [.tuple [.int n, .tuple rs]] Q := by
  have hel := edN_le rs rs.length
  have h12 := h.rl
  have hrg := ed_rng h
  obtain ⟨m, rfl⟩ : ∃ m : Nat, n = (m : Int) := ⟨n.toNat, by have := h.n0; omega⟩
  have hm : m ≤ 6 := by have := h.n1; omega
  rw [Int.toNat_natCast] at q hrg
  have a0 : atI [PyData.int (m : Int), PyData.tuple rs] 0 = some (.int m) := rfl
  refine o_L_bounds ?_
  unfold t_L_bounds
  refine seq_gen fun N hN => ?_
  walk_at "DZ"
  subst hN
  try dsimp only
  refine seq_gen fun N hN => ?_
  refine for_gen fun B hB => ?_
  unfold dFor
  walk_at "DZ"
  rw [a0]
  dsimp only
  refine ⟨by omega, by omega, ?_⟩
  rw [Int.toNat_natCast]
  refine for_rng (fun i env => ∃ (ks : List (List Key × D)) (a : Option Sl), DT m ks (TdD i) ∧ ks.length ≤ i ∧ env = [some (.dat (.tuple [.int m, .tuple rs])), some (.dct w ks), a, none, none, none, none, none, none]) (fun i env hi hInv M hM => ?_) (fun env hInv => ?_) ⟨[], _, ⟨⟨[], rfl, fun q hq => absurd hq List.not_mem_nil⟩, fun i j _ _ => by unfold TdD; rw [if_neg (fun z => by omega)]; rfl⟩, Nat.le_refl _, rfl⟩
  · obtain ⟨ks, a, hd, hl, rfl⟩ := hInv
    subst hB
    walk_at "DZ"
    refine ⟨rfl, by omega, ?_⟩
    rw [key_nat]
    dsimp only
    have := hd.put i i 0
    rw [TdD_set] at this
    refine hM _ ⟨_, some (.dat (.int (i : Nat))), this, ?_, rfl⟩
    have := putD_len ks (kI (k2 i i)) (.int 0)
    omega
  obtain ⟨ks, a, hd, hl, rfl⟩ := hInv
  have so0 : GR.Sound gs ge gw (es rs) (TdD m) := fun i j L e => by
    unfold TdD at e
    split at e
    · rename_i c; cases e; exact ⟨[], c.1, rfl⟩
    · cases e
  have pk0 : Pk m rs 0 (TdD m) := fun i j p hi hp hl => by
    have : p = [] := List.eq_nil_of_length_eq_zero (by omega)
    subst this
    have hij : i = j := hp
    unfold TdD
    rw [if_pos ⟨hij, hi⟩]
    exact Int.le_refl _
  generalize TdD m = T at hd so0 pk0
  subst hN
  try dsimp only
  refine seq_gen fun N hN => ?_
  refine for_gen fun B hB => ?_
  unfold dFor
  walk_at "DZ"
  rw [a0]
  dsimp only
  refine ⟨by omega, by omega, ?_⟩
  rw [Int.toNat_natCast]
  refine for_rng (fun i env => ∃ (T : GR.Tb) (ks : List (List Key × D)) (a b c d e f g : Option Sl), DT m ks T ∧ GR.Sound gs ge gw (es rs) T ∧ Pk m rs i T ∧ ks.length ≤ 6 + 144 * i ∧ env = [some (.dat (.tuple [.int m, .tuple rs])), some (.dct w ks), a, b, c, d, e, f, g]) (fun i env hi hInv M hM => ?_) (fun env hInv => ?_) ⟨T, ks, _, _, _, _, _, _, _, hd, so0, pk0, by omega, rfl⟩
  · obtain ⟨T0, ks, a, b, c, d, e, f, g, hd, so, pk, hl, rfl⟩ := hInv
    subst hB
    refine for_gen fun B hB => ?_
    unfold dFor
    walk_at "DZ"
    refine L_edges_ok h ?_
    try dsimp only
    refine for_inv (fun k env => ∃ (T : GR.Tb) (ks : List (List Key × D)) (a c d e f g : Option Sl), DT m ks T ∧ Rx rs T0 T (fun x i => x ∈ (es rs).take k ∧ i < m) ∧ ks.length ≤ 6 + 144 * i + 6 * k ∧ env = [some (.dat (.tuple [.int m, .tuple rs])), some (.dct w ks), a, some (.dat (.int (i : Nat))), c, d, e, f, g]) (fun k d' env hdg hInv M2 hM2 => ?_) (fun env hInv => ?_) ?_
    · obtain ⟨T, ks, a, c, d, e, f, g, hd, hx, hl, rfl⟩ := hInv
      rw [List.getElem?_map] at hdg
      obtain ⟨x, hxk, rfl⟩ := Option.map_eq_some_iff.mp hdg
      have hxm : x ∈ es rs := List.mem_of_getElem? hxk
      have hin := ed_in h hxm
      have hr := hrg x hxm
      have hk24 : k < 24 := by
        have := lt_of_get hxk
        have : (es rs).length ≤ 2 * rs.length := hel
        omega
      have et : (es rs).take (k + 1) = (es rs).take k ++ [x] := by rw [List.take_add_one, hxk]; rfl
      have hs : x.s = ((gs x : Nat) : Int) := (Int.toNat_of_nonneg hin.1).symm
      have he : x.e = ((ge x : Nat) : Int) := (Int.toNat_of_nonneg hin.2.2.1).symm
      unfold eD
      refine ⟨rfl, ?_⟩
      rw [hs, he]
      dsimp only [gsCons, gsNil, gN, List.set_cons_succ, List.set_cons_zero]
      subst hB
      refine for_gen fun B hB => ?_
      unfold dFor
      walk_at "DZ"
      rw [a0]
      dsimp only
      refine ⟨by omega, by omega, ?_⟩
      rw [Int.toNat_natCast]
      refine for_rng (fun v env => ∃ (T : GR.Tb) (ks : List (List Key × D)) (a g : Option Sl), DT m ks T ∧ Rx rs T0 T (fun y i => (y ∈ (es rs).take k ∧ i < m) ∨ (y = x ∧ i < v)) ∧ ks.length ≤ 6 + 144 * i + 6 * k + v ∧ env = [some (.dat (.tuple [.int m, .tuple rs])), some (.dct w ks), a, some (.dat (.int (i : Nat))), some (.dat (eV x)), some (.dat (.int (gs x : Nat))), some (.dat (.int (ge x : Nat))), some (.dat (.int x.w)), g]) (fun v env hv hInv M3 hM3 => ?_) (fun env hInv => ?_) ⟨T, ks, _, _, hd, ⟨hx.so, hx.mo, fun y i hy => hx.rx y i (hy.resolve_right fun z => by omega)⟩, by omega, rfl⟩
      · obtain ⟨T, ks, a, g, hd, hx, hl, rfl⟩ := hInv
        have hstep : Rx rs T0 (rel v x T) (fun y i => (y ∈ (es rs).take k ∧ i < m) ∨ (y = x ∧ i < v + 1)) := hx.step hxm v fun y j hy => by
          rcases hy with hy | ⟨rfl, hy⟩
          · exact .inl (.inl hy)
          · by_cases c : j = v
            · exact .inr ⟨rfl, c⟩
            · exact .inl (.inr ⟨rfl, by omega⟩)
        have same : rel v x T = T → ∀ a g : Option Sl, M3 [some (.dat (.tuple [.int m, .tuple rs])), some (.dct w ks), a, some (.dat (.int (i : Nat))), some (.dat (eV x)), some (.dat (.int (gs x : Nat))), some (.dat (.int (ge x : Nat))), some (.dat (.int x.w)), g] := fun e a g => by
          rw [e] at hstep
          exact hM3 _ ⟨T, ks, a, g, hd, hstep, by omega, rfl⟩
        have other : ∀ L : Int, rel v x T = GR.upd2 T v (ge x) (some L) → ∀ a g : Option Sl, M3 [some (.dat (.tuple [.int m, .tuple rs])), some (.dct w (putD ks (kI (k2 v (ge x))) (.int L))), a, some (.dat (.int (i : Nat))), some (.dat (eV x)), some (.dat (.int (gs x : Nat))), some (.dat (.int (ge x : Nat))), some (.dat (.int x.w)), g] := fun L e a g => by
          have hd' := hd.put v (ge x) L
          rw [e] at hstep
          have := putD_len ks (kI (k2 v (ge x))) (.int L)
          exact hM3 _ ⟨_, _, a, g, hd', hstep, by omega, rfl⟩
        have v1 := hd.va v (gs x) hv hr.1
        have v2 := hd.va v (ge x) hv hr.2
        subst hB
        walk_at "DZ"
        rw [keyI_nat]
        dsimp only
        refine ⟨hd.keys, ?_⟩
        rw [v1]
        cases hT1 : T v (gs x) with
        | none =>
          refine ite_f (fun z => nomatch z) ?_
          refine same ?_ _ _
          unfold rel
          rw [hT1]
          show GR.upd2 T v (ge x) (GR.omin (T v (ge x)) none) = T
          have e1 : GR.omin (T v (ge x)) none = T v (ge x) := by cases T v (ge x) <;> rfl
          rw [e1, upd2_id]
        | some L1 =>
          have erel : rel v x T = GR.upd2 T v (ge x) (GR.omin (T v (ge x)) (some (L1 + x.w))) := by unfold rel; rw [hT1]; rfl
          refine ite_t rfl ?_
          refine ⟨rfl, ?_⟩
          rw [key_nat]
          dsimp only
          rw [v1, hT1]
          dsimp only [Option.map_some]
          rw [keyI_nat]
          dsimp only
          refine ⟨hd.keys, ?_⟩
          rw [v2]
          cases hT2 : T v (ge x) with
          | none =>
            rw [hT2] at erel
            refine ite_t rfl ?_
            refine ite_t rfl ?_
            refine ⟨rfl, by omega, ?_⟩
            rw [key_nat]
            dsimp only
            exact other _ erel _ _
          | some L2 =>
            rw [hT2] at erel
            refine ite_f (fun z => nomatch z) ?_
            refine ⟨rfl, ?_⟩
            rw [key_nat]
            dsimp only
            rw [v2, hT2]
            dsimp only [Option.map_some]
            by_cases cl : L1 + x.w < L2
            · refine ite_t (decide_eq_true cl) ?_
              refine ⟨rfl, by omega, ?_⟩
              refine other _ ?_ _ _
              rw [erel]
              show GR.upd2 T v (ge x) (some (if L1 + x.w < L2 then L1 + x.w else L2)) = _
              rw [if_pos cl]
            · refine ite_f (fun z => cl (of_decide_eq_true z)) ?_
              refine same ?_ _ _
              rw [erel]
              show GR.upd2 T v (ge x) (some (if L1 + x.w < L2 then L1 + x.w else L2)) = _
              rw [if_neg cl, ← hT2, upd2_id]
      · obtain ⟨T, ks, a, g, hd, hx, hl, rfl⟩ := hInv
        refine hM2 _ ⟨T, ks, _, _, _, _, _, _, hd, ⟨hx.so, hx.mo, fun y i hy => ?_⟩, by omega, rfl⟩
        rw [et] at hy
        rcases List.mem_append.mp hy.1 with h1 | h1
        · exact hx.rx y i (.inl ⟨h1, hy.2⟩)
        · exact hx.rx y i (.inr ⟨List.mem_singleton.mp h1, hy.2⟩)
    · obtain ⟨T, ks, a, c, d, e, f, g, hd, hx, hl, rfl⟩ := hInv
      rw [List.length_map] at hx hl
      rw [List.take_length] at hx
      have : (es rs).length ≤ 2 * rs.length := hel
      exact hM _ ⟨T, ks, _, _, _, _, _, _, _, hd, hx.so, pk.next hx fun x hx i hi => ⟨hx, hi⟩, by omega, rfl⟩
    · exact ⟨T0, ks, _, _, _, _, _, _, hd, ⟨so, fun _ _ => GR.ole_refl _, fun y i hy => absurd hy.1 (by rw [List.take_zero]; exact List.not_mem_nil)⟩, by omega, rfl⟩
  · obtain ⟨T, ks, a, b, c, d, e, f, g, hd, so, pk, hl, rfl⟩ := hInv
    obtain ⟨is, rfl, hs⟩ := hd.sh
    subst hN
    walk_at "DZ"
    refine ⟨is, rfl, hs, ?_⟩
    refine q T _ (tb_of hrg hz so pk) ⟨_, rfl, fun i j hi hj => ?_⟩
    rw [getF_ks]
    exact hd.va i j hi hj
/-! ### the law's own: joint news and states, with the bounds in a dict -/
theorem getF_k2 {m : Nat} {T : GR.Tb} {kvs : List (D × D)} (h : ∀ i j : Nat, i < m → j < m → getF kvs (k2 i j) = (T i j).map PyData.int) {i j : Nat} (hi : i < m) (hj : j < m) : getF kvs (k2 i j) = (T i j).map PyData.int := h i j hi hj
theorem L_joint_ok {m : Nat} {T : GR.Tb} {d : D} {t : Nat → Int} {row : List (Nat × Int)} {Q : D → Prop} (hd : BdD m T d) (hm : m ≤ 6) (hrow : ∀ y ∈ row, y.1 < m) (hl : row.length ≤ 1000) (q : Q (hts m (movI T t row))) : f_L_joint [d, hts m t, .tuple (row.map nN)] Q := by
  obtain ⟨kvs, rfl, hk⟩ := hd
  refine o_L_joint ?_
  unfold t_L_joint hts
  refine seq_gen fun N hN => ?_
  walk_at "DZ"
  subst hN
  try dsimp only
  refine seq_gen fun N hN => ?_
  refine for_gen fun B hB => ?_
  unfold dFor
  walk_at "DZ"
  rw [rowL_len]
  refine ⟨by omega, by omega, ?_⟩
  rw [Int.toNat_natCast]
  refine for_rng (fun i env => ∃ a b c e f g : Option Sl, env = [some (.dat (.dict kvs)), some (.dat (.tuple (rowL m fun e => .int (t e)))), some (.dat (.tuple (row.map nN))), some (.own (rowL i fun e => .int (movI T t row e))), a, b, c, e, f, g]) (fun i env hi hInv M hM => ?_) (fun env hInv => ?_) ⟨_, _, _, _, _, _, rfl⟩
  · obtain ⟨a, b, c, e, f, g, rfl⟩ := hInv
    subst hB
    refine seq_gen fun N2 hN2 => ?_
    walk_at "DZ"
    rw [at_rowL _ hi]
    dsimp only
    subst hN2
    try dsimp only
    refine seq_gen fun N2 hN2 => ?_
    walk_at "DZ"
    refine ⟨by rw [List.length_map]; omega, ?_⟩
    refine lc_list (l := row) nN (fun y => .int (((T i y.1).map (y.2 - ·)).getD 0)) (fun y => ((T i y.1).map (y.2 - ·)).isSome) (fun y hy R N' r1 r2 => ?_) ?_
    · have hym := hrow y hy
      have hv := hk i y.1 hi hym
      unfold nN
      walk_at "DZ"
      refine ⟨rfl, ?_⟩
      rw [keyI_nat]
      dsimp only
      rw [hv]
      cases hz : T i y.1 with
      | none => exact r2 (by rw [hz]; rfl)
      | some v =>
        have r1 := r1 (by rw [hz]; rfl)
        rw [hz] at r1
        refine ite_t rfl ?_
        exact r1
    rw [filt_map fun y : Nat × Int => (T i y.1).map (y.2 - ·)]
    subst hN2
    try dsimp only
    refine seq_gen fun N2 hN2 => ?_
    walk_at "DZ"
    refine ⟨by rw [List.length_map]; omega, ?_⟩
    refine lc_list (l := row) nN (fun y => .int (((T y.1 i).map (y.2 + ·)).getD 0)) (fun y => ((T y.1 i).map (y.2 + ·)).isSome) (fun y hy R N' r1 r2 => ?_) ?_
    · have hym := hrow y hy
      have hv := hk y.1 i hym hi
      unfold nN
      walk_at "DZ"
      refine ⟨rfl, ?_⟩
      rw [keyI_nat]
      dsimp only
      rw [hv]
      cases hz : T y.1 i with
      | none => exact r2 (by rw [hz]; rfl)
      | some v =>
        have r1 := r1 (by rw [hz]; rfl)
        rw [hz] at r1
        refine ite_t rfl ?_
        exact r1
    rw [filt_map fun y : Nat × Int => (T y.1 i).map (y.2 + ·)]
    have hll : (row.filterMap fun y => (T i y.1).map (y.2 - ·)).length ≤ row.length := List.length_filterMap_le _ _
    have hlh : (row.filterMap fun y => (T y.1 i).map (y.2 + ·)).length ≤ row.length := List.length_filterMap_le _ _
    have fin : M [some (.dat (.dict kvs)), some (.dat (.tuple (rowL m fun e => .int (t e)))), some (.dat (.tuple (row.map nN))), some (.own ((rowL i fun e => .int (movI T t row e)) ++ [.int (minD (maxD (t i :: lows T i row) :: highs T i row))])), some (.dat (.int (i : Nat))), some (.dat (.int (t i))), some (.dat (.list ((lows T i row).map PyData.int))), some (.dat (.list ((highs T i row).map PyData.int))), f, g] := hM _ ⟨_, _, _, _, _, _, by unfold rowL; rw [List.range_succ, List.map_append, clamp_as]; rfl⟩
    have i1 : allInt (PyData.int (t i) :: (lows T i row).map PyData.int) = some (t i :: lows T i row) := allInt_ints (t i :: lows T i row)
    have i2 : allInt (PyData.int (maxD (t i :: lows T i row)) :: (highs T i row).map PyData.int) = some (maxD (t i :: lows T i row) :: highs T i row) := allInt_ints (maxD (t i :: lows T i row) :: highs T i row)
    subst hN2
    walk_at "DZ"
    refine ⟨by rw [List.length_map]; omega, ?_⟩
    rw [show allInt (PyData.int (t i) :: List.map PyData.int (List.filterMap (fun y => Option.map (fun x => y.snd - x) (T i y.fst)) row)) = some (t i :: lows T i row) from i1]
    dsimp only
    refine ⟨Nat.succ_pos _, by rw [List.length_map]; omega, ?_⟩
    rw [show allInt (PyData.int (maxD (t i :: lows T i row)) :: List.map PyData.int (List.filterMap (fun y => Option.map (fun x => y.snd + x) (T y.fst i)) row)) = some (maxD (t i :: lows T i row) :: highs T i row) from i2]
    exact ⟨Nat.succ_pos _, by rw [rowL_len]; omega, fin⟩
  · obtain ⟨a, b, c, e, f, g, rfl⟩ := hInv
    subst hN
    walk_at "DZ"
    exact q
theorem ifs_gen {c : T2T} {a b : T2S} {E : Ends2} {env : Ev} (h : ∀ A B, A = a → B = b → dIfS c A B E env) : dIfS c a b E env := h _ _ rfl rfl
theorem not_ok (x : Str) (hx : PyData.canLay0 (.str x) = true) : okN 1 (.list [.str "not", .str x]) := .list fun d hd => by
  rcases List.mem_cons.mp hd with rfl | hd
  · exact .str _ (by first | rfl | decide +kernel)
  · rcases List.mem_cons.mp hd with rfl | hd
    · exact .str _ hx
    · cases hd
theorem right_len {rs : List D} {t : Nat → Int} (h : RightH rs t) : ∀ (p : List Ed) (i j : Nat), GR.IsW gs ge (es rs) i j p → t j - t i ≤ GR.wlen gw p
  | [], i, j, w => by
    cases (show i = j from w)
    rw [GR.wlen_nil]; omega
  | x :: p, i, j, w => by
    have h1 := h x w.1
    have h2 := right_len h p _ _ w.2.2
    rw [GR.wlen_cons]
    have h3 : gs x = i := w.2.1
    rw [h3] at h1
    show t j - t i ≤ x.w + GR.wlen gw p
    omega
theorem noNeg_right {rs : List D} {t : Nat → Int} (h : RightH rs t) : NoNegR rs := fun i p w => by
  have := right_len h p i i w
  omega
theorem eq_no {a b : Int} (h : a ≠ b) {P R : Prop} (r : R) : SeqAt.shaped (.int a) = true ∧ SeqAt.shaped (.int b) = true ∧ (if PyData.eqv (.int a) (.int b) = true then P else R) := ⟨shaped_int _, shaped_int _, ite_f (by rw [eqv_intD, decide_eq_false h]; exact fun z => nomatch z) r⟩
theorem eq_yes {a : Int} {P R : Prop} (p : P) : SeqAt.shaped (.int a) = true ∧ SeqAt.shaped (.int a) = true ∧ (if PyData.eqv (.int a) (.int a) = true then P else R) := ⟨shaped_int _, shaped_int _, ite_t (by rw [eqv_intD, decide_eq_true rfl]) p⟩
def intD (d : D) : Int := match d with | .int i => i | _ => 0
def hvB (n : Int) (rs : List D) (o : D) : Bool := match o with | .tuple us => decide (us.length = n.toNat) && (us.all whI && rs.all (ruleHold fun e => intD (us.getD e .none))) | _ => false
theorem whI_int {v : D} (h : whI v = true) : ∃ i, v = .int i := by
  cases v <;> first | exact ⟨_, rfl⟩ | cases h
theorem isI_whI (v : D) : (isI v && !isB v) = whI v := by
  cases v <;> rfl
theorem all_hts {m : Nat} {us : List D} (hl : us.length = m) (h : us.all whI = true) : PyData.tuple us = hts m fun e => intD (us.getD e .none) := by
  unfold hts
  congr 1
  refine ext_get fun i => ?_
  by_cases hi : i < m
  · rw [rowL_get _ hi, List.getElem?_eq_getElem (by omega)]
    dsimp only
    rw [List.getD_eq_getElem?_getD, List.getElem?_eq_getElem (by omega)]
    obtain ⟨j, hj⟩ := whI_int (List.all_eq_true.mp h us[i] (List.getElem_mem _))
    show some us[i] = some (.int (intD us[i]))
    rw [hj]
    rfl
  · rw [List.getElem?_eq_none (by omega), List.getElem?_eq_none (by rw [rowL_len]; omega)]
theorem hv_right {n far : Int} {rs : List D} (h : NR n far rs) {o : D} (e : hvB n rs o = true) : ∃ t, RightH rs t := by
  unfold hvB at e
  split at e
  · rw [Bool.and_eq_true, Bool.and_eq_true] at e
    exact ⟨_, (right_iff h _).mpr e.2.2⟩
  · cases e
theorem f2_mem {P : D → D → Prop} : ∀ {as bs : List D}, F2 P as bs → ∀ {y : D}, y ∈ bs → ∃ x, x ∈ as ∧ P x y
  | _, _, .nil, y, hy => absurd hy List.not_mem_nil
  | _, _, .cons h t, y, hy => by
    rcases List.mem_cons.mp hy with rfl | hy
    · exact ⟨_, List.mem_cons_self, h⟩
    · obtain ⟨x, hx, p⟩ := f2_mem t hy
      exact ⟨x, List.mem_cons_of_mem _ hx, p⟩
theorem atI_any {ds : List D} {d : Int} (h0 : 0 ≤ d) (h1 : d < (ds.length : Nat)) : ∃ x ∈ ds, atI ds d = some x := by
  obtain ⟨k, rfl⟩ : ∃ k : Nat, d = (k : Int) := ⟨d.toNat, by omega⟩
  have hk : k < ds.length := by omega
  exact ⟨ds[k], List.getElem_mem hk, atI_nat (List.getElem?_eq_getElem hk)⟩
theorem len_cutD' (ds : List D) (lo hi : Option Int) : (Z2.cutD ds lo hi).length ≤ ds.length := by
  unfold Z2.cutD
  rw [List.length_take, List.length_drop]
  omega
def ShD (o : D) : Prop := ∀ vs, o = .tuple vs → vs.length ≤ 1000 ∧ ∀ d ∈ vs, SeqAt.shaped d = true
theorem shD_not {o : D} (h : isTu o = false) : ShD o := fun vs e => by
  subst e
  cases h
theorem shD_tup {vs : List D} (h1 : vs.length ≤ 1000) (h2 : ∀ d ∈ vs, SeqAt.shaped d = true) : ShD (.tuple vs) := fun us e => by
  cases e
  exact ⟨h1, h2⟩
theorem are_right_heights_any {n far : Int} {rs : List D} {o : D} {Q : D → Prop} (h : NR n far rs) (ho : ∀ us, o = .tuple us → us.length ≤ 1000) (q : Q (.bool (hvB n rs o))) : f_are_right_heights [.tuple [.int n, .tuple rs], o] Q := by
  have a0 : atI [PyData.int n, PyData.tuple rs] 0 = some (.int n) := rfl
  have n0 := h.n0
  by_cases ht : isTu o = true
  · obtain ⟨us, rfl⟩ : ∃ us, o = .tuple us := by cases o <;> first | exact ⟨_, rfl⟩ | cases ht
    have hul := ho us rfl
    by_cases c1 : us.length = n.toNat
    · by_cases c2 : us.all whI = true
      · rw [all_hts c1 c2]
        refine are_right_heights_ok h ?_
        have e : hvB n rs (.tuple us) = rs.all (ruleHold fun e => intD (us.getD e .none)) := by
          unfold hvB
          dsimp only
          rw [decide_eq_true c1, c2]
          rfl
        rw [← e]
        exact q
      · have e : hvB n rs (.tuple us) = false := by
          unfold hvB
          dsimp only
          rw [Bool.eq_false_iff.mpr c2, Bool.false_and, Bool.and_false]
        rw [e] at q
        refine o_are_right_heights ?_
        unfold t_are_right_heights
        refine seq_gen fun N hN => ?_
        walk_at "DZ"
        simp only [isT_tuple, isTu, Bool.not_true, Bool.false_eq_true, if_false]
        rw [a0]
        refine ⟨shaped_int _, shaped_int _, ?_⟩
        refine ite_f (by rw [eqv_intD, decide_eq_true (by omega)]; decide) ?_
        subst hN
        try dsimp only
        refine seq_gen fun N hN => ?_
        walk_at "DZ"
        refine ⟨by omega, ?_⟩
        refine lc_map (fun d => .bool (whI d)) (fun d hd R hR => ?_) ?_
        · walk_at "DZ"
          exact is_whole_ok _ _ hR
        · unfold dBools
          dsimp only
          rw [allBool_map whI]
          dsimp only
          have : (us.map whI).all id = false := by rw [List.all_map]; exact Bool.eq_false_iff.mpr c2
          rw [this]
          exact ite_t rfl q
    · have e : hvB n rs (.tuple us) = false := by
        unfold hvB
        dsimp only
        rw [decide_eq_false c1, Bool.false_and]
      rw [e] at q
      refine o_are_right_heights ?_
      unfold t_are_right_heights
      refine seq_gen fun N hN => ?_
      walk_at "DZ"
      simp only [isT_tuple, isTu, Bool.not_true, Bool.false_eq_true, if_false]
      rw [a0]
      refine ⟨shaped_int _, shaped_int _, ?_⟩
      refine ite_t (by rw [eqv_intD, decide_eq_false (by omega)]; rfl) ?_
      exact q
  · have ht : isTu o = false := Bool.eq_false_iff.mpr ht
    have e : hvB n rs o = false := by
      cases o <;> first | rfl | cases ht
    rw [e] at q
    refine o_are_right_heights ?_
    unfold t_are_right_heights
    refine seq_gen fun N hN => ?_
    walk_at "DZ"
    simp only [isT_tuple, ht, Bool.not_false, if_true]
    exact q
def iN (j : Nat) : D := .int (j : Int)
def natD (d : D) : Nat := match d with | .int i => i.toNat | _ => 0
def evsB (n : Int) (us : List D) : Bool := us.all fun v => inI v 0 (n - 1)
theorem evs_nat {n : Int} : ∀ {us : List D}, evsB n us = true → us = (us.map natD).map iN ∧ ∀ j ∈ us.map natD, (j : Int) < n
  | [], _ => ⟨rfl, fun j hj => absurd hj List.not_mem_nil⟩
  | v :: us, h => by
    unfold evsB at h
    rw [List.all_cons, Bool.and_eq_true] at h
    obtain ⟨h1, h2⟩ := evs_nat (us := us) h.2
    obtain ⟨i, rfl, l, g⟩ := inI_int h.1
    refine ⟨?_, fun j hj => ?_⟩
    · rw [List.map_cons, List.map_cons, ← h1]
      show _ = PyData.int ((i.toNat : Nat) : Int) :: us
      rw [Int.toNat_of_nonneg l]
    · rw [List.map_cons] at hj
      rcases List.mem_cons.mp hj with rfl | hj
      · show ((i.toNat : Nat) : Int) < n
        omega
      · exact h2 j hj
theorem in_nats (vs : List Nat) (e : Nat) : ((vs.map iN).any fun d => PyData.eqv d (.int (e : Int))) = decide (e ∈ vs) := by
  rw [Bool.eq_iff_iff, decide_eq_true_iff, List.any_eq_true]
  constructor
  · rintro ⟨d, hd, z⟩
    obtain ⟨u, hu, rfl⟩ := List.mem_map.mp hd
    unfold iN at z
    rw [eqv_intD] at z
    have := of_decide_eq_true z
    rw [show e = u by omega]
    exact hu
  · intro h
    exact ⟨iN e, List.mem_map.mpr ⟨e, h, rfl⟩, by unfold iN; rw [eqv_intD]; exact decide_eq_true rfl⟩
theorem flat_nats (vs : List Nat) : (vs.map iN).all flatD = true := by
  rw [List.all_eq_true]
  intro d hd
  obtain ⟨u, _, rfl⟩ := List.mem_map.mp hd
  rfl
def ascN : List Nat → Bool
  | a :: b :: l => decide (a < b) && ascN (b :: l)
  | _ => true
def noWalkB (n : Int) (rs : List D) (s e : Nat) (hs ch : D) : Bool := hvB n rs hs && match ch with
  | .tuple us => evsB n us && ((decide (e ∈ us.map natD) && !decide (s ∈ us.map natD)) && (ascN (us.map natD) && (es rs).all fun x => decide (gs x ∈ us.map natD) || !decide (ge x ∈ us.map natD)))
  | _ => false
theorem cut_1 (ds : List D) : Z2.cutD ds (some 1) none = ds.drop 1 := by
  unfold Z2.cutD
  cases ds with
  | nil => rfl
  | cons d l =>
    have e1 : HT.sIx (d :: l).length 0 (some 1) = 1 := by
      unfold HT.sIx
      rw [List.length_cons]
      simp
    have e2 : HT.sIx (d :: l).length (d :: l).length none = (d :: l).length := rfl
    rw [e1, e2, List.take_of_length_le (by rw [List.length_drop]; omega)]
theorem zip_nats : ∀ as bs : List Nat, dZip (as.map iN) (bs.map iN) = (as.zip bs).map fun p => PyData.tuple [iN p.1, iN p.2]
  | [], _ => rfl
  | _ :: _, [] => rfl
  | a :: as, b :: bs => by
    rw [List.map_cons, List.map_cons, List.zip_cons_cons, List.map_cons, ← zip_nats as bs]
    rfl
theorem asc_zip : ∀ vs : List Nat, ((vs.zip (vs.drop 1)).map fun p => decide (p.1 < p.2)).all id = ascN vs
  | [] => rfl
  | [_] => rfl
  | a :: b :: l => by
    have := asc_zip (b :: l)
    rw [List.drop_succ_cons, List.drop_zero] at this ⊢
    rw [List.zip_cons_cons, List.map_cons, List.all_cons, this]
    rfl
/-! ### ways: ends, carried events -/
theorem told_times_ok {n far : Int} {rs : List D} {t : Nat → Int} {nm : D} {Q : D → Prop} (h : NR n far rs) (hr : RightH rs t) (ht : ∀ e, e < n.toNat → -500 ≤ t e ∧ t e ≤ 500) (q : Q .none) : f_check_told_times [.tuple [.int n, .tuple rs], nm, hts n.toNat t] Q := by
  have ar := @are_right_heights_ok n far rs t
  have hall := (right_iff h t).mp hr
  obtain ⟨m, rfl⟩ : ∃ m : Nat, n = (m : Int) := ⟨n.toNat, by have := h.n0; omega⟩
  have hm : m ≤ 6 := by have := h.n1; omega
  rw [Int.toNat_natCast] at ar ht ⊢
  refine o_check_told_times ?_
  unfold t_check_told_times
  walk_at "DZ"
  refine ar h ?_
  rw [hall]
  dsimp only
  refine ite_f (fun z => nomatch z) ?_
  unfold hts
  walk_at "DZ"
  refine ⟨by rw [rowL_len]; omega, ?_⟩
  refine lc_row _ (fun _ => .bool true) (fun e he R hR => ?_) ?_
  · walk_at "DZ"
    refine is_news_time_ok _ _ ?_
    have := ht e he
    have e1 : inI (.int (t e)) (-500) 500 = true := by unfold inI; dsimp only; rw [Bool.and_eq_true]; exact ⟨decide_eq_true this.1, decide_eq_true this.2⟩
    rw [e1]
    exact hR
  · have e2 : rowL m (fun _ => PyData.bool true) = ((List.range m).map fun _ => true).map PyData.bool := by unfold rowL; rw [List.map_map]; rfl
    rw [e2]
    unfold dBools
    dsimp only
    rw [show ((List.range m).map fun _ => true).map PyData.bool = ((List.range m).map fun _ => true).map fun x => PyData.bool (id x) from rfl, allBool_map]
    dsimp only
    have e3 : (List.map id ((List.range m).map fun _ => true)).all id = true := by simp
    rw [e3]
    exact q
structure Ends (n far : Int) (rs : List D) (t u : Nat → Int) : Prop where
  nr : NR n far rs
  r1 : RightH rs t
  r2 : RightH rs u
  b1 : ∀ e, e < n.toNat → -500 ≤ t e ∧ t e ≤ 500
  b2 : ∀ e, e < n.toNat → -500 ≤ u e ∧ u e ≤ 500
theorem Ends.flip {n far : Int} {rs : List D} {t u : Nat → Int} (h : Ends n far rs t u) : Ends n far rs u t := ⟨h.nr, h.r2, h.r1, h.b2, h.b1⟩
theorem Ends.nn {n far : Int} {rs : List D} {t u : Nat → Int} (h : Ends n far rs t u) : NoNegR rs := GR.pot_noNeg h.r1
theorem check_ends_ok {n far : Int} {rs : List D} {t u : Nat → Int} {Q : D → Prop} (h : Ends n far rs t u) (q : Q .none) : f_check_ends [.tuple [.int n, .tuple rs], hts n.toNat t, hts n.toNat u] Q := by
  refine o_check_ends ?_
  unfold t_check_ends
  walk_at "DZ"
  refine check_net_ok (nr_net h.nr) ?_
  refine told_times_ok h.nr h.r1 h.b1 ?_
  exact told_times_ok h.nr h.r2 h.b2 q
theorem bounds_of_ok {n far : Int} {rs : List D} {Q : D → Prop} (h : NR n far rs) (hz : NoNegR rs) (q : ∀ T, TB n.toNat rs T → Q (bT n.toNat T)) : f_bounds_of [.tuple [.int n, .tuple rs]] Q := by
  refine o_bounds_of ?_
  unfold t_bounds_of
  walk_at "DZ"
  refine least_walks_spec h (fun hz W hW => ?_) (fun hn => absurd hz hn)
  exact lengths_of_ok (by have := h.n1; omega) (q _ (hW.tb hz))
/-- whether a carries b -/
def car (T : GR.Tb) (t u : Nat → Int) (a b : Nat) : Bool := decide (a ≠ b) && ((decide (t b < u b) && decide (T b a = some (u a - u b))) || (decide (u b < t b) && decide (T a b = some (u b - u a))))
theorem int_oD (i : Int) : PyData.int i = oD (some i) := rfl
theorem eqv_nat (a b : Nat) : PyData.eqv (.int (a : Nat)) (.int (b : Nat)) = decide (a = b) := by
  rw [eqv_intD]
  by_cases h : a = b
  · subst h; simp
  · rw [decide_eq_false h, decide_eq_false (by omega)]
theorem at_bT {m a b : Nat} {T : GR.Tb} (ha : a < m) (hb : b < m) : atI (rowL m fun i => PyData.tuple (rowL m fun j => oD (T i j))) (a : Int) = some (.tuple (rowL m fun j => oD (T a j))) := at_rowL _ ha
theorem does_carry_ok {m a b : Nat} {T : GR.Tb} {t u : Nat → Int} {Q : D → Prop} (ha : a < m) (hb : b < m) (q : Q (.bool (car T t u a b))) : f_does_carry [bT m T, hts m t, hts m u, .int (a : Nat), .int (b : Nat)] Q := by
  refine o_does_carry ?_
  unfold t_does_carry bT hts
  refine seq_gen fun N hN => ?_
  walk_at "DZ"
  refine ⟨shaped_int _, shaped_int _, ?_⟩
  rw [eqv_nat]
  by_cases hab : a = b
  · refine ite_t (decide_eq_true hab) ?_
    have e : car T t u a b = false := by unfold car; rw [decide_eq_false (fun z => z hab)]; rfl
    rw [e] at q
    exact q
  refine ite_f (fun z => hab (of_decide_eq_true z)) ?_
  subst hN
  try dsimp only
  refine seq_gen fun N hN => ?_
  walk_at "DZ"
  rw [at_rowL _ hb]
  dsimp only
  rw [at_rowL _ hb]
  dsimp only
  by_cases h1 : t b < u b
  · refine ite_t (decide_eq_true h1) ?_
    rw [at_rowL _ hb]
    dsimp only
    rw [at_rowL _ ha]
    dsimp only
    rw [at_rowL _ ha]
    dsimp only
    refine ⟨shaped_oD _, shaped_int _, ?_⟩
    rw [int_oD, eqv_oD]
    have e : car T t u a b = decide (T b a = some (u a - u b)) := by
      unfold car
      rw [decide_eq_true (show a ≠ b from hab), decide_eq_true h1, decide_eq_false (show ¬ u b < t b by omega)]
      simp
    rw [e] at q
    exact q
  refine ite_f (fun z => h1 (of_decide_eq_true z)) ?_
  subst hN
  try dsimp only
  refine seq_gen fun N hN => ?_
  walk_at "DZ"
  rw [at_rowL _ hb]
  dsimp only
  rw [at_rowL _ hb]
  dsimp only
  by_cases h2 : u b < t b
  · refine ite_t (decide_eq_true h2) ?_
    rw [at_rowL _ ha]
    dsimp only
    rw [at_rowL _ hb]
    dsimp only
    rw [at_rowL _ ha]
    dsimp only
    refine ⟨shaped_oD _, shaped_int _, ?_⟩
    rw [int_oD, eqv_oD]
    have e : car T t u a b = decide (T a b = some (u b - u a)) := by
      unfold car
      rw [decide_eq_true (show a ≠ b from hab), decide_eq_false h1, decide_eq_true h2]
      simp
    rw [e] at q
    exact q
  refine ite_f (fun z => h2 (of_decide_eq_true z)) ?_
  subst hN
  walk_at "DZ"
  have e : car T t u a b = false := by
    unfold car
    rw [decide_eq_false h1, decide_eq_false h2]
    simp
  rw [e] at q
  exact q
/-- what carrying is -/
theorem car_iff {T : GR.Tb} {t u : Nat → Int} {a b : Nat} : car T t u a b = true ↔ a ≠ b ∧ ((t b < u b ∧ T b a = some (u a - u b)) ∨ (u b < t b ∧ T a b = some (u b - u a))) := by
  unfold car
  rw [Bool.and_eq_true, Bool.or_eq_true, Bool.and_eq_true, Bool.and_eq_true]
  simp only [decide_eq_true_eq]
theorem car_dir {m : Nat} {rs : List D} {T : GR.Tb} {t u : Nat → Int} (hT : TB m rs T) (h1 : RightH rs t) {a b : Nat} (ha : a < m) (hb : b < m) (h : car T t u a b = true) : (t a < u a ∧ t b < u b) ∨ (u a < t a ∧ u b < t b) := by
  rcases (car_iff.mp h).2 with ⟨c, d⟩ | ⟨c, d⟩
  · have := right_walk hT h1 hb ha d
    omega
  · have := right_walk hT h1 ha hb d
    omega
theorem car_trans {m : Nat} {rs : List D} {T : GR.Tb} {t u : Nat → Int} (hT : TB m rs T) (h1 : RightH rs t) (h2 : RightH rs u) {a b c : Nat} (ha : a < m) (hb : b < m) (hc : c < m) (h : car T t u a b = true) (k : car T t u b c = true) (n : a ≠ c) : car T t u a c = true := by
  have d1 := car_dir hT h1 ha hb h
  have d2 := car_dir hT h1 hb hc k
  refine car_iff.mpr ⟨n, ?_⟩
  have tri : ∀ {i j l : Nat} {x y : Int}, i < m → j < m → l < m → T i j = some x → T j l = some y → ∃ z, T i l = some z ∧ z ≤ x + y := fun {i j l x y} hi hj hl e1 e2 => by
    have := GR.Dst.tri (hT.dst i j hi hj) (hT.dst j l hj hl) (hT.dst i l hi hl)
    rw [e1, e2] at this
    cases hz : T i l with
    | none => rw [hz] at this; exact this.elim
    | some z => rw [hz] at this; exact ⟨z, rfl, this⟩
  rcases (car_iff.mp h).2 with ⟨x1, y1⟩ | ⟨x1, y1⟩ <;> rcases (car_iff.mp k).2 with ⟨x2, y2⟩ | ⟨x2, y2⟩
  · obtain ⟨z, e, hz⟩ := tri hc hb ha y2 y1
    have := right_walk hT h2 hc ha e
    refine .inl ⟨x2, ?_⟩
    rw [e]
    congr 1
    omega
  · omega
  · omega
  · obtain ⟨z, e, hz⟩ := tri ha hb hc y1 y2
    have := right_walk hT h2 ha hc e
    refine .inr ⟨x2, ?_⟩
    rw [e]
    congr 1
    omega
/-! ### sources -/
def ntL (l : List Nat) : List D := l.map fun b => PyData.int (b : Nat)
theorem ntL_len (l : List Nat) : (ntL l).length = l.length := by unfold ntL; rw [List.length_map]
theorem ntL_get {l : List Nat} {i b : Nat} (h : l[i]? = some b) : (ntL l)[i]? = some (.int (b : Nat)) := by unfold ntL; rw [List.getElem?_map, h]; rfl
theorem dRange_nat (m : Nat) : dRange 0 m = ntL (List.range m) := by
  unfold dRange ntL
  refine List.map_congr_left fun i _ => ?_
  rw [Int.zero_add]
theorem in_nat (l : List Nat) (v : Nat) : ((ntL l).any fun d => PyData.eqv d (.int (v : Nat))) = decide (v ∈ l) := by
  unfold ntL
  rw [List.any_map]
  rw [Bool.eq_iff_iff, List.any_eq_true, decide_eq_true_eq]
  constructor
  · rintro ⟨b, hb, e⟩
    have e : PyData.eqv (.int (b : Nat)) (.int (v : Nat)) = true := e
    rw [eqv_nat] at e
    rw [← of_decide_eq_true e]
    exact hb
  · intro h
    exact ⟨v, h, by show PyData.eqv (.int (v : Nat)) (.int (v : Nat)) = true; rw [eqv_nat]; exact decide_eq_true rfl⟩
theorem ntL_flat (l : List Nat) : (ntL l).all flatD = true := List.all_eq_true.mpr fun d hd => by
  unfold ntL at hd
  obtain ⟨b, _, rfl⟩ := List.mem_map.mp hd
  rfl
theorem lc_filt {g : T2G} {tt : T2T} {te : T2E} {env : Ev} {m : Nat} {Q : List D → Prop} (keep : Nat → Bool)
    (h : ∀ i, i < m → ∀ (R : D → Prop) (N : Prop), (keep i = true → R (.int (i : Nat))) → (keep i = false → N) → g (.int (i : Nat)) env fun env1 => tt env1 fun b => if b = true then te env1 R else N)
    (q : Q (ntL ((List.range m).filter keep))) : lcD g tt te env (dRange 0 m) Q := by
  rw [dRange_nat]
  exact lc_list (l := List.range m) (fun b => PyData.int (b : Nat)) (fun b => PyData.int (b : Nat)) keep (fun i hi R N a b => h i (List.mem_range.mp hi) R N a b) q
theorem lc2_all {α : Type} {g : T2G} {tt : T2T} {ti1 : T2I} {g1 : T2G} {tt1 : T2T} {te : T2E} {vs1 : List Nat} {env : Ev} (G : α → D) (out : α → List D) : ∀ {l : List α} {Q : List D → Prop},
    (∀ a ∈ l, ∀ R : List D → Prop, R (out a) → g (G a) env fun env1 => tt env1 fun b => if b = true then ti1 env1 fun es => es.length ≤ 1000 ∧ lcD g1 tt1 te (wipeE env1 vs1) es R else R []) →
    Q (l.flatMap out) → lcD2 g tt ti1 g1 tt1 te vs1 env (l.map G) Q
  | [], Q, _, q => q
  | a :: l, Q, h, q => by
    refine h a List.mem_cons_self (fun ys => lcD2 g tt ti1 g1 tt1 te vs1 env (l.map G) fun zs => Q (ys ++ zs)) ?_
    refine lc2_all G out (fun b hb => h b (List.mem_cons_of_mem _ hb)) ?_
    rw [List.flatMap_cons] at q
    exact q
def cTab (m : Nat) (C : Nat → Nat → Bool) : D := .list (rowL m fun a => .list (rowL m fun b => .bool (C a b)))
theorem carrying_table_ok {m : Nat} {T : GR.Tb} {t u : Nat → Int} {Q : D → Prop} (hm : m ≤ 6) (q : Q (cTab m (car T t u))) : f_carrying_table [bT m T, hts m t, hts m u] Q := by
  refine o_carrying_table ?_
  unfold t_carrying_table
  have hb : bT m T = bT m T := rfl
  generalize hB : bT m T = B
  generalize hU : hts m u = U
  generalize hV : hts m t = V
  have hl : seqOf V = some (rowL m fun e => .int (t e)) := by rw [← hV]; rfl
  refine seq_gen fun N hN => ?_
  rw [← hV]
  unfold hts
  walk_at "DZ"
  rw [rowL_len]
  subst hN
  walk_at "DZ"
  refine ⟨by omega, by omega, ?_⟩
  rw [Int.toNat_natCast]
  refine ⟨by rw [dRange_length]; omega, ?_⟩
  refine lc_rng (fun a => .list (rowL m fun b => .bool (car T t u a b))) (fun a ha R hR => ?_) q
  walk_at "DZ"
  refine ⟨by omega, by omega, ?_⟩
  rw [Int.toNat_natCast]
  refine ⟨by rw [dRange_length]; omega, ?_⟩
  refine lc_rng (fun b => .bool (car T t u a b)) (fun b hb R hR => ?_) hR
  walk_at "DZ"
  rw [← hB, ← hU]
  exact does_carry_ok ha hb hR
def bnd (m : Nat) (C : Nat → Nat → Bool) (e : Nat) : List Nat := (List.range m).filter fun o => decide (o = e) || (C e o && C o e)
theorem bundle_of_ok {m e : Nat} {C : Nat → Nat → Bool} {Q : D → Prop} (hm : m ≤ 6) (he : e < m) (q : Q (.tuple (ntL (bnd m C e)))) : f_bundle_of [cTab m C, .int (e : Nat)] Q := by
  refine o_bundle_of ?_
  unfold t_bundle_of cTab
  refine seq_gen fun N hN => ?_
  walk_at "DZ"
  rw [rowL_len]
  refine ⟨by omega, by omega, ?_⟩
  rw [Int.toNat_natCast]
  refine ⟨by rw [dRange_length]; omega, ?_⟩
  refine lc_rng (fun o => .bool (C e o && C o e)) (fun o ho R hR => ?_) ?_
  · walk_at "DZ"
    rw [at_rowL _ he]
    dsimp only
    rw [at_rowL _ ho]
    dsimp only
    cases hc : C e o with
    | false =>
      rw [hc] at hR
      exact ite_f (fun z => nomatch z) hR
    | true =>
      refine ite_t rfl ?_
      rw [at_rowL _ ho]
      dsimp only
      rw [at_rowL _ he]
      dsimp only
      rw [hc, Bool.true_and] at hR
      exact hR
  subst hN
  walk_at "DZ"
  rw [rowL_len]
  refine ⟨by omega, by omega, ?_⟩
  rw [Int.toNat_natCast]
  refine ⟨by rw [dRange_length]; omega, ?_⟩
  refine lc_filt (fun o => decide (o = e) || (C e o && C o e)) (fun o ho R N h1 h2 => ?_) q
  walk_at "DZ"
  refine ⟨shaped_int _, shaped_int _, ?_⟩
  rw [eqv_nat]
  by_cases h : o = e
  · refine ite_t (decide_eq_true h) ?_
    refine ite_t rfl ?_
    exact h1 (by rw [decide_eq_true h]; rfl)
  · refine ite_f (fun z => h (of_decide_eq_true z)) ?_
    rw [at_rowL _ ho]
    dsimp only
    cases hc : (C e o && C o e) with
    | true => exact ite_t rfl (h1 (by rw [hc, Bool.or_true]))
    | false => exact ite_f (fun z => nomatch z) (h2 (by rw [hc, decide_eq_false h]; rfl))
theorem bnd_mem {m e o : Nat} {C : Nat → Nat → Bool} : o ∈ bnd m C e ↔ o < m ∧ (o = e ∨ (C e o = true ∧ C o e = true)) := by
  unfold bnd
  rw [List.mem_filter, List.mem_range, Bool.or_eq_true, Bool.and_eq_true, decide_eq_true_eq]
theorem bnd_len (m e : Nat) (C : Nat → Nat → Bool) : (bnd m C e).length ≤ m := by
  have := List.length_filter_le (fun o => decide (o = e) || (C e o && C o e)) (List.range m)
  rw [List.length_range] at this
  exact this
def srcB (m : Nat) (C : Nat → Nat → Bool) (bs : List Nat) : Bool := !(((List.range m).filter fun x => !decide (x ∈ bs)).flatMap fun x => bs.map fun b => C x b).any id
theorem is_source_ok {m : Nat} {C : Nat → Nat → Bool} {bs : List Nat} {Q : D → Prop} (hm : m ≤ 6) (hb : ∀ b ∈ bs, b < m) (hl : bs.length ≤ 6) (q : Q (.bool (srcB m C bs))) : f_is_source [cTab m C, .tuple (ntL bs)] Q := by
  refine o_is_source ?_
  unfold t_is_source cTab
  refine seq_gen fun N hN => ?_
  walk_at "DZ"
  rw [rowL_len]
  refine ⟨by omega, by omega, ?_⟩
  rw [Int.toNat_natCast]
  refine ⟨by rw [dRange_length]; omega, ?_⟩
  refine lc_filt (fun x => !decide (x ∈ bs)) (fun x hx R N h1 h2 => ?_) ?_
  · walk_at "DZ"
    refine ⟨rfl, ntL_flat bs, ?_⟩
    rw [in_nat]
    cases hc : decide (x ∈ bs) with
    | true => exact ite_f (fun z => nomatch z) (h2 (by rw [hc]; rfl))
    | false => exact ite_t rfl (h1 (by rw [hc]; rfl))
  subst hN
  have h6 := List.length_filter_le (fun x => !decide (x ∈ bs)) (List.range m)
  rw [List.length_range] at h6
  have hx : ∀ x ∈ (List.range m).filter (fun x => !decide (x ∈ bs)), x < m := fun x hx => List.mem_range.mp (List.mem_filter.mp hx).1
  unfold srcB at q
  generalize (List.range m).filter (fun x => !decide (x ∈ bs)) = xs at q h6 hx ⊢
  walk_at "DZ"
  refine ⟨by rw [ntL_len]; omega, ?_⟩
  refine lc2_all (l := xs) (fun b => PyData.int (b : Nat)) (fun x => bs.map fun b => .bool (C x b)) (fun x hxs R hR => ?_) ?_
  · walk_at "DZ"
    refine ite_t rfl ?_
    refine ⟨by rw [ntL_len]; omega, ?_⟩
    refine lc_list (l := bs) (fun b => PyData.int (b : Nat)) (fun b => .bool (C x b)) (fun _ => true) (fun b hbs R2 N2 h1 _ => ?_) ?_
    · walk_at "DZ"
      refine ite_t rfl ?_
      rw [at_rowL _ (hx x hxs)]
      dsimp only
      rw [at_rowL _ (hb b hbs)]
      exact h1 rfl
    · rw [List.filter_eq_self.mpr fun _ _ => rfl]
      exact hR
  · unfold dBools
    dsimp only
    have e : (xs.flatMap fun x => bs.map fun b => PyData.bool (C x b)) = (xs.flatMap fun x => bs.map fun b => C x b).map fun b => PyData.bool b := by
      rw [List.map_flatMap]
      congr 1
      funext x
      rw [List.map_map]
      rfl
    rw [e, allBool_map (fun b : Bool => b)]
    dsimp only
    rw [List.map_id']
    exact q
def srcL (m : Nat) (C : Nat → Nat → Bool) (t u : Nat → Int) (k : Nat) : List (List Nat) := ((List.range k).filter fun e => decide (t e ≠ u e) && (decide ((bnd m C e)[0]? = some e) && srcB m C (bnd m C e))).map (bnd m C)
theorem bnd_head {m e : Nat} (C : Nat → Nat → Bool) (he : e < m) : ∃ b, (bnd m C e)[0]? = some b ∧ b < m := by
  have hmem : e ∈ bnd m C e := bnd_mem.mpr ⟨he, .inl rfl⟩
  cases hb : bnd m C e with
  | nil => rw [hb] at hmem; exact absurd hmem List.not_mem_nil
  | cons b l => exact ⟨b, rfl, (bnd_mem.mp (by rw [hb]; exact List.mem_cons_self : b ∈ bnd m C e)).1⟩
theorem sources_of_ok {m : Nat} {T : GR.Tb} {t u : Nat → Int} {Q : D → Prop} (hm : m ≤ 6) (q : Q (.list ((srcL m (car T t u) t u m).map fun b => .tuple (ntL b)))) : f_sources_of [bT m T, hts m t, hts m u] Q := by
  refine o_sources_of ?_
  unfold t_sources_of
  refine seq_gen fun N hN => ?_
  have e1 : ∀ {R : D → Prop}, R (cTab m (car T t u)) → f_carrying_table [bT m T, hts m t, hts m u] R := carrying_table_ok hm
  generalize car T t u = C at q e1
  generalize bT m T = B at e1 ⊢
  unfold hts at e1 ⊢
  walk_at "DZ"
  refine e1 ?_
  subst hN
  try dsimp only
  refine seq_gen fun N hN => ?_
  walk_at "DZ"
  subst hN
  refine seq_gen fun N hN => ?_
  refine for_gen fun B2 hB => ?_
  unfold dFor
  walk_at "DZ"
  rw [rowL_len]
  refine ⟨by omega, by omega, ?_⟩
  rw [Int.toNat_natCast]
  refine for_rng (fun k env => ∃ x y : Option Sl, env = [some (.dat B), some (.dat (.tuple (rowL m fun e => .int (t e)))), some (.dat (.tuple (rowL m fun e => .int (u e)))), some (.dat (cTab m C)), some (.own ((srcL m C t u k).map fun b => .tuple (ntL b))), x, y]) (fun k env hk hInv M hM => ?_) (fun env hInv => ?_) ⟨_, _, rfl⟩
  · obtain ⟨x, y, rfl⟩ := hInv
    subst hB
    have hs : srcL m C t u (k + 1) = srcL m C t u k ++ (if (decide (t k ≠ u k) && (decide ((bnd m C k)[0]? = some k) && srcB m C (bnd m C k))) = true then [bnd m C k] else []) := by
      unfold srcL
      rw [List.range_succ, List.filter_append, List.map_append]
      congr 1
      by_cases h : (decide (t k ≠ u k) && (decide ((bnd m C k)[0]? = some k) && srcB m C (bnd m C k))) = true
      · rw [if_pos h, List.filter_cons, if_pos h]; rfl
      · rw [if_neg h, List.filter_cons, if_neg h]; rfl
    have hsl : (srcL m C t u k).length ≤ k := by
      unfold srcL
      rw [List.length_map]
      have := List.length_filter_le (fun e => decide (t e ≠ u e) && (decide ((bnd m C e)[0]? = some e) && srcB m C (bnd m C e))) (List.range k)
      rw [List.length_range] at this
      exact this
    have no : (decide (t k ≠ u k) && (decide ((bnd m C k)[0]? = some k) && srcB m C (bnd m C k))) = false → ∀ x y, M [some (.dat B), some (.dat (.tuple (rowL m fun e => .int (t e)))), some (.dat (.tuple (rowL m fun e => .int (u e)))), some (.dat (cTab m C)), some (.own ((srcL m C t u k).map fun b => .tuple (ntL b))), x, y] := fun z x y => hM _ ⟨x, y, by rw [hs, if_neg (by rw [z]; exact Bool.false_ne_true), List.append_nil]⟩
    refine ifs_gen fun A1 A2 hA1 hA2 => ?_
    walk_at "DZ"
    rw [at_rowL _ hk]
    dsimp only
    rw [at_rowL _ hk]
    dsimp only
    refine ⟨shaped_int _, shaped_int _, ?_⟩
    rw [eqv_intD]
    by_cases ht : t k = u k
    · refine ite_f (by rw [decide_eq_true ht]; exact Bool.false_ne_true) ?_
      subst hA2
      exact no (by rw [decide_eq_false (fun z => z ht)]; rfl) _ _
    refine ite_t (by rw [decide_eq_false ht]; rfl) ?_
    subst hA1
    refine seq_gen fun N2 hN2 => ?_
    walk_at "DZ"
    refine bundle_of_ok hm hk ?_
    obtain ⟨b, hb0, hbm⟩ := bnd_head C hk
    have h6 := bnd_len m k C
    subst hN2
    try dsimp only
    refine ifs_gen fun A1 A2 hA1 hA2 => ?_
    walk_at "DZ"
    rw [show atI (ntL (bnd m C k)) 0 = some (.int (b : Nat)) from atI_nat (j := 0) (ntL_get hb0)]
    dsimp only
    refine ⟨shaped_int _, shaped_int _, ?_⟩
    rw [eqv_nat]
    by_cases hbk : b = k
    · refine ite_t (decide_eq_true hbk) ?_
      refine is_source_ok hm (fun c hc => (bnd_mem.mp hc).1) (by omega) ?_
      dsimp only
      cases hsb : srcB m C (bnd m C k) with
      | true =>
        refine ite_t rfl ?_
        subst hA1
        walk_at "DZ"
        have hn : srcL m C t u (k + 1) = srcL m C t u k ++ [bnd m C k] := by
          rw [hs, if_pos (by rw [hsb, hb0, hbk, decide_eq_true ht]; simp)]
        rw [hn] at hM
        refine ⟨by rw [List.length_map]; omega, hM _ ⟨some (.dat (.int (k : Nat))), some (.dat (.tuple (ntL (bnd m C k)))), ?_⟩⟩
        rw [List.map_append]
        rfl
      | false =>
        refine ite_f (fun z => nomatch z) ?_
        subst hA2
        exact no (by rw [hsb]; simp) _ _
    · refine ite_f (fun z => hbk (of_decide_eq_true z)) ?_
      refine ite_f (fun z => nomatch z) ?_
      subst hA2
      exact no (by rw [hb0, decide_eq_false (fun z => hbk (Option.some.inj z))]; simp) _ _
  · obtain ⟨x, y, rfl⟩ := hInv
    subst hN
    walk_at "DZ"
    exact q
/-! ### sets that lead -/
def Asc (m : Nat) (l : List Nat) : Prop := l.Pairwise (· < ·) ∧ ∀ e ∈ l, e < m
theorem Asc.len {m : Nat} {l : List Nat} (h : Asc m l) : l.length ≤ m := by
  have h1 : l.Nodup := h.1.imp fun z => Nat.ne_of_lt z
  have h2 : l.length ≤ (List.range m).length := List.Nodup.length_le_of_subset h1 fun e he => List.mem_range.mpr (h.2 e he)
  rw [List.length_range] at h2
  exact h2
def nwR (u : Nat → Int) (l : List Nat) : List (Nat × Int) := l.map fun e => (e, u e)
theorem nwR_row {u : Nat → Int} {l : List Nat} {y : Nat × Int} : y ∈ nwR u l ↔ y.1 ∈ l ∧ y.2 = u y.1 := by
  unfold nwR
  rw [List.mem_map]
  constructor
  · rintro ⟨e, he, rfl⟩
    exact ⟨he, rfl⟩
  · rintro ⟨h1, h2⟩
    exact ⟨y.1, h1, by rw [← h2]⟩
theorem nwR_get {m : Nat} {u : Nat → Int} {l : List Nat} (hl : ∀ e ∈ l, e < m) {te : T2E} {g : T2G} {env : Ev} {Q : List D → Prop} (h : ∀ e ∈ l, ∀ R : D → Prop, R (nN (e, u e)) → g (.int (e : Nat)) env fun env1 => (fun _ Q => Q true : T2T) env1 fun b => if b = true then te env1 R else True)
    (q : Q ((nwR u l).map nN)) : lcD g (fun _ Q => Q true) te env (ntL l) Q := by
  unfold ntL
  refine lc_list (l := l) (fun b => PyData.int (b : Nat)) (fun e => nN (e, u e)) (fun _ => true) (fun e he R N h1 _ => ?_) ?_
  · have := h e he R (h1 rfl)
    exact this
  · rw [List.filter_eq_self.mpr fun _ _ => rfl]
    unfold nwR at q
    rw [List.map_map] at q
    exact q
/-- all that are moved get there -/
def ledB (m : Nat) (T : GR.Tb) (t u : Nat → Int) (l : List Nat) : Bool := decide (∀ c, c < m → movI T t (nwR u l) c = u c)
theorem eqvAll_cons (x y : D) (xs ys : List D) : PyData.eqvAll (x :: xs) (y :: ys) = (PyData.eqv x y && PyData.eqvAll xs ys) := by simp [PyData.eqvAll]
theorem eqvAll_ints {a b : Nat → Int} : ∀ l : List Nat, PyData.eqvAll (l.map fun e => PyData.int (a e)) (l.map fun e => PyData.int (b e)) = decide (∀ e ∈ l, a e = b e)
  | [] => by
    have : PyData.eqvAll [] [] = true := by simp [PyData.eqvAll]
    rw [List.map_nil, List.map_nil, this]
    exact (decide_eq_true fun e he => absurd he List.not_mem_nil).symm
  | e :: l => by
    rw [List.map_cons, List.map_cons, eqvAll_cons, eqvAll_ints l, eqv_intD, Bool.eq_iff_iff, Bool.and_eq_true, decide_eq_true_eq, decide_eq_true_eq, decide_eq_true_eq]
    constructor
    · rintro ⟨h1, h2⟩ c hc
      rcases List.mem_cons.mp hc with rfl | hc
      · exact h1
      · exact h2 c hc
    · intro h
      exact ⟨h e List.mem_cons_self, fun c hc => h c (List.mem_cons_of_mem _ hc)⟩
theorem eqv_htsB (m : Nat) (a b : Nat → Int) : PyData.eqv (hts m a) (hts m b) = decide (∀ c, c < m → a c = b c) := by
  have e : PyData.eqv (hts m a) (hts m b) = PyData.eqvAll (rowL m fun e => .int (a e)) (rowL m fun e => .int (b e)) := by
    unfold hts
    simp [PyData.eqv]
  rw [e]
  unfold rowL
  rw [eqvAll_ints, Bool.eq_iff_iff, decide_eq_true_eq, decide_eq_true_eq]
  exact ⟨fun h c hc => h c (List.mem_range.mpr hc), fun h c hc => h c (List.mem_range.mp hc)⟩
theorem mov_led {m : Nat} {rs : List D} {T : GR.Tb} {t u : Nat → Int} (hT : TB m rs T) (h2 : RightH rs u) {l : List Nat} (hl : ∀ e ∈ l, e < m) {c : Nat} (hc : c < m) :
    movI T t (nwR u l) c = u c ↔ t c = u c ∨ c ∈ l ∨ ∃ a ∈ l, car T t u a c = true := by
  unfold movI
  have hlo : ∀ x ∈ lows T c (nwR u l), x ≤ u c := fun x hx => by
    obtain ⟨y, hy, d, e, rfl⟩ := mem_lows.mp hx
    obtain ⟨y1, y2⟩ := nwR_row.mp hy
    have := right_walk hT h2 hc (hl _ y1) e
    omega
  have hhi : ∀ x ∈ highs T c (nwR u l), u c ≤ x := fun x hx => by
    obtain ⟨y, hy, d, e, rfl⟩ := mem_highs.mp hx
    obtain ⟨y1, y2⟩ := nwR_row.mp hy
    have := right_walk hT h2 (hl _ y1) hc e
    omega
  have inlo : u c ∈ lows T c (nwR u l) ↔ ∃ a ∈ l, T c a = some (u a - u c) := by
    rw [mem_lows]
    constructor
    · rintro ⟨y, hy, d, e, z⟩
      obtain ⟨y1, y2⟩ := nwR_row.mp hy
      exact ⟨y.1, y1, by rw [e]; congr 1; omega⟩
    · rintro ⟨a, ha, e⟩
      exact ⟨(a, u a), nwR_row.mpr ⟨ha, rfl⟩, _, e, by dsimp only; omega⟩
  have inhi : u c ∈ highs T c (nwR u l) ↔ ∃ a ∈ l, T a c = some (u c - u a) := by
    rw [mem_highs]
    constructor
    · rintro ⟨y, hy, d, e, z⟩
      obtain ⟨y1, y2⟩ := nwR_row.mp hy
      exact ⟨y.1, y1, by rw [e]; congr 1; omega⟩
    · rintro ⟨a, ha, e⟩
      exact ⟨(a, u a), nwR_row.mpr ⟨ha, rfl⟩, _, e, by dsimp only; omega⟩
  have carU : t c < u c → ((∃ a ∈ l, T c a = some (u a - u c)) ↔ c ∈ l ∨ ∃ a ∈ l, car T t u a c = true) := fun hup => by
    constructor
    · rintro ⟨a, ha, e⟩
      by_cases hac : a = c
      · exact .inl (hac ▸ ha)
      · exact .inr ⟨a, ha, car_iff.mpr ⟨hac, .inl ⟨hup, e⟩⟩⟩
    · rintro (h | ⟨a, ha, h⟩)
      · exact ⟨c, h, by rw [hT.diag c hc]; congr 1; omega⟩
      · rcases (car_iff.mp h).2 with ⟨_, e⟩ | ⟨z, _⟩
        · exact ⟨a, ha, e⟩
        · omega
  have carD : u c < t c → ((∃ a ∈ l, T a c = some (u c - u a)) ↔ c ∈ l ∨ ∃ a ∈ l, car T t u a c = true) := fun hup => by
    constructor
    · rintro ⟨a, ha, e⟩
      by_cases hac : a = c
      · exact .inl (hac ▸ ha)
      · exact .inr ⟨a, ha, car_iff.mpr ⟨hac, .inr ⟨hup, e⟩⟩⟩
    · rintro (h | ⟨a, ha, h⟩)
      · exact ⟨c, h, by rw [hT.diag c hc]; congr 1; omega⟩
      · rcases (car_iff.mp h).2 with ⟨z, _⟩ | ⟨_, e⟩
        · omega
        · exact ⟨a, ha, e⟩
  generalize lows T c (nwR u l) = L at hlo inlo
  generalize highs T c (nwR u l) = G at hhi inhi
  have hL : ∀ x, mxO L = some x → x ≤ u c ∧ (x = u c ↔ u c ∈ L) := fun x hx => by
    obtain ⟨a1, a2⟩ := mxO_some.mp hx
    refine ⟨hlo x a1, fun z => z ▸ a1, fun z => ?_⟩
    have := a2 _ z
    have := hlo x a1
    omega
  have hG : ∀ x, mnO G = some x → u c ≤ x ∧ (x = u c ↔ u c ∈ G) := fun x hx => by
    obtain ⟨a1, a2⟩ := mnO_some.mp hx
    refine ⟨hhi x a1, fun z => z ▸ a1, fun z => ?_⟩
    have := a2 _ z
    have := hhi x a1
    omega
  have hL0 : mxO L = none → u c ∉ L := fun z => by rw [mxO_none.mp z]; exact List.not_mem_nil
  have hG0 : mnO G = none → u c ∉ G := fun z => by rw [mnO_none.mp z]; exact List.not_mem_nil
  rcases Int.lt_trichotomy (t c) (u c) with hup | heq | hdn
  · rw [← carU hup, ← inlo]
    have key : clampI (t c) (mxO L) (mnO G) = u c ↔ u c ∈ L := by
      unfold clampI cLo cHi
      cases e1 : mxO L with
      | none =>
        have := hL0 e1
        cases e2 : mnO G with
        | none => dsimp only; exact ⟨fun z => by omega, fun z => absurd z this⟩
        | some y =>
          have := (hG y e2).1
          dsimp only
          refine ⟨fun z => ?_, fun z => absurd z ‹u c ∉ L›⟩
          split at z <;> omega
      | some x =>
        obtain ⟨x1, x2⟩ := hL x e1
        rw [← x2]
        cases e2 : mnO G with
        | none => dsimp only; split <;> omega
        | some y =>
          have := (hG y e2).1
          dsimp only
          split <;> split <;> omega
    rw [key]
    exact ⟨.inr, fun z => z.elim (fun w => by omega) id⟩
  · refine ⟨fun _ => .inl heq, fun _ => ?_⟩
    unfold clampI cLo cHi
    cases e1 : mxO L with
    | none =>
      cases e2 : mnO G with
      | none => exact heq
      | some y =>
        have := (hG y e2).1
        dsimp only
        split <;> omega
    | some x =>
      obtain ⟨x1, x2⟩ := hL x e1
      cases e2 : mnO G with
      | none => dsimp only; split <;> omega
      | some y =>
        have := (hG y e2).1
        dsimp only
        split <;> split <;> omega
  · rw [← carD hdn, ← inhi]
    have key : clampI (t c) (mxO L) (mnO G) = u c ↔ u c ∈ G := by
      unfold clampI cLo cHi
      cases e2 : mnO G with
      | none =>
        have := hG0 e2
        cases e1 : mxO L with
        | none => dsimp only; exact ⟨fun z => by omega, fun z => absurd z this⟩
        | some x =>
          have := (hL x e1).1
          dsimp only
          refine ⟨fun z => ?_, fun z => absurd z ‹u c ∉ G›⟩
          split at z <;> omega
      | some y =>
        obtain ⟨y1, y2⟩ := hG y e2
        rw [← y2]
        cases e1 : mxO L with
        | none => dsimp only; split <;> omega
        | some x =>
          have := (hL x e1).1
          dsimp only
          split <;> split <;> omega
    rw [key]
    exact ⟨.inr, fun z => z.elim (fun w => by omega) id⟩
theorem led_iff {m : Nat} {rs : List D} {T : GR.Tb} {t u : Nat → Int} (hT : TB m rs T) (h2 : RightH rs u) {l : List Nat} (hl : ∀ e ∈ l, e < m) : ledB m T t u l = true ↔ ∀ c, c < m → t c ≠ u c → c ∈ l ∨ ∃ a ∈ l, car T t u a c = true := by
  unfold ledB
  rw [decide_eq_true_eq]
  constructor
  · intro h c hc hn
    rcases (mov_led hT h2 hl hc).mp (h c hc) with z | z
    · exact absurd z hn
    · exact z
  · intro h c hc
    refine (mov_led hT h2 hl hc).mpr ?_
    by_cases hn : t c = u c
    · exact .inl hn
    · exact .inr (h c hc hn)
theorem led_congr {m : Nat} {rs : List D} {T U : GR.Tb} {t u : Nat → Int} (hT : TB m rs T) (hU : TB m rs U) {l : List Nat} (hl : ∀ e ∈ l, e < m) : ledB m U t u l = ledB m T t u l := by
  unfold ledB
  rw [Bool.eq_iff_iff, decide_eq_true_eq, decide_eq_true_eq]
  have e : ∀ c, c < m → movI U t (nwR u l) c = movI T t (nwR u l) c := fun c hc => mov_congr hU hT (fun y hy => hl _ (nwR_row.mp hy).1) hc
  exact ⟨fun h c hc => by rw [← e c hc]; exact h c hc, fun h c hc => by rw [e c hc]; exact h c hc⟩
theorem asc_of {l : List Nat} (h : l.Pairwise (· < ·)) : ascN l = true := by
  induction l with
  | nil => rfl
  | cons a l ih =>
    cases l with
    | nil => rfl
    | cons b l =>
      obtain ⟨h1, h2⟩ := List.pairwise_cons.mp h
      unfold ascN
      rw [Bool.and_eq_true]
      exact ⟨decide_eq_true (h1 b List.mem_cons_self), ih h2⟩
theorem ntL_nat (l : List Nat) : (ntL l).map natD = l := by
  unfold ntL
  rw [List.map_map]
  have : (natD ∘ fun b : Nat => PyData.int (b : Nat)) = id := by
    funext b
    show ((b : Nat) : Int).toNat = b
    rw [Int.toNat_natCast]
  rw [this, List.map_id]
theorem ntL_evs {m : Nat} {l : List Nat} (h : ∀ e ∈ l, e < m) : evsB (m : Int) (ntL l) = true := by
  unfold evsB ntL
  rw [List.all_map, List.all_eq_true]
  intro e he
  show inI (.int (e : Nat)) 0 ((m : Int) - 1) = true
  have := h e he
  unfold inI
  dsimp only
  rw [Bool.and_eq_true]
  exact ⟨decide_eq_true (by omega), decide_eq_true (by omega)⟩
theorem ntL_shD {l : List Nat} (h : l.length ≤ 1000) : ShD (.tuple (ntL l)) := shD_tup (by rw [ntL_len]; exact h) fun d hd => by
  unfold ntL at hd
  obtain ⟨b, _, rfl⟩ := List.mem_map.mp hd
  exact shaped_int _
theorem news_for_ok {m : Nat} {u : Nat → Int} {l : List Nat} {b : Bool} {Q : D → Prop} (hl : ∀ e ∈ l, e < m) (hlen : l.length ≤ 1000) (q : Q (.tuple ((nwR u l).map nN))) : f_news_for [if b then .tuple (ntL l) else .list (ntL l), hts m u] Q := by
  refine o_news_for ?_
  unfold t_news_for hts
  cases b
  all_goals
    first | rw [if_pos rfl] | rw [if_neg Bool.false_ne_true]
    walk_at "DZ"
    refine ⟨by rw [ntL_len]; omega, ?_⟩
    refine nwR_get (u := u) hl (fun e he R hR => ?_) ?_
    · walk_at "DZ"
      refine ite_t rfl ?_
      rw [at_rowL _ (hl e he)]
      exact hR
    · exact q
theorem L_leads_ok {m : Nat} {rs : List D} {T : GR.Tb} {d : D} {t u : Nat → Int} {l : List Nat} {Q : D → Prop} (hd : BdD m T d) (hm : m ≤ 6) (hT : TB m rs T) (hl : ∀ e ∈ l, e < m) (hlen : l.length ≤ 1000) (q : Q (.bool (ledB m T t u l))) : f_L_leads [d, hts m t, hts m u, .tuple (ntL l)] Q := by
  refine o_L_leads ?_
  unfold t_L_leads
  have lj : ∀ {R : D → Prop}, R (hts m (movI T t (nwR u l))) → f_L_joint [d, hts m t, .tuple ((nwR u l).map nN)] R := fun r => L_joint_ok hd hm (fun y hy => hl _ (nwR_row.mp hy).1) (by unfold nwR; rw [List.length_map]; omega) r
  generalize hV : hts m t = V at lj
  walk_at "DZ"
  refine ⟨by rw [ntL_len]; omega, ?_⟩
  refine nwR_get (u := u) hl (fun e he R hR => ?_) ?_
  · walk_at "DZ"
    refine ite_t rfl ?_
    unfold hts
    dsimp only
    rw [at_rowL _ (hl e he)]
    exact hR
  · refine lj ?_
    refine ⟨(hts_ok m _).shaped, (hts_ok m _).shaped, ?_⟩
    rw [eqv_htsB]
    exact q
theorem ntL_ints (l : List Nat) : ntL l = (l.map fun b : Nat => (b : Int)).map PyData.int := by
  unfold ntL
  rw [List.map_map]
  rfl
theorem ntL_okN (l : List Nat) : okN 1 (.tuple (ntL l)) := .tup fun d hd => by
  unfold ntL at hd
  obtain ⟨e, _, rfl⟩ := List.mem_map.mp hd
  exact .int _ _
/-! ### all sets of events -/
def sbs : Nat → List (List Nat)
  | 0 => [[]]
  | k + 1 => sbs k ++ (sbs k).map (· ++ [k])
theorem sbs_len : ∀ k, (sbs k).length = 2 ^ k
  | 0 => rfl
  | k + 1 => by
    show (sbs k ++ (sbs k).map (· ++ [k])).length = _
    rw [List.length_append, List.length_map, sbs_len k, Nat.pow_succ]
    omega
theorem sbs_mem : ∀ {k : Nat} {l : List Nat}, l ∈ sbs k ↔ Asc k l
  | 0, l => by
    show l ∈ [[]] ↔ _
    rw [List.mem_singleton]
    constructor
    · rintro rfl
      exact ⟨.nil, fun e he => absurd he List.not_mem_nil⟩
    · intro h
      cases l with
      | nil => rfl
      | cons a l => exact absurd (h.2 a List.mem_cons_self) (Nat.not_lt_zero _)
  | k + 1, l => by
    show l ∈ sbs k ++ (sbs k).map (· ++ [k]) ↔ _
    rw [List.mem_append, List.mem_map]
    constructor
    · rintro (h | ⟨l', h, rfl⟩)
      · obtain ⟨h1, h2⟩ := sbs_mem.mp h
        exact ⟨h1, fun e he => Nat.lt_succ_of_lt (h2 e he)⟩
      · obtain ⟨h1, h2⟩ := sbs_mem.mp h
        refine ⟨List.pairwise_append.mpr ⟨h1, List.pairwise_singleton _ _, fun a ha b hb => by rw [List.mem_singleton.mp hb]; exact h2 a ha⟩, fun e he => ?_⟩
        rcases List.mem_append.mp he with he | he
        · exact Nat.lt_succ_of_lt (h2 e he)
        · rw [List.mem_singleton.mp he]; exact Nat.lt_succ_self _
    · rintro ⟨h1, h2⟩
      by_cases hk : k ∈ l
      · have hne : l ≠ [] := fun z => by rw [z] at hk; exact absurd hk List.not_mem_nil
        obtain ⟨l', b, rfl⟩ : ∃ l' b, l = l' ++ [b] := ⟨l.dropLast, l.getLast hne, (List.dropLast_concat_getLast hne).symm⟩
        obtain ⟨p1, _, p3⟩ := List.pairwise_append.mp h1
        have hb : b = k := by
          have hbk := h2 b (List.mem_append_right _ (List.mem_singleton.mpr rfl))
          rcases List.mem_append.mp hk with z | z
          · have := p3 k z b (List.mem_singleton.mpr rfl)
            omega
          · exact (List.mem_singleton.mp z).symm
        subst hb
        exact .inr ⟨l', sbs_mem.mpr ⟨p1, fun e he => p3 e he b (List.mem_singleton.mpr rfl)⟩, rfl⟩
      · exact .inl (sbs_mem.mpr ⟨h1, fun e he => by
          have := h2 e he
          have : e ≠ k := fun z => hk (z ▸ he)
          omega⟩)
def sbD (l : List Nat) : D := .tuple (ntL l)
def sbK (l : List Nat) : D := .tuple [.int (l.length : Nat), .tuple (ntL l)]
theorem alike_nt (xs ys : List Nat) : PySem.W.alikeAll (ntL xs) (ntL ys) = true := by
  rw [ntL_ints, ntL_ints]
  exact PySem.W.alike_ints _ _
theorem sbK_alike (xs ys : List Nat) : PySem.W.alike (sbK xs) (sbK ys) = true := by
  unfold sbK
  rw [PySem.W.alike, PySem.W.alikeAll, PySem.W.alikeAll, PySem.W.alikeAll, PySem.W.alike, PySem.W.alike, alike_nt]
  rfl
theorem sbK_depth (l : List Nat) : (sbK l).depth ≤ 60 := by
  unfold sbK
  have h := PySem.W.depth_ints (l.map fun b : Nat => (b : Int))
  rw [← ntL_ints] at h
  have h2 : (PyData.tuple (ntL l)).depth = 1 + PyData.depthAll (ntL l) := by simp [PyData.depth, Nat.add_comm]
  have h3 : (PyData.tuple [.int (l.length : Nat), .tuple (ntL l)]).depth = 1 + max 0 (max (1 + PyData.depthAll (ntL l)) 0) := by
    simp [PyData.depth, PyData.depthAll, Nat.add_comm]
  rw [h3, h]
  decide
theorem sbK_lay (l : List Nat) : PyData.canLay0 (sbK l) = true := (okN.tup (n := 1) fun d hd => by
  rcases List.mem_cons.mp hd with rfl | hd
  · exact .int _ _
  · rw [List.mem_singleton.mp hd]; exact ntL_okN l).lay
theorem ntL_snoc (l : List Nat) (k : Nat) : ntL (l ++ [k]) = ntL l ++ [.int (k : Nat)] := by
  unfold ntL
  rw [List.map_append]
  rfl
theorem L_subsets_ok {m : Nat} {Q : D → Prop} (hm : m ≤ 6) (q : ∀ ls : List (List Nat), ls.Perm (sbs m) → (ls.Pairwise fun x y => PySem.W.dataLt (sbK y) (sbK x) = false) → Q (.list (ls.map sbD))) : f_L_subsets [.int (m : Nat)] Q := by
  have p64 : ∀ k, k ≤ 6 → (sbs k).length ≤ 64 := fun k hk => by rw [sbs_len]; exact Nat.pow_le_pow_right (by decide) hk
  have asc6 : ∀ k, k ≤ 6 → ∀ l ∈ sbs k, l.length ≤ 6 := fun k hk l hl => Nat.le_trans (sbs_mem.mp hl).len hk
  refine o_L_subsets ?_
  unfold t_L_subsets
  refine seq_gen fun N hN => ?_
  walk_at "DZ"
  subst hN
  refine seq_gen fun N hN => ?_
  refine for_gen fun B hB => ?_
  unfold dFor
  walk_at "DZ"
  refine ⟨by omega, by omega, ?_⟩
  rw [Int.toNat_natCast]
  refine for_rng (fun k env => ∃ x y z : Option Sl, env = [some (.dat (.int (m : Nat))), some (.dat (.list ((sbs k).map sbD))), x, y, z]) (fun k env hk hInv M hM => ?_) (fun env hInv => ?_) ⟨_, _, _, rfl⟩
  · obtain ⟨x, y, z, rfl⟩ := hInv
    subst hB
    have h64 := p64 k (by omega)
    walk_at "DZ"
    refine ⟨by rw [List.length_map]; omega, ?_⟩
    refine lc_list (l := sbs k) sbD (fun l => sbD (l ++ [k])) (fun _ => true) (fun l hl R N h1 _ => ?_) ?_
    · have := asc6 k (by omega) l hl
      unfold sbD
      walk_at "DZ"
      refine ite_t rfl ?_
      refine ⟨by rw [ntL_len]; omega, ?_⟩
      have := h1 rfl
      unfold sbD at this
      rw [ntL_snoc] at this
      exact this
    · rw [List.filter_eq_self.mpr fun _ _ => rfl]
      refine ⟨by rw [List.length_map, List.length_map]; omega, ?_⟩
      have e : (sbs (k + 1)).map sbD = (sbs k).map sbD ++ (sbs k).map fun l => sbD (l ++ [k]) := by
        show (sbs k ++ (sbs k).map (· ++ [k])).map sbD = _
        rw [List.map_append, List.map_map]
        rfl
      rw [e] at hM
      exact hM _ ⟨_, _, _, rfl⟩
  obtain ⟨x, y, z, rfl⟩ := hInv
  have h64 := p64 m hm
  have h6 := asc6 m hm
  subst hN
  walk_at "DZ"
  refine ⟨by rw [List.length_map]; omega, ?_⟩
  refine lc_list (l := sbs m) sbD sbK (fun _ => true) (fun l hl R N h1 _ => ?_) ?_
  · unfold sbD
    walk_at "DZ"
    refine ite_t rfl ?_
    rw [ntL_len]
    exact h1 rfl
  · rw [List.filter_eq_self.mpr fun _ _ => rfl]
    unfold dSortD
    dsimp only
    refine ⟨canLayAll_of fun d hd => by obtain ⟨l, _, rfl⟩ := List.mem_map.mp hd; exact sbK_lay l, PySem.W.AllAlike.of fun a b => sbK_alike a b, PySem.W.Sortable.tuples fun b => ⟨_, _, rfl⟩, fun d hd => by obtain ⟨l, _, rfl⟩ := List.mem_map.mp hd; exact sbK_depth l, fun xs' hp ho => ?_⟩
    obtain ⟨ls, hls, rfl⟩ := perm_lift hp
    have hlen := hls.length_eq
    unfold OrdK at ho
    rw [List.pairwise_map] at ho
    refine ⟨by rw [List.length_map]; omega, ?_⟩
    refine lc_list (l := ls) sbK sbD (fun _ => true) (fun l hl R N h1 _ => ?_) ?_
    · unfold sbK
      walk_at "DZ"
      refine ⟨rfl, ?_⟩
      exact ite_t rfl (h1 rfl)
    · rw [List.filter_eq_self.mpr fun _ _ => rfl]
      exact q ls hls ho
theorem tb_ex {m : Nat} {far : Int} {rs : List D} (h : NR (m : Int) far rs) (hz : NoNegR rs) : ∃ T, TB m rs T := by
  have hr := ed_rng h
  rw [Int.toNat_natCast] at hr
  have hne : ∀ x ∈ es rs, gs x ≠ ge x := fun x hx => by
    have := ed_in h hx
    show x.s.toNat ≠ x.e.toNat
    omega
  rcases GR.fw_spec (sv := gs) (ev := ge) (wv := gw) (es := es rs) (n := m) (T := T1 (es rs)) hr (fun i _ => T1_diag hne i) (T1_sound fun x hx => hx) (T1_le _) with ⟨_, a, b⟩ | ⟨a, _⟩
  · exact ⟨_, b, a⟩
  · exact absurd hz a
/-! ### the way is the first of the smallest sets that lead -/
structure CarR (m : Nat) (C : Nat → Nat → Bool) (t u : Nat → Int) : Prop where
  ne : ∀ a b, C a b = true → a ≠ b
  mv : ∀ a b, a < m → b < m → C a b = true → t a ≠ u a ∧ t b ≠ u b
  tr : ∀ a b c, a < m → b < m → c < m → C a b = true → C b c = true → a ≠ c → C a c = true
theorem carR {m : Nat} {rs : List D} {T : GR.Tb} {t u : Nat → Int} (hT : TB m rs T) (h1 : RightH rs t) (h2 : RightH rs u) : CarR m (car T t u) t u :=
  ⟨fun a b h => (car_iff.mp h).1, fun a b ha hb h => by rcases car_dir hT h1 ha hb h with z | z <;> omega, fun a b c ha hb hc h k n => car_trans hT h1 h2 ha hb hc h k n⟩
theorem bnd_asc (m e : Nat) (C : Nat → Nat → Bool) : (bnd m C e).Pairwise (· < ·) := by
  unfold bnd
  exact List.pairwise_lt_range.filter _
theorem head_least {e : Nat} : ∀ {l : List Nat}, l.Pairwise (· < ·) → e ∈ l → (l[0]? = some e ↔ ∀ b ∈ l, e ≤ b)
  | [], _, h => absurd h List.not_mem_nil
  | a :: l, p, h => by
    obtain ⟨p1, _⟩ := List.pairwise_cons.mp p
    rw [List.getElem?_cons_zero]
    constructor
    · intro z b hb
      cases z
      rcases List.mem_cons.mp hb with rfl | hb
      · exact Nat.le_refl _
      · exact Nat.le_of_lt (p1 b hb)
    · intro z
      rcases List.mem_cons.mp h with rfl | h
      · rfl
      · have := z a List.mem_cons_self
        have := p1 e h
        omega
def wyL (m : Nat) (C : Nat → Nat → Bool) (t u : Nat → Int) : List Nat := (List.range m).filter fun e => decide (t e ≠ u e) && (decide ((bnd m C e)[0]? = some e) && srcB m C (bnd m C e))
theorem srcL_wy (m : Nat) (C : Nat → Nat → Bool) (t u : Nat → Int) : srcL m C t u m = (wyL m C t u).map (bnd m C) := rfl
theorem srcB_out {m : Nat} {C : Nat → Nat → Bool} {bs : List Nat} : srcB m C bs = true ↔ ∀ x, x < m → x ∉ bs → ∀ b ∈ bs, C x b = false := by
  unfold srcB
  rw [Bool.not_eq_true', ← Bool.not_eq_true]
  constructor
  · intro z x hx hn b hb
    cases hc : C x b with
    | false => rfl
    | true =>
      refine absurd (List.any_eq_true.mpr ⟨true, ?_, rfl⟩) z
      refine List.mem_flatMap.mpr ⟨x, List.mem_filter.mpr ⟨List.mem_range.mpr hx, by rw [decide_eq_false hn]; rfl⟩, List.mem_map.mpr ⟨b, hb, hc⟩⟩
  · intro z hx
    obtain ⟨y, hy, y1⟩ := List.any_eq_true.mp hx
    obtain ⟨x, hx1, hx2⟩ := List.mem_flatMap.mp hy
    obtain ⟨hx3, hx4⟩ := List.mem_filter.mp hx1
    obtain ⟨b, hb, hc⟩ := List.mem_map.mp hx2
    have y1 : y = true := y1
    rw [y1] at hc
    have hxn : x ∉ bs := fun w => by rw [decide_eq_true w] at hx4; exact nomatch hx4
    rw [z x (List.mem_range.mp hx3) hxn b hb] at hc
    exact nomatch hc
structure WyE (m : Nat) (C : Nat → Nat → Bool) (t u : Nat → Int) (e : Nat) : Prop where
  lt : e < m
  mv : t e ≠ u e
  least : ∀ b ∈ bnd m C e, e ≤ b
  src : ∀ x, x < m → x ∉ bnd m C e → ∀ b ∈ bnd m C e, C x b = false
theorem wy_mem {m e : Nat} {C : Nat → Nat → Bool} {t u : Nat → Int} : e ∈ wyL m C t u ↔ WyE m C t u e := by
  unfold wyL
  rw [List.mem_filter, List.mem_range, Bool.and_eq_true, Bool.and_eq_true, decide_eq_true_eq, decide_eq_true_eq, srcB_out]
  constructor
  · rintro ⟨h1, h2, h3, h4⟩
    exact ⟨h1, h2, (head_least (bnd_asc m e C) (bnd_mem.mpr ⟨h1, .inl rfl⟩)).mp h3, h4⟩
  · intro h
    exact ⟨h.lt, h.mv, (head_least (bnd_asc m e C) (bnd_mem.mpr ⟨h.lt, .inl rfl⟩)).mpr h.least, h.src⟩
theorem wyL_asc (m : Nat) (C : Nat → Nat → Bool) (t u : Nat → Int) : Asc m (wyL m C t u) := ⟨by unfold wyL; exact List.pairwise_lt_range.filter _, fun e he => (wy_mem.mp he).lt⟩
section
variable {m : Nat} {C : Nat → Nat → Bool} {t u : Nat → Int} (h : CarR m C t u)
include h
/-- events that carry one another have one bundle -/
theorem bnd_same {a b o : Nat} (ha : a < m) (hb : b < m) (h1 : C a b = true) (h2 : C b a = true) (ho : o ∈ bnd m C a) : o ∈ bnd m C b := by
  obtain ⟨hom, z⟩ := bnd_mem.mp ho
  refine bnd_mem.mpr ⟨hom, ?_⟩
  by_cases hob : o = b
  · exact .inl hob
  rcases z with rfl | ⟨z1, z2⟩
  · exact .inr ⟨h2, h1⟩
  · exact .inr ⟨h.tr b a o hb ha hom h2 z1 (Ne.symm hob), h.tr o a b hom ha hb z2 h1 hob⟩
/-- each moving event has a carrier that nothing else carries, or is one -/
theorem top_of : ∀ (k : Nat) (c : Nat), c < m → t c ≠ u c → ((List.range m).filter fun x => decide (x = c) || C x c).length ≤ k → ∃ a, a < m ∧ t a ≠ u a ∧ (a = c ∨ C a c = true) ∧ ∀ x, x < m → C x a = true → C a x = true
  | 0, c, hc, _, hk => by
    have : c ∈ (List.range m).filter fun x => decide (x = c) || C x c := List.mem_filter.mpr ⟨List.mem_range.mpr hc, by rw [decide_eq_true rfl]; rfl⟩
    have := List.length_pos_of_mem this
    omega
  | k + 1, c, hc, hmv, hk => by
    by_cases hx : ∃ x, x < m ∧ C x c = true ∧ C c x = false
    · obtain ⟨x, hxm, h1, h2⟩ := hx
      have hxc := h.ne x c h1
      have hsub : ((List.range m).filter fun y => decide (y = x) || C y x).length < ((List.range m).filter fun y => decide (y = c) || C y c).length := by
        have hnd : (c :: (List.range m).filter fun y => decide (y = x) || C y x).Nodup := by
          refine List.nodup_cons.mpr ⟨fun z => ?_, List.nodup_range.filter _⟩
          have := (List.mem_filter.mp z).2
          rw [h2, Bool.or_false, decide_eq_true_eq] at this
          exact hxc this.symm
        have := List.Nodup.length_le_of_subset (l₂ := (List.range m).filter fun y => decide (y = c) || C y c) hnd fun y hy => by
          rcases List.mem_cons.mp hy with rfl | hy
          · exact List.mem_filter.mpr ⟨List.mem_range.mpr hc, by rw [decide_eq_true rfl]; rfl⟩
          · obtain ⟨y1, y2⟩ := List.mem_filter.mp hy
            refine List.mem_filter.mpr ⟨y1, ?_⟩
            rw [Bool.or_eq_true, decide_eq_true_eq] at y2 ⊢
            by_cases hyc : y = c
            · exact .inl hyc
            · rcases y2 with rfl | y2
              · exact .inr h1
              · exact .inr (h.tr y x c (List.mem_range.mp y1) hxm hc y2 h1 hyc)
        rw [List.length_cons] at this
        omega
      obtain ⟨a, ha, h3, h4, h5⟩ := top_of k x hxm (h.mv x c hxm hc h1).1 (by omega)
      refine ⟨a, ha, h3, ?_, h5⟩
      by_cases hac : a = c
      · exact .inl hac
      · rcases h4 with rfl | h4
        · exact .inr h1
        · exact .inr (h.tr a x c ha hxm hc h4 h1 hac)
    · exact ⟨c, hc, hmv, .inl rfl, fun x hxm h1 => by
        cases h2 : C c x with
        | true => rfl
        | false => exact absurd ⟨x, hxm, h1, h2⟩ hx⟩
theorem wy_leads {c : Nat} (hc : c < m) (hmv : t c ≠ u c) : c ∈ wyL m C t u ∨ ∃ a ∈ wyL m C t u, C a c = true := by
  obtain ⟨a, ha, h3, h4, h5⟩ := top_of h _ c hc hmv (Nat.le_refl _)
  -- the least of its bundle
  obtain ⟨e, he, hem⟩ := bnd_head C ha
  have hmem : e ∈ bnd m C a := List.mem_of_getElem? he
  have hle : ∀ b ∈ bnd m C a, e ≤ b := by
    have hasc := bnd_asc m a C
    exact (head_least hasc hmem).mp he
  have both : e = a ∨ (C a e = true ∧ C e a = true) := (bnd_mem.mp hmem).2
  have bsub : ∀ o, o ∈ bnd m C e ↔ o ∈ bnd m C a := fun o => by
    rcases both with rfl | ⟨z1, z2⟩
    · exact Iff.rfl
    · exact ⟨bnd_same h hem ha z2 z1, bnd_same h ha hem z1 z2⟩
  have hW : e ∈ wyL m C t u := by
    refine wy_mem.mpr ⟨hem, ?_, fun b hb => hle b ((bsub b).mp hb), fun x hx hn b hb => ?_⟩
    · rcases both with rfl | ⟨z1, _⟩
      · exact h3
      · exact (h.mv a e ha hem z1).2
    · cases hcb : C x b with
      | false => rfl
      | true =>
        refine absurd ?_ hn
        have hb := (bsub b).mp hb
        obtain ⟨hbm, zb⟩ := bnd_mem.mp hb
        rw [bsub]
        by_cases hxa : x = a
        · exact bnd_mem.mpr ⟨hx, .inl hxa⟩
        have hxa2 : C x a = true := by
          rcases zb with rfl | ⟨_, zb⟩
          · exact hcb
          · exact h.tr x b a hx hbm ha hcb zb hxa
        exact bnd_mem.mpr ⟨hx, .inr ⟨h5 x hx hxa2, hxa2⟩⟩
  by_cases hec : e = c
  · exact .inl (hec ▸ hW)
  · refine .inr ⟨e, hW, ?_⟩
    rcases both with rfl | ⟨_, z2⟩
    · rcases h4 with rfl | h4
      · exact absurd rfl hec
      · exact h4
    · rcases h4 with rfl | h4
      · exact z2
      · exact h.tr e a c hem ha hc z2 h4 hec
/-- a set that leads has one of each source -/
theorem lead_has {l : List Nat} (hl : ∀ e ∈ l, e < m) (hL : ∀ c, c < m → t c ≠ u c → c ∈ l ∨ ∃ a ∈ l, C a c = true) {e : Nat} (he : e ∈ wyL m C t u) : ∃ y ∈ l, y ∈ bnd m C e := by
  have w := wy_mem.mp he
  rcases hL e w.lt w.mv with z | ⟨a, ha, z⟩
  · exact ⟨e, z, bnd_mem.mpr ⟨w.lt, .inl rfl⟩⟩
  · refine ⟨a, ha, ?_⟩
    by_cases hn : a ∈ bnd m C e
    · exact hn
    · rw [w.src a (hl a ha) hn e (bnd_mem.mpr ⟨w.lt, .inl rfl⟩)] at z
      exact nomatch z
theorem wy_apart {e f y : Nat} (he : e ∈ wyL m C t u) (hf : f ∈ wyL m C t u) (h1 : y ∈ bnd m C e) (h2 : y ∈ bnd m C f) : e = f := by
  have we := wy_mem.mp he
  have wf := wy_mem.mp hf
  obtain ⟨hy, z1⟩ := bnd_mem.mp h1
  obtain ⟨_, z2⟩ := bnd_mem.mp h2
  have both : e = f ∨ (C e f = true ∧ C f e = true) := by
    by_cases hef : e = f
    · exact .inl hef
    rcases z1 with rfl | ⟨z1, z1'⟩
    · rcases z2 with rfl | ⟨z2, z2'⟩
      · exact .inl rfl
      · exact .inr ⟨z2', z2⟩
    · rcases z2 with rfl | ⟨z2, z2'⟩
      · exact .inr ⟨z1, z1'⟩
      · exact .inr ⟨h.tr e y f we.lt hy wf.lt z1 z2' hef, h.tr f y e wf.lt hy we.lt z2 z1' (Ne.symm hef)⟩
  rcases both with z | ⟨z, z'⟩
  · exact z
  · have a1 := we.least f (bnd_mem.mpr ⟨wf.lt, .inr ⟨z, z'⟩⟩)
    have a2 := wf.least e (bnd_mem.mpr ⟨we.lt, .inr ⟨z', z⟩⟩)
    omega
/-- from each number on there are as many in a set that leads as in the way -/
theorem wy_count {l : List Nat} (hl : ∀ e ∈ l, e < m) (hL : ∀ c, c < m → t c ≠ u c → c ∈ l ∨ ∃ a ∈ l, C a c = true) (x : Nat) : ((wyL m C t u).filter fun e => decide (x ≤ e)).length ≤ (l.filter fun e => decide (x ≤ e)).length := by
  have pick : ∀ e, ∃ y, e ∈ wyL m C t u → y ∈ l ∧ y ∈ bnd m C e := fun e => by
    by_cases he : e ∈ wyL m C t u
    · obtain ⟨y, h1, h2⟩ := lead_has h hl hL he
      exact ⟨y, fun _ => ⟨h1, h2⟩⟩
    · exact ⟨0, fun z => absurd z he⟩
  have ⟨f, hf⟩ := Classical.axiomOfChoice pick
  have hnd : (((wyL m C t u).filter fun e => decide (x ≤ e)).map f).Nodup := by
    have := ((wyL_asc m C t u).1.filter fun e => decide (x ≤ e))
    refine List.pairwise_map.mpr ?_
    refine this.imp_of_mem fun {a b} ha hb hab z => ?_
    have ha := (List.mem_filter.mp ha).1
    have hb := (List.mem_filter.mp hb).1
    have := wy_apart h ha hb (hf a ha).2 (by rw [z]; exact (hf b hb).2)
    omega
  have := List.Nodup.length_le_of_subset (l₂ := l.filter fun e => decide (x ≤ e)) hnd fun y hy => by
    obtain ⟨e, he, rfl⟩ := List.mem_map.mp hy
    obtain ⟨h1, h2⟩ := List.mem_filter.mp he
    refine List.mem_filter.mpr ⟨(hf e h1).1, decide_eq_true ?_⟩
    have := (wy_mem.mp h1).least _ (hf e h1).2
    have := of_decide_eq_true h2
    omega
  rw [List.length_map] at this
  exact this
end
/-- so it comes first -/
theorem lex_first : ∀ {W l : List Nat}, W.Pairwise (· < ·) → l.Pairwise (· < ·) → W.length = l.length → (∀ x : Nat, (W.filter fun e => decide (x ≤ e)).length ≤ (l.filter fun e => decide (x ≤ e)).length) → W ≠ l → (W.map fun b : Nat => (b : Int)) < (l.map fun b : Nat => (b : Int))
  | [], [], _, _, _, _, n => absurd rfl n
  | [], _ :: _, _, _, e, _, _ => by simp at e
  | _ :: _, [], _, _, e, _, _ => by simp at e
  | a :: W, b :: l, pw, pl, e, hc, n => by
    obtain ⟨w1, w2⟩ := List.pairwise_cons.mp pw
    obtain ⟨l1, l2⟩ := List.pairwise_cons.mp pl
    have e2 : W.length = l.length := by simpa using e
    rw [List.map_cons, List.map_cons]
    rcases Nat.lt_trichotomy a b with hab | hab | hab
    · exact List.Lex.rel (by omega)
    · subst hab
      refine List.Lex.cons (lex_first w2 l2 e2 (fun x => ?_) fun z => n (by rw [z]))
      have := hc x
      rw [List.filter_cons, List.filter_cons] at this
      by_cases hx : x ≤ a
      · rw [if_pos (decide_eq_true hx), if_pos (decide_eq_true hx), List.length_cons, List.length_cons] at this
        omega
      · rw [if_neg (fun z => hx (of_decide_eq_true z)), if_neg (fun z => hx (of_decide_eq_true z))] at this
        exact this
    · have := hc a
      rw [List.filter_cons, if_pos (decide_eq_true (Nat.le_refl a)), List.length_cons, List.filter_eq_self.mpr fun e he => decide_eq_true (Nat.le_of_lt (w1 e he)), List.filter_cons, if_neg (fun z => by have := of_decide_eq_true z; omega)] at this
      have := List.length_filter_le (fun e => decide (a ≤ e)) l
      omega
theorem dataLt_tup (xs ys : List Nat) : PySem.W.dataLt (.tuple (ntL xs)) (.tuple (ntL ys)) = decide ((xs.map fun b : Nat => (b : Int)) < (ys.map fun b : Nat => (b : Int))) := by
  rw [← PySem.W.dataLt_ints, ← ntL_ints, ← ntL_ints]
  unfold PySem.W.dataLt PySem.W.rowLt
  rw [PySem.W.keyToks, PySem.W.keyToks]
theorem eqv_ntL (xs ys : List Nat) : PyData.eqv (.tuple (ntL xs)) (.tuple (ntL ys)) = decide (xs = ys) := by
  have e : PyData.eqv (.tuple (ntL xs)) (.tuple (ntL ys)) = PyData.eqvAll (ntL xs) (ntL ys) := by simp [PyData.eqv]
  rw [e]
  induction xs generalizing ys with
  | nil =>
    cases ys with
    | nil => exact (by simp [ntL, PyData.eqvAll] : PyData.eqvAll (ntL []) (ntL []) = decide (([] : List Nat) = []))
    | cons y ys => simp [ntL, PyData.eqvAll]
  | cons x xs ih =>
    cases ys with
    | nil => simp [ntL, PyData.eqvAll]
    | cons y ys =>
      have e2 : PyData.eqvAll (ntL (x :: xs)) (ntL (y :: ys)) = (PyData.eqv (.int (x : Nat)) (.int (y : Nat)) && PyData.eqvAll (ntL xs) (ntL ys)) := by
        show PyData.eqvAll (.int (x : Nat) :: ntL xs) (.int (y : Nat) :: ntL ys) = _
        rw [eqvAll_cons]
      have ih2 := ih ys (by simp [PyData.eqv])
      rw [e2, ih2, eqv_nat, Bool.eq_iff_iff, Bool.and_eq_true, decide_eq_true_eq, decide_eq_true_eq, decide_eq_true_eq, List.cons.injEq]
theorem sbK_lt {W l : List Nat} (h : W.length < l.length ∨ (W.length = l.length ∧ (W.map fun b : Nat => (b : Int)) < (l.map fun b : Nat => (b : Int)) ∧ W ≠ l)) : PySem.W.dataLt (sbK W) (sbK l) = true := by
  unfold sbK
  rw [PySem.W.dataLt_pair (by rfl) (by rw [PySem.W.alike]; exact alike_nt _ _), eqv_nat, eqv_ntL, dataLt_tup]
  rcases h with h | ⟨h1, h2, h3⟩
  · rw [if_neg (fun z => by have := of_decide_eq_true z; omega)]
    have := PySem.W.dataLe_int (β := Int) id
    have e : PySem.W.dataLt (.int (W.length : Nat)) (.int (l.length : Nat)) = decide (((W.length : Nat) : Int) < (l.length : Nat)) := by
      have := congrFun (congrFun this ((l.length : Nat) : Int)) ((W.length : Nat) : Int)
      rw [PySem.W.dataLe_eq] at this
      have this : (!PySem.W.dataLt (.int ((W.length : Nat) : Int)) (.int ((l.length : Nat) : Int))) = decide (((l.length : Nat) : Int) ≤ (W.length : Nat)) := this
      cases hd : PySem.W.dataLt (.int ((W.length : Nat) : Int)) (.int ((l.length : Nat) : Int)) with
      | true => exact (decide_eq_true (by omega)).symm
      | false =>
        rw [hd] at this
        have := of_decide_eq_true this.symm
        omega
    rw [e]
    exact decide_eq_true (by omega)
  · rw [if_pos (decide_eq_true h1), if_neg (fun z => h3 (of_decide_eq_true z))]
    exact decide_eq_true h2
theorem led_wy {m : Nat} {rs : List D} {T : GR.Tb} {t u : Nat → Int} (hT : TB m rs T) (h1 : RightH rs t) (h2 : RightH rs u) : ledB m T t u (wyL m (car T t u) t u) = true :=
  (led_iff hT h2 (wyL_asc m _ t u).2).mpr fun c hc hn => wy_leads (carR hT h1 h2) hc hn
theorem first_led {m : Nat} {rs : List D} {T : GR.Tb} {t u : Nat → Int} (hT : TB m rs T) (h1 : RightH rs t) (h2 : RightH rs u) {ls : List (List Nat)} (hp : ls.Perm (sbs m)) (ho : ls.Pairwise fun x y => PySem.W.dataLt (sbK y) (sbK x) = false) :
    ∃ r, ls.filter (ledB m T t u) = wyL m (car T t u) t u :: r := by
  have hC := carR hT h1 h2
  have hW : wyL m (car T t u) t u ∈ ls.filter (ledB m T t u) := List.mem_filter.mpr ⟨hp.mem_iff.mpr (sbs_mem.mpr (wyL_asc m _ t u)), led_wy hT h1 h2⟩
  have hall : ∀ l ∈ ls.filter (ledB m T t u), Asc m l ∧ ledB m T t u l = true := fun l hl => ⟨sbs_mem.mp (hp.mem_iff.mp (List.mem_filter.mp hl).1), (List.mem_filter.mp hl).2⟩
  have hpw := ho.filter (ledB m T t u)
  cases hf : ls.filter (ledB m T t u) with
  | nil => rw [hf] at hW; exact absurd hW List.not_mem_nil
  | cons f r =>
    rw [hf] at hW hall hpw
    rcases List.mem_cons.mp hW with e | hW
    · exact ⟨r, by rw [e]⟩
    · have no := (List.pairwise_cons.mp hpw).1 _ hW
      obtain ⟨af, lf⟩ := hall f List.mem_cons_self
      have cnt := wy_count hC af.2 ((led_iff hT h2 af.2).mp lf)
      by_cases e : wyL m (car T t u) t u = f
      · exact ⟨r, by rw [e]⟩
      · have c0 := cnt 0
        rw [List.filter_eq_self.mpr fun _ _ => decide_eq_true (Nat.zero_le _), List.filter_eq_self.mpr fun _ _ => decide_eq_true (Nat.zero_le _)] at c0
        rw [sbK_lt] at no
        · exact nomatch no
        · rcases Nat.lt_or_eq_of_le c0 with z | z
          · exact .inl z
          · exact .inr ⟨z, lex_first (wyL_asc m _ t u).1 af.1 z cnt e, e⟩
theorem wyL_congr {m : Nat} {rs : List D} {T U : GR.Tb} {t u : Nat → Int} (hT : TB m rs T) (hU : TB m rs U) : srcL m (car U t u) t u m = srcL m (car T t u) t u m ∧ wyL m (car U t u) t u = wyL m (car T t u) t u := by
  have cong : ∀ a b, a < m → b < m → car U t u a b = car T t u a b := fun a b ha hb => by
    unfold car
    rw [hU.uniq hT hb ha, hU.uniq hT ha hb]
  have hb : ∀ e, e < m → bnd m (car U t u) e = bnd m (car T t u) e := fun e he => by
    unfold bnd
    refine List.filter_congr fun o ho => ?_
    rw [cong e o he (List.mem_range.mp ho), cong o e (List.mem_range.mp ho) he]
  have hs : ∀ bs : List Nat, (∀ b ∈ bs, b < m) → srcB m (car U t u) bs = srcB m (car T t u) bs := fun bs hbs => by
    rw [Bool.eq_iff_iff, srcB_out, srcB_out]
    exact ⟨fun z x hx hn b hb => by rw [← cong x b hx (hbs b hb)]; exact z x hx hn b hb, fun z x hx hn b hb => by rw [cong x b hx (hbs b hb)]; exact z x hx hn b hb⟩
  have ew : wyL m (car U t u) t u = wyL m (car T t u) t u := by
    unfold wyL
    refine List.filter_congr fun e he => ?_
    rw [hb e (List.mem_range.mp he), hs _ fun b hb => (bnd_mem.mp hb).1]
  refine ⟨?_, ew⟩
  rw [srcL_wy, srcL_wy, ew]
  exact List.map_congr_left fun e he => hb e ((wyL_asc m _ t u).2 e he)
theorem wy_head {m e : Nat} {C : Nat → Nat → Bool} {t u : Nat → Int} (he : e ∈ wyL m C t u) : (bnd m C e)[0]? = some e := by
  have w := wy_mem.mp he
  exact (head_least (bnd_asc m e C) (bnd_mem.mpr ⟨w.lt, .inl rfl⟩)).mpr w.least
theorem way_along_ok {m : Nat} {C : Nat → Nat → Bool} {t u : Nat → Int} {Q : D → Prop} (hm : m ≤ 6) (q : Q (.tuple ((nwR u (wyL m C t u)).map nN))) : f_way_along [.list ((srcL m C t u m).map fun b => .tuple (ntL b)), hts m u] Q := by
  have hlen := (wyL_asc m C t u).len
  have nf : ∀ {R : D → Prop}, R (.tuple ((nwR u (wyL m C t u)).map nN)) → f_news_for [.list (ntL (wyL m C t u)), hts m u] R := fun r => news_for_ok (b := false) (wyL_asc m C t u).2 (by omega) r
  have hh : ∀ e ∈ wyL m C t u, (bnd m C e)[0]? = some e := fun e he => wy_head he
  rw [srcL_wy, List.map_map]
  refine o_way_along ?_
  unfold t_way_along
  generalize wyL m C t u = W at nf hh hlen q ⊢
  generalize hts m u = U at nf ⊢
  walk_at "DZ"
  refine ⟨by rw [List.length_map]; omega, ?_⟩
  refine lc_list (l := W) ((fun b => PyData.tuple (ntL b)) ∘ bnd m C) (fun e => .int (e : Nat)) (fun _ => true) (fun e he R N h1 _ => ?_) ?_
  · walk_at "DZ"
    refine ite_t rfl ?_
    dsimp only [Function.comp]
    rw [show atI (ntL (bnd m C e)) 0 = some (.int (e : Nat)) from atI_nat (j := 0) (ntL_get (hh e he))]
    exact h1 rfl
  · rw [List.filter_eq_self.mpr fun _ _ => rfl]
    exact nf q
theorem way_ok {m : Nat} {far : Int} {rs : List D} {T : GR.Tb} {t u : Nat → Int} {Q : D → Prop} (h : Ends (m : Int) far rs t u) (hT : TB m rs T) (q : Q (.tuple ((nwR u (wyL m (car T t u) t u)).map nN))) : f_way [.tuple [.int (m : Nat), .tuple rs], hts m t, hts m u] Q := by
  have hm : m ≤ 6 := by have := h.nr.n1; omega
  have ce := @check_ends_ok (m : Int) far rs t u
  have bo := @bounds_of_ok (m : Int) far rs
  rw [Int.toNat_natCast] at ce bo
  refine o_way ?_
  unfold t_way
  walk_at "DZ"
  refine o_sources ?_
  unfold t_sources
  walk_at "DZ"
  refine ce h ?_
  refine bo h.nr h.nn fun U hU => ?_
  refine sources_of_ok hm ?_
  refine way_along_ok hm ?_
  rw [(wyL_congr hT hU).2]
  exact q
theorem L_due_ok {w : World} {m : Nat} {far : Int} {rs : List D} {T : GR.Tb} {t u : Nat → Int} {Q : D → Prop} (h : Ends (m : Int) far rs t u) (hT : TB m rs T) (q : Q (.tuple ((nwR u (wyL m (car T t u) t u)).map nN))) : f_L_due w [.tuple [.int (m : Nat), .tuple rs], hts m t, hts m u] Q := by
  have hm : m ≤ 6 := by have := h.nr.n1; omega
  have lb := @L_bounds_ok w (m : Int) far rs
  rw [Int.toNat_natCast] at lb
  have a0 : atI [PyData.int (m : Int), PyData.tuple rs] 0 = some (.int m) := rfl
  refine o_L_due ?_
  unfold t_L_due
  refine seq_gen fun N hN => ?_
  walk_at "DZ"
  refine lb h.nr h.nn fun U d hU hd => ?_
  have Ld : ∀ {l : List Nat} {R : D → Prop}, Asc m l → R (.bool (ledB m U t u l)) → f_L_leads [d, hts m t, hts m u, .tuple (ntL l)] R := fun ha r => L_leads_ok hd hm hU ha.2 (by have := ha.len; omega) r
  have fl := fun ls => @first_led m rs U t u hU h.r1 h.r2 ls
  rw [← (wyL_congr (t := t) (u := u) hT hU).2] at q
  have ha := wyL_asc m (car U t u) t u
  subst hN
  try dsimp only
  refine seq_gen fun N hN => ?_
  walk_at "DZ"
  rw [a0]
  dsimp only
  refine L_subsets_ok hm fun ls hp ho => ?_
  obtain ⟨r, hr⟩ := fl ls hp ho
  have hlen := hp.length_eq
  rw [sbs_len] at hlen
  have h64 : 2 ^ m ≤ 2 ^ 6 := Nat.pow_le_pow_right (by decide) hm
  generalize wyL m (car U t u) t u = W at q hr ha
  generalize ledB m U t u = LB at Ld hr
  generalize hV : hts m t = V at Ld
  dsimp only
  refine ⟨by rw [List.length_map]; omega, ?_⟩
  refine lc_list (l := ls) sbD sbD LB (fun l hl R N2 h1 h2 => ?_) ?_
  · have hal := sbs_mem.mp (hp.mem_iff.mp hl)
    unfold sbD
    walk_at "DZ"
    refine Ld hal ?_
    dsimp only
    cases c : LB l with
    | true => exact ite_t rfl (h1 c)
    | false => exact ite_f (fun z => nomatch z) (h2 c)
  rw [hr, List.map_cons]
  subst hN
  walk_at "DZ"
  rw [atI_0]
  dsimp only [sbD]
  have hal := ha.len
  refine ⟨by rw [ntL_len]; omega, ?_⟩
  refine nwR_get (u := u) ha.2 (fun e he R hR => ?_) ?_
  · walk_at "DZ"
    refine ite_t rfl ?_
    unfold hts
    dsimp only
    rw [at_rowL _ (ha.2 e he)]
    exact hR
  · exact q
theorem nws_okD {n : Nat} {u : Nat → Int} {l : List Nat} (h : l.length ≤ 6) : okD (n + 3) (.tuple ((nwR u l).map nN)) = true := by
  unfold okD
  rw [Bool.and_eq_true]
  refine ⟨decide_eq_true (by rw [List.length_map]; unfold nwR; rw [List.length_map]; omega), List.all_eq_true.mpr fun d hd => ?_⟩
  obtain ⟨y, _, rfl⟩ := List.mem_map.mp hd
  unfold nN okD
  rfl
theorem nws_ok (u : Nat → Int) (l : List Nat) : okN 2 (.tuple ((nwR u l).map nN)) := .tup fun d hd => by
  obtain ⟨y, _, rfl⟩ := List.mem_map.mp hd
  refine .tup fun z hz => ?_
  rcases List.mem_cons.mp hz with rfl | hz
  · exact .int _ _
  · rw [List.mem_singleton.mp hz]; exact .int _ _
theorem wyL_nil {m : Nat} {rs : List D} {T : GR.Tb} {t u : Nat → Int} (hT : TB m rs T) (h1 : RightH rs t) (h2 : RightH rs u) : wyL m (car T t u) t u = [] ↔ ∀ c, c < m → t c = u c := by
  constructor
  · intro z c hc
    by_cases hn : t c = u c
    · exact hn
    · have := wy_leads (carR hT h1 h2) hc hn
      rw [z] at this
      rcases this with z | ⟨_, z, _⟩ <;> exact absurd z List.not_mem_nil
  · intro z
    cases hw : wyL m (car T t u) t u with
    | nil => rfl
    | cons e l =>
      have := wy_mem.mp (by rw [hw]; exact List.mem_cons_self : e ∈ wyL m (car T t u) t u)
      exact absurd (z e this.lt) this.mv
theorem pure_law (w : World) : t_law w { nx := fun _ => False, rt := fun d => d = .bool true } (none :: some .strm :: List.replicate (N_law.length - 2) none) := by
  show t_law w _ [none, some .strm, none, none, none]
  unfold t_law
  refine seq_gen fun N hN => ?_
  walk_at "DZ"
  refine ⟨trivial, L_net_ok (by omega) (by omega) (by omega) (by omega) (by omega) (by omega) (by omega) fun n rs t u n0 n1 hrl h => ?_⟩
  have nr : NR n 27 rs := h.nr
  have hz := h.nn
  have hb1 := h.b1
  have hb2 := h.b2
  have en : Ends n 27 rs t u := ⟨nr, h.h1, h.h2, fun e he => by have := hb1 e he; omega, fun e he => by have := hb2 e he; omega⟩
  obtain ⟨m, rfl⟩ : ∃ m : Nat, n = (m : Int) := ⟨n.toNat, by have := nr.n0; omega⟩
  have hm6 : m ≤ 6 := by have := nr.n1; omega
  simp only [Int.toNat_natCast]
  obtain ⟨T, hT⟩ := tb_ex nr hz
  have e2 : Ends (m : Int) 27 rs t t := ⟨nr, h.h1, h.h1, en.b1, en.b1⟩
  have w1 : ∀ {R : D → Prop}, R (.tuple ((nwR u (wyL m (car T t u) t u)).map nN)) → f_way [.tuple [.int (m : Nat), .tuple rs], hts m t, hts m u] R := fun r => way_ok en hT r
  have w2 : ∀ {R : D → Prop}, R (.tuple ((nwR t (wyL m (car T u t) u t)).map nN)) → f_way [.tuple [.int (m : Nat), .tuple rs], hts m u, hts m t] R := fun r => way_ok en.flip hT r
  have w3 : ∀ {R : D → Prop}, R (.tuple ((nwR t (wyL m (car T t t) t t)).map nN)) → f_way [.tuple [.int (m : Nat), .tuple rs], hts m t, hts m t] R := fun r => way_ok e2 hT r
  have l1 : ∀ {R : D → Prop}, R (.tuple ((nwR u (wyL m (car T t u) t u)).map nN)) → f_L_due w [.tuple [.int (m : Nat), .tuple rs], hts m t, hts m u] R := fun r => L_due_ok en hT r
  have l2 : ∀ {R : D → Prop}, R (.tuple ((nwR t (wyL m (car T u t) u t)).map nN)) → f_L_due w [.tuple [.int (m : Nat), .tuple rs], hts m u, hts m t] R := fun r => L_due_ok en.flip hT r
  have n3 : wyL m (car T t t) t t = [] := (wyL_nil hT h.h1 h.h1).mpr fun c _ => rfl
  have n1' := wyL_nil hT h.h1 h.h2
  have g1 := (wyL_asc m (car T t u) t u).len
  have g2 := (wyL_asc m (car T u t) u t).len
  rw [n3] at w3
  generalize wyL m (car T t u) t u = W1 at w1 l1 n1' g1
  generalize wyL m (car T u t) u t = W2 at w2 l2 g2
  refine ⟨rfl, ?_⟩
  subst hN
  try dsimp only
  refine seq_gen fun N hN => ?_
  walk_at "DZ"
  refine w1 ?_
  refine l1 ?_
  refine equal_refl (nws_okD (by omega)) (nws_ok u W1).lay ?_
  refine ite_f (fun z => nomatch z) ?_
  subst hN
  try dsimp only
  refine seq_gen fun N hN => ?_
  walk_at "DZ"
  refine w2 ?_
  refine l2 ?_
  refine equal_refl (nws_okD (by omega)) (nws_ok t W2).lay ?_
  refine ite_f (fun z => nomatch z) ?_
  subst hN
  walk_at "DZ"
  refine w3 ?_
  refine equal_refl (by rfl) (by rfl) ?_
  refine ite_t rfl ?_
  refine w1 ?_
  refine ⟨(nws_ok u W1).shaped, rfl, ?_⟩
  refine ⟨(hts_ok m _).shaped, (hts_ok m _).shaped, ?_⟩
  refine ⟨shaped_bool _, shaped_bool _, ?_⟩
  have e3 : PyData.eqv (.tuple ((nwR u W1).map nN)) (.tuple []) = PyData.eqv (hts m t) (hts m u) := by
    rw [eqv_htsB, Bool.eq_iff_iff, decide_eq_true_eq, ← n1']
    cases W1 with
    | nil => simp [nwR, PyData.eqv, PyData.eqvAll]
    | cons a l => simp [nwR, PyData.eqv, PyData.eqvAll]
  rw [e3]
  cases PyData.eqv (hts m t) (hts m u) <;> rfl
structure Txt (mg : Str → Option Value) : Prop where
  b_abs : mg "abs" = none
  b_all : mg "all" = none
  b_any : mg "any" = none
  b_bool : mg "bool" = none
  b_enumerate : mg "enumerate" = none
  b_int : mg "int" = none
  b_isinstance : mg "isinstance" = none
  b_len : mg "len" = none
  b_list : mg "list" = none
  b_max : mg "max" = none
  b_min : mg "min" = none
  b_range : mg "range" = none
  b_sorted : mg "sorted" = none
  b_str : mg "str" = none
  b_tuple : mg "tuple" = none
  c_GREATEST_NEWS_TIME : ∃ t, mg "GREATEST_NEWS_TIME" = some (.int 500 t)
  c_GREATEST_SIDE : ∃ t, mg "GREATEST_SIDE" = some (.int 100 t)
  c_MOST_EVENTS : ∃ t, mg "MOST_EVENTS" = some (.int 6 t)
  c_MOST_RULES : ∃ t, mg "MOST_RULES" = some (.int 12 t)
section
variable {P : Program} {w : World} {K : PySem.W.Frag} {mg : Str → Option Value} {base : Heap}
theorem fx_L_stream (d : Df K mg "_law_stream" (top 43)) (T : Txt mg)  : Fx P w K mg base 1 "_law_stream" ["script"] (spStream K) :=
  fx_stream d sc_L_stream bb_L_stream (fun f cdv A outer s H Q E hr => pss_one (ps_ret (pe_lst (pa_cons (pe_callTy call_list_of (by rfl) T.b_list bt_list (pa_cons (pv 0) pa_nil)) (pa_cons pe_int (pa_cons pe_int pa_nil))))))
theorem fx_L_next (d : Df K mg "_law_next" (top 44)) (T : Txt mg)  : Fx P w K mg base 1 "_law_next" ["stream", "many"] (spS K 1 f_next) :=
  fx_next d sc_L_next bb_L_next (fun f cdv A outer s H Q E hr => (pss_cons (ps_if (pt_cmpR op_eq (pe_ix ix_list (pv 0) pe_int (fun _ _ => rfl)) pe_int (nomark _))
   (pss_cons (ps_set (i := 2) sc_L_next.nd rfl (.inl rfl) (pe_ix ix_list (pv 0) pe_int (fun _ _ => rfl)))
   (pss_cons (ps_set (i := 3) sc_L_next.nd rfl (.inl rfl) (pe_op op_add pe_int (pv 2)))
   (pss_cons (ps_if (pt_cmpR op_lt (pv 2) (pe_callB call_len_seq (by rfl) T.b_len PySem.boot_len (pa_cons (pe_ix ix_list (pv 0) pe_int (fun _ _ => rfl)) pa_nil)) (nomark _))
     (pss_one (ps_set (i := 3) sc_L_next.nd rfl (.inl rfl) (pe_callB call_abs (by rfl) T.b_abs bt_abs (pa_cons (pe_ix ix_list (pe_ix ix_list (pv 0) pe_int (fun _ _ => rfl)) (pv 2) (fun _ _ => rfl)) pa_nil)))) pss_nil)
   (pss_cons (ps_if (pt_cmpR op_lt (pv 3) (pe_op op_pow pe_int pe_int) (nomark _))
     (pss_cons (ps_set (i := 3) sc_L_next.nd rfl (.inl rfl) (pe_op op_mod (pe_callTy call_int1 (by rfl) T.b_int bt_int (pa_cons (pe_op op_add (pe_op op_add (pe_op op_mul (pv 3) pe_int) (pe_op op_mul (pv 2) pe_int)) pe_int) pa_nil)) pe_int))
     (pss_one (ps_set (i := 3) sc_L_next.nd rfl (.inl rfl) (pe_op op_add (pe_op op_mul (pe_op op_mod (pe_callTy call_int1 (by rfl) T.b_int bt_int (pa_cons (pe_op op_add (pe_op op_mul (pv 3) pe_int) pe_int) pa_nil)) pe_int) pe_int) (pv 3))))) pss_nil)
   (pss_cons (ps_asg (pv 3) (pg_sub (pv 0) pe_int set_list)) (pss_one (ps_asg (pe_op op_add (pv 2) pe_int) (pg_sub (pv 0) pe_int set_list)))))))) pss_nil)
   (pss_cons (ps_set (i := 4) sc_L_next.nd rfl (.inl rfl) (pe_op op_mod (pe_callTy call_int1 (by rfl) T.b_int bt_int (pa_cons (pe_ix ix_list (pv 0) pe_int (fun _ _ => rfl)) pa_nil)) (pv 1)))
   (pss_cons (ps_asg (pe_op op_fdiv (pe_ix ix_list (pv 0) pe_int (fun _ _ => rfl)) (pv 1)) (pg_sub (pv 0) pe_int set_list)) (pss_one (ps_ret (pv 4)))))))
theorem fx_L_gap (d : Df K mg "_law_gap" (top 47)) (T : Txt mg) (G_L_next : Fx P w K mg base 1 "_law_next" ["stream", "many"] (spS K 1 f_next)) : Fx P w K mg base 2 "_law_gap" ["stream", "start", "end", "first", "second"] (spS K 4 f_L_gap) :=
  fx_ofS d sc_L_gap bb_L_gap rfl (by decide) fun f cdv A outer s H Q E hr => ⟨_,
  (pss_cons (ps_set (i := 5) sc_L_gap.nd rfl (by first | exact .inl rfl | exact .inr rfl) (pe_lst (pa_cons (pe_op op_sub (pe_ix ix_seq (pv 3) (pv 2) (fun _ _ => rfl)) (pe_ix ix_seq (pv 3) (pv 1) (fun _ _ => rfl))) (pa_cons (pe_op op_sub (pe_ix ix_seq (pv 4) (pv 2) (fun _ _ => rfl)) (pe_ix ix_seq (pv 4) (pv 1) (fun _ _ => rfl))) pa_nil))))
  (pss_cons (ps_set (i := 6) sc_L_gap.nd rfl (by first | exact .inl rfl | exact .inr rfl) (pe_op op_sub (pe_callB (cr_min rfl) (by rfl) T.b_min bt_min (pa_cons (pv 5) pa_nil)) (pe_ix ix_seq (pe_lst (pa_cons pe_int (pa_cons pe_int (pa_cons pe_int (pa_cons pe_int pa_nil))))) (pe_fx G_L_next (hr.mono (by decide)) (by rfl) (pa_cons (pv 0) (pa_cons pe_int pa_nil))) (fun _ _ => rfl))))
  (pss_cons (ps_set (i := 7) sc_L_gap.nd rfl (by first | exact .inl rfl | exact .inr rfl) (pe_op op_addA (pe_callB (cr_max rfl) (by rfl) T.b_max bt_max (pa_cons (pv 5) pa_nil)) (pe_ix ix_seq (pe_lst (pa_cons pe_int (pa_cons pe_int (pa_cons pe_int (pa_cons pe_int pa_nil))))) (pe_fx G_L_next (hr.mono (by decide)) (by rfl) (pa_cons (pv 0) (pa_cons pe_int pa_nil))) (fun _ _ => rfl))))
  (pss_cons (ps_set (i := 8) sc_L_gap.nd rfl (by first | exact .inl rfl | exact .inr rfl) (pe_fx G_L_next (hr.mono (by decide)) (by rfl) (pa_cons (pv 0) (pa_cons pe_int pa_nil))))
  (pss_cons (ps_if (pt_cmpR (op_eqD hr.units) (pv 8) pe_int (nomark _))
  (pss_one (ps_ret (pe_tup (pa_cons (pv 1) (pa_cons (pv 2) (pa_cons (pv 6) (pa_cons pe_non pa_nil)))))))
  pss_nil)
  (pss_cons (ps_if (pt_cmpR (op_eqD hr.units) (pv 8) pe_int (nomark _))
  (pss_one (ps_ret (pe_tup (pa_cons (pv 1) (pa_cons (pv 2) (pa_cons pe_non (pa_cons (pv 7) pa_nil)))))))
  pss_nil)
  (pss_one (ps_ret (pe_tup (pa_cons (pv 1) (pa_cons (pv 2) (pa_cons (pv 6) (pa_cons (pv 7) pa_nil))))))))))))),
  (ss_seq (ss_set (i := 5) (se_own (so_lst (sa_cons (se_op s2_sub (se_op s2_ix (se_var 3) (se_var 2)) (se_op s2_ix (se_var 3) (se_var 1))) (sa_cons (se_op s2_sub (se_op s2_ix (se_var 4) (se_var 2)) (se_op s2_ix (se_var 4) (se_var 1))) sa_nil)))))
  (ss_seq (ss_set (i := 6) (se_op s2_sub (se_cb sc_minL (sa_cons (se_var 5) sa_nil)) (se_op s2_ix (se_own (so_lst (sa_cons se_int (sa_cons se_int (sa_cons se_int (sa_cons se_int sa_nil)))))) (se_callS 0 (sa_cons se_int sa_nil)))))
  (ss_seq (ss_set (i := 7) (se_op s2_add (se_cb sc_maxL (sa_cons (se_var 5) sa_nil)) (se_op s2_ix (se_own (so_lst (sa_cons se_int (sa_cons se_int (sa_cons se_int (sa_cons se_int sa_nil)))))) (se_callS 0 (sa_cons se_int sa_nil)))))
  (ss_seq (ss_set (i := 8) (se_callS 0 (sa_cons se_int sa_nil)))
  (ss_seq (ss_if (st_test (se_op s2_eq (se_var 8) se_int))
  (ss_ret (se_tup (sa_cons (se_var 1) (sa_cons (se_var 2) (sa_cons (se_var 6) (sa_cons se_non sa_nil))))))
  ss_next)
  (ss_seq (ss_if (st_test (se_op s2_eq (se_var 8) se_int))
  (ss_ret (se_tup (sa_cons (se_var 1) (sa_cons (se_var 2) (sa_cons se_non (sa_cons (se_var 7) sa_nil))))))
  ss_next)
  (ss_ret (se_tup (sa_cons (se_var 1) (sa_cons (se_var 2) (sa_cons (se_var 6) (sa_cons (se_var 7) sa_nil))))))))))))⟩
theorem fx_L_net (d : Df K mg "_law_net" (top 48)) (T : Txt mg) (G_L_next : Fx P w K mg base 1 "_law_next" ["stream", "many"] (spS K 1 f_next)) (G_L_gap : Fx P w K mg base 2 "_law_gap" ["stream", "start", "end", "first", "second"] (spS K 4 f_L_gap)) : Fx P w K mg base 3 "_law_net" ["stream", "least", "most", "many", "wide"] (spS K 4 f_L_net) :=
  fx_ofS d sc_L_net bb_L_net rfl (by decide) fun f cdv A outer s H Q E hr => ⟨_,
  (pss_cons (ps_set (i := 5) sc_L_net.nd rfl (by first | exact .inl rfl | exact .inr rfl) (pe_op op_addA (pv 1) (pe_fx G_L_next (hr.mono (by decide)) (by rfl) (pa_cons (pv 0) (pa_cons (pe_op op_addA (pe_op op_sub (pv 2) (pv 1)) pe_int) pa_nil)))))
  (pss_cons (ps_set (i := 6) sc_L_net.nd rfl (by first | exact .inl rfl | exact .inr rfl) (pe_callTy call_tuple_of (by rfl) T.b_tuple bt_tuple (pa_cons (pe_lc (own := [("event", 12)]) (g := (gName 12)) rfl sc_L_net.nd (pi_range1 (by rfl) T.b_range (pa_cons (pv 5) pa_nil)) (blkOk_by (own := [("event", 12)]) (N := N_L_net) (sc := defScope (top 48)) (by decide +kernel)) (fun _ _ _ _ _ => (pg_name (i := 12) sc_L_net.nd rfl (by first | exact .inl rfl | exact .inr rfl))) (fun _ _ _ _ _ => pts_nil) (fun _ _ _ _ _ => (pe_op op_sub (pe_fx G_L_next (hr.mono (by decide)) (by rfl) (pa_cons (pv 0) (pa_cons (pe_op op_addA (pe_op op_mulA pe_int (pv 4)) pe_int) pa_nil))) (pv 4)))) pa_nil)))
  (pss_cons (ps_set (i := 7) sc_L_net.nd rfl (by first | exact .inl rfl | exact .inr rfl) (pe_callTy call_tuple_of (by rfl) T.b_tuple bt_tuple (pa_cons (pe_lc (own := [("time", 13)]) (g := (gName 13)) rfl sc_L_net.nd (pi_seq (pv 6)) (blkOk_by (own := [("time", 13)]) (N := N_L_net) (sc := defScope (top 48)) (by decide +kernel)) (fun _ _ _ _ _ => (pg_name (i := 13) sc_L_net.nd rfl (by first | exact .inl rfl | exact .inr rfl))) (fun _ _ _ _ _ => pts_nil) (fun _ _ _ _ _ => (pe_op op_addA (pv 13) (pe_op op_mulA (pe_fx G_L_next (hr.mono (by decide)) (by rfl) (pa_cons (pv 0) (pa_cons (pe_op op_addA (pv 4) pe_int) pa_nil))) (pe_op op_sub (pe_fx G_L_next (hr.mono (by decide)) (by rfl) (pa_cons (pv 0) (pa_cons pe_int pa_nil))) pe_int))))) pa_nil)))
  (pss_cons (ps_set (i := 8) sc_L_net.nd rfl (by first | exact .inl rfl | exact .inr rfl) (pe_lst pa_nil))
  (pss_cons (ps_for PassesOwn.never rfl (pi_range1 (by rfl) T.b_range (pa_cons (pe_fx G_L_next (hr.mono (by decide)) (by rfl) (pa_cons (pv 0) (pa_cons (pe_op op_addA (pv 3) pe_int) pa_nil))) pa_nil)) (pg_name (i := 9) sc_L_net.nd rfl (by first | exact .inl rfl | exact .inr rfl))
  (pss_one (ps_if (pt_cmpR op_gt (pv 5) pe_int (nomark _))
  (pss_cons (ps_set (i := 10) sc_L_net.nd rfl (by first | exact .inl rfl | exact .inr rfl) (pe_fx G_L_next (hr.mono (by decide)) (by rfl) (pa_cons (pv 0) (pa_cons (pv 5) pa_nil))))
  (pss_cons (ps_set (i := 11) sc_L_net.nd rfl (by first | exact .inl rfl | exact .inr rfl) (pe_fx G_L_next (hr.mono (by decide)) (by rfl) (pa_cons (pv 0) (pa_cons (pe_op op_sub (pv 5) pe_int) pa_nil))))
  (pss_one (ps_expr (pe_bm PySem.F.plainAttrs_list PySem.F.slot_list_append PySem.F.type_list_append mt_append (pv 8) (pa_cons (pe_fx G_L_gap (hr.mono (by decide)) (by rfl) (pa_cons (pv 0) (pa_cons (pv 10) (pa_cons (pe_op op_addA (pv 11) (pe_callTy call_int1 (by rfl) T.b_int bt_int (pa_cons (pe_cmpR op_ge (pv 11) (pv 10) (nomark _)) pa_nil))) (pa_cons (pv 6) (pa_cons (pv 7) pa_nil)))))) pa_nil))))))
  pss_nil)))
  (pss_one (ps_ret (pe_tup (pa_cons (pe_tup (pa_cons (pv 5) (pa_cons (pe_callTy call_tuple_of (by rfl) T.b_tuple bt_tuple (pa_cons (pv 8) pa_nil)) pa_nil))) (pa_cons (pv 6) (pa_cons (pv 7) pa_nil))))))))))),
  (ss_seq (ss_set (i := 5) (se_op s2_add (se_var 1) (se_callS 0 (sa_cons (se_op s2_add (se_op s2_sub (se_var 2) (se_var 1)) se_int) sa_nil))))
  (ss_seq (ss_set (i := 6) (se_cb sc_tuple (sa_cons (se_own (so_lc (vs := [12]) (si_range1 (sa_cons (se_var 5) sa_nil)) (sg_name 12) st_yes (se_op s2_sub (se_callS 0 (sa_cons (se_op s2_add (se_op s2_mul se_int (se_var 4)) se_int) sa_nil)) (se_var 4)))) sa_nil)))
  (ss_seq (ss_set (i := 7) (se_cb sc_tuple (sa_cons (se_own (so_lc (vs := [13]) (si_seq (se_var 6)) (sg_name 13) st_yes (se_op s2_add (se_var 13) (se_op s2_mul (se_callS 0 (sa_cons (se_op s2_add (se_var 4) se_int) sa_nil)) (se_op s2_sub (se_callS 0 (sa_cons se_int sa_nil)) se_int))))) sa_nil)))
  (ss_seq (ss_asgO (so_lst sa_nil))
  (ss_seq (ss_for (vs := [9]) (si_range1 (sa_cons (se_callS 0 (sa_cons (se_op s2_add (se_var 3) se_int) sa_nil)) sa_nil)) (sg_name 9)
  (ss_if (st_test (se_op s2_gt (se_var 5) se_int))
  (ss_seq (ss_set (i := 10) (se_callS 0 (sa_cons (se_var 5) sa_nil)))
  (ss_seq (ss_set (i := 11) (se_callS 0 (sa_cons (se_op s2_sub (se_var 5) se_int) sa_nil)))
  (ss_app 8 (se_callS 0 (sa_cons (se_var 10) (sa_cons (se_op s2_add (se_var 11) (se_cb sc_int (sa_cons (se_op s2_ge (se_var 11) (se_var 10)) sa_nil))) (sa_cons (se_var 6) (sa_cons (se_var 7) sa_nil))))))))
  ss_next))
  (ss_frz 8 (ss_ret (se_tup (sa_cons (se_tup (sa_cons (se_var 5) (sa_cons (se_cb sc_tuple (sa_cons (se_var 8) sa_nil)) sa_nil))) (sa_cons (se_var 6) (sa_cons (se_var 7) sa_nil)))))))))))⟩
theorem fx_L_is_integer (d : Df K mg "_law_is_integer" (top 45)) (T : Txt mg)  : Fx P w K mg base 1 "_law_is_integer" ["actual"] (spD K 1 f_L_is_integer) :=
  fx_of d sc_L_is_integer bb_L_is_integer rfl fun f cdv A outer s H Q E hr => ⟨_,
  (pss_one (ps_ret (pe_and (pe_callB call_isi2 (by rfl) T.b_isinstance bt_isi (pa_cons (pv 0) (pa_cons (pe_bltn (v := .ty "int") (by rfl) T.b_int bt_int rfl) pa_nil))) (pe_one (pe_not (pe_callB call_isi2 (by rfl) T.b_isinstance bt_isi (pa_cons (pv 0) (pa_cons (pe_bltn (v := .ty "bool") (by rfl) T.b_bool bt_bool rfl) pa_nil)))))))),
  (ss_ret (se_and (se_isi ty_int (se_var 0)) (se_not (se_isi ty_bool (se_var 0)))))⟩
theorem step_L_equal (k n : Nat) (d : Df K mg "_law_equal" (top 46)) (T : Txt mg) (G_L_is_integer : Fx P w K mg base 1 "_law_is_integer" ["actual"] (spD K 1 f_L_is_integer)) (G_L_equal : Fx P w K mg base (k + 1) "_law_equal" ["actual", "due"] (spD K 2 (f_equal n))) : Fx P w K mg base (k + 2) "_law_equal" ["actual", "due"] (spD K 2 (bodyD N_L_equal.length 2 (t_L_equal n))) :=
  fx_of d sc_L_equal bb_L_equal rfl fun f cdv A outer s H Q E hr => ⟨_,
  (pss_cons (ps_if (pt_cmpR op_isN (pv 1) pe_non (nomark _))
  (pss_one (ps_ret (pe_cmpR op_isN (pv 0) pe_non (nomark _))))
  pss_nil)
  (pss_cons (ps_if (pt_truth (pe_callB call_isi2 (by rfl) T.b_isinstance bt_isi (pa_cons (pv 1) (pa_cons (pe_bltn (v := .ty "bool") (by rfl) T.b_bool bt_bool rfl) pa_nil))) (by intro _; rfl))
  (pss_one (ps_ret (pe_and (pe_callB call_isi2 (by rfl) T.b_isinstance bt_isi (pa_cons (pv 0) (pa_cons (pe_bltn (v := .ty "bool") (by rfl) T.b_bool bt_bool rfl) pa_nil))) (pe_one (pe_cmpR (op_eqD hr.units) (pv 0) (pv 1) (nomark _))))))
  pss_nil)
  (pss_cons (ps_if (pt_truth (pe_callB call_isi2 (by rfl) T.b_isinstance bt_isi (pa_cons (pv 1) (pa_cons (pe_bltn (v := .ty "int") (by rfl) T.b_int bt_int rfl) pa_nil))) (by intro _; rfl))
  (pss_one (ps_ret (pe_and (pe_fx G_L_is_integer (hr.mono (by omega)) (by rfl) (pa_cons (pv 0) pa_nil)) (pe_one (pe_cmpR (op_eqD hr.units) (pv 0) (pv 1) (nomark _))))))
  pss_nil)
  (pss_cons (ps_if (pt_truth (pe_callB call_isi2 (by rfl) T.b_isinstance bt_isi (pa_cons (pv 1) (pa_cons (pe_bltn (v := .ty "str") (by rfl) T.b_str bt_str rfl) pa_nil))) (by intro _; rfl))
  (pss_one (ps_ret (pe_and (pe_callB call_isi2 (by rfl) T.b_isinstance bt_isi (pa_cons (pv 0) (pa_cons (pe_bltn (v := .ty "str") (by rfl) T.b_str bt_str rfl) pa_nil))) (pe_one (pe_cmpR (op_eqD hr.units) (pv 0) (pv 1) (nomark _))))))
  pss_nil)
  (pss_cons (ps_if (PW.pt (pw_and (pt_truth (pe_callB call_isi2 (by rfl) T.b_isinstance bt_isi (pa_cons (pv 1) (pa_cons (pe_bltn (v := .ty "tuple") (by rfl) T.b_tuple bt_tuple rfl) pa_nil))) (by intro _; rfl)) (pw_and1 (pt_not (pt_truth (pe_callB call_isi2 (by rfl) T.b_isinstance bt_isi (pa_cons (pv 0) (pa_cons (pe_bltn (v := .ty "tuple") (by rfl) T.b_tuple bt_tuple rfl) pa_nil))) (by intro _; rfl))))))
  (pss_one (ps_ret pe_bl))
  pss_nil)
  (pss_cons (ps_if (PW.pt (pw_and (pt_truth (pe_callB call_isi2 (by rfl) T.b_isinstance bt_isi (pa_cons (pv 1) (pa_cons (pe_bltn (v := .ty "list") (by rfl) T.b_list bt_list rfl) pa_nil))) (by intro _; rfl)) (pw_and1 (pt_not (pt_truth (pe_callB call_isi2 (by rfl) T.b_isinstance bt_isi (pa_cons (pv 0) (pa_cons (pe_bltn (v := .ty "list") (by rfl) T.b_list bt_list rfl) pa_nil))) (by intro _; rfl))))))
  (pss_one (ps_ret pe_bl))
  pss_nil)
  (pss_cons (ps_if (pt_cmpR (op_neD hr.units) (pe_callB call_len_seq (by rfl) T.b_len PySem.boot_len (pa_cons (pv 0) pa_nil)) (pe_callB call_len_seq (by rfl) T.b_len PySem.boot_len (pa_cons (pv 1) pa_nil)) (nomark _))
  (pss_one (ps_ret pe_bl))
  pss_nil)
  (pss_one (ps_ret (pe_callB (cr_all rfl) (by rfl) T.b_all bt_all (pa_cons (pe_lc (own := [("at", 2)]) (g := (gName 2)) rfl sc_L_equal.nd (pi_range1 (by rfl) T.b_range (pa_cons (pe_callB call_len_seq (by rfl) T.b_len PySem.boot_len (pa_cons (pv 1) pa_nil)) pa_nil)) (blkOk_by (own := [("at", 2)]) (N := N_L_equal) (sc := defScope (top 46)) (by decide +kernel)) (fun _ _ _ _ _ => (pg_name (i := 2) sc_L_equal.nd rfl (by first | exact .inl rfl | exact .inr rfl))) (fun _ _ _ _ _ => pts_nil) (fun _ _ _ _ _ => (pe_fx G_L_equal (hr.mono (by omega)) (by rfl) (pa_cons (pe_ix ix_seq (pv 0) (pv 2) (fun _ _ => rfl)) (pa_cons (pe_ix ix_seq (pv 1) (pv 2) (fun _ _ => rfl)) pa_nil))))) pa_nil))))))))))),
  (ss_seq (ss_if (st_test (se_op s2_isN (se_var 1) se_non))
  (ss_ret (se_op s2_isN (se_var 0) se_non))
  ss_next)
  (ss_seq (ss_if (st_truth (se_isi ty_bool (se_var 1)))
  (ss_ret (se_and (se_isi ty_bool (se_var 0)) (se_op s2_eq (se_var 0) (se_var 1))))
  ss_next)
  (ss_seq (ss_if (st_truth (se_isi ty_int (se_var 1)))
  (ss_ret (se_and (se_call (sa_cons (se_var 0) sa_nil)) (se_op s2_eq (se_var 0) (se_var 1))))
  ss_next)
  (ss_seq (ss_if (st_truth (se_isi ty_str (se_var 1)))
  (ss_ret (se_and (se_isi ty_str (se_var 0)) (se_op s2_eq (se_var 0) (se_var 1))))
  ss_next)
  (ss_seq (ss_if (st_and (st_truth (se_isi ty_tuple (se_var 1))) (st_not (st_truth (se_isi ty_tuple (se_var 0)))))
  (ss_ret se_bl)
  ss_next)
  (ss_seq (ss_if (st_and (st_truth (se_isi ty_list (se_var 1))) (st_not (st_truth (se_isi ty_list (se_var 0)))))
  (ss_ret se_bl)
  ss_next)
  (ss_seq (ss_if (st_test (se_op s2_ne (se_cb sc_len (sa_cons (se_var 0) sa_nil)) (se_cb sc_len (sa_cons (se_var 1) sa_nil))))
  (ss_ret se_bl)
  ss_next)
  (ss_ret (se_cb sc_all (sa_cons (se_own (so_lc (vs := [2]) (si_range1 (sa_cons (se_cb sc_len (sa_cons (se_var 1) sa_nil)) sa_nil)) (sg_name 2) st_yes (se_call (sa_cons (se_op s2_ix (se_var 0) (se_var 2)) (sa_cons (se_op s2_ix (se_var 1) (se_var 2)) sa_nil))))) sa_nil))))))))))⟩
theorem fx_L_equal (d : Df K mg "_law_equal" (top 46)) (T : Txt mg) (G_L_is_integer : Fx P w K mg base 1 "_law_is_integer" ["actual"] (spD K 1 f_L_is_integer)) : Fx P w K mg base 9 "_law_equal" ["actual", "due"] (spD K 2 (f_equal 8)) :=
  fx_equal d bb_L_equal rfl (fun k n G => step_L_equal k n d T G_L_is_integer G) t_equal_ok 8
theorem fx_news_for (d : Df K mg "news_for" (top 33)) (T : Txt mg)  : Fx P w K mg base 1 "news_for" ["events", "second"] (spD K 2 f_news_for) :=
  fx_of d sc_news_for bb_news_for rfl fun f cdv A outer s H Q E hr => ⟨_,
  (pss_one (ps_ret (pe_callTy call_tuple_of (by rfl) T.b_tuple bt_tuple (pa_cons (pe_lc (own := [("event", 2)]) (g := (gName 2)) rfl sc_news_for.nd (pi_seq (pv 0)) (blkOk_by (own := [("event", 2)]) (N := N_news_for) (sc := defScope (top 33)) (by decide +kernel)) (fun _ _ _ _ _ => (pg_name (i := 2) sc_news_for.nd rfl (by first | exact .inl rfl | exact .inr rfl))) (fun _ _ _ _ _ => pts_nil) (fun _ _ _ _ _ => (pe_tup (pa_cons (pv 2) (pa_cons (pe_ix ix_seq (pv 1) (pv 2) (fun _ _ => rfl)) pa_nil))))) pa_nil)))),
  (ss_ret (se_cb sc_tuple (sa_cons (se_own (so_lc (vs := [2]) (si_seq (se_var 0)) (sg_name 2) st_yes (se_tup (sa_cons (se_var 2) (sa_cons (se_op s2_ix (se_var 1) (se_var 2)) sa_nil))))) sa_nil)))⟩
theorem fx_way_along (d : Df K mg "way_along" (top 40)) (T : Txt mg) (G_news_for : Fx P w K mg base 1 "news_for" ["events", "second"] (spD K 2 f_news_for)) : Fx P w K mg base 2 "way_along" ["found", "second"] (spD K 2 f_way_along) :=
  fx_of d sc_way_along bb_way_along rfl fun f cdv A outer s H Q E hr => ⟨_,
  (pss_one (ps_ret (pe_fx G_news_for (hr.mono (by decide)) (by rfl) (pa_cons (pe_lc (own := [("source", 2)]) (g := (gName 2)) rfl sc_way_along.nd (pi_seq (pv 0)) (blkOk_by (own := [("source", 2)]) (N := N_way_along) (sc := defScope (top 40)) (by decide +kernel)) (fun _ _ _ _ _ => (pg_name (i := 2) sc_way_along.nd rfl (by first | exact .inl rfl | exact .inr rfl))) (fun _ _ _ _ _ => pts_nil) (fun _ _ _ _ _ => (pe_ix ix_seq (pv 2) pe_int (fun _ _ => rfl)))) (pa_cons (pv 1) pa_nil))))),
  (ss_ret (se_call (sa_cons (se_own (so_lc (vs := [2]) (si_seq (se_var 0)) (sg_name 2) st_yes (se_op s2_ix (se_var 2) se_int))) (sa_cons (se_var 1) sa_nil))))⟩
theorem fx_is_whole (d : Df K mg "is_whole" (top 7)) (T : Txt mg)  : Fx P w K mg base 1 "is_whole" ["value"] (spD K 1 f_is_whole) :=
  fx_of d sc_is_whole bb_is_whole rfl fun f cdv A outer s H Q E hr => ⟨_,
  (pss_one (ps_ret (pe_and (pe_callB call_isi2 (by rfl) T.b_isinstance bt_isi (pa_cons (pv 0) (pa_cons (pe_bltn (v := .ty "int") (by rfl) T.b_int bt_int rfl) pa_nil))) (pe_one (pe_not (pe_callB call_isi2 (by rfl) T.b_isinstance bt_isi (pa_cons (pv 0) (pa_cons (pe_bltn (v := .ty "bool") (by rfl) T.b_bool bt_bool rfl) pa_nil)))))))),
  (ss_ret (se_and (se_isi ty_int (se_var 0)) (se_not (se_isi ty_bool (se_var 0)))))⟩
theorem fx_is_integer (d : Df K mg "is_integer" (top 8)) (T : Txt mg) (G_is_whole : Fx P w K mg base 1 "is_whole" ["value"] (spD K 1 f_is_whole)) : Fx P w K mg base 2 "is_integer" ["value", "least", "greatest"] (spD K 3 f_is_integer) :=
  fx_of d sc_is_integer bb_is_integer rfl fun f cdv A outer s H Q E hr => ⟨_,
  (pss_one (ps_ret (pe_and (pe_fx G_is_whole (hr.mono (by decide)) (by rfl) (pa_cons (pv 0) pa_nil)) (pe_one (pe_chain op_le op_le (pv 1) (pv 0) (pv 2)))))),
  (ss_ret (se_and (se_call (sa_cons (se_var 0) sa_nil)) (se_chain s2_le s2_le (se_var 1) (se_var 0) (se_var 2))))⟩
theorem fx_is_side (d : Df K mg "is_side" (top 10)) (T : Txt mg) (G_is_integer : Fx P w K mg base 2 "is_integer" ["value", "least", "greatest"] (spD K 3 f_is_integer)) : Fx P w K mg base 3 "is_side" ["value"] (spD K 1 f_is_side) :=
  fx_of d sc_is_side bb_is_side rfl fun f cdv A outer s H Q E hr => ⟨_,
  (pss_one (ps_ret (pe_or (pe_cmpR op_isN (pv 0) pe_non (nomark _)) (pe_one (pe_fx G_is_integer (hr.mono (by decide)) (by rfl) (pa_cons (pv 0) (pa_cons (pe_un un_neg (pe_gint T.c_GREATEST_SIDE (by rfl))) (pa_cons (pe_gint T.c_GREATEST_SIDE (by rfl)) pa_nil)))))))),
  (ss_ret (se_or (se_op s2_isN (se_var 0) se_non) (se_call (sa_cons (se_var 0) (sa_cons (se_un s1_neg se_int) (sa_cons se_int sa_nil))))))⟩
theorem fx_is_event (d : Df K mg "is_event" (top 9)) (T : Txt mg) (G_is_integer : Fx P w K mg base 2 "is_integer" ["value", "least", "greatest"] (spD K 3 f_is_integer)) : Fx P w K mg base 3 "is_event" ["value", "size"] (spD K 2 f_is_event) :=
  fx_of d sc_is_event bb_is_event rfl fun f cdv A outer s H Q E hr => ⟨_,
  (pss_one (ps_ret (pe_fx G_is_integer (hr.mono (by decide)) (by rfl) (pa_cons (pv 0) (pa_cons pe_int (pa_cons (pe_op op_sub (pv 1) pe_int) pa_nil)))))),
  (ss_ret (se_call (sa_cons (se_var 0) (sa_cons se_int (sa_cons (se_op s2_sub (se_var 1) se_int) sa_nil)))))⟩
theorem fx_is_rule (d : Df K mg "is_rule" (top 11)) (T : Txt mg) (G_is_side : Fx P w K mg base 3 "is_side" ["value"] (spD K 1 f_is_side)) (G_is_event : Fx P w K mg base 3 "is_event" ["value", "size"] (spD K 2 f_is_event)) : Fx P w K mg base 4 "is_rule" ["value", "size"] (spD K 2 f_is_rule) :=
  fx_of d sc_is_rule bb_is_rule rfl fun f cdv A outer s H Q E hr => ⟨_,
  (pss_cons (ps_if (PW.pt (pw_or (pt_not (pt_truth (pe_callB call_isi2 (by rfl) T.b_isinstance bt_isi (pa_cons (pv 0) (pa_cons (pe_bltn (v := .ty "tuple") (by rfl) T.b_tuple bt_tuple rfl) pa_nil))) (by intro _; rfl))) (pw_or1 (pt_cmpR (op_neD hr.units) (pe_callB call_len_seq (by rfl) T.b_len PySem.boot_len (pa_cons (pv 0) pa_nil)) pe_int (nomark _)))))
  (pss_one (ps_ret pe_bl))
  pss_nil)
  (pss_cons (ps_asg (pv 0) (pg_sq rfl (pgs_cons (pg_name (i := 2) sc_is_rule.nd rfl (by first | exact .inl rfl | exact .inr rfl)) (pgs_cons (pg_name (i := 3) sc_is_rule.nd rfl (by first | exact .inl rfl | exact .inr rfl)) (pgs_cons (pg_name (i := 4) sc_is_rule.nd rfl (by first | exact .inl rfl | exact .inr rfl)) (pgs_cons (pg_name (i := 5) sc_is_rule.nd rfl (by first | exact .inl rfl | exact .inr rfl)) pgs_nil))))))
  (pss_cons (ps_if (PW.pt (pw_or (pt_not (pt_truth (pe_fx G_is_event (hr.mono (by decide)) (by rfl) (pa_cons (pv 2) (pa_cons (pv 1) pa_nil))) (by intro _; rfl))) (pw_or (pt_not (pt_truth (pe_fx G_is_event (hr.mono (by decide)) (by rfl) (pa_cons (pv 3) (pa_cons (pv 1) pa_nil))) (by intro _; rfl))) (pw_or1 (pt_cmpR (op_eqD hr.units) (pv 2) (pv 3) (nomark _))))))
  (pss_one (ps_ret pe_bl))
  pss_nil)
  (pss_cons (ps_if (PW.pt (pw_and (pt_cmpR op_isN (pv 4) pe_non (nomark _)) (pw_and1 (pt_cmpR op_isN (pv 5) pe_non (nomark _)))))
  (pss_one (ps_ret pe_bl))
  pss_nil)
  (pss_one (ps_ret (pe_and (pe_fx G_is_side (hr.mono (by decide)) (by rfl) (pa_cons (pv 4) pa_nil)) (pe_one (pe_fx G_is_side (hr.mono (by decide)) (by rfl) (pa_cons (pv 5) pa_nil)))))))))),
  (ss_seq (ss_if (st_or (st_not (st_truth (se_isi ty_tuple (se_var 0)))) (st_test (se_op s2_ne (se_cb sc_len (sa_cons (se_var 0) sa_nil)) se_int)))
  (ss_ret se_bl)
  ss_next)
  (ss_seq (ss_asg (vs := [2, 3, 4, 5]) (se_var 0) (sg_tup (sgs_cons (sg_name 2) (sgs_cons (sg_name 3) (sgs_cons (sg_name 4) (sgs_cons (sg_name 5) sgs_nil))))))
  (ss_seq (ss_if (st_or (st_not (st_truth (se_call (sa_cons (se_var 2) (sa_cons (se_var 1) sa_nil))))) (st_or (st_not (st_truth (se_call (sa_cons (se_var 3) (sa_cons (se_var 1) sa_nil))))) (st_test (se_op s2_eq (se_var 2) (se_var 3)))))
  (ss_ret se_bl)
  ss_next)
  (ss_seq (ss_if (st_and (st_test (se_op s2_isN (se_var 4) se_non)) (st_test (se_op s2_isN (se_var 5) se_non)))
  (ss_ret se_bl)
  ss_next)
  (ss_ret (se_and (se_call (sa_cons (se_var 4) sa_nil)) (se_call (sa_cons (se_var 5) sa_nil))))))))⟩
theorem fx_is_net (d : Df K mg "is_net" (top 12)) (T : Txt mg) (G_is_integer : Fx P w K mg base 2 "is_integer" ["value", "least", "greatest"] (spD K 3 f_is_integer)) (G_is_rule : Fx P w K mg base 4 "is_rule" ["value", "size"] (spD K 2 f_is_rule)) : Fx P w K mg base 5 "is_net" ["value"] (spD K 1 f_is_net) :=
  fx_of d sc_is_net bb_is_net rfl fun f cdv A outer s H Q E hr => ⟨_,
  (pss_cons (ps_if (PW.pt (pw_or (pt_not (pt_truth (pe_callB call_isi2 (by rfl) T.b_isinstance bt_isi (pa_cons (pv 0) (pa_cons (pe_bltn (v := .ty "tuple") (by rfl) T.b_tuple bt_tuple rfl) pa_nil))) (by intro _; rfl))) (pw_or1 (pt_cmpR (op_neD hr.units) (pe_callB call_len_seq (by rfl) T.b_len PySem.boot_len (pa_cons (pv 0) pa_nil)) pe_int (nomark _)))))
  (pss_one (ps_ret pe_bl))
  pss_nil)
  (pss_cons (ps_asg (pv 0) (pg_sq rfl (pgs_cons (pg_name (i := 1) sc_is_net.nd rfl (by first | exact .inl rfl | exact .inr rfl)) (pgs_cons (pg_name (i := 2) sc_is_net.nd rfl (by first | exact .inl rfl | exact .inr rfl)) pgs_nil))))
  (pss_cons (ps_if (pt_not (pt_truth (pe_fx G_is_integer (hr.mono (by decide)) (by rfl) (pa_cons (pv 1) (pa_cons pe_int (pa_cons (pe_gint T.c_MOST_EVENTS (by rfl)) pa_nil)))) (by intro _; rfl)))
  (pss_one (ps_ret pe_bl))
  pss_nil)
  (pss_cons (ps_if (PW.pt (pw_or (pt_not (pt_truth (pe_callB call_isi2 (by rfl) T.b_isinstance bt_isi (pa_cons (pv 2) (pa_cons (pe_bltn (v := .ty "tuple") (by rfl) T.b_tuple bt_tuple rfl) pa_nil))) (by intro _; rfl))) (pw_or1 (pt_cmpR op_gt (pe_callB call_len_seq (by rfl) T.b_len PySem.boot_len (pa_cons (pv 2) pa_nil)) (pe_gint T.c_MOST_RULES (by rfl)) (nomark _)))))
  (pss_one (ps_ret pe_bl))
  pss_nil)
  (pss_one (ps_ret (pe_callB (cr_all rfl) (by rfl) T.b_all bt_all (pa_cons (pe_lc (own := [("rule", 3)]) (g := (gName 3)) rfl sc_is_net.nd (pi_seq (pv 2)) (blkOk_by (own := [("rule", 3)]) (N := N_is_net) (sc := defScope (top 12)) (by decide +kernel)) (fun _ _ _ _ _ => (pg_name (i := 3) sc_is_net.nd rfl (by first | exact .inl rfl | exact .inr rfl))) (fun _ _ _ _ _ => pts_nil) (fun _ _ _ _ _ => (pe_fx G_is_rule (hr.mono (by decide)) (by rfl) (pa_cons (pv 3) (pa_cons (pv 1) pa_nil))))) pa_nil)))))))),
  (ss_seq (ss_if (st_or (st_not (st_truth (se_isi ty_tuple (se_var 0)))) (st_test (se_op s2_ne (se_cb sc_len (sa_cons (se_var 0) sa_nil)) se_int)))
  (ss_ret se_bl)
  ss_next)
  (ss_seq (ss_asg (vs := [1, 2]) (se_var 0) (sg_tup (sgs_cons (sg_name 1) (sgs_cons (sg_name 2) sgs_nil))))
  (ss_seq (ss_if (st_not (st_truth (se_call (sa_cons (se_var 1) (sa_cons se_int (sa_cons se_int sa_nil))))))
  (ss_ret se_bl)
  ss_next)
  (ss_seq (ss_if (st_or (st_not (st_truth (se_isi ty_tuple (se_var 2)))) (st_test (se_op s2_gt (se_cb sc_len (sa_cons (se_var 2) sa_nil)) se_int)))
  (ss_ret se_bl)
  ss_next)
  (ss_ret (se_cb sc_all (sa_cons (se_own (so_lc (vs := [3]) (si_seq (se_var 2)) (sg_name 3) st_yes (se_call (sa_cons (se_var 3) (sa_cons (se_var 1) sa_nil))))) sa_nil)))))))⟩
theorem fx_check_net (d : Df K mg "check_net" (top 13)) (T : Txt mg) (G_is_net : Fx P w K mg base 5 "is_net" ["value"] (spD K 1 f_is_net)) : Fx P w K mg base 6 "check_net" ["net"] (spD K 1 f_check_net) :=
  fx_of d sc_check_net bb_check_net rfl fun f cdv A outer s H Q E hr => ⟨_,
  (pss_one (ps_if (pt_not (pt_truth (pe_fx G_is_net (hr.mono (by decide)) (by rfl) (pa_cons (pv 0) pa_nil)) (by intro _; rfl)))
  (pss_one ps_never)
  pss_nil)),
  (ss_if (st_not (st_truth (se_call (sa_cons (se_var 0) sa_nil))))
  ss_never
  ss_next)⟩
theorem fx_rule_excess (d : Df K mg "rule_excess" (top 14)) (T : Txt mg)  : Fx P w K mg base 1 "rule_excess" ["rule", "times"] (spD K 2 f_rule_excess) :=
  fx_of d sc_rule_excess bb_rule_excess rfl fun f cdv A outer s H Q E hr => ⟨_,
  (pss_cons (ps_asg (pv 0) (pg_sq rfl (pgs_cons (pg_name (i := 3) sc_rule_excess.nd rfl (by first | exact .inl rfl | exact .inr rfl)) (pgs_cons (pg_name (i := 4) sc_rule_excess.nd rfl (by first | exact .inl rfl | exact .inr rfl)) (pgs_cons (pg_name (i := 5) sc_rule_excess.nd rfl (by first | exact .inl rfl | exact .inr rfl)) (pgs_cons (pg_name (i := 6) sc_rule_excess.nd rfl (by first | exact .inl rfl | exact .inr rfl)) pgs_nil))))))
  (pss_cons (ps_set (i := 2) sc_rule_excess.nd rfl (by first | exact .inl rfl | exact .inr rfl) (pe_op op_sub (pe_ix ix_seq (pv 1) (pv 4) (fun _ _ => rfl)) (pe_ix ix_seq (pv 1) (pv 3) (fun _ _ => rfl))))
  (pss_cons (ps_if (PW.pt (pw_and (pt_cmpR op_notN (pv 5) pe_non (nomark _)) (pw_and1 (pt_cmpR op_lt (pv 2) (pv 5) (nomark _)))))
  (pss_one (ps_ret (pe_op op_sub (pv 2) (pv 5))))
  pss_nil)
  (pss_cons (ps_if (PW.pt (pw_and (pt_cmpR op_notN (pv 6) pe_non (nomark _)) (pw_and1 (pt_cmpR op_gt (pv 2) (pv 6) (nomark _)))))
  (pss_one (ps_ret (pe_op op_sub (pv 2) (pv 6))))
  pss_nil)
  (pss_one (ps_ret pe_int)))))),
  (ss_seq (ss_asg (vs := [3, 4, 5, 6]) (se_var 0) (sg_tup (sgs_cons (sg_name 3) (sgs_cons (sg_name 4) (sgs_cons (sg_name 5) (sgs_cons (sg_name 6) sgs_nil))))))
  (ss_seq (ss_set (i := 2) (se_op s2_sub (se_op s2_ix (se_var 1) (se_var 4)) (se_op s2_ix (se_var 1) (se_var 3))))
  (ss_seq (ss_if (st_and (st_test (se_op s2_notN (se_var 5) se_non)) (st_test (se_op s2_lt (se_var 2) (se_var 5))))
  (ss_ret (se_op s2_sub (se_var 2) (se_var 5)))
  ss_next)
  (ss_seq (ss_if (st_and (st_test (se_op s2_notN (se_var 6) se_non)) (st_test (se_op s2_gt (se_var 2) (se_var 6))))
  (ss_ret (se_op s2_sub (se_var 2) (se_var 6)))
  ss_next)
  (ss_ret se_int)))))⟩
theorem fx_rule_excesses (d : Df K mg "rule_excesses" (top 15)) (T : Txt mg) (G_rule_excess : Fx P w K mg base 1 "rule_excess" ["rule", "times"] (spD K 2 f_rule_excess)) : Fx P w K mg base 2 "rule_excesses" ["net", "times"] (spD K 2 f_rule_excesses) :=
  fx_of d sc_rule_excesses bb_rule_excesses rfl fun f cdv A outer s H Q E hr => ⟨_,
  (pss_one (ps_ret (pe_callTy call_tuple_of (by rfl) T.b_tuple bt_tuple (pa_cons (pe_lc (own := [("rule", 2)]) (g := (gName 2)) rfl sc_rule_excesses.nd (pi_seq (pe_ix ix_seq (pv 0) pe_int (fun _ _ => rfl))) (blkOk_by (own := [("rule", 2)]) (N := N_rule_excesses) (sc := defScope (top 15)) (by decide +kernel)) (fun _ _ _ _ _ => (pg_name (i := 2) sc_rule_excesses.nd rfl (by first | exact .inl rfl | exact .inr rfl))) (fun _ _ _ _ _ => pts_nil) (fun _ _ _ _ _ => (pe_fx G_rule_excess (hr.mono (by decide)) (by rfl) (pa_cons (pv 2) (pa_cons (pv 1) pa_nil))))) pa_nil)))),
  (ss_ret (se_cb sc_tuple (sa_cons (se_own (so_lc (vs := [2]) (si_seq (se_op s2_ix (se_var 0) se_int)) (sg_name 2) st_yes (se_call (sa_cons (se_var 2) (sa_cons (se_var 1) sa_nil))))) sa_nil)))⟩
theorem fx_are_right_heights (d : Df K mg "are_right_heights" (top 19)) (T : Txt mg) (G_is_whole : Fx P w K mg base 1 "is_whole" ["value"] (spD K 1 f_is_whole)) (G_rule_excesses : Fx P w K mg base 2 "rule_excesses" ["net", "times"] (spD K 2 f_rule_excesses)) : Fx P w K mg base 3 "are_right_heights" ["net", "value"] (spD K 2 f_are_right_heights) :=
  fx_of d sc_are_right_heights bb_are_right_heights rfl fun f cdv A outer s H Q E hr => ⟨_,
  (pss_cons (ps_if (PW.pt (pw_or (pt_not (pt_truth (pe_callB call_isi2 (by rfl) T.b_isinstance bt_isi (pa_cons (pv 1) (pa_cons (pe_bltn (v := .ty "tuple") (by rfl) T.b_tuple bt_tuple rfl) pa_nil))) (by intro _; rfl))) (pw_or1 (pt_cmpR (op_neD hr.units) (pe_callB call_len_seq (by rfl) T.b_len PySem.boot_len (pa_cons (pv 1) pa_nil)) (pe_ix ix_seq (pv 0) pe_int (fun _ _ => rfl)) (nomark _)))))
  (pss_one (ps_ret pe_bl))
  pss_nil)
  (pss_cons (ps_if (pt_not (pt_truth (pe_callB (cr_all rfl) (by rfl) T.b_all bt_all (pa_cons (pe_lc (own := [("height", 3)]) (g := (gName 3)) rfl sc_are_right_heights.nd (pi_seq (pv 1)) (blkOk_by (own := [("height", 3)]) (N := N_are_right_heights) (sc := defScope (top 19)) (by decide +kernel)) (fun _ _ _ _ _ => (pg_name (i := 3) sc_are_right_heights.nd rfl (by first | exact .inl rfl | exact .inr rfl))) (fun _ _ _ _ _ => pts_nil) (fun _ _ _ _ _ => (pe_fx G_is_whole (hr.mono (by decide)) (by rfl) (pa_cons (pv 3) pa_nil)))) pa_nil)) (by intro _; rfl)))
  (pss_one (ps_ret pe_bl))
  pss_nil)
  (pss_one (ps_ret (pe_callB (cr_all rfl) (by rfl) T.b_all bt_all (pa_cons (pe_lc (own := [("missed", 2)]) (g := (gName 2)) rfl sc_are_right_heights.nd (pi_seq (pe_fx G_rule_excesses (hr.mono (by decide)) (by rfl) (pa_cons (pv 0) (pa_cons (pv 1) pa_nil)))) (blkOk_by (own := [("missed", 2)]) (N := N_are_right_heights) (sc := defScope (top 19)) (by decide +kernel)) (fun _ _ _ _ _ => (pg_name (i := 2) sc_are_right_heights.nd rfl (by first | exact .inl rfl | exact .inr rfl))) (fun _ _ _ _ _ => pts_nil) (fun _ _ _ _ _ => (pe_cmpR (op_eqD hr.units) (pv 2) pe_int (nomark _)))) pa_nil)))))),
  (ss_seq (ss_if (st_or (st_not (st_truth (se_isi ty_tuple (se_var 1)))) (st_test (se_op s2_ne (se_cb sc_len (sa_cons (se_var 1) sa_nil)) (se_op s2_ix (se_var 0) se_int))))
  (ss_ret se_bl)
  ss_next)
  (ss_seq (ss_if (st_not (st_truth (se_cb sc_all (sa_cons (se_own (so_lc (vs := [3]) (si_seq (se_var 1)) (sg_name 3) st_yes (se_call (sa_cons (se_var 3) sa_nil)))) sa_nil))))
  (ss_ret se_bl)
  ss_next)
  (ss_ret (se_cb sc_all (sa_cons (se_own (so_lc (vs := [2]) (si_seq (se_call (sa_cons (se_var 0) (sa_cons (se_var 1) sa_nil)))) (sg_name 2) st_yes (se_op s2_eq (se_var 2) se_int))) sa_nil)))))⟩
theorem fx_is_news_time (d : Df K mg "is_news_time" (top 22)) (T : Txt mg) (G_is_integer : Fx P w K mg base 2 "is_integer" ["value", "least", "greatest"] (spD K 3 f_is_integer)) : Fx P w K mg base 3 "is_news_time" ["value"] (spD K 1 f_is_news_time) :=
  fx_of d sc_is_news_time bb_is_news_time rfl fun f cdv A outer s H Q E hr => ⟨_,
  (pss_one (ps_ret (pe_fx G_is_integer (hr.mono (by decide)) (by rfl) (pa_cons (pv 0) (pa_cons (pe_un un_neg (pe_gint T.c_GREATEST_NEWS_TIME (by rfl))) (pa_cons (pe_gint T.c_GREATEST_NEWS_TIME (by rfl)) pa_nil)))))),
  (ss_ret (se_call (sa_cons (se_var 0) (sa_cons (se_un s1_neg se_int) (sa_cons se_int sa_nil)))))⟩
theorem fx_check_told_times (d : Df K mg "check_told_times" (top 30)) (T : Txt mg) (G_are_right_heights : Fx P w K mg base 3 "are_right_heights" ["net", "value"] (spD K 2 f_are_right_heights)) (G_is_news_time : Fx P w K mg base 3 "is_news_time" ["value"] (spD K 1 f_is_news_time)) : Fx P w K mg base 4 "check_told_times" ["net", "name", "times"] (spD K 3 f_check_told_times) :=
  fx_of d sc_check_told_times bb_check_told_times rfl fun f cdv A outer s H Q E hr => ⟨_,
  (pss_one (ps_if (PW.pt (pw_or (pt_not (pt_truth (pe_fx G_are_right_heights (hr.mono (by decide)) (by rfl) (pa_cons (pv 0) (pa_cons (pv 2) pa_nil))) (by intro _; rfl))) (pw_or1 (pt_not (pt_truth (pe_callB (cr_all rfl) (by rfl) T.b_all bt_all (pa_cons (pe_lc (own := [("time", 3)]) (g := (gName 3)) rfl sc_check_told_times.nd (pi_seq (pv 2)) (blkOk_by (own := [("time", 3)]) (N := N_check_told_times) (sc := defScope (top 30)) (by decide +kernel)) (fun _ _ _ _ _ => (pg_name (i := 3) sc_check_told_times.nd rfl (by first | exact .inl rfl | exact .inr rfl))) (fun _ _ _ _ _ => pts_nil) (fun _ _ _ _ _ => (pe_fx G_is_news_time (hr.mono (by decide)) (by rfl) (pa_cons (pv 3) pa_nil)))) pa_nil)) (by intro _; rfl))))))
  (pss_one ps_never)
  pss_nil)),
  (ss_if (st_or (st_not (st_truth (se_call (sa_cons (se_var 0) (sa_cons (se_var 2) sa_nil))))) (st_not (st_truth (se_cb sc_all (sa_cons (se_own (so_lc (vs := [3]) (si_seq (se_var 2)) (sg_name 3) st_yes (se_call (sa_cons (se_var 3) sa_nil)))) sa_nil)))))
  ss_never
  ss_next)⟩
theorem fx_check_ends (d : Df K mg "check_ends" (top 31)) (T : Txt mg) (G_check_net : Fx P w K mg base 6 "check_net" ["net"] (spD K 1 f_check_net)) (G_check_told_times : Fx P w K mg base 4 "check_told_times" ["net", "name", "times"] (spD K 3 f_check_told_times)) : Fx P w K mg base 7 "check_ends" ["net", "first", "second"] (spD K 3 f_check_ends) :=
  fx_of d sc_check_ends bb_check_ends rfl fun f cdv A outer s H Q E hr => ⟨_,
  (pss_cons (ps_expr (pe_fx G_check_net (hr.mono (by decide)) (by rfl) (pa_cons (pv 0) pa_nil)))
  (pss_cons (ps_expr (pe_fx G_check_told_times (hr.mono (by decide)) (by rfl) (pa_cons (pv 0) (pa_cons pe_str (pa_cons (pv 1) pa_nil)))))
  (pss_one (ps_expr (pe_fx G_check_told_times (hr.mono (by decide)) (by rfl) (pa_cons (pv 0) (pa_cons pe_str (pa_cons (pv 2) pa_nil)))))))),
  (ss_seq (ss_drop (se_call (sa_cons (se_var 0) sa_nil)))
  (ss_seq (ss_drop (se_call (sa_cons (se_var 0) (sa_cons se_str (sa_cons (se_var 1) sa_nil)))))
  (ss_drop (se_call (sa_cons (se_var 0) (sa_cons se_str (sa_cons (se_var 2) sa_nil)))))))⟩
theorem fx_does_carry (d : Df K mg "does_carry" (top 34)) (T : Txt mg)  : Fx P w K mg base 1 "does_carry" ["bounds", "first", "second", "event", "other"] (spD K 5 f_does_carry) :=
  fx_of d sc_does_carry bb_does_carry rfl fun f cdv A outer s H Q E hr => ⟨_,
  (pss_cons (ps_if (pt_cmpR (op_eqD hr.units) (pv 3) (pv 4) (nomark _))
  (pss_one (ps_ret pe_bl))
  pss_nil)
  (pss_cons (ps_if (pt_cmpR op_gt (pe_ix ix_seq (pv 2) (pv 4) (fun _ _ => rfl)) (pe_ix ix_seq (pv 1) (pv 4) (fun _ _ => rfl)) (nomark _))
  (pss_one (ps_ret (pe_cmpR (op_eqD hr.units) (pe_ix ix_seq (pe_ix ix_seq (pv 0) (pv 4) (fun _ _ => rfl)) (pv 3) (fun _ _ => rfl)) (pe_op op_sub (pe_ix ix_seq (pv 2) (pv 3) (fun _ _ => rfl)) (pe_ix ix_seq (pv 2) (pv 4) (fun _ _ => rfl))) (nomark _))))
  pss_nil)
  (pss_cons (ps_if (pt_cmpR op_lt (pe_ix ix_seq (pv 2) (pv 4) (fun _ _ => rfl)) (pe_ix ix_seq (pv 1) (pv 4) (fun _ _ => rfl)) (nomark _))
  (pss_one (ps_ret (pe_cmpR (op_eqD hr.units) (pe_ix ix_seq (pe_ix ix_seq (pv 0) (pv 3) (fun _ _ => rfl)) (pv 4) (fun _ _ => rfl)) (pe_op op_sub (pe_ix ix_seq (pv 2) (pv 4) (fun _ _ => rfl)) (pe_ix ix_seq (pv 2) (pv 3) (fun _ _ => rfl))) (nomark _))))
  pss_nil)
  (pss_one (ps_ret pe_bl))))),
  (ss_seq (ss_if (st_test (se_op s2_eq (se_var 3) (se_var 4)))
  (ss_ret se_bl)
  ss_next)
  (ss_seq (ss_if (st_test (se_op s2_gt (se_op s2_ix (se_var 2) (se_var 4)) (se_op s2_ix (se_var 1) (se_var 4))))
  (ss_ret (se_op s2_eq (se_op s2_ix (se_op s2_ix (se_var 0) (se_var 4)) (se_var 3)) (se_op s2_sub (se_op s2_ix (se_var 2) (se_var 3)) (se_op s2_ix (se_var 2) (se_var 4)))))
  ss_next)
  (ss_seq (ss_if (st_test (se_op s2_lt (se_op s2_ix (se_var 2) (se_var 4)) (se_op s2_ix (se_var 1) (se_var 4))))
  (ss_ret (se_op s2_eq (se_op s2_ix (se_op s2_ix (se_var 0) (se_var 3)) (se_var 4)) (se_op s2_sub (se_op s2_ix (se_var 2) (se_var 4)) (se_op s2_ix (se_var 2) (se_var 3)))))
  ss_next)
  (ss_ret se_bl))))⟩
theorem fx_carrying_table (d : Df K mg "carrying_table" (top 35)) (T : Txt mg) (G_does_carry : Fx P w K mg base 1 "does_carry" ["bounds", "first", "second", "event", "other"] (spD K 5 f_does_carry)) : Fx P w K mg base 2 "carrying_table" ["bounds", "first", "second"] (spD K 3 f_carrying_table) :=
  fx_of d sc_carrying_table bb_carrying_table rfl fun f cdv A outer s H Q E hr => ⟨_,
  (pss_cons (ps_set (i := 3) sc_carrying_table.nd rfl (by first | exact .inl rfl | exact .inr rfl) (pe_callTy cr_rng1 (by rfl) T.b_range PyProof.Rows.boot_range (pa_cons (pe_callB call_len_seq (by rfl) T.b_len PySem.boot_len (pa_cons (pv 1) pa_nil)) pa_nil)))
  (pss_one (ps_ret (pe_lc (own := [("event", 4)]) (g := (gName 4)) rfl sc_carrying_table.nd (pi_rgV (pv 3)) (blkOk_by (own := [("event", 4)]) (N := N_carrying_table) (sc := defScope (top 35)) (by decide +kernel)) (fun _ _ _ _ _ => (pg_name (i := 4) sc_carrying_table.nd rfl (by first | exact .inl rfl | exact .inr rfl))) (fun _ _ _ _ _ => pts_nil) (fun _ _ _ _ _ => (pe_lc (own := [("other", 5)]) (g := (gName 5)) rfl sc_carrying_table.nd (pi_rgV (pv 3)) (blkOk_by (own := [("other", 5)]) (by kernel_rfl)) (fun _ _ _ _ _ => (pg_name (i := 5) sc_carrying_table.nd rfl (by first | exact .inl rfl | exact .inr rfl))) (fun _ _ _ _ _ => pts_nil) (fun _ _ _ _ _ => (pe_fx G_does_carry (hr.mono (by decide)) (by rfl) (pa_cons (pv 0) (pa_cons (pv 1) (pa_cons (pv 2) (pa_cons (pv 4) (pa_cons (pv 5) pa_nil))))))))))))),
  (ss_seq (ss_rng (i := 3) (sa_cons (se_cb sc_len (sa_cons (se_var 1) sa_nil)) sa_nil))
  (ss_ret (se_own (so_lc (vs := [4]) (si_rgV 3) (sg_name 4) st_yes (se_own (so_lc (vs := [5]) (si_rgV 3) (sg_name 5) st_yes (se_call (sa_cons (se_var 0) (sa_cons (se_var 1) (sa_cons (se_var 2) (sa_cons (se_var 4) (sa_cons (se_var 5) sa_nil))))))))))))⟩
theorem fx_bundle_of (d : Df K mg "bundle_of" (top 36)) (T : Txt mg)  : Fx P w K mg base 1 "bundle_of" ["carrying", "event"] (spD K 2 f_bundle_of) :=
  fx_of d sc_bundle_of bb_bundle_of rfl fun f cdv A outer s H Q E hr => ⟨_,
  (pss_cons (ps_set (i := 2) sc_bundle_of.nd rfl (by first | exact .inl rfl | exact .inr rfl) (pe_lc (own := [("other", 3)]) (g := (gName 3)) rfl sc_bundle_of.nd (pi_range1 (by rfl) T.b_range (pa_cons (pe_callB call_len_seq (by rfl) T.b_len PySem.boot_len (pa_cons (pv 0) pa_nil)) pa_nil)) (blkOk_by (own := [("other", 3)]) (N := N_bundle_of) (sc := defScope (top 36)) (by decide +kernel)) (fun _ _ _ _ _ => (pg_name (i := 3) sc_bundle_of.nd rfl (by first | exact .inl rfl | exact .inr rfl))) (fun _ _ _ _ _ => pts_nil) (fun _ _ _ _ _ => (pe_and (pe_ix ix_seq (pe_ix ix_seq (pv 0) (pv 1) (fun _ _ => rfl)) (pv 3) (fun _ _ => rfl)) (pe_one (pe_ix ix_seq (pe_ix ix_seq (pv 0) (pv 3) (fun _ _ => rfl)) (pv 1) (fun _ _ => rfl)))))))
  (pss_one (ps_ret (pe_callTy call_tuple_of (by rfl) T.b_tuple bt_tuple (pa_cons (pe_lc (own := [("other", 3)]) (g := (gName 3)) rfl sc_bundle_of.nd (pi_range1 (by rfl) T.b_range (pa_cons (pe_callB call_len_seq (by rfl) T.b_len PySem.boot_len (pa_cons (pv 0) pa_nil)) pa_nil)) (blkOk_by (own := [("other", 3)]) (N := N_bundle_of) (sc := defScope (top 36)) (by decide +kernel)) (fun _ _ _ _ _ => (pg_name (i := 3) sc_bundle_of.nd rfl (by first | exact .inl rfl | exact .inr rfl))) (fun _ _ _ _ _ => (pts_one (PW.pt (pw_or (pt_cmpR (op_eqD hr.units) (pv 3) (pv 1) (nomark _)) (pw_or1 (pt_truth (pe_ix ix_seq (pv 2) (pv 3) (fun _ _ => rfl)) (by intro _; rfl))))))) (fun _ _ _ _ _ => (pv 3))) pa_nil))))),
  (ss_seq (ss_set (i := 2) (se_own (so_lc (vs := [3]) (si_range1 (sa_cons (se_cb sc_len (sa_cons (se_var 0) sa_nil)) sa_nil)) (sg_name 3) st_yes (se_and (se_op s2_ix (se_op s2_ix (se_var 0) (se_var 1)) (se_var 3)) (se_op s2_ix (se_op s2_ix (se_var 0) (se_var 3)) (se_var 1))))))
  (ss_ret (se_cb sc_tuple (sa_cons (se_own (so_lc (vs := [3]) (si_range1 (sa_cons (se_cb sc_len (sa_cons (se_var 0) sa_nil)) sa_nil)) (sg_name 3) (st_or (st_test (se_op s2_eq (se_var 3) (se_var 1))) (st_truth (se_op s2_ix (se_var 2) (se_var 3)))) (se_var 3))) sa_nil))))⟩
theorem fx_is_source (d : Df K mg "is_source" (top 37)) (T : Txt mg)  : Fx P w K mg base 1 "is_source" ["carrying", "bundle"] (spD K 2 f_is_source) :=
  fx_of d sc_is_source bb_is_source rfl fun f cdv A outer s H Q E hr => ⟨_,
  (pss_cons (ps_setLc (i := 2) (own := [("event", 3)]) (g := (gName 3)) rfl sc_is_source.nd rfl rfl (sw_true rfl rfl rfl (by decide +kernel)) (pi_range1 (by rfl) T.b_range (pa_cons (pe_callB call_len_seq (by rfl) T.b_len PySem.boot_len (pa_cons (pv 0) pa_nil)) pa_nil)) (blkOk_by (own := [("event", 3)]) (N := N_is_source) (sc := defScope (top 37)) (by decide +kernel)) (fun _ _ _ _ _ => (pg_name (i := 3) sc_is_source.nd rfl (by first | exact .inl rfl | exact .inr rfl))) (fun _ _ _ _ _ => (pts_one (pt_cmpR op_notIn_seq (pv 3) (pv 1) (by rfl)))) (fun _ _ _ _ _ => (pv 3)))
  (pss_one (ps_ret (pe_not (pe_callB (cr_any rfl) (by rfl) T.b_any bt_any (pa_cons (pe_lc2 (own := [("event", 3), ("other", 4)]) (vs1 := [4]) (g := (gName 3)) (g1 := (gName 4)) rfl sc_is_source.nd (pi_seq (pv 2)) (blkOk_by (own := [("event", 3), ("other", 4)]) (N := N_is_source) (sc := defScope (top 37)) (by decide +kernel)) (by decide) (fun _ _ _ _ _ => (pg_name (i := 3) sc_is_source.nd rfl (by first | exact .inl rfl | exact .inr rfl))) (fun _ _ _ _ _ => pts_nil) (fun _ _ _ _ _ => (pi_seq (pv 1))) (fun _ _ _ _ _ => (pg_name (i := 4) sc_is_source.nd rfl (by first | exact .inl rfl | exact .inr rfl))) (fun _ _ _ _ _ => pts_nil) (fun _ _ _ _ _ => (pe_ix ix_seq (pe_ix ix_seq (pv 0) (pv 3) (fun _ _ => rfl)) (pv 4) (fun _ _ => rfl)))) pa_nil)))))),
  (ss_seq (ss_set (i := 2) (se_own (so_lc (vs := [3]) (si_range1 (sa_cons (se_cb sc_len (sa_cons (se_var 0) sa_nil)) sa_nil)) (sg_name 3) (st_test (se_op s2_in (se_var 3) (se_var 1))) (se_var 3))))
  (ss_ret (se_not (se_cb sc_any (sa_cons (se_own (so_lc2 (vs := [3, 4]) (vs1 := [4]) (si_seq (se_var 2)) (sg_name 3) (gd_name 3) st_yes (si_seq (se_var 1)) (sg_name 4) st_yes (se_op s2_ix (se_op s2_ix (se_var 0) (se_var 3)) (se_var 4)))) sa_nil)))))⟩
theorem fx_sources_of (d : Df K mg "sources_of" (top 38)) (T : Txt mg) (G_carrying_table : Fx P w K mg base 2 "carrying_table" ["bounds", "first", "second"] (spD K 3 f_carrying_table)) (G_bundle_of : Fx P w K mg base 1 "bundle_of" ["carrying", "event"] (spD K 2 f_bundle_of)) (G_is_source : Fx P w K mg base 1 "is_source" ["carrying", "bundle"] (spD K 2 f_is_source)) : Fx P w K mg base 3 "sources_of" ["bounds", "first", "second"] (spD K 3 f_sources_of) :=
  fx_of d sc_sources_of bb_sources_of rfl fun f cdv A outer s H Q E hr => ⟨_,
  (pss_cons (ps_set (i := 3) sc_sources_of.nd rfl (by first | exact .inl rfl | exact .inr rfl) (pe_fx G_carrying_table (hr.mono (by decide)) (by rfl) (pa_cons (pv 0) (pa_cons (pv 1) (pa_cons (pv 2) pa_nil)))))
  (pss_cons (ps_set (i := 4) sc_sources_of.nd rfl (by first | exact .inl rfl | exact .inr rfl) (pe_lst pa_nil))
  (pss_cons (ps_for PassesOwn.never rfl (pi_range1 (by rfl) T.b_range (pa_cons (pe_callB call_len_seq (by rfl) T.b_len PySem.boot_len (pa_cons (pv 1) pa_nil)) pa_nil)) (pg_name (i := 5) sc_sources_of.nd rfl (by first | exact .inl rfl | exact .inr rfl))
  (pss_one (ps_if (pt_cmpR (op_neD hr.units) (pe_ix ix_seq (pv 1) (pv 5) (fun _ _ => rfl)) (pe_ix ix_seq (pv 2) (pv 5) (fun _ _ => rfl)) (nomark _))
  (pss_cons (ps_set (i := 6) sc_sources_of.nd rfl (by first | exact .inl rfl | exact .inr rfl) (pe_fx G_bundle_of (hr.mono (by decide)) (by rfl) (pa_cons (pv 3) (pa_cons (pv 5) pa_nil))))
  (pss_one (ps_if (PW.pt (pw_and (pt_cmpR (op_eqD hr.units) (pe_ix ix_seq (pv 6) pe_int (fun _ _ => rfl)) (pv 5) (nomark _)) (pw_and1 (pt_truth (pe_fx G_is_source (hr.mono (by decide)) (by rfl) (pa_cons (pv 3) (pa_cons (pv 6) pa_nil))) (by intro _; rfl)))))
  (pss_one (ps_expr (pe_bm PySem.F.plainAttrs_list PySem.F.slot_list_append PySem.F.type_list_append mt_append (pv 4) (pa_cons (pv 6) pa_nil))))
  pss_nil)))
  pss_nil)))
  (pss_one (ps_ret (pv 4)))))),
  (ss_seq (ss_set (i := 3) (se_call (sa_cons (se_var 0) (sa_cons (se_var 1) (sa_cons (se_var 2) sa_nil)))))
  (ss_seq (ss_asgO (so_lst sa_nil))
  (ss_seq (ss_for (vs := [5]) (si_range1 (sa_cons (se_cb sc_len (sa_cons (se_var 1) sa_nil)) sa_nil)) (sg_name 5)
  (ss_if (st_test (se_op s2_ne (se_op s2_ix (se_var 1) (se_var 5)) (se_op s2_ix (se_var 2) (se_var 5))))
  (ss_seq (ss_set (i := 6) (se_call (sa_cons (se_var 3) (sa_cons (se_var 5) sa_nil))))
  (ss_if (st_and (st_test (se_op s2_eq (se_op s2_ix (se_var 6) se_int) (se_var 5))) (st_truth (se_call (sa_cons (se_var 3) (sa_cons (se_var 6) sa_nil)))))
  (ss_app 4 (se_var 6))
  ss_next))
  ss_next))
  (ss_frz 4 (ss_ret (se_var 4))))))⟩
theorem fx_lengths_of (d : Df K mg "lengths_of" (top 28)) (T : Txt mg)  : Fx P w K mg base 1 "lengths_of" ["walks"] (spD K 1 f_lengths_of) :=
  fx_of d sc_lengths_of bb_lengths_of rfl fun f cdv A outer s H Q E hr => ⟨_,
  (pss_one (ps_ret (pe_callTy call_tuple_of (by rfl) T.b_tuple bt_tuple (pa_cons (pe_lc (own := [("row", 1)]) (g := (gName 1)) rfl sc_lengths_of.nd (pi_seq (pv 0)) (blkOk_by (own := [("row", 1)]) (N := N_lengths_of) (sc := defScope (top 28)) (by decide +kernel)) (fun _ _ _ _ _ => (pg_name (i := 1) sc_lengths_of.nd rfl (by first | exact .inl rfl | exact .inr rfl))) (fun _ _ _ _ _ => pts_nil) (fun _ _ _ _ _ => (pe_callTy call_tuple_of (by rfl) T.b_tuple bt_tuple (pa_cons (pe_lc (own := [("found", 2)]) (g := (gName 2)) rfl sc_lengths_of.nd (pi_seq (pv 1)) (blkOk_by (own := [("found", 2)]) (by kernel_rfl)) (fun _ _ _ _ _ => (pg_name (i := 2) sc_lengths_of.nd rfl (by first | exact .inl rfl | exact .inr rfl))) (fun _ _ _ _ _ => pts_nil) (fun _ _ _ _ _ => (pe_ifExp (pt_cmpR op_isN (pv 2) pe_non (nomark _)) pe_non (pe_ix ix_seq (pv 2) pe_int (fun _ _ => rfl))))) pa_nil)))) pa_nil)))),
  (ss_ret (se_cb sc_tuple (sa_cons (se_own (so_lc (vs := [1]) (si_seq (se_var 0)) (sg_name 1) st_yes (se_cb sc_tuple (sa_cons (se_own (so_lc (vs := [2]) (si_seq (se_var 1)) (sg_name 2) st_yes (se_if (st_test (se_op s2_isN (se_var 2) se_non)) se_non (se_op s2_ix (se_var 2) se_int)))) sa_nil)))) sa_nil)))⟩
theorem fx_edge_course (d : Df K mg "edge_course" (top 16)) (T : Txt mg) (G_is_integer : Fx P w K mg base 2 "is_integer" ["value", "least", "greatest"] (spD K 3 f_is_integer)) : Fx P w K mg base 3 "edge_course" ["net", "value"] (spD K 2 f_edge_course) :=
  fx_of d sc_edge_course bb_edge_course rfl fun f cdv A outer s H Q E hr => ⟨_,
  (pss_cons (ps_if (PW.pt (pw_or (pt_not (pt_truth (pe_callB call_isi2 (by rfl) T.b_isinstance bt_isi (pa_cons (pv 1) (pa_cons (pe_bltn (v := .ty "tuple") (by rfl) T.b_tuple bt_tuple rfl) pa_nil))) (by intro _; rfl))) (pw_or1 (pt_cmpR (op_neD hr.units) (pe_callB call_len_seq (by rfl) T.b_len PySem.boot_len (pa_cons (pv 1) pa_nil)) pe_int (nomark _)))))
  (pss_one (ps_ret pe_non))
  pss_nil)
  (pss_cons (ps_asg (pv 1) (pg_sq rfl (pgs_cons (pg_name (i := 2) sc_edge_course.nd rfl (by first | exact .inl rfl | exact .inr rfl)) (pgs_cons (pg_name (i := 3) sc_edge_course.nd rfl (by first | exact .inl rfl | exact .inr rfl)) pgs_nil))))
  (pss_cons (ps_if (PW.pt (pw_or (pt_not (pt_truth (pe_fx G_is_integer (hr.mono (by decide)) (by rfl) (pa_cons (pv 2) (pa_cons pe_int (pa_cons (pe_op op_sub (pe_callB call_len_seq (by rfl) T.b_len PySem.boot_len (pa_cons (pe_ix ix_seq (pv 0) pe_int (fun _ _ => rfl)) pa_nil)) pe_int) pa_nil)))) (by intro _; rfl))) (pw_or1 (pt_not (pt_truth (pe_callB call_isi2 (by rfl) T.b_isinstance bt_isi (pa_cons (pv 3) (pa_cons (pe_bltn (v := .ty "str") (by rfl) T.b_str bt_str rfl) pa_nil))) (by intro _; rfl))))))
  (pss_one (ps_ret pe_non))
  pss_nil)
  (pss_cons (ps_asg (pe_ix ix_seq (pe_ix ix_seq (pv 0) pe_int (fun _ _ => rfl)) (pv 2) (fun _ _ => rfl)) (pg_sq rfl (pgs_cons (pg_name (i := 4) sc_edge_course.nd rfl (by first | exact .inl rfl | exact .inr rfl)) (pgs_cons (pg_name (i := 5) sc_edge_course.nd rfl (by first | exact .inl rfl | exact .inr rfl)) (pgs_cons (pg_name (i := 6) sc_edge_course.nd rfl (by first | exact .inl rfl | exact .inr rfl)) (pgs_cons (pg_name (i := 7) sc_edge_course.nd rfl (by first | exact .inl rfl | exact .inr rfl)) pgs_nil))))))
  (pss_cons (ps_if (PW.pt (pw_and (pt_cmpR (op_eqD hr.units) (pv 3) pe_str (nomark _)) (pw_and1 (pt_cmpR op_notN (pv 7) pe_non (nomark _)))))
  (pss_one (ps_ret (pe_tup (pa_cons (pv 4) (pa_cons (pv 5) (pa_cons (pv 7) pa_nil))))))
  pss_nil)
  (pss_cons (ps_if (PW.pt (pw_and (pt_cmpR (op_eqD hr.units) (pv 3) pe_str (nomark _)) (pw_and1 (pt_cmpR op_notN (pv 6) pe_non (nomark _)))))
  (pss_one (ps_ret (pe_tup (pa_cons (pv 5) (pa_cons (pv 4) (pa_cons (pe_un un_neg (pv 6)) pa_nil))))))
  pss_nil)
  (pss_one (ps_ret pe_non)))))))),
  (ss_seq (ss_if (st_or (st_not (st_truth (se_isi ty_tuple (se_var 1)))) (st_test (se_op s2_ne (se_cb sc_len (sa_cons (se_var 1) sa_nil)) se_int)))
  (ss_ret se_non)
  ss_next)
  (ss_seq (ss_asg (vs := [2, 3]) (se_var 1) (sg_tup (sgs_cons (sg_name 2) (sgs_cons (sg_name 3) sgs_nil))))
  (ss_seq (ss_if (st_or (st_not (st_truth (se_call (sa_cons (se_var 2) (sa_cons se_int (sa_cons (se_op s2_sub (se_cb sc_len (sa_cons (se_op s2_ix (se_var 0) se_int) sa_nil)) se_int) sa_nil)))))) (st_not (st_truth (se_isi ty_str (se_var 3)))))
  (ss_ret se_non)
  ss_next)
  (ss_seq (ss_asg (vs := [4, 5, 6, 7]) (se_op s2_ix (se_op s2_ix (se_var 0) se_int) (se_var 2)) (sg_tup (sgs_cons (sg_name 4) (sgs_cons (sg_name 5) (sgs_cons (sg_name 6) (sgs_cons (sg_name 7) sgs_nil))))))
  (ss_seq (ss_if (st_and (st_test (se_op s2_eq (se_var 3) se_str)) (st_test (se_op s2_notN (se_var 7) se_non)))
  (ss_ret (se_tup (sa_cons (se_var 4) (sa_cons (se_var 5) (sa_cons (se_var 7) sa_nil)))))
  ss_next)
  (ss_seq (ss_if (st_and (st_test (se_op s2_eq (se_var 3) se_str)) (st_test (se_op s2_notN (se_var 6) se_non)))
  (ss_ret (se_tup (sa_cons (se_var 5) (sa_cons (se_var 4) (sa_cons (se_un s1_neg (se_var 6)) sa_nil)))))
  ss_next)
  (ss_ret se_non)))))))⟩
theorem fx_all_edges (d : Df K mg "all_edges" (top 17)) (T : Txt mg) (G_edge_course : Fx P w K mg base 3 "edge_course" ["net", "value"] (spD K 2 f_edge_course)) : Fx P w K mg base 4 "all_edges" ["net"] (spD K 1 f_all_edges) :=
  fx_of d sc_all_edges bb_all_edges rfl fun f cdv A outer s H Q E hr => ⟨_,
  (pss_cons (ps_set (i := 1) sc_all_edges.nd rfl (by first | exact .inl rfl | exact .inr rfl) (pe_lst pa_nil))
  (pss_cons (ps_for PassesOwn.never rfl (pi_range1 (by rfl) T.b_range (pa_cons (pe_callB call_len_seq (by rfl) T.b_len PySem.boot_len (pa_cons (pe_ix ix_seq (pv 0) pe_int (fun _ _ => rfl)) pa_nil)) pa_nil)) (pg_name (i := 2) sc_all_edges.nd rfl (by first | exact .inl rfl | exact .inr rfl))
  (pss_one (ps_for PassesOwn.never rfl (pi_seq (pe_tup (pa_cons (pe_tup (pa_cons (pv 2) (pa_cons pe_str pa_nil))) (pa_cons (pe_tup (pa_cons (pv 2) (pa_cons pe_str pa_nil))) pa_nil)))) (pg_name (i := 3) sc_all_edges.nd rfl (by first | exact .inl rfl | exact .inr rfl))
  (pss_cons (ps_set (i := 4) sc_all_edges.nd rfl (by first | exact .inl rfl | exact .inr rfl) (pe_fx G_edge_course (hr.mono (by decide)) (by rfl) (pa_cons (pv 0) (pa_cons (pv 3) pa_nil))))
  (pss_one (ps_if (pt_cmpR op_notN (pv 4) pe_non (nomark _))
  (pss_cons (ps_asg (pv 4) (pg_sq rfl (pgs_cons (pg_name (i := 5) sc_all_edges.nd rfl (by first | exact .inl rfl | exact .inr rfl)) (pgs_cons (pg_name (i := 6) sc_all_edges.nd rfl (by first | exact .inl rfl | exact .inr rfl)) (pgs_cons (pg_name (i := 7) sc_all_edges.nd rfl (by first | exact .inl rfl | exact .inr rfl)) pgs_nil)))))
  (pss_one (ps_expr (pe_bm PySem.F.plainAttrs_list PySem.F.slot_list_append PySem.F.type_list_append mt_append (pv 1) (pa_cons (pe_tup (pa_cons (pv 3) (pa_cons (pv 5) (pa_cons (pv 6) (pa_cons (pv 7) pa_nil))))) pa_nil)))))
  pss_nil))))))
  (pss_one (ps_ret (pe_callTy call_tuple_of (by rfl) T.b_tuple bt_tuple (pa_cons (pv 1) pa_nil)))))),
  (ss_seq (ss_asgO (so_lst sa_nil))
  (ss_seq (ss_for (vs := [2]) (si_range1 (sa_cons (se_cb sc_len (sa_cons (se_op s2_ix (se_var 0) se_int) sa_nil)) sa_nil)) (sg_name 2)
  (ss_for (vs := [3]) (si_seq (se_tup (sa_cons (se_tup (sa_cons (se_var 2) (sa_cons se_str sa_nil))) (sa_cons (se_tup (sa_cons (se_var 2) (sa_cons se_str sa_nil))) sa_nil)))) (sg_name 3)
  (ss_seq (ss_set (i := 4) (se_call (sa_cons (se_var 0) (sa_cons (se_var 3) sa_nil))))
  (ss_if (st_test (se_op s2_notN (se_var 4) se_non))
  (ss_seq (ss_asg (vs := [5, 6, 7]) (se_var 4) (sg_tup (sgs_cons (sg_name 5) (sgs_cons (sg_name 6) (sgs_cons (sg_name 7) sgs_nil)))))
  (ss_app 1 (se_tup (sa_cons (se_var 3) (sa_cons (se_var 5) (sa_cons (se_var 6) (sa_cons (se_var 7) sa_nil)))))))
  ss_next))))
  (ss_frz 1 (ss_ret (se_cb sc_tuple (sa_cons (se_var 1) sa_nil))))))⟩
theorem fx_walks_without_edges (d : Df K mg "walks_without_edges" (top 24)) (T : Txt mg)  : Fx P w K mg base 1 "walks_without_edges" ["size"] (spD K 1 f_walks_without_edges) :=
  fx_of d sc_walks_without_edges bb_walks_without_edges rfl fun f cdv A outer s H Q E hr => ⟨_,
  (pss_one (ps_ret (pe_lc (own := [("start", 1)]) (g := (gName 1)) rfl sc_walks_without_edges.nd (pi_range1 (by rfl) T.b_range (pa_cons (pv 0) pa_nil)) (blkOk_by (own := [("start", 1)]) (N := N_walks_without_edges) (sc := defScope (top 24)) (by decide +kernel)) (fun _ _ _ _ _ => (pg_name (i := 1) sc_walks_without_edges.nd rfl (by first | exact .inl rfl | exact .inr rfl))) (fun _ _ _ _ _ => pts_nil) (fun _ _ _ _ _ => (pe_lc (own := [("end", 2)]) (g := (gName 2)) rfl sc_walks_without_edges.nd (pi_range1 (by rfl) T.b_range (pa_cons (pv 0) pa_nil)) (blkOk_by (own := [("end", 2)]) (by kernel_rfl)) (fun _ _ _ _ _ => (pg_name (i := 2) sc_walks_without_edges.nd rfl (by first | exact .inl rfl | exact .inr rfl))) (fun _ _ _ _ _ => pts_nil) (fun _ _ _ _ _ => (pe_ifExp (pt_cmpR (op_eqD hr.units) (pv 1) (pv 2) (nomark _)) (pe_tup (pa_cons pe_int (pa_cons (pe_tup pa_nil) pa_nil))) pe_non))))))),
  (ss_ret (se_own (so_lc (vs := [1]) (si_range1 (sa_cons (se_var 0) sa_nil)) (sg_name 1) st_yes (se_own (so_lc (vs := [2]) (si_range1 (sa_cons (se_var 0) sa_nil)) (sg_name 2) st_yes (se_if (st_test (se_op s2_eq (se_var 1) (se_var 2))) (se_tup (sa_cons se_int (sa_cons (se_tup sa_nil) sa_nil))) se_non))))))⟩
theorem fx_longer_row (d : Df K mg "longer_row" (top 25)) (T : Txt mg)  : Fx P w K mg base 1 "longer_row" ["row", "courses"] (spD K 2 f_longer_row) :=
  fx_of d sc_longer_row bb_longer_row rfl fun f cdv A outer s H Q E hr => ⟨_,
  (pss_cons (ps_set (i := 2) sc_longer_row.nd rfl (by first | exact .inl rfl | exact .inr rfl) (pe_callTy call_list_of (by rfl) T.b_list bt_list (pa_cons (pv 0) pa_nil)))
  (pss_cons (ps_for PassesOwn.never rfl (pi_seq (pv 1)) (pg_sq rfl (pgs_cons (pg_name (i := 3) sc_longer_row.nd rfl (by first | exact .inl rfl | exact .inr rfl)) (pgs_cons (pg_name (i := 4) sc_longer_row.nd rfl (by first | exact .inl rfl | exact .inr rfl)) (pgs_cons (pg_name (i := 5) sc_longer_row.nd rfl (by first | exact .inl rfl | exact .inr rfl)) (pgs_cons (pg_name (i := 6) sc_longer_row.nd rfl (by first | exact .inl rfl | exact .inr rfl)) pgs_nil)))))
  (pss_one (ps_if (pt_cmpR op_notN (pe_ix ix_seq (pv 0) (pv 4) (fun _ _ => rfl)) pe_non (nomark _))
  (pss_cons (ps_asg (pe_ix ix_seq (pv 0) (pv 4) (fun _ _ => rfl)) (pg_sq rfl (pgs_cons (pg_name (i := 7) sc_longer_row.nd rfl (by first | exact .inl rfl | exact .inr rfl)) (pgs_cons (pg_name (i := 8) sc_longer_row.nd rfl (by first | exact .inl rfl | exact .inr rfl)) pgs_nil))))
  (pss_one (ps_if (PW.pt (pw_or (pt_cmpR op_isN (pe_ix ix_seq (pv 2) (pv 5) (fun _ _ => rfl)) pe_non (nomark _)) (pw_or1 (pt_cmpR op_lt (pe_op op_addA (pv 7) (pv 6)) (pe_ix ix_seq (pe_ix ix_seq (pv 2) (pv 5) (fun _ _ => rfl)) pe_int (fun _ _ => rfl)) (nomark _)))))
  (pss_one (ps_asg (pe_tup (pa_cons (pe_op op_addA (pv 7) (pv 6)) (pa_cons (pe_op op_addA (pv 8) (pe_tup (pa_cons (pv 3) pa_nil))) pa_nil))) (pg_sub (pv 2) (pv 5) set_list)))
  pss_nil)))
  pss_nil)))
  (pss_one (ps_ret (pv 2))))),
  (ss_seq (ss_asgO (so_cb sc_list (sa_cons (se_var 0) sa_nil)))
  (ss_seq (ss_for (vs := [3, 4, 5, 6]) (si_seq (se_var 1)) (sg_tup (sgs_cons (sg_name 3) (sgs_cons (sg_name 4) (sgs_cons (sg_name 5) (sgs_cons (sg_name 6) sgs_nil)))))
  (ss_if (st_test (se_op s2_notN (se_op s2_ix (se_var 0) (se_var 4)) se_non))
  (ss_seq (ss_asg (vs := [7, 8]) (se_op s2_ix (se_var 0) (se_var 4)) (sg_tup (sgs_cons (sg_name 7) (sgs_cons (sg_name 8) sgs_nil))))
  (ss_if (st_or (st_test (se_op s2_isN (se_oIx 2 (se_var 5)) se_non)) (st_test (se_op s2_lt (se_op s2_add (se_var 7) (se_var 6)) (se_op s2_ix (se_oIx 2 (se_var 5)) se_int))))
  (ss_setIx 2 (se_tup (sa_cons (se_op s2_add (se_var 7) (se_var 6)) (sa_cons (se_op s2_add (se_var 8) (se_tup (sa_cons (se_var 3) sa_nil))) sa_nil))) (se_var 5))
  ss_next))
  ss_next))
  (ss_frz 2 (ss_ret (se_var 2)))))⟩
theorem fx_round_below (d : Df K mg "round_below" (top 26)) (T : Txt mg)  : Fx P w K mg base 1 "round_below" ["walks"] (spD K 1 f_round_below) :=
  fx_of d sc_round_below bb_round_below rfl fun f cdv A outer s H Q E hr => ⟨_,
  (pss_cons (ps_for PassesOwn.never rfl (pi_enumA (by rfl) T.b_enumerate (pa_cons (pv 0) pa_nil)) (pg_sq rfl (pgs_cons (pg_name (i := 1) sc_round_below.nd rfl (by first | exact .inl rfl | exact .inr rfl)) (pgs_cons (pg_name (i := 2) sc_round_below.nd rfl (by first | exact .inl rfl | exact .inr rfl)) pgs_nil)))
  (pss_cons (ps_asg (pe_ix ix_seq (pv 2) (pv 1) (fun _ _ => rfl)) (pg_sq rfl (pgs_cons (pg_name (i := 3) sc_round_below.nd rfl (by first | exact .inl rfl | exact .inr rfl)) (pgs_cons (pg_name (i := 4) sc_round_below.nd rfl (by first | exact .inl rfl | exact .inr rfl)) pgs_nil))))
  (pss_one (ps_if (pt_cmpR op_lt (pv 3) pe_int (nomark _))
  (pss_one (ps_ret (pv 4)))
  pss_nil))))
  (pss_one (ps_ret pe_non))),
  (ss_seq (ss_for (vs := [1, 2]) (si_enumA (sa_cons (se_var 0) sa_nil)) (sg_tup (sgs_cons (sg_name 1) (sgs_cons (sg_name 2) sgs_nil)))
  (ss_seq (ss_asg (vs := [3, 4]) (se_op s2_ix (se_var 2) (se_var 1)) (sg_tup (sgs_cons (sg_name 3) (sgs_cons (sg_name 4) sgs_nil))))
  (ss_if (st_test (se_op s2_lt (se_var 3) se_int))
  (ss_ret (se_var 4))
  ss_next)))
  (ss_ret se_non))⟩
theorem fx_least_walks (d : Df K mg "least_walks" (top 27)) (T : Txt mg) (G_all_edges : Fx P w K mg base 4 "all_edges" ["net"] (spD K 1 f_all_edges)) (G_walks_without_edges : Fx P w K mg base 1 "walks_without_edges" ["size"] (spD K 1 f_walks_without_edges)) (G_longer_row : Fx P w K mg base 1 "longer_row" ["row", "courses"] (spD K 2 f_longer_row)) (G_round_below : Fx P w K mg base 1 "round_below" ["walks"] (spD K 1 f_round_below)) : Fx P w K mg base 5 "least_walks" ["net"] (spD K 1 f_least_walks) :=
  fx_of d sc_least_walks bb_least_walks rfl fun f cdv A outer s H Q E hr => ⟨_,
  (pss_cons (ps_set (i := 1) sc_least_walks.nd rfl (by first | exact .inl rfl | exact .inr rfl) (pe_ix ix_seq (pv 0) pe_int (fun _ _ => rfl)))
  (pss_cons (ps_set (i := 2) sc_least_walks.nd rfl (by first | exact .inl rfl | exact .inr rfl) (pe_fx G_all_edges (hr.mono (by decide)) (by rfl) (pa_cons (pv 0) pa_nil)))
  (pss_cons (ps_set (i := 3) sc_least_walks.nd rfl (by first | exact .inl rfl | exact .inr rfl) (pe_fx G_walks_without_edges (hr.mono (by decide)) (by rfl) (pa_cons (pv 1) pa_nil)))
  (pss_cons (ps_for PassesOwn.never rfl (pi_range1 (by rfl) T.b_range (pa_cons (pv 1) pa_nil)) (pg_name (i := 4) sc_least_walks.nd rfl (by first | exact .inl rfl | exact .inr rfl))
  (pss_cons (ps_setLc (i := 3) (own := [("row", 5)]) (g := (gName 5)) rfl sc_least_walks.nd rfl rfl (sw_true rfl rfl rfl (by decide +kernel)) (pi_seq (pv 3)) (blkOk_by (own := [("row", 5)]) (N := N_least_walks) (sc := defScope (top 27)) (by decide +kernel)) (fun _ _ _ _ _ => (pg_name (i := 5) sc_least_walks.nd rfl (by first | exact .inl rfl | exact .inr rfl))) (fun _ _ _ _ _ => pts_nil) (fun _ _ _ _ _ => (pe_fx G_longer_row (hr.mono (by decide)) (by rfl) (pa_cons (pv 5) (pa_cons (pv 2) pa_nil)))))
  (pss_one (ps_if (pt_cmpR op_notN (pe_fx G_round_below (hr.mono (by decide)) (by rfl) (pa_cons (pv 3) pa_nil)) pe_non (nomark _))
  (pss_one (ps_ret (pv 3)))
  pss_nil))))
  (pss_one (ps_ret (pv 3))))))),
  (ss_seq (ss_set (i := 1) (se_op s2_ix (se_var 0) se_int))
  (ss_seq (ss_set (i := 2) (se_call (sa_cons (se_var 0) sa_nil)))
  (ss_seq (ss_set (i := 3) (se_call (sa_cons (se_var 1) sa_nil)))
  (ss_seq (ss_for (vs := [4]) (si_range1 (sa_cons (se_var 1) sa_nil)) (sg_name 4)
  (ss_seq (ss_set (i := 3) (se_own (so_lc (vs := [5]) (si_seq (se_var 3)) (sg_name 5) st_yes (se_call (sa_cons (se_var 5) (sa_cons (se_var 2) sa_nil))))))
  (ss_if (st_test (se_op s2_notN (se_call (sa_cons (se_var 3) sa_nil)) se_non))
  (ss_ret (se_var 3))
  ss_next)))
  (ss_ret (se_var 3))))))⟩
theorem fx_bounds_of (d : Df K mg "bounds_of" (top 32)) (T : Txt mg) (G_lengths_of : Fx P w K mg base 1 "lengths_of" ["walks"] (spD K 1 f_lengths_of)) (G_least_walks : Fx P w K mg base 5 "least_walks" ["net"] (spD K 1 f_least_walks)) : Fx P w K mg base 6 "bounds_of" ["net"] (spD K 1 f_bounds_of) :=
  fx_of d sc_bounds_of bb_bounds_of rfl fun f cdv A outer s H Q E hr => ⟨_,
  (pss_one (ps_ret (pe_fx G_lengths_of (hr.mono (by decide)) (by rfl) (pa_cons (pe_fx G_least_walks (hr.mono (by decide)) (by rfl) (pa_cons (pv 0) pa_nil)) pa_nil)))),
  (ss_ret (se_call (sa_cons (se_call (sa_cons (se_var 0) sa_nil)) sa_nil)))⟩
theorem fx_sources (d : Df K mg "sources" (top 39)) (T : Txt mg) (G_check_ends : Fx P w K mg base 7 "check_ends" ["net", "first", "second"] (spD K 3 f_check_ends)) (G_sources_of : Fx P w K mg base 3 "sources_of" ["bounds", "first", "second"] (spD K 3 f_sources_of)) (G_bounds_of : Fx P w K mg base 6 "bounds_of" ["net"] (spD K 1 f_bounds_of)) : Fx P w K mg base 8 "sources" ["net", "first", "second"] (spD K 3 f_sources) :=
  fx_of d sc_sources bb_sources rfl fun f cdv A outer s H Q E hr => ⟨_,
  (pss_cons (ps_expr (pe_fx G_check_ends (hr.mono (by decide)) (by rfl) (pa_cons (pv 0) (pa_cons (pv 1) (pa_cons (pv 2) pa_nil)))))
  (pss_one (ps_ret (pe_fx G_sources_of (hr.mono (by decide)) (by rfl) (pa_cons (pe_fx G_bounds_of (hr.mono (by decide)) (by rfl) (pa_cons (pv 0) pa_nil)) (pa_cons (pv 1) (pa_cons (pv 2) pa_nil))))))),
  (ss_seq (ss_drop (se_call (sa_cons (se_var 0) (sa_cons (se_var 1) (sa_cons (se_var 2) sa_nil)))))
  (ss_ret (se_call (sa_cons (se_call (sa_cons (se_var 0) sa_nil)) (sa_cons (se_var 1) (sa_cons (se_var 2) sa_nil))))))⟩
theorem fx_way (d : Df K mg "way" (top 41)) (T : Txt mg) (G_way_along : Fx P w K mg base 2 "way_along" ["found", "second"] (spD K 2 f_way_along)) (G_sources : Fx P w K mg base 8 "sources" ["net", "first", "second"] (spD K 3 f_sources)) : Fx P w K mg base 9 "way" ["net", "first", "second"] (spD K 3 f_way) :=
  fx_of d sc_way bb_way rfl fun f cdv A outer s H Q E hr => ⟨_,
  (pss_one (ps_ret (pe_fx G_way_along (hr.mono (by decide)) (by rfl) (pa_cons (pe_fx G_sources (hr.mono (by decide)) (by rfl) (pa_cons (pv 0) (pa_cons (pv 1) (pa_cons (pv 2) pa_nil)))) (pa_cons (pv 2) pa_nil))))),
  (ss_ret (se_call (sa_cons (se_call (sa_cons (se_var 0) (sa_cons (se_var 1) (sa_cons (se_var 2) sa_nil)))) (sa_cons (se_var 2) sa_nil))))⟩
theorem fx_L_edges (d : Df K mg "_law_edges" (top 49)) (T : Txt mg)  : Fx P w K mg base 1 "_law_edges" ["net"] (spD K 1 f_L_edges) :=
  fx_of d sc_L_edges bb_L_edges rfl fun f cdv A outer s H Q E hr => ⟨_,
  (pss_cons (ps_set (i := 1) sc_L_edges.nd rfl (by first | exact .inl rfl | exact .inr rfl) (pe_lst pa_nil))
  (pss_cons (ps_for PassesOwn.never rfl (pi_range1 (by rfl) T.b_range (pa_cons (pe_callB call_len_seq (by rfl) T.b_len PySem.boot_len (pa_cons (pe_ix ix_seq (pv 0) pe_int (fun _ _ => rfl)) pa_nil)) pa_nil)) (pg_name (i := 2) sc_L_edges.nd rfl (by first | exact .inl rfl | exact .inr rfl))
  (pss_cons (ps_asg (pe_ix ix_seq (pe_ix ix_seq (pv 0) pe_int (fun _ _ => rfl)) (pv 2) (fun _ _ => rfl)) (pg_sq rfl (pgs_cons (pg_name (i := 3) sc_L_edges.nd rfl (by first | exact .inl rfl | exact .inr rfl)) (pgs_cons (pg_name (i := 4) sc_L_edges.nd rfl (by first | exact .inl rfl | exact .inr rfl)) (pgs_cons (pg_name (i := 5) sc_L_edges.nd rfl (by first | exact .inl rfl | exact .inr rfl)) (pgs_cons (pg_name (i := 6) sc_L_edges.nd rfl (by first | exact .inl rfl | exact .inr rfl)) pgs_nil))))))
  (pss_cons (ps_if (pt_cmpR op_notN (pv 6) pe_non (nomark _))
  (pss_one (ps_expr (pe_bm PySem.F.plainAttrs_list PySem.F.slot_list_append PySem.F.type_list_append mt_append (pv 1) (pa_cons (pe_tup (pa_cons (pe_tup (pa_cons (pv 2) (pa_cons pe_str pa_nil))) (pa_cons (pv 3) (pa_cons (pv 4) (pa_cons (pv 6) pa_nil))))) pa_nil))))
  pss_nil)
  (pss_one (ps_if (pt_cmpR op_notN (pv 5) pe_non (nomark _))
  (pss_one (ps_expr (pe_bm PySem.F.plainAttrs_list PySem.F.slot_list_append PySem.F.type_list_append mt_append (pv 1) (pa_cons (pe_tup (pa_cons (pe_tup (pa_cons (pv 2) (pa_cons pe_str pa_nil))) (pa_cons (pv 4) (pa_cons (pv 3) (pa_cons (pe_op op_sub pe_int (pv 5)) pa_nil))))) pa_nil))))
  pss_nil)))))
  (pss_one (ps_ret (pv 1))))),
  (ss_seq (ss_asgO (so_lst sa_nil))
  (ss_seq (ss_for (vs := [2]) (si_range1 (sa_cons (se_cb sc_len (sa_cons (se_op s2_ix (se_var 0) se_int) sa_nil)) sa_nil)) (sg_name 2)
  (ss_seq (ss_asg (vs := [3, 4, 5, 6]) (se_op s2_ix (se_op s2_ix (se_var 0) se_int) (se_var 2)) (sg_tup (sgs_cons (sg_name 3) (sgs_cons (sg_name 4) (sgs_cons (sg_name 5) (sgs_cons (sg_name 6) sgs_nil))))))
  (ss_seq (ss_if (st_test (se_op s2_notN (se_var 6) se_non))
  (ss_app 1 (se_tup (sa_cons (se_tup (sa_cons (se_var 2) (sa_cons se_str sa_nil))) (sa_cons (se_var 3) (sa_cons (se_var 4) (sa_cons (se_var 6) sa_nil))))))
  ss_next)
  (ss_if (st_test (se_op s2_notN (se_var 5) se_non))
  (ss_app 1 (se_tup (sa_cons (se_tup (sa_cons (se_var 2) (sa_cons se_str sa_nil))) (sa_cons (se_var 4) (sa_cons (se_var 3) (sa_cons (se_op s2_sub se_int (se_var 5)) sa_nil))))))
  ss_next))))
  (ss_frz 1 (ss_ret (se_var 1)))))⟩
theorem fx_L_bounds (d : Df K mg "_law_bounds" (top 50)) (T : Txt mg) (G_L_edges : Fx P w K mg base 1 "_law_edges" ["net"] (spD K 1 f_L_edges)) : Fx P w K mg base 2 "_law_bounds" ["net"] (spD K 1 (f_L_bounds w)) :=
  fx_of d sc_L_bounds bb_L_bounds rfl fun f cdv A outer s H Q E hr => ⟨_,
  (pss_cons (ps_set (i := 1) sc_L_bounds.nd rfl (by first | exact .inl rfl | exact .inr rfl) pe_dnew)
  (pss_cons (ps_for PassesOwn.never rfl (pi_range1 (by rfl) T.b_range (pa_cons (pe_ix ix_seq (pv 0) pe_int (fun _ _ => rfl)) pa_nil)) (pg_name (i := 2) sc_L_bounds.nd rfl (by first | exact .inl rfl | exact .inr rfl))
  (pss_one (ps_dput2 (hr.units1) (pv 1) (pe_tup (pa_cons (pv 2) (pa_cons (pv 2) pa_nil))) pe_int (by rfl))))
  (pss_cons (ps_for PassesOwn.never rfl (pi_range1 (by rfl) T.b_range (pa_cons (pe_ix ix_seq (pv 0) pe_int (fun _ _ => rfl)) pa_nil)) (pg_name (i := 3) sc_L_bounds.nd rfl (by first | exact .inl rfl | exact .inr rfl))
  (pss_one (ps_for PassesOwn.never rfl (pi_seq (pe_fx G_L_edges (hr.mono (by decide)) (by rfl) (pa_cons (pv 0) pa_nil))) (pg_sq rfl (pgs_cons (pg_name (i := 4) sc_L_bounds.nd rfl (by first | exact .inl rfl | exact .inr rfl)) (pgs_cons (pg_name (i := 5) sc_L_bounds.nd rfl (by first | exact .inl rfl | exact .inr rfl)) (pgs_cons (pg_name (i := 6) sc_L_bounds.nd rfl (by first | exact .inl rfl | exact .inr rfl)) (pgs_cons (pg_name (i := 7) sc_L_bounds.nd rfl (by first | exact .inl rfl | exact .inr rfl)) pgs_nil)))))
  (pss_one (ps_for PassesOwn.never rfl (pi_range1 (by rfl) T.b_range (pa_cons (pe_ix ix_seq (pv 0) pe_int (fun _ _ => rfl)) pa_nil)) (pg_name (i := 2) sc_L_bounds.nd rfl (by first | exact .inl rfl | exact .inr rfl))
  (pss_one (ps_if (pt_cmpR (op_fIn (hr.units1)) (pe_tup (pa_cons (pv 2) (pa_cons (pv 5) pa_nil))) (pv 1) (by rfl))
  (pss_cons (ps_set (i := 8) sc_L_bounds.nd rfl (by first | exact .inl rfl | exact .inr rfl) (pe_op op_addA (pe_dg (hr.units1) (pv 1) (pe_tup (pa_cons (pv 2) (pa_cons (pv 5) pa_nil))) (fun _ _ => rfl)) (pv 7)))
  (pss_one (ps_if (PW.pt (pw_or (pt_cmpR (op_fNotIn (hr.units1)) (pe_tup (pa_cons (pv 2) (pa_cons (pv 6) pa_nil))) (pv 1) (by rfl)) (pw_or1 (pt_cmpR op_lt (pv 8) (pe_dg (hr.units1) (pv 1) (pe_tup (pa_cons (pv 2) (pa_cons (pv 6) pa_nil))) (fun _ _ => rfl)) (nomark _)))))
  (pss_one (ps_dput2 (hr.units1) (pv 1) (pe_tup (pa_cons (pv 2) (pa_cons (pv 6) pa_nil))) (pv 8) (by rfl)))
  pss_nil)))
  pss_nil)))))))
  (pss_one (ps_ret (pv 1)))))),
  (ss_seq (ss_newD 1)
  (ss_seq (ss_for (vs := [2]) (si_range1 (sa_cons (se_op s2_ix (se_var 0) se_int) sa_nil)) (sg_name 2)
  (ss_putD 1 (se_tup (sa_cons (se_var 2) (sa_cons (se_var 2) sa_nil))) se_int))
  (ss_seq (ss_for (vs := [3]) (si_range1 (sa_cons (se_op s2_ix (se_var 0) se_int) sa_nil)) (sg_name 3)
  (ss_for (vs := [4, 5, 6, 7]) (si_seq (se_call (sa_cons (se_var 0) sa_nil))) (sg_tup (sgs_cons (sg_name 4) (sgs_cons (sg_name 5) (sgs_cons (sg_name 6) (sgs_cons (sg_name 7) sgs_nil)))))
  (ss_for (vs := [2]) (si_range1 (sa_cons (se_op s2_ix (se_var 0) se_int) sa_nil)) (sg_name 2)
  (ss_if (st_test (se_inO false 1 (se_tup (sa_cons (se_var 2) (sa_cons (se_var 5) sa_nil)))))
  (ss_seq (ss_set (i := 8) (se_op s2_add (se_getD 1 (se_tup (sa_cons (se_var 2) (sa_cons (se_var 5) sa_nil)))) (se_var 7)))
  (ss_if (st_or (st_test (se_inO true 1 (se_tup (sa_cons (se_var 2) (sa_cons (se_var 6) sa_nil))))) (st_test (se_op s2_lt (se_var 8) (se_getD 1 (se_tup (sa_cons (se_var 2) (sa_cons (se_var 6) sa_nil)))))))
  (ss_putD 1 (se_tup (sa_cons (se_var 2) (sa_cons (se_var 6) sa_nil))) (se_var 8))
  ss_next))
  ss_next))))
  (ss_frzD 1 (ss_ret (se_var 1))))))⟩
theorem fx_L_subsets (d : Df K mg "_law_subsets" (top 53)) (T : Txt mg)  : Fx P w K mg base 1 "_law_subsets" ["size"] (spD K 1 f_L_subsets) :=
  fx_of d sc_L_subsets bb_L_subsets rfl fun f cdv A outer s H Q E hr => ⟨_,
  (pss_cons (ps_set (i := 1) sc_L_subsets.nd rfl (by first | exact .inl rfl | exact .inr rfl) (pe_lst (pa_cons (pe_tup pa_nil) pa_nil)))
  (pss_cons (ps_for PassesOwn.never rfl (pi_range1 (by rfl) T.b_range (pa_cons (pv 0) pa_nil)) (pg_name (i := 2) sc_L_subsets.nd rfl (by first | exact .inl rfl | exact .inr rfl))
  (pss_one (ps_set (i := 1) sc_L_subsets.nd rfl (by first | exact .inl rfl | exact .inr rfl) (pe_op op_addA (pv 1) (pe_lc (own := [("row", 4)]) (g := (gName 4)) rfl sc_L_subsets.nd (pi_seq (pv 1)) (blkOk_by (own := [("row", 4)]) (N := N_L_subsets) (sc := defScope (top 53)) (by decide +kernel)) (fun _ _ _ _ _ => (pg_name (i := 4) sc_L_subsets.nd rfl (by first | exact .inl rfl | exact .inr rfl))) (fun _ _ _ _ _ => pts_nil) (fun _ _ _ _ _ => (pe_op op_addA (pv 4) (pe_tup (pa_cons (pv 2) pa_nil)))))))))
  (pss_one (ps_ret (pe_lc (own := [("many", 3), ("row", 4)]) (g := (gSq K 2 (gCons (gName 3) (gCons (gName 4) gNil)))) rfl sc_L_subsets.nd (pi_seq (pe_callB (cr_sortedD hr.units65) (by rfl) T.b_sorted bt_sorted (pa_cons (pe_lc (own := [("row", 4)]) (g := (gName 4)) rfl sc_L_subsets.nd (pi_seq (pv 1)) (blkOk_by (own := [("row", 4)]) (N := N_L_subsets) (sc := defScope (top 53)) (by decide +kernel)) (fun _ _ _ _ _ => (pg_name (i := 4) sc_L_subsets.nd rfl (by first | exact .inl rfl | exact .inr rfl))) (fun _ _ _ _ _ => pts_nil) (fun _ _ _ _ _ => (pe_tup (pa_cons (pe_callB call_len_seq (by rfl) T.b_len PySem.boot_len (pa_cons (pv 4) pa_nil)) (pa_cons (pv 4) pa_nil))))) pa_nil))) (blkOk_by (own := [("many", 3), ("row", 4)]) (N := N_L_subsets) (sc := defScope (top 53)) (by decide +kernel)) (fun _ _ _ _ _ => (pg_sq rfl (pgs_cons (pg_name (i := 3) sc_L_subsets.nd rfl (by first | exact .inl rfl | exact .inr rfl)) (pgs_cons (pg_name (i := 4) sc_L_subsets.nd rfl (by first | exact .inl rfl | exact .inr rfl)) pgs_nil)))) (fun _ _ _ _ _ => pts_nil) (fun _ _ _ _ _ => (pv 4))))))),
  (ss_seq (ss_set (i := 1) (se_own (so_lst (sa_cons (se_tup sa_nil) sa_nil))))
  (ss_seq (ss_for (vs := [2]) (si_range1 (sa_cons (se_var 0) sa_nil)) (sg_name 2)
  (ss_set (i := 1) (se_op s2_add (se_var 1) (se_own (so_lc (vs := [4]) (si_seq (se_var 1)) (sg_name 4) st_yes (se_op s2_add (se_var 4) (se_tup (sa_cons (se_var 2) sa_nil))))))))
  (ss_ret (se_own (so_lc (vs := [3, 4]) (si_seq (se_own (so_cb sc_sortD (sa_cons (se_own (so_lc (vs := [4]) (si_seq (se_var 1)) (sg_name 4) st_yes (se_tup (sa_cons (se_cb sc_len (sa_cons (se_var 4) sa_nil)) (sa_cons (se_var 4) sa_nil))))) sa_nil)))) (sg_tup (sgs_cons (sg_name 3) (sgs_cons (sg_name 4) sgs_nil))) st_yes (se_var 4))))))⟩
theorem fx_L_joint (d : Df K mg "_law_joint" (top 51)) (T : Txt mg)  : Fx P w K mg base 1 "_law_joint" ["bounds", "times", "news"] (spD K 3 f_L_joint) :=
  fx_of d sc_L_joint bb_L_joint rfl fun f cdv A outer s H Q E hr => ⟨_,
  (pss_cons (ps_set (i := 3) sc_L_joint.nd rfl (by first | exact .inl rfl | exact .inr rfl) (pe_lst pa_nil))
  (pss_cons (ps_for PassesOwn.never rfl (pi_range1 (by rfl) T.b_range (pa_cons (pe_callB call_len_seq (by rfl) T.b_len PySem.boot_len (pa_cons (pv 1) pa_nil)) pa_nil)) (pg_name (i := 4) sc_L_joint.nd rfl (by first | exact .inl rfl | exact .inr rfl))
  (pss_cons (ps_set (i := 5) sc_L_joint.nd rfl (by first | exact .inl rfl | exact .inr rfl) (pe_ix ix_seq (pv 1) (pv 4) (fun _ _ => rfl)))
  (pss_cons (ps_setLc (i := 6) (own := [("other", 8), ("value", 9)]) (g := (gSq K 2 (gCons (gName 8) (gCons (gName 9) gNil)))) rfl sc_L_joint.nd rfl rfl (sw_true rfl rfl rfl (by decide +kernel)) (pi_seq (pv 2)) (blkOk_by (own := [("other", 8), ("value", 9)]) (N := N_L_joint) (sc := defScope (top 51)) (by decide +kernel)) (fun _ _ _ _ _ => (pg_sq rfl (pgs_cons (pg_name (i := 8) sc_L_joint.nd rfl (by first | exact .inl rfl | exact .inr rfl)) (pgs_cons (pg_name (i := 9) sc_L_joint.nd rfl (by first | exact .inl rfl | exact .inr rfl)) pgs_nil)))) (fun _ _ _ _ _ => (pts_one (pt_cmpR (op_fIn (hr.units1)) (pe_tup (pa_cons (pv 4) (pa_cons (pv 8) pa_nil))) (pv 0) (by rfl)))) (fun _ _ _ _ _ => (pe_op op_sub (pv 9) (pe_fg (hr.units1) (pv 0) (pe_tup (pa_cons (pv 4) (pa_cons (pv 8) pa_nil))) (fun _ _ => rfl)))))
  (pss_cons (ps_setLc (i := 7) (own := [("other", 8), ("value", 9)]) (g := (gSq K 2 (gCons (gName 8) (gCons (gName 9) gNil)))) rfl sc_L_joint.nd rfl rfl (sw_true rfl rfl rfl (by decide +kernel)) (pi_seq (pv 2)) (blkOk_by (own := [("other", 8), ("value", 9)]) (N := N_L_joint) (sc := defScope (top 51)) (by decide +kernel)) (fun _ _ _ _ _ => (pg_sq rfl (pgs_cons (pg_name (i := 8) sc_L_joint.nd rfl (by first | exact .inl rfl | exact .inr rfl)) (pgs_cons (pg_name (i := 9) sc_L_joint.nd rfl (by first | exact .inl rfl | exact .inr rfl)) pgs_nil)))) (fun _ _ _ _ _ => (pts_one (pt_cmpR (op_fIn (hr.units1)) (pe_tup (pa_cons (pv 8) (pa_cons (pv 4) pa_nil))) (pv 0) (by rfl)))) (fun _ _ _ _ _ => (pe_op op_addA (pv 9) (pe_fg (hr.units1) (pv 0) (pe_tup (pa_cons (pv 8) (pa_cons (pv 4) pa_nil))) (fun _ _ => rfl)))))
  (pss_one (ps_expr (pe_bm PySem.F.plainAttrs_list PySem.F.slot_list_append PySem.F.type_list_append mt_append (pv 3) (pa_cons (pe_callB (cr_min rfl) (by rfl) T.b_min bt_min (pa_cons (pe_op op_addA (pe_lst (pa_cons (pe_callB (cr_max rfl) (by rfl) T.b_max bt_max (pa_cons (pe_op op_addA (pe_lst (pa_cons (pv 5) pa_nil)) (pv 6)) pa_nil)) pa_nil)) (pv 7)) pa_nil)) pa_nil))))))))
  (pss_one (ps_ret (pe_callTy call_tuple_of (by rfl) T.b_tuple bt_tuple (pa_cons (pv 3) pa_nil)))))),
  (ss_seq (ss_asgO (so_lst sa_nil))
  (ss_seq (ss_for (vs := [4]) (si_range1 (sa_cons (se_cb sc_len (sa_cons (se_var 1) sa_nil)) sa_nil)) (sg_name 4)
  (ss_seq (ss_set (i := 5) (se_op s2_ix (se_var 1) (se_var 4)))
  (ss_seq (ss_set (i := 6) (se_own (so_lc (vs := [8, 9]) (si_seq (se_var 2)) (sg_tup (sgs_cons (sg_name 8) (sgs_cons (sg_name 9) sgs_nil))) (st_test (se_op (s2_inF false) (se_tup (sa_cons (se_var 4) (sa_cons (se_var 8) sa_nil))) (se_var 0))) (se_op s2_sub (se_var 9) (se_op s2_getF (se_var 0) (se_tup (sa_cons (se_var 4) (sa_cons (se_var 8) sa_nil))))))))
  (ss_seq (ss_set (i := 7) (se_own (so_lc (vs := [8, 9]) (si_seq (se_var 2)) (sg_tup (sgs_cons (sg_name 8) (sgs_cons (sg_name 9) sgs_nil))) (st_test (se_op (s2_inF false) (se_tup (sa_cons (se_var 8) (sa_cons (se_var 4) sa_nil))) (se_var 0))) (se_op s2_add (se_var 9) (se_op s2_getF (se_var 0) (se_tup (sa_cons (se_var 8) (sa_cons (se_var 4) sa_nil))))))))
  (ss_app 3 (se_cb sc_minL (sa_cons (se_op s2_add (se_own (so_lst (sa_cons (se_cb sc_maxL (sa_cons (se_op s2_add (se_own (so_lst (sa_cons (se_var 5) sa_nil))) (se_var 6)) sa_nil)) sa_nil))) (se_var 7)) sa_nil)))))))
  (ss_frz 3 (ss_ret (se_cb sc_tuple (sa_cons (se_var 3) sa_nil))))))⟩
theorem fx_L_leads (d : Df K mg "_law_leads" (top 52)) (T : Txt mg) (G_L_joint : Fx P w K mg base 1 "_law_joint" ["bounds", "times", "news"] (spD K 3 f_L_joint)) : Fx P w K mg base 2 "_law_leads" ["bounds", "first", "second", "chosen"] (spD K 4 f_L_leads) :=
  fx_of d sc_L_leads bb_L_leads rfl fun f cdv A outer s H Q E hr => ⟨_,
  (pss_one (ps_ret (pe_cmpR (op_eqD hr.units) (pe_fx G_L_joint (hr.mono (by decide)) (by rfl) (pa_cons (pv 0) (pa_cons (pv 1) (pa_cons (pe_callTy call_tuple_of (by rfl) T.b_tuple bt_tuple (pa_cons (pe_lc (own := [("event", 4)]) (g := (gName 4)) rfl sc_L_leads.nd (pi_seq (pv 3)) (blkOk_by (own := [("event", 4)]) (N := N_L_leads) (sc := defScope (top 52)) (by decide +kernel)) (fun _ _ _ _ _ => (pg_name (i := 4) sc_L_leads.nd rfl (by first | exact .inl rfl | exact .inr rfl))) (fun _ _ _ _ _ => pts_nil) (fun _ _ _ _ _ => (pe_tup (pa_cons (pv 4) (pa_cons (pe_ix ix_seq (pv 2) (pv 4) (fun _ _ => rfl)) pa_nil))))) pa_nil)) pa_nil)))) (pv 2) (nomark _)))),
  (ss_ret (se_op s2_eq (se_call (sa_cons (se_var 0) (sa_cons (se_var 1) (sa_cons (se_cb sc_tuple (sa_cons (se_own (so_lc (vs := [4]) (si_seq (se_var 3)) (sg_name 4) st_yes (se_tup (sa_cons (se_var 4) (sa_cons (se_op s2_ix (se_var 2) (se_var 4)) sa_nil))))) sa_nil)) sa_nil)))) (se_var 2)))⟩
theorem fx_L_due (d : Df K mg "_law_due" (top 54)) (T : Txt mg) (G_L_bounds : Fx P w K mg base 2 "_law_bounds" ["net"] (spD K 1 (f_L_bounds w))) (G_L_subsets : Fx P w K mg base 1 "_law_subsets" ["size"] (spD K 1 f_L_subsets)) (G_L_leads : Fx P w K mg base 2 "_law_leads" ["bounds", "first", "second", "chosen"] (spD K 4 f_L_leads)) : Fx P w K mg base 3 "_law_due" ["net", "first", "second"] (spD K 3 (f_L_due w)) :=
  fx_of d sc_L_due bb_L_due rfl fun f cdv A outer s H Q E hr => ⟨_,
  (pss_cons (ps_set (i := 3) sc_L_due.nd rfl (by first | exact .inl rfl | exact .inr rfl) (pe_fx G_L_bounds (hr.mono (by decide)) (by rfl) (pa_cons (pv 0) pa_nil)))
  (pss_cons (ps_setLc (i := 4) (own := [("chosen", 5)]) (g := (gName 5)) rfl sc_L_due.nd rfl rfl (sw_true rfl rfl rfl (by decide +kernel)) (pi_seq (pe_fx G_L_subsets (hr.mono (by decide)) (by rfl) (pa_cons (pe_ix ix_seq (pv 0) pe_int (fun _ _ => rfl)) pa_nil))) (blkOk_by (own := [("chosen", 5)]) (N := N_L_due) (sc := defScope (top 54)) (by decide +kernel)) (fun _ _ _ _ _ => (pg_name (i := 5) sc_L_due.nd rfl (by first | exact .inl rfl | exact .inr rfl))) (fun _ _ _ _ _ => (pts_one (pt_truth (pe_fx G_L_leads (hr.mono (by decide)) (by rfl) (pa_cons (pv 3) (pa_cons (pv 1) (pa_cons (pv 2) (pa_cons (pv 5) pa_nil))))) (by intro _; rfl)))) (fun _ _ _ _ _ => (pv 5)))
  (pss_one (ps_ret (pe_callTy call_tuple_of (by rfl) T.b_tuple bt_tuple (pa_cons (pe_lc (own := [("event", 6)]) (g := (gName 6)) rfl sc_L_due.nd (pi_seq (pe_ix ix_seq (pv 4) pe_int (fun _ _ => rfl))) (blkOk_by (own := [("event", 6)]) (N := N_L_due) (sc := defScope (top 54)) (by decide +kernel)) (fun _ _ _ _ _ => (pg_name (i := 6) sc_L_due.nd rfl (by first | exact .inl rfl | exact .inr rfl))) (fun _ _ _ _ _ => pts_nil) (fun _ _ _ _ _ => (pe_tup (pa_cons (pv 6) (pa_cons (pe_ix ix_seq (pv 2) (pv 6) (fun _ _ => rfl)) pa_nil))))) pa_nil)))))),
  (ss_seq (ss_set (i := 3) (se_call (sa_cons (se_var 0) sa_nil)))
  (ss_seq (ss_set (i := 4) (se_own (so_lc (vs := [5]) (si_seq (se_call (sa_cons (se_op s2_ix (se_var 0) se_int) sa_nil))) (sg_name 5) (st_truth (se_call (sa_cons (se_var 3) (sa_cons (se_var 1) (sa_cons (se_var 2) (sa_cons (se_var 5) sa_nil)))))) (se_var 5))))
  (ss_ret (se_cb sc_tuple (sa_cons (se_own (so_lc (vs := [6]) (si_seq (se_op s2_ix (se_var 4) se_int)) (sg_name 6) st_yes (se_tup (sa_cons (se_var 6) (sa_cons (se_op s2_ix (se_var 2) (se_var 6)) sa_nil))))) sa_nil)))))⟩
theorem fx_law {f : Addr} {fd : FuncData} (F : Fun K "law" "law" (top 55) f fd) (T : Txt mg) (G_L_stream : Fx P w K mg base 1 "_law_stream" ["script"] (spStream K)) (G_L_net : Fx P w K mg base 3 "_law_net" ["stream", "least", "most", "many", "wide"] (spS K 4 f_L_net)) (G_L_equal : Fx P w K mg base 9 "_law_equal" ["actual", "due"] (spD K 2 (f_equal 8))) (G_way : Fx P w K mg base 9 "way" ["net", "first", "second"] (spD K 3 f_way)) (G_L_due : Fx P w K mg base 3 "_law_due" ["net", "first", "second"] (spD K 3 (f_L_due w))) (pure : t_law w { nx := fun _ => False, rt := fun d => d = .bool true } (none :: some .strm :: List.replicate (N_law.length - 2) none)) : FnOk P w K mg base CX0 11 f fd ["script"] (spLaw K) :=
  law_of F sc_law (by decide) pure fun cdv A outer s H Q E hr => ⟨_,
  (pss_cons (ps_set (i := 1) sc_law.nd rfl (by first | exact .inl rfl | exact .inr rfl) (pe_fx G_L_stream (hr.mono (by decide)) (by rfl) (pa_cons (pv 0) pa_nil)))
  (pss_cons (ps_asg (pe_fx G_L_net (hr.mono (by decide)) (by rfl) (pa_cons (pv 1) (pa_cons pe_int (pa_cons pe_int (pa_cons pe_int (pa_cons pe_int pa_nil)))))) (pg_sq rfl (pgs_cons (pg_name (i := 2) sc_law.nd rfl (by first | exact .inl rfl | exact .inr rfl)) (pgs_cons (pg_name (i := 3) sc_law.nd rfl (by first | exact .inl rfl | exact .inr rfl)) (pgs_cons (pg_name (i := 4) sc_law.nd rfl (by first | exact .inl rfl | exact .inr rfl)) pgs_nil)))))
  (pss_cons (ps_if (pt_not (pt_truth (pe_fx G_L_equal (hr.mono (by decide)) (by rfl) (pa_cons (pe_fx G_way (hr.mono (by decide)) (by rfl) (pa_cons (pv 2) (pa_cons (pv 3) (pa_cons (pv 4) pa_nil)))) (pa_cons (pe_fx G_L_due (hr.mono (by decide)) (by rfl) (pa_cons (pv 2) (pa_cons (pv 3) (pa_cons (pv 4) pa_nil)))) pa_nil))) (by intro _; rfl)))
  (pss_one (ps_ret pe_bl))
  pss_nil)
  (pss_cons (ps_if (pt_not (pt_truth (pe_fx G_L_equal (hr.mono (by decide)) (by rfl) (pa_cons (pe_fx G_way (hr.mono (by decide)) (by rfl) (pa_cons (pv 2) (pa_cons (pv 4) (pa_cons (pv 3) pa_nil)))) (pa_cons (pe_fx G_L_due (hr.mono (by decide)) (by rfl) (pa_cons (pv 2) (pa_cons (pv 4) (pa_cons (pv 3) pa_nil)))) pa_nil))) (by intro _; rfl)))
  (pss_one (ps_ret pe_bl))
  pss_nil)
  (pss_one (ps_ret (pe_and (pe_fx G_L_equal (hr.mono (by decide)) (by rfl) (pa_cons (pe_fx G_way (hr.mono (by decide)) (by rfl) (pa_cons (pv 2) (pa_cons (pv 3) (pa_cons (pv 3) pa_nil)))) (pa_cons (pe_tup pa_nil) pa_nil))) (pe_one (pe_cmpR (op_eqD hr.units) (pe_cmpR (op_eqD hr.units) (pe_fx G_way (hr.mono (by decide)) (by rfl) (pa_cons (pv 2) (pa_cons (pv 3) (pa_cons (pv 4) pa_nil)))) (pe_tup pa_nil) (nomark _)) (pe_cmpR (op_eqD hr.units) (pv 3) (pv 4) (nomark _)) (nomark _)))))))))),
  (ss_seq (ss_asg (vs := [2, 3, 4]) (se_callS 1 (sa_cons se_int (sa_cons se_int (sa_cons se_int (sa_cons se_int sa_nil))))) (sg_tup (sgs_cons (sg_name 2) (sgs_cons (sg_name 3) (sgs_cons (sg_name 4) sgs_nil)))))
  (ss_seq (ss_if (st_not (st_truth (se_call (sa_cons (se_call (sa_cons (se_var 2) (sa_cons (se_var 3) (sa_cons (se_var 4) sa_nil)))) (sa_cons (se_call (sa_cons (se_var 2) (sa_cons (se_var 3) (sa_cons (se_var 4) sa_nil)))) sa_nil)))))
  (ss_ret se_bl)
  ss_next)
  (ss_seq (ss_if (st_not (st_truth (se_call (sa_cons (se_call (sa_cons (se_var 2) (sa_cons (se_var 4) (sa_cons (se_var 3) sa_nil)))) (sa_cons (se_call (sa_cons (se_var 2) (sa_cons (se_var 4) (sa_cons (se_var 3) sa_nil)))) sa_nil)))))
  (ss_ret se_bl)
  ss_next)
  (ss_ret (se_and (se_call (sa_cons (se_call (sa_cons (se_var 2) (sa_cons (se_var 3) (sa_cons (se_var 3) sa_nil)))) (sa_cons (se_tup sa_nil) sa_nil))) (se_op s2_eq (se_op s2_eq (se_call (sa_cons (se_var 2) (sa_cons (se_var 3) (sa_cons (se_var 4) sa_nil)))) (se_tup sa_nil)) (se_op s2_eq (se_var 3) (se_var 4))))))))⟩
end
theorem all_mk {l : PySem.W.OpenLaw} {w : World} {K : PySem.W.Frag} {h : Heap} {mg : Str → Option Value} {fa : Addr} (X : K.In h) (G : h.Ns mainGlobals mg) (hfa : mg "law" = some (.ref fa))
  {od0 an0 : Option Addr} {sl0 : Array (Option Value)} {oc0 kV0 dc0 pm0 cd0 ct0 : Value} {f0 : Addr}
  {od1 an1 : Option Addr} {sl1 : Array (Option Value)} {oc1 kV1 dc1 pm1 cd1 ct1 : Value} {f1 : Addr}
  {od2 an2 : Option Addr} {sl2 : Array (Option Value)} {oc2 kV2 dc2 pm2 cd2 ct2 : Value} {f2 : Addr}
  {od3 an3 : Option Addr} {sl3 : Array (Option Value)} {oc3 kV3 dc3 pm3 cd3 ct3 : Value} {f3 : Addr}
  {od4 an4 : Option Addr} {sl4 : Array (Option Value)} {oc4 kV4 dc4 pm4 cd4 ct4 : Value} {f4 : Addr}
  {od5 an5 : Option Addr} {sl5 : Array (Option Value)} {oc5 kV5 dc5 pm5 cd5 ct5 : Value} {f5 : Addr}
  {od6 an6 : Option Addr} {sl6 : Array (Option Value)} {oc6 kV6 dc6 pm6 cd6 ct6 : Value} {f6 : Addr}
  {od7 an7 : Option Addr} {sl7 : Array (Option Value)} {oc7 kV7 dc7 pm7 cd7 ct7 : Value} {f7 : Addr}
  {od8 an8 : Option Addr} {sl8 : Array (Option Value)} {oc8 kV8 dc8 pm8 cd8 ct8 : Value} {f8 : Addr}
  {od9 an9 : Option Addr} {sl9 : Array (Option Value)} {oc9 kV9 dc9 pm9 cd9 ct9 : Value} {f9 : Addr}
  {od10 an10 : Option Addr} {sl10 : Array (Option Value)} {oc10 kV10 dc10 pm10 cd10 ct10 : Value} {f10 : Addr}
  {od11 an11 : Option Addr} {sl11 : Array (Option Value)} {oc11 kV11 dc11 pm11 cd11 ct11 : Value} {f11 : Addr}
  {od12 an12 : Option Addr} {sl12 : Array (Option Value)} {oc12 kV12 dc12 pm12 cd12 ct12 : Value} {f12 : Addr}
  {od13 an13 : Option Addr} {sl13 : Array (Option Value)} {oc13 kV13 dc13 pm13 cd13 ct13 : Value} {f13 : Addr}
  {od14 an14 : Option Addr} {sl14 : Array (Option Value)} {oc14 kV14 dc14 pm14 cd14 ct14 : Value} {f14 : Addr}
  {od15 an15 : Option Addr} {sl15 : Array (Option Value)} {oc15 kV15 dc15 pm15 cd15 ct15 : Value} {f15 : Addr}
  {od16 an16 : Option Addr} {sl16 : Array (Option Value)} {oc16 kV16 dc16 pm16 cd16 ct16 : Value} {f16 : Addr}
  {od17 an17 : Option Addr} {sl17 : Array (Option Value)} {oc17 kV17 dc17 pm17 cd17 ct17 : Value} {f17 : Addr}
  {od18 an18 : Option Addr} {sl18 : Array (Option Value)} {oc18 kV18 dc18 pm18 cd18 ct18 : Value} {f18 : Addr}
  {od19 an19 : Option Addr} {sl19 : Array (Option Value)} {oc19 kV19 dc19 pm19 cd19 ct19 : Value} {f19 : Addr}
  {od20 an20 : Option Addr} {sl20 : Array (Option Value)} {oc20 kV20 dc20 pm20 cd20 ct20 : Value} {f20 : Addr}
  {od21 an21 : Option Addr} {sl21 : Array (Option Value)} {oc21 kV21 dc21 pm21 cd21 ct21 : Value} {f21 : Addr}
  {od22 an22 : Option Addr} {sl22 : Array (Option Value)} {oc22 kV22 dc22 pm22 cd22 ct22 : Value} {f22 : Addr}
  {od23 an23 : Option Addr} {sl23 : Array (Option Value)} {oc23 kV23 dc23 pm23 cd23 ct23 : Value} {f23 : Addr}
  {od24 an24 : Option Addr} {sl24 : Array (Option Value)} {oc24 kV24 dc24 pm24 cd24 ct24 : Value} {f24 : Addr}
  {od25 an25 : Option Addr} {sl25 : Array (Option Value)} {oc25 kV25 dc25 pm25 cd25 ct25 : Value} {f25 : Addr}
  {od26 an26 : Option Addr} {sl26 : Array (Option Value)} {oc26 kV26 dc26 pm26 cd26 ct26 : Value} {f26 : Addr}
  {od27 an27 : Option Addr} {sl27 : Array (Option Value)} {oc27 kV27 dc27 pm27 cd27 ct27 : Value} {f27 : Addr}
  {od28 an28 : Option Addr} {sl28 : Array (Option Value)} {oc28 kV28 dc28 pm28 cd28 ct28 : Value} {f28 : Addr}
  {od29 an29 : Option Addr} {sl29 : Array (Option Value)} {oc29 kV29 dc29 pm29 cd29 ct29 : Value} {f29 : Addr}
  {od30 an30 : Option Addr} {sl30 : Array (Option Value)} {oc30 kV30 dc30 pm30 cd30 ct30 : Value} {f30 : Addr}
  {od31 an31 : Option Addr} {sl31 : Array (Option Value)} {oc31 kV31 dc31 pm31 cd31 ct31 : Value} {f31 : Addr}
  {od32 an32 : Option Addr} {sl32 : Array (Option Value)} {oc32 kV32 dc32 pm32 cd32 ct32 : Value} {f32 : Addr}
  {od33 an33 : Option Addr} {sl33 : Array (Option Value)} {oc33 kV33 dc33 pm33 cd33 ct33 : Value} {f33 : Addr}
  {od34 an34 : Option Addr} {sl34 : Array (Option Value)} {oc34 kV34 dc34 pm34 cd34 ct34 : Value} {f34 : Addr}
  {od35 an35 : Option Addr} {sl35 : Array (Option Value)} {oc35 kV35 dc35 pm35 cd35 ct35 : Value} {f35 : Addr}
  {od36 an36 : Option Addr} {sl36 : Array (Option Value)} {oc36 kV36 dc36 pm36 cd36 ct36 : Value} {f36 : Addr}
  {od37 an37 : Option Addr} {sl37 : Array (Option Value)} {oc37 kV37 dc37 pm37 cd37 ct37 : Value} {f37 : Addr}
  {od38 an38 : Option Addr} {sl38 : Array (Option Value)} {oc38 kV38 dc38 pm38 cd38 ct38 : Value} {f38 : Addr}
  {od39 an39 : Option Addr} {sl39 : Array (Option Value)} {oc39 kV39 dc39 pm39 cd39 ct39 : Value} {f39 : Addr}
  {od40 an40 : Option Addr} {sl40 : Array (Option Value)} {oc40 kV40 dc40 pm40 cd40 ct40 : Value} {f40 : Addr}
  {od41 an41 : Option Addr} {sl41 : Array (Option Value)} {oc41 kV41 dc41 pm41 cd41 ct41 : Value} {f41 : Addr}
  {od42 an42 : Option Addr} {sl42 : Array (Option Value)} {oc42 kV42 dc42 pm42 cd42 ct42 : Value} {f42 : Addr}
   {tk0 : Tok} {tk1 : Tok} {tk2 : Tok} {tk3 : Tok}
  
  (a0 : PySem.W.nsIn K mainGlobals "_law_stream" = some (some (.ref f0))) (l0 : K.lookup f0 = some ⟨oc0, od0, .func (PySem.W.fnOf "_law_stream" "_law_stream" (defArgs (top 43)) (defBody (top 43)) (defScope (top 43)) .none kV0 dc0 pm0 an0 cd0 ct0), sl0⟩) (e0 : PySem.W.codeIn K cd0 "_law_stream" = true) (k0 : PySem.W.keepIn K (.ref f0) = true)
  (a1 : PySem.W.nsIn K mainGlobals "_law_next" = some (some (.ref f1))) (l1 : K.lookup f1 = some ⟨oc1, od1, .func (PySem.W.fnOf "_law_next" "_law_next" (defArgs (top 44)) (defBody (top 44)) (defScope (top 44)) .none kV1 dc1 pm1 an1 cd1 ct1), sl1⟩) (e1 : PySem.W.codeIn K cd1 "_law_next" = true) (k1 : PySem.W.keepIn K (.ref f1) = true)
  (a2 : PySem.W.nsIn K mainGlobals "_law_gap" = some (some (.ref f2))) (l2 : K.lookup f2 = some ⟨oc2, od2, .func (PySem.W.fnOf "_law_gap" "_law_gap" (defArgs (top 47)) (defBody (top 47)) (defScope (top 47)) .none kV2 dc2 pm2 an2 cd2 ct2), sl2⟩) (e2 : PySem.W.codeIn K cd2 "_law_gap" = true) (k2 : PySem.W.keepIn K (.ref f2) = true)
  (a3 : PySem.W.nsIn K mainGlobals "_law_net" = some (some (.ref f3))) (l3 : K.lookup f3 = some ⟨oc3, od3, .func (PySem.W.fnOf "_law_net" "_law_net" (defArgs (top 48)) (defBody (top 48)) (defScope (top 48)) .none kV3 dc3 pm3 an3 cd3 ct3), sl3⟩) (e3 : PySem.W.codeIn K cd3 "_law_net" = true) (k3 : PySem.W.keepIn K (.ref f3) = true)
  (a4 : PySem.W.nsIn K mainGlobals "_law_is_integer" = some (some (.ref f4))) (l4 : K.lookup f4 = some ⟨oc4, od4, .func (PySem.W.fnOf "_law_is_integer" "_law_is_integer" (defArgs (top 45)) (defBody (top 45)) (defScope (top 45)) .none kV4 dc4 pm4 an4 cd4 ct4), sl4⟩) (e4 : PySem.W.codeIn K cd4 "_law_is_integer" = true) (k4 : PySem.W.keepIn K (.ref f4) = true)
  (a5 : PySem.W.nsIn K mainGlobals "_law_equal" = some (some (.ref f5))) (l5 : K.lookup f5 = some ⟨oc5, od5, .func (PySem.W.fnOf "_law_equal" "_law_equal" (defArgs (top 46)) (defBody (top 46)) (defScope (top 46)) .none kV5 dc5 pm5 an5 cd5 ct5), sl5⟩) (e5 : PySem.W.codeIn K cd5 "_law_equal" = true) (k5 : PySem.W.keepIn K (.ref f5) = true)
  (a6 : PySem.W.nsIn K mainGlobals "news_for" = some (some (.ref f6))) (l6 : K.lookup f6 = some ⟨oc6, od6, .func (PySem.W.fnOf "news_for" "news_for" (defArgs (top 33)) (defBody (top 33)) (defScope (top 33)) .none kV6 dc6 pm6 an6 cd6 ct6), sl6⟩) (e6 : PySem.W.codeIn K cd6 "news_for" = true) (k6 : PySem.W.keepIn K (.ref f6) = true)
  (a7 : PySem.W.nsIn K mainGlobals "way_along" = some (some (.ref f7))) (l7 : K.lookup f7 = some ⟨oc7, od7, .func (PySem.W.fnOf "way_along" "way_along" (defArgs (top 40)) (defBody (top 40)) (defScope (top 40)) .none kV7 dc7 pm7 an7 cd7 ct7), sl7⟩) (e7 : PySem.W.codeIn K cd7 "way_along" = true) (k7 : PySem.W.keepIn K (.ref f7) = true)
  (a8 : PySem.W.nsIn K mainGlobals "is_whole" = some (some (.ref f8))) (l8 : K.lookup f8 = some ⟨oc8, od8, .func (PySem.W.fnOf "is_whole" "is_whole" (defArgs (top 7)) (defBody (top 7)) (defScope (top 7)) .none kV8 dc8 pm8 an8 cd8 ct8), sl8⟩) (e8 : PySem.W.codeIn K cd8 "is_whole" = true) (k8 : PySem.W.keepIn K (.ref f8) = true)
  (a9 : PySem.W.nsIn K mainGlobals "is_integer" = some (some (.ref f9))) (l9 : K.lookup f9 = some ⟨oc9, od9, .func (PySem.W.fnOf "is_integer" "is_integer" (defArgs (top 8)) (defBody (top 8)) (defScope (top 8)) .none kV9 dc9 pm9 an9 cd9 ct9), sl9⟩) (e9 : PySem.W.codeIn K cd9 "is_integer" = true) (k9 : PySem.W.keepIn K (.ref f9) = true)
  (a10 : PySem.W.nsIn K mainGlobals "is_side" = some (some (.ref f10))) (l10 : K.lookup f10 = some ⟨oc10, od10, .func (PySem.W.fnOf "is_side" "is_side" (defArgs (top 10)) (defBody (top 10)) (defScope (top 10)) .none kV10 dc10 pm10 an10 cd10 ct10), sl10⟩) (e10 : PySem.W.codeIn K cd10 "is_side" = true) (k10 : PySem.W.keepIn K (.ref f10) = true)
  (a11 : PySem.W.nsIn K mainGlobals "is_event" = some (some (.ref f11))) (l11 : K.lookup f11 = some ⟨oc11, od11, .func (PySem.W.fnOf "is_event" "is_event" (defArgs (top 9)) (defBody (top 9)) (defScope (top 9)) .none kV11 dc11 pm11 an11 cd11 ct11), sl11⟩) (e11 : PySem.W.codeIn K cd11 "is_event" = true) (k11 : PySem.W.keepIn K (.ref f11) = true)
  (a12 : PySem.W.nsIn K mainGlobals "is_rule" = some (some (.ref f12))) (l12 : K.lookup f12 = some ⟨oc12, od12, .func (PySem.W.fnOf "is_rule" "is_rule" (defArgs (top 11)) (defBody (top 11)) (defScope (top 11)) .none kV12 dc12 pm12 an12 cd12 ct12), sl12⟩) (e12 : PySem.W.codeIn K cd12 "is_rule" = true) (k12 : PySem.W.keepIn K (.ref f12) = true)
  (a13 : PySem.W.nsIn K mainGlobals "is_net" = some (some (.ref f13))) (l13 : K.lookup f13 = some ⟨oc13, od13, .func (PySem.W.fnOf "is_net" "is_net" (defArgs (top 12)) (defBody (top 12)) (defScope (top 12)) .none kV13 dc13 pm13 an13 cd13 ct13), sl13⟩) (e13 : PySem.W.codeIn K cd13 "is_net" = true) (k13 : PySem.W.keepIn K (.ref f13) = true)
  (a14 : PySem.W.nsIn K mainGlobals "check_net" = some (some (.ref f14))) (l14 : K.lookup f14 = some ⟨oc14, od14, .func (PySem.W.fnOf "check_net" "check_net" (defArgs (top 13)) (defBody (top 13)) (defScope (top 13)) .none kV14 dc14 pm14 an14 cd14 ct14), sl14⟩) (e14 : PySem.W.codeIn K cd14 "check_net" = true) (k14 : PySem.W.keepIn K (.ref f14) = true)
  (a15 : PySem.W.nsIn K mainGlobals "rule_excess" = some (some (.ref f15))) (l15 : K.lookup f15 = some ⟨oc15, od15, .func (PySem.W.fnOf "rule_excess" "rule_excess" (defArgs (top 14)) (defBody (top 14)) (defScope (top 14)) .none kV15 dc15 pm15 an15 cd15 ct15), sl15⟩) (e15 : PySem.W.codeIn K cd15 "rule_excess" = true) (k15 : PySem.W.keepIn K (.ref f15) = true)
  (a16 : PySem.W.nsIn K mainGlobals "rule_excesses" = some (some (.ref f16))) (l16 : K.lookup f16 = some ⟨oc16, od16, .func (PySem.W.fnOf "rule_excesses" "rule_excesses" (defArgs (top 15)) (defBody (top 15)) (defScope (top 15)) .none kV16 dc16 pm16 an16 cd16 ct16), sl16⟩) (e16 : PySem.W.codeIn K cd16 "rule_excesses" = true) (k16 : PySem.W.keepIn K (.ref f16) = true)
  (a17 : PySem.W.nsIn K mainGlobals "are_right_heights" = some (some (.ref f17))) (l17 : K.lookup f17 = some ⟨oc17, od17, .func (PySem.W.fnOf "are_right_heights" "are_right_heights" (defArgs (top 19)) (defBody (top 19)) (defScope (top 19)) .none kV17 dc17 pm17 an17 cd17 ct17), sl17⟩) (e17 : PySem.W.codeIn K cd17 "are_right_heights" = true) (k17 : PySem.W.keepIn K (.ref f17) = true)
  (a18 : PySem.W.nsIn K mainGlobals "is_news_time" = some (some (.ref f18))) (l18 : K.lookup f18 = some ⟨oc18, od18, .func (PySem.W.fnOf "is_news_time" "is_news_time" (defArgs (top 22)) (defBody (top 22)) (defScope (top 22)) .none kV18 dc18 pm18 an18 cd18 ct18), sl18⟩) (e18 : PySem.W.codeIn K cd18 "is_news_time" = true) (k18 : PySem.W.keepIn K (.ref f18) = true)
  (a19 : PySem.W.nsIn K mainGlobals "check_told_times" = some (some (.ref f19))) (l19 : K.lookup f19 = some ⟨oc19, od19, .func (PySem.W.fnOf "check_told_times" "check_told_times" (defArgs (top 30)) (defBody (top 30)) (defScope (top 30)) .none kV19 dc19 pm19 an19 cd19 ct19), sl19⟩) (e19 : PySem.W.codeIn K cd19 "check_told_times" = true) (k19 : PySem.W.keepIn K (.ref f19) = true)
  (a20 : PySem.W.nsIn K mainGlobals "check_ends" = some (some (.ref f20))) (l20 : K.lookup f20 = some ⟨oc20, od20, .func (PySem.W.fnOf "check_ends" "check_ends" (defArgs (top 31)) (defBody (top 31)) (defScope (top 31)) .none kV20 dc20 pm20 an20 cd20 ct20), sl20⟩) (e20 : PySem.W.codeIn K cd20 "check_ends" = true) (k20 : PySem.W.keepIn K (.ref f20) = true)
  (a21 : PySem.W.nsIn K mainGlobals "does_carry" = some (some (.ref f21))) (l21 : K.lookup f21 = some ⟨oc21, od21, .func (PySem.W.fnOf "does_carry" "does_carry" (defArgs (top 34)) (defBody (top 34)) (defScope (top 34)) .none kV21 dc21 pm21 an21 cd21 ct21), sl21⟩) (e21 : PySem.W.codeIn K cd21 "does_carry" = true) (k21 : PySem.W.keepIn K (.ref f21) = true)
  (a22 : PySem.W.nsIn K mainGlobals "carrying_table" = some (some (.ref f22))) (l22 : K.lookup f22 = some ⟨oc22, od22, .func (PySem.W.fnOf "carrying_table" "carrying_table" (defArgs (top 35)) (defBody (top 35)) (defScope (top 35)) .none kV22 dc22 pm22 an22 cd22 ct22), sl22⟩) (e22 : PySem.W.codeIn K cd22 "carrying_table" = true) (k22 : PySem.W.keepIn K (.ref f22) = true)
  (a23 : PySem.W.nsIn K mainGlobals "bundle_of" = some (some (.ref f23))) (l23 : K.lookup f23 = some ⟨oc23, od23, .func (PySem.W.fnOf "bundle_of" "bundle_of" (defArgs (top 36)) (defBody (top 36)) (defScope (top 36)) .none kV23 dc23 pm23 an23 cd23 ct23), sl23⟩) (e23 : PySem.W.codeIn K cd23 "bundle_of" = true) (k23 : PySem.W.keepIn K (.ref f23) = true)
  (a24 : PySem.W.nsIn K mainGlobals "is_source" = some (some (.ref f24))) (l24 : K.lookup f24 = some ⟨oc24, od24, .func (PySem.W.fnOf "is_source" "is_source" (defArgs (top 37)) (defBody (top 37)) (defScope (top 37)) .none kV24 dc24 pm24 an24 cd24 ct24), sl24⟩) (e24 : PySem.W.codeIn K cd24 "is_source" = true) (k24 : PySem.W.keepIn K (.ref f24) = true)
  (a25 : PySem.W.nsIn K mainGlobals "sources_of" = some (some (.ref f25))) (l25 : K.lookup f25 = some ⟨oc25, od25, .func (PySem.W.fnOf "sources_of" "sources_of" (defArgs (top 38)) (defBody (top 38)) (defScope (top 38)) .none kV25 dc25 pm25 an25 cd25 ct25), sl25⟩) (e25 : PySem.W.codeIn K cd25 "sources_of" = true) (k25 : PySem.W.keepIn K (.ref f25) = true)
  (a26 : PySem.W.nsIn K mainGlobals "lengths_of" = some (some (.ref f26))) (l26 : K.lookup f26 = some ⟨oc26, od26, .func (PySem.W.fnOf "lengths_of" "lengths_of" (defArgs (top 28)) (defBody (top 28)) (defScope (top 28)) .none kV26 dc26 pm26 an26 cd26 ct26), sl26⟩) (e26 : PySem.W.codeIn K cd26 "lengths_of" = true) (k26 : PySem.W.keepIn K (.ref f26) = true)
  (a27 : PySem.W.nsIn K mainGlobals "edge_course" = some (some (.ref f27))) (l27 : K.lookup f27 = some ⟨oc27, od27, .func (PySem.W.fnOf "edge_course" "edge_course" (defArgs (top 16)) (defBody (top 16)) (defScope (top 16)) .none kV27 dc27 pm27 an27 cd27 ct27), sl27⟩) (e27 : PySem.W.codeIn K cd27 "edge_course" = true) (k27 : PySem.W.keepIn K (.ref f27) = true)
  (a28 : PySem.W.nsIn K mainGlobals "all_edges" = some (some (.ref f28))) (l28 : K.lookup f28 = some ⟨oc28, od28, .func (PySem.W.fnOf "all_edges" "all_edges" (defArgs (top 17)) (defBody (top 17)) (defScope (top 17)) .none kV28 dc28 pm28 an28 cd28 ct28), sl28⟩) (e28 : PySem.W.codeIn K cd28 "all_edges" = true) (k28 : PySem.W.keepIn K (.ref f28) = true)
  (a29 : PySem.W.nsIn K mainGlobals "walks_without_edges" = some (some (.ref f29))) (l29 : K.lookup f29 = some ⟨oc29, od29, .func (PySem.W.fnOf "walks_without_edges" "walks_without_edges" (defArgs (top 24)) (defBody (top 24)) (defScope (top 24)) .none kV29 dc29 pm29 an29 cd29 ct29), sl29⟩) (e29 : PySem.W.codeIn K cd29 "walks_without_edges" = true) (k29 : PySem.W.keepIn K (.ref f29) = true)
  (a30 : PySem.W.nsIn K mainGlobals "longer_row" = some (some (.ref f30))) (l30 : K.lookup f30 = some ⟨oc30, od30, .func (PySem.W.fnOf "longer_row" "longer_row" (defArgs (top 25)) (defBody (top 25)) (defScope (top 25)) .none kV30 dc30 pm30 an30 cd30 ct30), sl30⟩) (e30 : PySem.W.codeIn K cd30 "longer_row" = true) (k30 : PySem.W.keepIn K (.ref f30) = true)
  (a31 : PySem.W.nsIn K mainGlobals "round_below" = some (some (.ref f31))) (l31 : K.lookup f31 = some ⟨oc31, od31, .func (PySem.W.fnOf "round_below" "round_below" (defArgs (top 26)) (defBody (top 26)) (defScope (top 26)) .none kV31 dc31 pm31 an31 cd31 ct31), sl31⟩) (e31 : PySem.W.codeIn K cd31 "round_below" = true) (k31 : PySem.W.keepIn K (.ref f31) = true)
  (a32 : PySem.W.nsIn K mainGlobals "least_walks" = some (some (.ref f32))) (l32 : K.lookup f32 = some ⟨oc32, od32, .func (PySem.W.fnOf "least_walks" "least_walks" (defArgs (top 27)) (defBody (top 27)) (defScope (top 27)) .none kV32 dc32 pm32 an32 cd32 ct32), sl32⟩) (e32 : PySem.W.codeIn K cd32 "least_walks" = true) (k32 : PySem.W.keepIn K (.ref f32) = true)
  (a33 : PySem.W.nsIn K mainGlobals "bounds_of" = some (some (.ref f33))) (l33 : K.lookup f33 = some ⟨oc33, od33, .func (PySem.W.fnOf "bounds_of" "bounds_of" (defArgs (top 32)) (defBody (top 32)) (defScope (top 32)) .none kV33 dc33 pm33 an33 cd33 ct33), sl33⟩) (e33 : PySem.W.codeIn K cd33 "bounds_of" = true) (k33 : PySem.W.keepIn K (.ref f33) = true)
  (a34 : PySem.W.nsIn K mainGlobals "sources" = some (some (.ref f34))) (l34 : K.lookup f34 = some ⟨oc34, od34, .func (PySem.W.fnOf "sources" "sources" (defArgs (top 39)) (defBody (top 39)) (defScope (top 39)) .none kV34 dc34 pm34 an34 cd34 ct34), sl34⟩) (e34 : PySem.W.codeIn K cd34 "sources" = true) (k34 : PySem.W.keepIn K (.ref f34) = true)
  (a35 : PySem.W.nsIn K mainGlobals "way" = some (some (.ref f35))) (l35 : K.lookup f35 = some ⟨oc35, od35, .func (PySem.W.fnOf "way" "way" (defArgs (top 41)) (defBody (top 41)) (defScope (top 41)) .none kV35 dc35 pm35 an35 cd35 ct35), sl35⟩) (e35 : PySem.W.codeIn K cd35 "way" = true) (k35 : PySem.W.keepIn K (.ref f35) = true)
  (a36 : PySem.W.nsIn K mainGlobals "_law_edges" = some (some (.ref f36))) (l36 : K.lookup f36 = some ⟨oc36, od36, .func (PySem.W.fnOf "_law_edges" "_law_edges" (defArgs (top 49)) (defBody (top 49)) (defScope (top 49)) .none kV36 dc36 pm36 an36 cd36 ct36), sl36⟩) (e36 : PySem.W.codeIn K cd36 "_law_edges" = true) (k36 : PySem.W.keepIn K (.ref f36) = true)
  (a37 : PySem.W.nsIn K mainGlobals "_law_bounds" = some (some (.ref f37))) (l37 : K.lookup f37 = some ⟨oc37, od37, .func (PySem.W.fnOf "_law_bounds" "_law_bounds" (defArgs (top 50)) (defBody (top 50)) (defScope (top 50)) .none kV37 dc37 pm37 an37 cd37 ct37), sl37⟩) (e37 : PySem.W.codeIn K cd37 "_law_bounds" = true) (k37 : PySem.W.keepIn K (.ref f37) = true)
  (a38 : PySem.W.nsIn K mainGlobals "_law_subsets" = some (some (.ref f38))) (l38 : K.lookup f38 = some ⟨oc38, od38, .func (PySem.W.fnOf "_law_subsets" "_law_subsets" (defArgs (top 53)) (defBody (top 53)) (defScope (top 53)) .none kV38 dc38 pm38 an38 cd38 ct38), sl38⟩) (e38 : PySem.W.codeIn K cd38 "_law_subsets" = true) (k38 : PySem.W.keepIn K (.ref f38) = true)
  (a39 : PySem.W.nsIn K mainGlobals "_law_joint" = some (some (.ref f39))) (l39 : K.lookup f39 = some ⟨oc39, od39, .func (PySem.W.fnOf "_law_joint" "_law_joint" (defArgs (top 51)) (defBody (top 51)) (defScope (top 51)) .none kV39 dc39 pm39 an39 cd39 ct39), sl39⟩) (e39 : PySem.W.codeIn K cd39 "_law_joint" = true) (k39 : PySem.W.keepIn K (.ref f39) = true)
  (a40 : PySem.W.nsIn K mainGlobals "_law_leads" = some (some (.ref f40))) (l40 : K.lookup f40 = some ⟨oc40, od40, .func (PySem.W.fnOf "_law_leads" "_law_leads" (defArgs (top 52)) (defBody (top 52)) (defScope (top 52)) .none kV40 dc40 pm40 an40 cd40 ct40), sl40⟩) (e40 : PySem.W.codeIn K cd40 "_law_leads" = true) (k40 : PySem.W.keepIn K (.ref f40) = true)
  (a41 : PySem.W.nsIn K mainGlobals "_law_due" = some (some (.ref f41))) (l41 : K.lookup f41 = some ⟨oc41, od41, .func (PySem.W.fnOf "_law_due" "_law_due" (defArgs (top 54)) (defBody (top 54)) (defScope (top 54)) .none kV41 dc41 pm41 an41 cd41 ct41), sl41⟩) (e41 : PySem.W.codeIn K cd41 "_law_due" = true) (k41 : PySem.W.keepIn K (.ref f41) = true)
  (a42 : PySem.W.nsIn K mainGlobals "law" = some (some (.ref f42))) (l42 : K.lookup f42 = some ⟨oc42, od42, .func (PySem.W.fnOf "law" "law" (defArgs (top 55)) (defBody (top 55)) (defScope (top 55)) .none kV42 dc42 pm42 an42 cd42 ct42), sl42⟩) (e42 : PySem.W.codeIn K cd42 "law" = true) (k42 : PySem.W.keepIn K (.ref f42) = true)
  (z0 : PySem.W.nsIn K mainGlobals "abs" = some none) (z1 : PySem.W.nsIn K mainGlobals "all" = some none) (z2 : PySem.W.nsIn K mainGlobals "any" = some none) (z3 : PySem.W.nsIn K mainGlobals "bool" = some none) (z4 : PySem.W.nsIn K mainGlobals "enumerate" = some none) (z5 : PySem.W.nsIn K mainGlobals "int" = some none) (z6 : PySem.W.nsIn K mainGlobals "isinstance" = some none) (z7 : PySem.W.nsIn K mainGlobals "len" = some none) (z8 : PySem.W.nsIn K mainGlobals "list" = some none) (z9 : PySem.W.nsIn K mainGlobals "max" = some none) (z10 : PySem.W.nsIn K mainGlobals "min" = some none) (z11 : PySem.W.nsIn K mainGlobals "range" = some none) (z12 : PySem.W.nsIn K mainGlobals "sorted" = some none) (z13 : PySem.W.nsIn K mainGlobals "str" = some none) (z14 : PySem.W.nsIn K mainGlobals "tuple" = some none) (y0 : PySem.W.nsIn K mainGlobals "GREATEST_NEWS_TIME" = some (some (.int 500 tk0))) (y1 : PySem.W.nsIn K mainGlobals "GREATEST_SIDE" = some (some (.int 100 tk1))) (y2 : PySem.W.nsIn K mainGlobals "MOST_EVENTS" = some (some (.int 6 tk2))) (y3 : PySem.W.nsIn K mainGlobals "MOST_RULES" = some (some (.int 12 tk3)))
  (pure : t_law w { nx := fun _ => False, rt := fun d => d = .bool true } (none :: some .strm :: List.replicate (N_law.length - 2) none)) :
    ∃ fd : FuncData, (∀ (s : Shared) (v : Value), BindsTo s fd ⟨[v], []⟩ [("script", v)]) ∧ ∀ base : Heap, K.In base → base.Ns mainGlobals mg → FnOk l.prog w K mg base CX0 11 fa fd ["script"] (spLaw K) := by
  have T : Txt mg := ⟨PySem.W.mg_none_of X G z0, PySem.W.mg_none_of X G z1, PySem.W.mg_none_of X G z2, PySem.W.mg_none_of X G z3, PySem.W.mg_none_of X G z4, PySem.W.mg_none_of X G z5, PySem.W.mg_none_of X G z6, PySem.W.mg_none_of X G z7, PySem.W.mg_none_of X G z8, PySem.W.mg_none_of X G z9, PySem.W.mg_none_of X G z10, PySem.W.mg_none_of X G z11, PySem.W.mg_none_of X G z12, PySem.W.mg_none_of X G z13, PySem.W.mg_none_of X G z14, ⟨_, PySem.W.mg_of X G y0⟩, ⟨_, PySem.W.mg_of X G y1⟩, ⟨_, PySem.W.mg_of X G y2⟩, ⟨_, PySem.W.mg_of X G y3⟩⟩
  have d0 : Df K mg "_law_stream" (top 43) := ⟨_, _, fun_mk (st := (top 43)) l0 e0 k0, PySem.W.mg_of X G a0⟩
  have d1 : Df K mg "_law_next" (top 44) := ⟨_, _, fun_mk (st := (top 44)) l1 e1 k1, PySem.W.mg_of X G a1⟩
  have d2 : Df K mg "_law_gap" (top 47) := ⟨_, _, fun_mk (st := (top 47)) l2 e2 k2, PySem.W.mg_of X G a2⟩
  have d3 : Df K mg "_law_net" (top 48) := ⟨_, _, fun_mk (st := (top 48)) l3 e3 k3, PySem.W.mg_of X G a3⟩
  have d4 : Df K mg "_law_is_integer" (top 45) := ⟨_, _, fun_mk (st := (top 45)) l4 e4 k4, PySem.W.mg_of X G a4⟩
  have d5 : Df K mg "_law_equal" (top 46) := ⟨_, _, fun_mk (st := (top 46)) l5 e5 k5, PySem.W.mg_of X G a5⟩
  have d6 : Df K mg "news_for" (top 33) := ⟨_, _, fun_mk (st := (top 33)) l6 e6 k6, PySem.W.mg_of X G a6⟩
  have d7 : Df K mg "way_along" (top 40) := ⟨_, _, fun_mk (st := (top 40)) l7 e7 k7, PySem.W.mg_of X G a7⟩
  have d8 : Df K mg "is_whole" (top 7) := ⟨_, _, fun_mk (st := (top 7)) l8 e8 k8, PySem.W.mg_of X G a8⟩
  have d9 : Df K mg "is_integer" (top 8) := ⟨_, _, fun_mk (st := (top 8)) l9 e9 k9, PySem.W.mg_of X G a9⟩
  have d10 : Df K mg "is_side" (top 10) := ⟨_, _, fun_mk (st := (top 10)) l10 e10 k10, PySem.W.mg_of X G a10⟩
  have d11 : Df K mg "is_event" (top 9) := ⟨_, _, fun_mk (st := (top 9)) l11 e11 k11, PySem.W.mg_of X G a11⟩
  have d12 : Df K mg "is_rule" (top 11) := ⟨_, _, fun_mk (st := (top 11)) l12 e12 k12, PySem.W.mg_of X G a12⟩
  have d13 : Df K mg "is_net" (top 12) := ⟨_, _, fun_mk (st := (top 12)) l13 e13 k13, PySem.W.mg_of X G a13⟩
  have d14 : Df K mg "check_net" (top 13) := ⟨_, _, fun_mk (st := (top 13)) l14 e14 k14, PySem.W.mg_of X G a14⟩
  have d15 : Df K mg "rule_excess" (top 14) := ⟨_, _, fun_mk (st := (top 14)) l15 e15 k15, PySem.W.mg_of X G a15⟩
  have d16 : Df K mg "rule_excesses" (top 15) := ⟨_, _, fun_mk (st := (top 15)) l16 e16 k16, PySem.W.mg_of X G a16⟩
  have d17 : Df K mg "are_right_heights" (top 19) := ⟨_, _, fun_mk (st := (top 19)) l17 e17 k17, PySem.W.mg_of X G a17⟩
  have d18 : Df K mg "is_news_time" (top 22) := ⟨_, _, fun_mk (st := (top 22)) l18 e18 k18, PySem.W.mg_of X G a18⟩
  have d19 : Df K mg "check_told_times" (top 30) := ⟨_, _, fun_mk (st := (top 30)) l19 e19 k19, PySem.W.mg_of X G a19⟩
  have d20 : Df K mg "check_ends" (top 31) := ⟨_, _, fun_mk (st := (top 31)) l20 e20 k20, PySem.W.mg_of X G a20⟩
  have d21 : Df K mg "does_carry" (top 34) := ⟨_, _, fun_mk (st := (top 34)) l21 e21 k21, PySem.W.mg_of X G a21⟩
  have d22 : Df K mg "carrying_table" (top 35) := ⟨_, _, fun_mk (st := (top 35)) l22 e22 k22, PySem.W.mg_of X G a22⟩
  have d23 : Df K mg "bundle_of" (top 36) := ⟨_, _, fun_mk (st := (top 36)) l23 e23 k23, PySem.W.mg_of X G a23⟩
  have d24 : Df K mg "is_source" (top 37) := ⟨_, _, fun_mk (st := (top 37)) l24 e24 k24, PySem.W.mg_of X G a24⟩
  have d25 : Df K mg "sources_of" (top 38) := ⟨_, _, fun_mk (st := (top 38)) l25 e25 k25, PySem.W.mg_of X G a25⟩
  have d26 : Df K mg "lengths_of" (top 28) := ⟨_, _, fun_mk (st := (top 28)) l26 e26 k26, PySem.W.mg_of X G a26⟩
  have d27 : Df K mg "edge_course" (top 16) := ⟨_, _, fun_mk (st := (top 16)) l27 e27 k27, PySem.W.mg_of X G a27⟩
  have d28 : Df K mg "all_edges" (top 17) := ⟨_, _, fun_mk (st := (top 17)) l28 e28 k28, PySem.W.mg_of X G a28⟩
  have d29 : Df K mg "walks_without_edges" (top 24) := ⟨_, _, fun_mk (st := (top 24)) l29 e29 k29, PySem.W.mg_of X G a29⟩
  have d30 : Df K mg "longer_row" (top 25) := ⟨_, _, fun_mk (st := (top 25)) l30 e30 k30, PySem.W.mg_of X G a30⟩
  have d31 : Df K mg "round_below" (top 26) := ⟨_, _, fun_mk (st := (top 26)) l31 e31 k31, PySem.W.mg_of X G a31⟩
  have d32 : Df K mg "least_walks" (top 27) := ⟨_, _, fun_mk (st := (top 27)) l32 e32 k32, PySem.W.mg_of X G a32⟩
  have d33 : Df K mg "bounds_of" (top 32) := ⟨_, _, fun_mk (st := (top 32)) l33 e33 k33, PySem.W.mg_of X G a33⟩
  have d34 : Df K mg "sources" (top 39) := ⟨_, _, fun_mk (st := (top 39)) l34 e34 k34, PySem.W.mg_of X G a34⟩
  have d35 : Df K mg "way" (top 41) := ⟨_, _, fun_mk (st := (top 41)) l35 e35 k35, PySem.W.mg_of X G a35⟩
  have d36 : Df K mg "_law_edges" (top 49) := ⟨_, _, fun_mk (st := (top 49)) l36 e36 k36, PySem.W.mg_of X G a36⟩
  have d37 : Df K mg "_law_bounds" (top 50) := ⟨_, _, fun_mk (st := (top 50)) l37 e37 k37, PySem.W.mg_of X G a37⟩
  have d38 : Df K mg "_law_subsets" (top 53) := ⟨_, _, fun_mk (st := (top 53)) l38 e38 k38, PySem.W.mg_of X G a38⟩
  have d39 : Df K mg "_law_joint" (top 51) := ⟨_, _, fun_mk (st := (top 51)) l39 e39 k39, PySem.W.mg_of X G a39⟩
  have d40 : Df K mg "_law_leads" (top 52) := ⟨_, _, fun_mk (st := (top 52)) l40 e40 k40, PySem.W.mg_of X G a40⟩
  have d41 : Df K mg "_law_due" (top 54) := ⟨_, _, fun_mk (st := (top 54)) l41 e41 k41, PySem.W.mg_of X G a41⟩
  have e := hfa.symm.trans (PySem.W.mg_of X G a42)
  cases e
  refine ⟨PySem.W.fnOf "law" "law" (defArgs (top 55)) (defBody (top 55)) (defScope (top 55)) .none kV42 dc42 pm42 an42 cd42 ct42, fun s v => .of_eq rfl, fun base _ _ => ?_⟩
  have G_L_stream : Fx l.prog w K mg base 1 "_law_stream" ["script"] (spStream K) := fx_L_stream d0 T 
  have G_L_next : Fx l.prog w K mg base 1 "_law_next" ["stream", "many"] (spS K 1 f_next) := fx_L_next d1 T 
  have G_L_gap : Fx l.prog w K mg base 2 "_law_gap" ["stream", "start", "end", "first", "second"] (spS K 4 f_L_gap) := fx_L_gap d2 T G_L_next
  have G_L_net : Fx l.prog w K mg base 3 "_law_net" ["stream", "least", "most", "many", "wide"] (spS K 4 f_L_net) := fx_L_net d3 T G_L_next G_L_gap
  have G_L_is_integer : Fx l.prog w K mg base 1 "_law_is_integer" ["actual"] (spD K 1 f_L_is_integer) := fx_L_is_integer d4 T 
  have G_L_equal : Fx l.prog w K mg base 9 "_law_equal" ["actual", "due"] (spD K 2 (f_equal 8)) := fx_L_equal d5 T G_L_is_integer
  have G_news_for : Fx l.prog w K mg base 1 "news_for" ["events", "second"] (spD K 2 f_news_for) := fx_news_for d6 T 
  have G_way_along : Fx l.prog w K mg base 2 "way_along" ["found", "second"] (spD K 2 f_way_along) := fx_way_along d7 T G_news_for
  have G_is_whole : Fx l.prog w K mg base 1 "is_whole" ["value"] (spD K 1 f_is_whole) := fx_is_whole d8 T 
  have G_is_integer : Fx l.prog w K mg base 2 "is_integer" ["value", "least", "greatest"] (spD K 3 f_is_integer) := fx_is_integer d9 T G_is_whole
  have G_is_side : Fx l.prog w K mg base 3 "is_side" ["value"] (spD K 1 f_is_side) := fx_is_side d10 T G_is_integer
  have G_is_event : Fx l.prog w K mg base 3 "is_event" ["value", "size"] (spD K 2 f_is_event) := fx_is_event d11 T G_is_integer
  have G_is_rule : Fx l.prog w K mg base 4 "is_rule" ["value", "size"] (spD K 2 f_is_rule) := fx_is_rule d12 T G_is_side G_is_event
  have G_is_net : Fx l.prog w K mg base 5 "is_net" ["value"] (spD K 1 f_is_net) := fx_is_net d13 T G_is_integer G_is_rule
  have G_check_net : Fx l.prog w K mg base 6 "check_net" ["net"] (spD K 1 f_check_net) := fx_check_net d14 T G_is_net
  have G_rule_excess : Fx l.prog w K mg base 1 "rule_excess" ["rule", "times"] (spD K 2 f_rule_excess) := fx_rule_excess d15 T 
  have G_rule_excesses : Fx l.prog w K mg base 2 "rule_excesses" ["net", "times"] (spD K 2 f_rule_excesses) := fx_rule_excesses d16 T G_rule_excess
  have G_are_right_heights : Fx l.prog w K mg base 3 "are_right_heights" ["net", "value"] (spD K 2 f_are_right_heights) := fx_are_right_heights d17 T G_is_whole G_rule_excesses
  have G_is_news_time : Fx l.prog w K mg base 3 "is_news_time" ["value"] (spD K 1 f_is_news_time) := fx_is_news_time d18 T G_is_integer
  have G_check_told_times : Fx l.prog w K mg base 4 "check_told_times" ["net", "name", "times"] (spD K 3 f_check_told_times) := fx_check_told_times d19 T G_are_right_heights G_is_news_time
  have G_check_ends : Fx l.prog w K mg base 7 "check_ends" ["net", "first", "second"] (spD K 3 f_check_ends) := fx_check_ends d20 T G_check_net G_check_told_times
  have G_does_carry : Fx l.prog w K mg base 1 "does_carry" ["bounds", "first", "second", "event", "other"] (spD K 5 f_does_carry) := fx_does_carry d21 T 
  have G_carrying_table : Fx l.prog w K mg base 2 "carrying_table" ["bounds", "first", "second"] (spD K 3 f_carrying_table) := fx_carrying_table d22 T G_does_carry
  have G_bundle_of : Fx l.prog w K mg base 1 "bundle_of" ["carrying", "event"] (spD K 2 f_bundle_of) := fx_bundle_of d23 T 
  have G_is_source : Fx l.prog w K mg base 1 "is_source" ["carrying", "bundle"] (spD K 2 f_is_source) := fx_is_source d24 T 
  have G_sources_of : Fx l.prog w K mg base 3 "sources_of" ["bounds", "first", "second"] (spD K 3 f_sources_of) := fx_sources_of d25 T G_carrying_table G_bundle_of G_is_source
  have G_lengths_of : Fx l.prog w K mg base 1 "lengths_of" ["walks"] (spD K 1 f_lengths_of) := fx_lengths_of d26 T 
  have G_edge_course : Fx l.prog w K mg base 3 "edge_course" ["net", "value"] (spD K 2 f_edge_course) := fx_edge_course d27 T G_is_integer
  have G_all_edges : Fx l.prog w K mg base 4 "all_edges" ["net"] (spD K 1 f_all_edges) := fx_all_edges d28 T G_edge_course
  have G_walks_without_edges : Fx l.prog w K mg base 1 "walks_without_edges" ["size"] (spD K 1 f_walks_without_edges) := fx_walks_without_edges d29 T 
  have G_longer_row : Fx l.prog w K mg base 1 "longer_row" ["row", "courses"] (spD K 2 f_longer_row) := fx_longer_row d30 T 
  have G_round_below : Fx l.prog w K mg base 1 "round_below" ["walks"] (spD K 1 f_round_below) := fx_round_below d31 T 
  have G_least_walks : Fx l.prog w K mg base 5 "least_walks" ["net"] (spD K 1 f_least_walks) := fx_least_walks d32 T G_all_edges G_walks_without_edges G_longer_row G_round_below
  have G_bounds_of : Fx l.prog w K mg base 6 "bounds_of" ["net"] (spD K 1 f_bounds_of) := fx_bounds_of d33 T G_lengths_of G_least_walks
  have G_sources : Fx l.prog w K mg base 8 "sources" ["net", "first", "second"] (spD K 3 f_sources) := fx_sources d34 T G_check_ends G_sources_of G_bounds_of
  have G_way : Fx l.prog w K mg base 9 "way" ["net", "first", "second"] (spD K 3 f_way) := fx_way d35 T G_way_along G_sources
  have G_L_edges : Fx l.prog w K mg base 1 "_law_edges" ["net"] (spD K 1 f_L_edges) := fx_L_edges d36 T 
  have G_L_bounds : Fx l.prog w K mg base 2 "_law_bounds" ["net"] (spD K 1 (f_L_bounds w)) := fx_L_bounds d37 T G_L_edges
  have G_L_subsets : Fx l.prog w K mg base 1 "_law_subsets" ["size"] (spD K 1 f_L_subsets) := fx_L_subsets d38 T 
  have G_L_joint : Fx l.prog w K mg base 1 "_law_joint" ["bounds", "times", "news"] (spD K 3 f_L_joint) := fx_L_joint d39 T 
  have G_L_leads : Fx l.prog w K mg base 2 "_law_leads" ["bounds", "first", "second", "chosen"] (spD K 4 f_L_leads) := fx_L_leads d40 T G_L_joint
  have G_L_due : Fx l.prog w K mg base 3 "_law_due" ["net", "first", "second"] (spD K 3 (f_L_due w)) := fx_L_due d41 T G_L_bounds G_L_subsets G_L_leads
  exact fx_law (fun_mk (st := (top 55)) l42 e42 k42) T G_L_stream G_L_net G_L_equal G_way G_L_due pure
theorem walk {l : PySem.W.OpenLaw} {q : Program} {loose : List Str} {XP : (Str → Option Value) → Heap → Prop} {YP : World → Heap → Prop} {d : DefRec} {K : Params → PySem.W.Frag} (hn : l.most = some 63) (hdf : d.params.defaults = [])
    (hY : ∀ (w : World) (h : Heap), YP w h → (K w.params).In h)
    (F : ∀ (w : World) (mg : Str → Option Value) (fa : Addr) (h : Heap), (K w.params).In h → h.Ns mainGlobals mg → mg d.name = some (.ref fa) →
      ∃ fd : FuncData, (∀ (s : Shared) (u : Value), BindsTo s fd ⟨[u], []⟩ [("script", u)]) ∧ ∀ base : Heap, (K w.params).In base → base.Ns mainGlobals mg → FnOk l.prog w (K w.params) mg base CX0 11 fa fd ["script"] (spLaw (K w.params))) :
    PySem.W.WalkO q loose XP YP l.row.toRowW d [] (fun f vs => PySem.call f vs) :=
  L2.walk_of (n := 63) (k := 11) (x := "script") (CX := fun _ => CX0) (sp := fun w => spLaw (K w.params)) hn (by decide) hdf ⟨rfl, by decide, by decide⟩ hY F (fun _ _ a ns hl _ hS => ⟨a, ns, rfl, hS, hl, fun _ => rfl⟩) fun _ _ _ _ _ z => z
end Law
open PySem PySem.W PyProof.Rows in
set_option maxRecDepth 100000 in
set_option maxHeartbeats 0 in
theorem PySem.Challenge.cw_allbide_k60_whole_ways_holds : PySem.Challenge.rw_allbide_k60_whole_ways.Holds := by
  w_on; o_law; k_head; (case hw => w_witness2)
  k_fill
  refine Law.walk (l := PySem.Challenge.rw_allbide_k60_whole_ways) rfl rfl (fun w h Y => PySem.W.kIn_of Y) ?F
  case F =>
    intro w mg fa h KX G hmg
    refine' Law.all_mk KX G hmg ?a0 ?l0 ?e0 ?k0 ?a1 ?l1 ?e1 ?k1 ?a2 ?l2 ?e2 ?k2 ?a3 ?l3 ?e3 ?k3 ?a4 ?l4 ?e4 ?k4 ?a5 ?l5 ?e5 ?k5 ?a6 ?l6 ?e6 ?k6 ?a7 ?l7 ?e7 ?k7 ?a8 ?l8 ?e8 ?k8 ?a9 ?l9 ?e9 ?k9 ?a10 ?l10 ?e10 ?k10 ?a11 ?l11 ?e11 ?k11 ?a12 ?l12 ?e12 ?k12 ?a13 ?l13 ?e13 ?k13 ?a14 ?l14 ?e14 ?k14 ?a15 ?l15 ?e15 ?k15 ?a16 ?l16 ?e16 ?k16 ?a17 ?l17 ?e17 ?k17 ?a18 ?l18 ?e18 ?k18 ?a19 ?l19 ?e19 ?k19 ?a20 ?l20 ?e20 ?k20 ?a21 ?l21 ?e21 ?k21 ?a22 ?l22 ?e22 ?k22 ?a23 ?l23 ?e23 ?k23 ?a24 ?l24 ?e24 ?k24 ?a25 ?l25 ?e25 ?k25 ?a26 ?l26 ?e26 ?k26 ?a27 ?l27 ?e27 ?k27 ?a28 ?l28 ?e28 ?k28 ?a29 ?l29 ?e29 ?k29 ?a30 ?l30 ?e30 ?k30 ?a31 ?l31 ?e31 ?k31 ?a32 ?l32 ?e32 ?k32 ?a33 ?l33 ?e33 ?k33 ?a34 ?l34 ?e34 ?k34 ?a35 ?l35 ?e35 ?k35 ?a36 ?l36 ?e36 ?k36 ?a37 ?l37 ?e37 ?k37 ?a38 ?l38 ?e38 ?k38 ?a39 ?l39 ?e39 ?k39 ?a40 ?l40 ?e40 ?k40 ?a41 ?l41 ?e41 ?k41 ?a42 ?l42 ?e42 ?k42 ?z0 ?z1 ?z2 ?z3 ?z4 ?z5 ?z6 ?z7 ?z8 ?z9 ?z10 ?z11 ?z12 ?z13 ?z14 ?y0 ?y1 ?y2 ?y3 (Law.pure_law w)
    (case a0 => k_is)
    (case l0 => k_is)
    (case e0 => k_is)
    (case k0 => k_is)
    (case a1 => k_is)
    (case l1 => k_is)
    (case e1 => k_is)
    (case k1 => k_is)
    (case a2 => k_is)
    (case l2 => k_is)
    (case e2 => k_is)
    (case k2 => k_is)
    (case a3 => k_is)
    (case l3 => k_is)
    (case e3 => k_is)
    (case k3 => k_is)
    (case a4 => k_is)
    (case l4 => k_is)
    (case e4 => k_is)
    (case k4 => k_is)
    (case a5 => k_is)
    (case l5 => k_is)
    (case e5 => k_is)
    (case k5 => k_is)
    (case a6 => k_is)
    (case l6 => k_is)
    (case e6 => k_is)
    (case k6 => k_is)
    (case a7 => k_is)
    (case l7 => k_is)
    (case e7 => k_is)
    (case k7 => k_is)
    (case a8 => k_is)
    (case l8 => k_is)
    (case e8 => k_is)
    (case k8 => k_is)
    (case a9 => k_is)
    (case l9 => k_is)
    (case e9 => k_is)
    (case k9 => k_is)
    (case a10 => k_is)
    (case l10 => k_is)
    (case e10 => k_is)
    (case k10 => k_is)
    (case a11 => k_is)
    (case l11 => k_is)
    (case e11 => k_is)
    (case k11 => k_is)
    (case a12 => k_is)
    (case l12 => k_is)
    (case e12 => k_is)
    (case k12 => k_is)
    (case a13 => k_is)
    (case l13 => k_is)
    (case e13 => k_is)
    (case k13 => k_is)
    (case a14 => k_is)
    (case l14 => k_is)
    (case e14 => k_is)
    (case k14 => k_is)
    (case a15 => k_is)
    (case l15 => k_is)
    (case e15 => k_is)
    (case k15 => k_is)
    (case a16 => k_is)
    (case l16 => k_is)
    (case e16 => k_is)
    (case k16 => k_is)
    (case a17 => k_is)
    (case l17 => k_is)
    (case e17 => k_is)
    (case k17 => k_is)
    (case a18 => k_is)
    (case l18 => k_is)
    (case e18 => k_is)
    (case k18 => k_is)
    (case a19 => k_is)
    (case l19 => k_is)
    (case e19 => k_is)
    (case k19 => k_is)
    (case a20 => k_is)
    (case l20 => k_is)
    (case e20 => k_is)
    (case k20 => k_is)
    (case a21 => k_is)
    (case l21 => k_is)
    (case e21 => k_is)
    (case k21 => k_is)
    (case a22 => k_is)
    (case l22 => k_is)
    (case e22 => k_is)
    (case k22 => k_is)
    (case a23 => k_is)
    (case l23 => k_is)
    (case e23 => k_is)
    (case k23 => k_is)
    (case a24 => k_is)
    (case l24 => k_is)
    (case e24 => k_is)
    (case k24 => k_is)
    (case a25 => k_is)
    (case l25 => k_is)
    (case e25 => k_is)
    (case k25 => k_is)
    (case a26 => k_is)
    (case l26 => k_is)
    (case e26 => k_is)
    (case k26 => k_is)
    (case a27 => k_is)
    (case l27 => k_is)
    (case e27 => k_is)
    (case k27 => k_is)
    (case a28 => k_is)
    (case l28 => k_is)
    (case e28 => k_is)
    (case k28 => k_is)
    (case a29 => k_is)
    (case l29 => k_is)
    (case e29 => k_is)
    (case k29 => k_is)
    (case a30 => k_is)
    (case l30 => k_is)
    (case e30 => k_is)
    (case k30 => k_is)
    (case a31 => k_is)
    (case l31 => k_is)
    (case e31 => k_is)
    (case k31 => k_is)
    (case a32 => k_is)
    (case l32 => k_is)
    (case e32 => k_is)
    (case k32 => k_is)
    (case a33 => k_is)
    (case l33 => k_is)
    (case e33 => k_is)
    (case k33 => k_is)
    (case a34 => k_is)
    (case l34 => k_is)
    (case e34 => k_is)
    (case k34 => k_is)
    (case a35 => k_is)
    (case l35 => k_is)
    (case e35 => k_is)
    (case k35 => k_is)
    (case a36 => k_is)
    (case l36 => k_is)
    (case e36 => k_is)
    (case k36 => k_is)
    (case a37 => k_is)
    (case l37 => k_is)
    (case e37 => k_is)
    (case k37 => k_is)
    (case a38 => k_is)
    (case l38 => k_is)
    (case e38 => k_is)
    (case k38 => k_is)
    (case a39 => k_is)
    (case l39 => k_is)
    (case e39 => k_is)
    (case k39 => k_is)
    (case a40 => k_is)
    (case l40 => k_is)
    (case e40 => k_is)
    (case k40 => k_is)
    (case a41 => k_is)
    (case l41 => k_is)
    (case e41 => k_is)
    (case k41 => k_is)
    (case a42 => k_is)
    (case l42 => k_is)
    (case e42 => k_is)
    (case k42 => k_is)
    (case z0 => k_is)
    (case z1 => k_is)
    (case z2 => k_is)
    (case z3 => k_is)
    (case z4 => k_is)
    (case z5 => k_is)
    (case z6 => k_is)
    (case z7 => k_is)
    (case z8 => k_is)
    (case z9 => k_is)
    (case z10 => k_is)
    (case z11 => k_is)
    (case z12 => k_is)
    (case z13 => k_is)
    (case z14 => k_is)
    (case y0 => k_is)
    (case y1 => k_is)
    (case y2 => k_is)
    (case y3 => k_is)
