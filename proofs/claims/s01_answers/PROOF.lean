import PyProof.Rows.All
import Wide.All
import OpenK.AllK
import Wide.FinOn
import Open.SpecLaws
import KE.OsGo
import HandS.ForSpec
import HandS.Comp
import HandS.Dict
import HandS.Iter
import HandS.Conv
import HandS.Deep
import HandS.TupAny
import HandS.SortInts
import HandS.SortKw
import HandS.Zip
import HandS.Flow
import HandS.WordsDict
import HandS.Text
import HandS.Wide
import HandS.Walk
import KE.SortKeyHeap
import PySem.Challenge.RW_shapecores_s01_answers

set_option Elab.async false
set_option linter.all false

set_option autoImplicit false
namespace Sc
open Classical

/-! ### lists -/
theorem nodup_subset_length {α : Type} : ∀ {l m : List α}, l.Nodup → (∀ x ∈ l, x ∈ m) → l.length ≤ m.length
  | [], _, _, _ => Nat.zero_le _
  | a :: l, m, hn, hs => by
    have hn' := List.nodup_cons.mp hn
    have ha : a ∈ m := hs a (List.mem_cons_self ..)
    obtain ⟨s, t, rfl⟩ := List.append_of_mem ha
    have h : ∀ x ∈ l, x ∈ s ++ t := by
      intro x hx
      have hxm := hs x (List.mem_cons_of_mem _ hx)
      have hne : x ≠ a := by
        intro e
        exact hn'.1 (e ▸ hx)
      simp only [List.mem_append, List.mem_cons] at hxm ⊢
      rcases hxm with h | h | h
      · exact Or.inl h
      · exact absurd h hne
      · exact Or.inr h
    have := nodup_subset_length hn'.2 h
    simp only [List.length_append, List.length_cons] at this ⊢
    omega

theorem nodup_filter {α : Type} {p : α → Bool} {l : List α} (h : l.Nodup) : (l.filter p).Nodup :=
  List.Pairwise.sublist List.filter_sublist h

/-- one gone: what is counted -/
theorem countP_without {α : Type} (p q : α → Bool) (x : α) : ∀ {l : List α}, l.Nodup → x ∈ l → (∀ y ∈ l, q y = true ↔ y ≠ x) →
    (l.filter q).countP p + (if p x = true then 1 else 0) = l.countP p
  | [], _, hx, _ => by cases hx
  | a :: l, hn, hx, hq => by
    have hn' := List.nodup_cons.mp hn
    by_cases e : a = x
    · subst e
      have hqa : q a = false := by
        cases h : q a
        · rfl
        · exact absurd rfl ((hq a (List.mem_cons_self ..)).mp h)
      have hall : l.filter q = l := by
        apply List.filter_eq_self.mpr
        intro y hy
        apply (hq y (List.mem_cons_of_mem _ hy)).mpr
        intro e
        exact hn'.1 (e ▸ hy)
      rw [List.filter_cons_of_neg (by simp [hqa]), hall, List.countP_cons]
    · have hqa : q a = true := (hq a (List.mem_cons_self ..)).mpr e
      have hx' : x ∈ l := by
        rcases List.mem_cons.mp hx with h | h
        · exact absurd h.symm e
        · exact h
      have ih := countP_without p q x hn'.2 hx' (fun y hy => hq y (List.mem_cons_of_mem _ hy))
      rw [List.filter_cons_of_pos hqa, List.countP_cons, List.countP_cons]
      omega

theorem countP_eq {α : Type} {p q : α → Bool} : ∀ {l : List α}, (∀ x ∈ l, p x = q x) → l.countP p = l.countP q
  | [], _ => rfl
  | a :: l, h => by
    rw [List.countP_cons, List.countP_cons, countP_eq (fun x hx => h x (List.mem_cons_of_mem _ hx)), h a (List.mem_cons_self ..)]

/-- one that counts here and not there -/
theorem countP_less {α : Type} {p q : α → Bool} (x : α) : ∀ {l : List α}, l.Nodup → x ∈ l → p x = true → q x = false → (∀ y ∈ l, y ≠ x → p y = q y) →
    l.countP p = l.countP q + 1
  | [], _, hx, _, _, _ => by cases hx
  | a :: l, hn, hx, hp, hq, h => by
    have hn' := List.nodup_cons.mp hn
    by_cases e : a = x
    · subst e
      have := countP_eq (p := p) (q := q) (l := l) fun y hy => h y (List.mem_cons_of_mem _ hy) (fun e => hn'.1 (e ▸ hy))
      rw [List.countP_cons, List.countP_cons, hp, hq, this]
      simp
    · have hx' : x ∈ l := by
        rcases List.mem_cons.mp hx with h | h
        · exact absurd h.symm e
        · exact h
      have ih := countP_less x hn'.2 hx' hp hq (fun y hy => h y (List.mem_cons_of_mem _ hy))
      rw [List.countP_cons, List.countP_cons, h a (List.mem_cons_self ..) e]
      omega

/-! ### what hangs together -/
inductive Conn (R : Nat → Nat → Prop) : Nat → Nat → Prop
  | refl (a : Nat) : Conn R a a
  | step {a b d : Nat} : Conn R a b → R b d → Conn R a d

variable {R R' : Nat → Nat → Prop}

theorem Conn.trans {a b d : Nat} (h : Conn R a b) (k : Conn R b d) : Conn R a d := by
  induction k with
  | refl => exact h
  | step _ r ih => exact .step ih r

theorem Conn.symm (hs : ∀ a b, R a b → R b a) {a b : Nat} (h : Conn R a b) : Conn R b a := by
  induction h with
  | refl => exact .refl _
  | step _ r ih => exact Conn.trans (.step (.refl _) (hs _ _ r)) ih

theorem Conn.mono (h : ∀ a b, R a b → Conn R' a b) {a b : Nat} (k : Conn R a b) : Conn R' a b := by
  induction k with
  | refl => exact .refl _
  | step _ r ih => exact ih.trans (h _ _ r)

/-- the least of those that hang together with it -/
def IsMin (R : Nat → Nat → Prop) (v : Nat) : Prop := ∀ u, Conn R u v → v ≤ u

noncomputable def comp (R : Nat → Nat → Prop) (V : List Nat) : Nat := V.countP fun v => decide (IsMin R v)

theorem comp_congr (h : ∀ a b, R a b → Conn R' a b) (k : ∀ a b, R' a b → Conn R a b) (V : List Nat) : comp R V = comp R' V := by
  unfold comp
  apply countP_eq
  intro v _
  have : IsMin R v ↔ IsMin R' v := ⟨fun m u c => m u (c.mono k), fun m u c => m u (c.mono h)⟩
  simp only [this]

theorem exists_min (R : Nat → Nat → Prop) (a : Nat) : ∃ m, Conn R m a ∧ ∀ u, Conn R u a → m ≤ u := by
  have : ∀ n, ∀ b, b ≤ n → Conn R b a → ∃ m, Conn R m a ∧ ∀ u, Conn R u a → m ≤ u := by
    intro n
    induction n with
    | zero =>
      intro b hb hc
      exact ⟨b, hc, fun u _ => by omega⟩
    | succ n ih =>
      intro b hb hc
      by_cases h : ∃ u, Conn R u a ∧ u < b
      · obtain ⟨u, hu, hl⟩ := h
        exact ih u (by omega) hu
      · refine ⟨b, hc, fun u hu => ?_⟩
        by_cases hl : u < b
        · exact absurd ⟨u, hu, hl⟩ h
        · omega
  exact this a a (Nat.le_refl _) (.refl a)

/-- with one edge more -/
def More (R : Nat → Nat → Prop) (a b : Nat) : Nat → Nat → Prop := fun u v => R u v ∨ (u = a ∧ v = b) ∨ (u = b ∧ v = a)

theorem more_conn (hs : ∀ a b, R a b → R b a) {a b u v : Nat} (h : Conn (More R a b) u v) :
    Conn R u v ∨ (Conn R u a ∧ Conn R b v) ∨ (Conn R u b ∧ Conn R a v) := by
  induction h with
  | refl => exact .inl (.refl _)
  | step _ r ih =>
    rename_i x y _
    rcases r with r | ⟨rfl, rfl⟩ | ⟨rfl, rfl⟩
    · rcases ih with i | ⟨i, j⟩ | ⟨i, j⟩
      · exact .inl (.step i r)
      · exact .inr (.inl ⟨i, .step j r⟩)
      · exact .inr (.inr ⟨i, .step j r⟩)
    · rcases ih with i | ⟨i, j⟩ | ⟨i, j⟩
      · exact .inr (.inl ⟨i, .refl _⟩)
      · exact .inr (.inl ⟨i, .refl _⟩)
      · exact .inl i
    · rcases ih with i | ⟨i, j⟩ | ⟨i, j⟩
      · exact .inr (.inr ⟨i, .refl _⟩)
      · exact .inl i
      · exact .inr (.inr ⟨i, .refl _⟩)

theorem Conn.more {a b u v : Nat} (h : Conn R u v) : Conn (More R a b) u v := h.mono fun _ _ r => .step (.refl _) (.inl r)
theorem Conn.newEdge {a b : Nat} : Conn (More R a b) a b := .step (.refl _) (.inr (.inl ⟨rfl, rfl⟩))
theorem Conn.newEdge' {a b : Nat} : Conn (More R a b) b a := .step (.refl _) (.inr (.inr ⟨rfl, rfl⟩))

/-- an edge between two parts makes one of them -/
theorem comp_more_aux (hs : ∀ a b, R a b → R b a) {a b ma mb : Nat} {V : List Nat} (hV : V.Nodup) (hab : ¬ Conn R a b)
    (hma : Conn R ma a) (hma' : ∀ u, Conn R u a → ma ≤ u) (hmb : Conn R mb b) (hmb' : ∀ u, Conn R u b → mb ≤ u) (hlt : ma < mb)
    (hin : mb ∈ V) : comp R V = comp (More R a b) V + 1 := by
  unfold comp
  refine countP_less mb hV hin ?_ ?_ ?_
  · simp only [decide_eq_true_eq]
    intro u hu
    exact hmb' u (hu.trans hmb)
  · simp only [decide_eq_false_iff_not]
    intro m
    have : Conn (More R a b) ma mb := (hma.more).trans ((Conn.newEdge).trans (hmb.symm hs).more)
    have := m ma this
    omega
  · intro y _ hy
    have : IsMin R y ↔ IsMin (More R a b) y := by
      constructor
      · intro m u hu
        rcases more_conn hs hu with h | ⟨h1, h2⟩ | ⟨h1, h2⟩
        · exact m u h
        · -- y hangs together with b: y = mb
          have e1 : y ≤ mb := m mb (hmb.trans h2)
          have e2 : mb ≤ y := hmb' y (h2.symm hs)
          omega
        · -- y with a, u with b
          have e1 : y ≤ ma := m ma (hma.trans h2)
          have e2 : mb ≤ u := hmb' u h1
          omega
      · intro m u hu
        exact m u hu.more
    simp only [this]

theorem comp_more (hs : ∀ a b, R a b → R b a) {a b : Nat} {V : List Nat} (hV : V.Nodup) (hab : ¬ Conn R a b)
    (ha : ∀ u, Conn R u a → u ∈ V) (hb : ∀ u, Conn R u b → u ∈ V) : comp R V = comp (More R a b) V + 1 := by
  obtain ⟨ma, hma, hma'⟩ := exists_min R a
  obtain ⟨mb, hmb, hmb'⟩ := exists_min R b
  have hne : ma ≠ mb := by
    intro e
    subst e
    exact hab ((hma.symm hs).trans hmb)
  rcases Nat.lt_or_gt_of_ne hne with h | h
  · exact comp_more_aux hs hV hab hma hma' hmb hmb' h (hb _ hmb)
  · have hab' : ¬ Conn R b a := fun h => hab (h.symm hs)
    have e := comp_more_aux hs hV hab' hmb hmb' hma hma' h (ha _ hma)
    rw [e]
    congr 1
    apply comp_congr
    · intro u v r
      exact .step (.refl _) (by rcases r with r | r | r; exact .inl r; exact .inr (.inr r); exact .inr (.inl r))
    · intro u v r
      exact .step (.refl _) (by rcases r with r | r | r; exact .inl r; exact .inr (.inr r); exact .inr (.inl r))

/-- one that hangs together with none but itself -/
theorem comp_lone {x : Nat} {V W : List Nat} (hV : V.Nodup) (hx : x ∈ V) (hl : ∀ u, Conn R u x → u = x) (hW : W = V.filter fun y => decide (y ≠ x)) :
    comp R V = comp R W + 1 := by
  subst hW
  unfold comp
  have := countP_without (fun v => decide (IsMin R v)) (fun y => decide (y ≠ x)) x hV hx (fun y _ => by simp)
  rw [if_pos] at this
  · exact this.symm
  · simp only [decide_eq_true_eq]
    intro u hu
    rw [hl u hu]
    exact Nat.le_refl _
end Sc

set_option autoImplicit false
namespace Sc
open Classical
open HoBase Ho04

/-! ### rows that rise -/
abbrev Rises (x : List Nat) : Prop := x.Pairwise (· < ·)

theorem rises_nodup {x : List Nat} (h : Rises x) : x.Nodup := h.imp fun h => Nat.ne_of_lt h

theorem sub_of_subset : ∀ {x y : List Nat}, Rises x → Rises y → (∀ a ∈ x, a ∈ y) → x.Sublist y
  | [], y, _, _, _ => List.nil_sublist y
  | a :: x, [], _, _, h => by cases h a (List.mem_cons_self ..)
  | a :: x, b :: y, hx, hy, h => by
    have hx' := List.pairwise_cons.mp hx
    have hy' := List.pairwise_cons.mp hy
    by_cases e : a = b
    · subst e
      refine List.Sublist.cons_cons a (sub_of_subset hx'.2 hy'.2 fun z hz => ?_)
      have hlt := hx'.1 z hz
      rcases List.mem_cons.mp (h z (List.mem_cons_of_mem _ hz)) with k | k
      · omega
      · exact k
    · have hab : b < a := by
        rcases List.mem_cons.mp (h a (List.mem_cons_self ..)) with k | k
        · exact absurd k e
        · exact hy'.1 a k
      refine List.Sublist.cons b (sub_of_subset hx hy'.2 fun z hz => ?_)
      have hz' := h z hz
      have : b < z := by
        rcases List.mem_cons.mp hz with k | k
        · omega
        · have := hx'.1 z k
          omega
      rcases List.mem_cons.mp hz' with k | k
      · omega
      · exact k

theorem within_iff {x y : List Nat} : within x y = true ↔ ∀ a ∈ x, a ∈ y := by
  unfold within
  rw [List.all_eq_true]
  constructor
  · intro h a ha
    exact List.contains_iff_mem.mp (h a ha)
  · intro h a ha
    exact List.contains_iff_mem.mpr (h a ha)

theorem rises_eq {x y : List Nat} (hx : Rises x) (hy : Rises y) (h : ∀ a, a ∈ x ↔ a ∈ y) : x = y := by
  have h1 := sub_of_subset hx hy fun a ha => (h a).mp ha
  have h2 := sub_of_subset hy hx fun a ha => (h a).mpr ha
  exact h1.eq_of_length_le h2.length_le

/-! ### shapes -/
structure Good (c : Cx) : Prop where
  nd : c.Nodup
  len : ∀ x ∈ c, 1 ≤ x.length ∧ x.length ≤ 4
  ris : ∀ x ∈ c, Rises x
  clo : ∀ x ∈ c, ∀ y : Sim, y ≠ [] → y.Sublist x → y ∈ c

def Flat (c : Cx) : Prop := ∀ x ∈ c, x.length ≤ 3

def rm (c : Cx) (z : Sim) : Cx := c.filter fun y => decide (y ≠ z)

theorem mem_rm {c : Cx} {z y : Sim} : y ∈ rm c z ↔ y ∈ c ∧ y ≠ z := by
  unfold rm
  rw [List.mem_filter]
  simp

theorem rm_length {c : Cx} {z : Sim} (hn : c.Nodup) (hz : z ∈ c) : (rm c z).length + 1 = c.length := by
  have := countP_without (fun _ => true) (fun y => decide (y ≠ z)) z hn hz (fun y _ => by simp)
  simp only [if_true, List.countP_true] at this
  exact this

theorem push_rm (c : Cx) (x y : Sim) : Ho04.push c x y = rm (rm c y) x := by
  unfold Ho04.push rm
  rw [List.filter_filter]

/-- what is a face of no other -/
def IsTop (c : Cx) (x : Sim) : Prop := x ∈ c ∧ ∀ z ∈ c, x.Sublist z → z = x

theorem Good.rmTop {c : Cx} (g : Good c) {y : Sim} (h : IsTop c y) : Good (rm c y) where
  nd := nodup_filter g.nd
  len := fun x hx => g.len x (mem_rm.mp hx).1
  ris := fun x hx => g.ris x (mem_rm.mp hx).1
  clo := fun x hx w hw hs => by
    obtain ⟨hx1, hx2⟩ := mem_rm.mp hx
    refine mem_rm.mpr ⟨g.clo x hx1 w hw hs, fun e => ?_⟩
    subst e
    exact hx2 (h.2 x hx1 hs)

theorem Flat.rm {c : Cx} (f : Flat c) (z : Sim) : Flat (rm c z) := fun x hx => f x (mem_rm.mp hx).1

theorem mem_over {c : Cx} {x y : Sim} : y ∈ over c x ↔ y ∈ c ∧ x.length < y.length ∧ ∀ a ∈ x, a ∈ y := by
  unfold over
  rw [List.mem_filter, Bool.and_eq_true, within_iff]
  simp

theorem Good.over_iff {c : Cx} (g : Good c) {x y : Sim} (hx : x ∈ c) : y ∈ over c x ↔ y ∈ c ∧ x.Sublist y ∧ y ≠ x := by
  rw [mem_over]
  constructor
  · rintro ⟨h1, h2, h3⟩
    refine ⟨h1, sub_of_subset (g.ris x hx) (g.ris y h1) h3, fun e => ?_⟩
    subst e
    omega
  · rintro ⟨h1, h2, h3⟩
    refine ⟨h1, ?_, fun a ha => h2.subset ha⟩
    rcases Nat.lt_or_ge x.length y.length with h | h
    · exact h
    · exact absurd (h2.eq_of_length_le h).symm h3

theorem mem_tops {c : Cx} (g : Good c) {x : Sim} : x ∈ tops c ↔ IsTop c x := by
  unfold tops
  rw [List.mem_filter]
  constructor
  · rintro ⟨hx, h⟩
    refine ⟨hx, fun z hz hs => ?_⟩
    by_cases e : z = x
    · exact e
    · have := (g.over_iff hx).mpr ⟨hz, hs, e⟩
      obtain ⟨_, h2, h3⟩ := mem_over.mp this
      have h' : (c.any fun y => decide (x.length < y.length) && within x y) = true := by
        rw [List.any_eq_true]
        exact ⟨z, hz, by rw [Bool.and_eq_true, within_iff]; exact ⟨by simpa using h2, h3⟩⟩
      rw [h'] at h
      cases h
  · rintro ⟨hx, h⟩
    refine ⟨hx, ?_⟩
    have h' : (c.any fun y => decide (x.length < y.length) && within x y) = false := by
      rw [List.any_eq_false]
      intro z hz k
      rw [Bool.and_eq_true, within_iff] at k
      have k1 : x.length < z.length := by simpa using k.1
      have := h z hz (sub_of_subset (g.ris x hx) (g.ris z hz) k.2)
      subst this
      omega
    rw [h']
    rfl

theorem free_iff {c : Cx} {x y : Sim} : free c x = some y ↔ over c x = [y] := by
  unfold free
  constructor
  · intro h
    split at h
    · rename_i z e
      rw [e]
      simp at h
      rw [h]
    · cases h
  · intro h
    rw [h]

theorem mem_frees {c : Cx} {x y : Sim} : (x, y) ∈ frees c ↔ x ∈ c ∧ over c x = [y] := by
  unfold frees
  rw [List.mem_filterMap]
  constructor
  · rintro ⟨z, hz, h⟩
    cases e : free c z with
    | none => rw [e] at h; cases h
    | some w =>
      rw [e] at h
      simp at h
      obtain ⟨rfl, rfl⟩ := h
      exact ⟨hz, free_iff.mp e⟩
  · rintro ⟨hx, h⟩
    exact ⟨x, hx, by rw [free_iff.mpr h]; rfl⟩

/-- what a free one is pushed into is a top; without it the free one is a top -/
theorem Good.push_tops {c : Cx} (g : Good c) {x y : Sim} (hx : x ∈ c) (h : over c x = [y]) :
    IsTop c y ∧ IsTop (rm c y) x ∧ x.Sublist y ∧ y ≠ x := by
  have hy : y ∈ over c x := by rw [h]; exact List.mem_singleton.mpr rfl
  obtain ⟨hy1, hy2, hy3⟩ := (g.over_iff hx).mp hy
  refine ⟨⟨hy1, fun z hz hs => ?_⟩, ⟨mem_rm.mpr ⟨hx, fun e => hy3 e.symm⟩, fun z hz hs => ?_⟩, hy2, hy3⟩
  · have hzx : z ≠ x := by
      intro e
      subst e
      exact hy3 (hs.eq_of_length_le hy2.length_le)
    have : z ∈ over c x := (g.over_iff hx).mpr ⟨hz, hy2.trans hs, hzx⟩
    rw [h] at this
    exact List.mem_singleton.mp this
  · obtain ⟨hz1, hz2⟩ := mem_rm.mp hz
    by_cases e : z = x
    · exact e
    · have : z ∈ over c x := (g.over_iff hx).mpr ⟨hz1, hs, e⟩
      rw [h] at this
      exact absurd (List.mem_singleton.mp this) hz2

theorem Good.push {c : Cx} (g : Good c) {x y : Sim} (hx : x ∈ c) (h : over c x = [y]) : Good (Ho04.push c x y) := by
  obtain ⟨h1, h2, _⟩ := g.push_tops hx h
  rw [push_rm]
  exact (g.rmTop h1).rmTop h2

theorem push_length {c : Cx} (g : Good c) {x y : Sim} (hx : x ∈ c) (h : over c x = [y]) : (Ho04.push c x y).length + 2 = c.length := by
  obtain ⟨h1, h2, _⟩ := g.push_tops hx h
  rw [push_rm]
  have e1 := rm_length g.nd h1.1
  have e2 := rm_length (g.rmTop h1).nd h2.1
  omega

/-! ### corners, edges -/
def vs (c : Cx) : List Nat := c.filterMap fun x => match x with
  | [a] => some a
  | _ => none

theorem mem_vs {c : Cx} {a : Nat} : a ∈ vs c ↔ [a] ∈ c := by
  unfold vs
  rw [List.mem_filterMap]
  constructor
  · rintro ⟨x, hx, h⟩
    match x, h with
    | [b], h =>
      have : b = a := by simpa using h
      subst this
      exact hx
  · intro h
    exact ⟨[a], h, rfl⟩

theorem vs_cons_one (a : Nat) (c : Cx) : vs ([a] :: c) = a :: vs c := rfl
theorem vs_cons_other {x : Sim} (c : Cx) (h : x.length ≠ 1) : vs (x :: c) = vs c := by
  match x, h with
  | [], _ => rfl
  | [_], h => exact absurd rfl h
  | _ :: _ :: _, _ => rfl

theorem vs_nodup : ∀ {c : Cx}, c.Nodup → (vs c).Nodup
  | [], _ => List.nodup_nil
  | x :: c, h => by
    have h' := List.nodup_cons.mp h
    by_cases e : x.length = 1
    · match x, e with
      | [a], _ =>
        rw [vs_cons_one]
        exact List.nodup_cons.mpr ⟨fun k => h'.1 (mem_vs.mp k), vs_nodup h'.2⟩
    · rw [vs_cons_other c e]
      exact vs_nodup h'.2

theorem vs_length : ∀ (c : Cx), (vs c).length = c.countP fun x => x.length == 1
  | [] => rfl
  | x :: c => by
    by_cases e : x.length = 1
    · match x, e with
      | [a], _ =>
        rw [vs_cons_one, List.countP_cons, List.length_cons, vs_length c]
        rfl
    · rw [vs_cons_other c e, List.countP_cons, vs_length c]
      simp [e]

theorem vs_rm_other : ∀ (c : Cx) {z : Sim}, z.length ≠ 1 → vs (rm c z) = vs c
  | [], _, _ => rfl
  | x :: c, z, h => by
    have ih := vs_rm_other c h
    by_cases e : x = z
    · subst e
      have : rm (x :: c) x = rm c x := by
        unfold rm
        rw [List.filter_cons_of_neg (by simp)]
      rw [this, vs_cons_other c h, ih]
    · have : rm (x :: c) z = x :: rm c z := by
        unfold rm
        rw [List.filter_cons_of_pos (by simpa using e)]
      rw [this]
      by_cases e1 : x.length = 1
      · match x, e1 with
        | [a], _ => rw [vs_cons_one, vs_cons_one, ih]
      · rw [vs_cons_other _ e1, vs_cons_other _ e1, ih]

theorem vs_rm_one : ∀ (c : Cx) (a : Nat), vs (rm c [a]) = (vs c).filter fun y => decide (y ≠ a)
  | [], _ => rfl
  | x :: c, a => by
    have ih := vs_rm_one c a
    by_cases e : x = [a]
    · subst e
      have : rm ([a] :: c) [a] = rm c [a] := by
        unfold rm
        rw [List.filter_cons_of_neg (by simp)]
      rw [this, vs_cons_one, List.filter_cons_of_neg (by simp), ih]
    · have : rm (x :: c) [a] = x :: rm c [a] := by
        unfold rm
        rw [List.filter_cons_of_pos (by simpa using e)]
      rw [this]
      by_cases e1 : x.length = 1
      · match x, e1 with
        | [b], _ =>
          have hb : b ≠ a := fun q => e (by rw [q])
          rw [vs_cons_one, vs_cons_one, List.filter_cons_of_pos (by simpa using hb), ih]
      · rw [vs_cons_other _ e1, vs_cons_other _ e1, ih]

def Adj (c : Cx) (u v : Nat) : Prop := [u, v] ∈ c ∨ [v, u] ∈ c

theorem Adj.symm {c : Cx} (u v : Nat) (h : Adj c u v) : Adj c v u := h.elim .inr .inl

theorem Good.adj_vs {c : Cx} (g : Good c) {u v : Nat} (h : Adj c u v) : u ∈ vs c := by
  rw [mem_vs]
  rcases h with h | h
  · exact g.clo _ h _ (by simp) (by simp)
  · exact g.clo _ h _ (by simp) (by simp)

theorem Good.conn_vs {c : Cx} (g : Good c) {u v : Nat} (h : Conn (Adj c) u v) : v ∈ vs c → u ∈ vs c := by
  induction h with
  | refl => exact id
  | step _ r ih => exact fun _ => ih (g.adj_vs r)

theorem Adj.mono {c c' : Cx} (h : ∀ x ∈ c, x ∈ c') (u v : Nat) (k : Adj c u v) : Adj c' u v := k.elim (fun k => .inl (h _ k)) (fun k => .inr (h _ k))

theorem rm_sub {c : Cx} {z : Sim} : ∀ x ∈ rm c z, x ∈ c := fun _ h => (mem_rm.mp h).1

theorem adj_rm_other {c : Cx} {z : Sim} (h : z.length ≠ 2) (u v : Nat) (k : Adj c u v) : Adj (rm c z) u v := by
  rcases k with k | k
  · exact .inl (mem_rm.mpr ⟨k, fun e => h (by rw [← e]; rfl)⟩)
  · exact .inr (mem_rm.mpr ⟨k, fun e => h (by rw [← e]; rfl)⟩)

theorem adj_rm_edge {c : Cx} {a b : Nat} (hab : [a, b] ∈ c) (u v : Nat) : Adj c u v ↔ More (Adj (rm c [a, b])) a b u v := by
  constructor
  · intro k
    by_cases e : (u = a ∧ v = b) ∨ (u = b ∧ v = a)
    · exact .inr e
    · left
      rcases k with k | k
      · refine .inl (mem_rm.mpr ⟨k, fun q => e (.inl ?_)⟩)
        simpa using q
      · refine .inr (mem_rm.mpr ⟨k, fun q => e (.inr ?_)⟩)
        have : v = a ∧ u = b := by simpa using q
        exact ⟨this.2, this.1⟩
  · rintro (k | ⟨rfl, rfl⟩ | ⟨rfl, rfl⟩)
    · exact k.mono rm_sub
    · exact .inl hab
    · exact .inr hab

noncomputable def nparts (c : Cx) : Nat := comp (Adj c) (vs c)

def cnt (c : Cx) (n : Nat) : Nat := c.countP fun x => x.length == n

theorem cnt_rm {c : Cx} (hn : c.Nodup) {z : Sim} (hz : z ∈ c) (n : Nat) : cnt (rm c z) n + (if z.length = n then 1 else 0) = cnt c n := by
  have := countP_without (fun x : Sim => x.length == n) (fun y => decide (y ≠ z)) z hn hz (fun y _ => by simp)
  unfold cnt rm
  rw [← this]
  by_cases e : z.length = n
  · rw [if_pos e, if_pos (by simpa using e)]
  · rw [if_neg e, if_neg (by simpa using e)]

theorem parts_rm_other (c : Cx) {z : Sim} (h1 : z.length ≠ 1) (h2 : z.length ≠ 2) : nparts (rm c z) = nparts c := by
  unfold nparts
  rw [vs_rm_other c h1]
  apply comp_congr
  · exact fun u v k => .step (.refl _) (k.mono rm_sub)
  · exact fun u v k => .step (.refl _) (adj_rm_other h2 u v k)

theorem Good.parts_rm_edge {c : Cx} (g : Good c) {a b : Nat} (hab : [a, b] ∈ c) (h : Conn (Adj (rm c [a, b])) a b) : nparts (rm c [a, b]) = nparts c := by
  unfold nparts
  rw [vs_rm_other c (by simp)]
  apply comp_congr
  · exact fun u v k => .step (.refl _) (k.mono rm_sub)
  · intro u v k
    rcases (adj_rm_edge hab u v).mp k with k | ⟨rfl, rfl⟩ | ⟨rfl, rfl⟩
    · exact .step (.refl _) k
    · exact h
    · exact h.symm Adj.symm

theorem Good.parts_rm_bridge {c : Cx} (g : Good c) {a b : Nat} (hab : [a, b] ∈ c) (h : ¬ Conn (Adj (rm c [a, b])) a b) : nparts (rm c [a, b]) = nparts c + 1 := by
  unfold nparts
  rw [vs_rm_other c (by simp)]
  have ha : a ∈ vs c := g.adj_vs (.inl hab)
  have hb : b ∈ vs c := g.adj_vs (.inr hab)
  rw [comp_more Adj.symm (vs_nodup g.nd) h]
  · congr 1
    apply comp_congr
    · exact fun u v k => .step (.refl _) ((adj_rm_edge hab u v).mpr k)
    · exact fun u v k => .step (.refl _) ((adj_rm_edge hab u v).mp k)
  · exact fun u hu => g.conn_vs (hu.mono fun u v k => .step (.refl _) (k.mono rm_sub)) ha
  · exact fun u hu => g.conn_vs (hu.mono fun u v k => .step (.refl _) (k.mono rm_sub)) hb

theorem Good.parts_rm_corner {c : Cx} (g : Good c) {a : Nat} (ha : [a] ∈ c) (h : ∀ u, ¬ Adj c u a) : nparts c = nparts (rm c [a]) + 1 := by
  unfold nparts
  rw [comp_lone (R := Adj c) (vs_nodup g.nd) (mem_vs.mpr ha) ?_ (vs_rm_one c a)]
  · congr 1
    apply comp_congr
    · exact fun u v k => .step (.refl _) (adj_rm_other (by simp) u v k)
    · exact fun u v k => .step (.refl _) (k.mono rm_sub)
  · intro u hu
    cases hu with
    | refl => rfl
    | step _ r => exact absurd r (h _)

/-- twice the nparts, less the corners, and the edges, less the triangles -/
noncomputable def phi (c : Cx) : Int := 2 * (nparts c : Int) - cnt c 1 + cnt c 2 - cnt c 3

theorem len1 {x : Sim} (h : x.length = 1) : ∃ a, x = [a] := by
  match x, h with
  | [a], _ => exact ⟨a, rfl⟩
theorem len2 {x : Sim} (h : x.length = 2) : ∃ a b, x = [a, b] := by
  match x, h with
  | [a, b], _ => exact ⟨a, b, rfl⟩
theorem len3 {x : Sim} (h : x.length = 3) : ∃ a b d, x = [a, b, d] := by
  match x, h with
  | [a, b, d], _ => exact ⟨a, b, d, rfl⟩

theorem Good.phi_corner {c : Cx} (g : Good c) {a : Nat} (h : IsTop c [a]) : phi c = phi (rm c [a]) + 1 := by
  have e0 := g.parts_rm_corner h.1 (fun u k => by
    rcases k with k | k
    · have := h.2 _ k (by simp)
      simp at this
    · have := h.2 _ k (by simp)
      simp at this)
  have e1 := cnt_rm g.nd h.1 1
  have e2 := cnt_rm g.nd h.1 2
  have e3 := cnt_rm g.nd h.1 3
  simp at e1 e2 e3
  unfold phi
  omega

theorem Good.phi_ring {c : Cx} (g : Good c) {a b : Nat} (h : [a, b] ∈ c) (k : Conn (Adj (rm c [a, b])) a b) : phi c = phi (rm c [a, b]) + 1 := by
  have e0 := g.parts_rm_edge h k
  have e1 := cnt_rm g.nd h 1
  have e2 := cnt_rm g.nd h 2
  have e3 := cnt_rm g.nd h 3
  simp at e1 e2 e3
  unfold phi
  omega

theorem Good.phi_bridge {c : Cx} (g : Good c) {a b : Nat} (h : [a, b] ∈ c) (k : ¬ Conn (Adj (rm c [a, b])) a b) : phi c + 1 = phi (rm c [a, b]) := by
  have e0 := g.parts_rm_bridge h k
  have e1 := cnt_rm g.nd h 1
  have e2 := cnt_rm g.nd h 2
  have e3 := cnt_rm g.nd h 3
  simp at e1 e2 e3
  unfold phi
  omega

theorem Good.phi_triangle {c : Cx} (g : Good c) {x : Sim} (h : x ∈ c) (k : x.length = 3) : phi c + 1 = phi (rm c x) := by
  have e0 := parts_rm_other c (z := x) (by omega) (by omega)
  have e1 := cnt_rm g.nd h 1
  have e2 := cnt_rm g.nd h 2
  have e3 := cnt_rm g.nd h 3
  simp [k] at e1 e2 e3
  unfold phi
  omega

/-- by a cut at most one goes -/
theorem Good.phi_cut {c : Cx} (g : Good c) (f : Flat c) {x : Sim} (h : IsTop c x) : phi c ≤ phi (rm c x) + 1 := by
  have l1 := g.len x h.1
  have l2 := f x h.1
  have : x.length = 1 ∨ x.length = 2 ∨ x.length = 3 := by omega
  rcases this with l | l | l
  · obtain ⟨a, rfl⟩ := len1 l
    rw [g.phi_corner h]
    omega
  · obtain ⟨a, b, rfl⟩ := len2 l
    by_cases k : Conn (Adj (rm c [a, b])) a b
    · rw [g.phi_ring h.1 k]
      omega
    · have := g.phi_bridge h.1 k
      omega
  · have := g.phi_triangle h.1 l
    omega

/-- what is pushed in leaves it as it was -/
theorem Good.phi_push {c : Cx} (g : Good c) (f : Flat c) {x y : Sim} (hx : x ∈ c) (h : over c x = [y]) : phi (Ho04.push c x y) = phi c := by
  obtain ⟨t1, t2, hs, hne⟩ := g.push_tops hx h
  have hy := t1.1
  have ly := f y hy
  have lx := g.len x hx
  have lxy : x.length < y.length := by
    rcases Nat.lt_or_ge x.length y.length with h | h
    · exact h
    · exact absurd (hs.eq_of_length_le h).symm hne
  have g1 := g.rmTop t1
  rw [push_rm]
  have : (x.length = 1 ∧ y.length = 2) ∨ (x.length = 2 ∧ y.length = 3) ∨ (x.length = 1 ∧ y.length = 3) := by omega
  rcases this with ⟨l1, l2⟩ | ⟨l1, l2⟩ | ⟨l1, l2⟩
  · obtain ⟨a, rfl⟩ := len1 l1
    obtain ⟨p, q, rfl⟩ := len2 l2
    have e1 := g1.phi_corner t2
    have lone : ∀ u, ¬ Adj (rm c [p, q]) u a := by
      intro u k
      rcases k with k | k
      · have := t2.2 _ k (by simp)
        simp at this
      · have := t2.2 _ k (by simp)
        simp at this
    have e2 := g.phi_bridge hy (fun k => by
      have ha : a = p ∨ a = q := by
        have := hs.subset (List.mem_singleton.mpr rfl)
        simpa using this
      have hpq : p < q := by
        have := g.ris _ hy
        simpa using this
      have lone' : ∀ u, Conn (Adj (rm c [p, q])) u a → u = a := by
        intro u hu
        cases hu with
        | refl => rfl
        | step _ r => exact absurd r (lone _)
      rcases ha with rfl | rfl
      · have := lone' _ (k.symm Adj.symm)
        omega
      · have := lone' _ k
        omega)
    omega
  · obtain ⟨a, b, rfl⟩ := len2 l1
    obtain ⟨p, q, r, rfl⟩ := len3 l2
    have e2 := g.phi_triangle hy rfl
    have e1 := g1.phi_ring t2.1 (by
      have hr := g.ris _ hy
      have hpq : p < q ∧ p < r ∧ q < r := by
        simp at hr
        omega
      have hab : a < b := by
        have := g.ris _ hx
        simpa using this
      have ha : a = p ∨ a = q ∨ a = r := by simpa using hs.subset (List.mem_cons_self ..)
      have hb : b = p ∨ b = q ∨ b = r := by simpa using hs.subset (List.mem_cons_of_mem a (List.mem_cons_self ..))
      have m1 : [p, q] ∈ c := g.clo _ hy _ (by simp) (by simp)
      have m2 : [p, r] ∈ c := g.clo _ hy _ (by simp) (by
        exact List.Sublist.cons_cons p (List.Sublist.cons q (List.Sublist.refl _)))
      have m3 : [q, r] ∈ c := g.clo _ hy _ (by simp) (by simp)
      have in2 : ∀ u v : Nat, [u, v] ∈ c → [u, v] ≠ [a, b] → Adj (rm (rm c [p, q, r]) [a, b]) u v := fun u v k ne => .inl (mem_rm.mpr ⟨mem_rm.mpr ⟨k, by simp⟩, ne⟩)
      have : (a = p ∧ b = q) ∨ (a = p ∧ b = r) ∨ (a = q ∧ b = r) := by omega
      rcases this with ⟨rfl, rfl⟩ | ⟨rfl, rfl⟩ | ⟨rfl, rfl⟩
      · exact (Conn.step (.refl _) (in2 _ _ m2 (by simp; omega))).step (in2 _ _ m3 (by simp; omega)).symm
      · exact (Conn.step (.refl _) (in2 _ _ m1 (by simp; omega))).step (in2 _ _ m3 (by simp; omega))
      · exact (Conn.step (.refl _) (in2 _ _ m1 (by simp; omega)).symm).step (in2 _ _ m2 (by simp; omega)))
    omega
  · -- a corner free in a triangle: its edges stand between
    exfalso
    obtain ⟨a, rfl⟩ := len1 l1
    obtain ⟨p, q, r, rfl⟩ := len3 l2
    have ha : a = p ∨ a = q ∨ a = r := by simpa using hs.subset (List.mem_cons_self ..)
    have m1 : [p, q] ∈ c := g.clo _ hy _ (by simp) (by simp)
    have m3 : [q, r] ∈ c := g.clo _ hy _ (by simp) (by simp)
    have hov : ∀ z ∈ over c [a], z = [p, q, r] := fun z hz => by
      rw [h] at hz
      exact List.mem_singleton.mp hz
    rcases ha with rfl | rfl | rfl
    · have := hov _ ((g.over_iff hx).mpr ⟨m1, by simp, by simp⟩)
      simp at this
    · have := hov _ ((g.over_iff hx).mpr ⟨m1, by simp, by simp⟩)
      simp at this
    · have := hov _ ((g.over_iff hx).mpr ⟨m3, by simp, by simp⟩)
      simp at this
end Sc

set_option autoImplicit false
namespace Sc
open Classical
open HoBase Ho04

/-! ### a graph all of whose edges are bridges -/
def IsGraph (c : Cx) : Prop := ∀ x ∈ c, x.length ≤ 2

theorem comp_no_edge {R : Nat → Nat → Prop} (h : ∀ u v, ¬ R u v) (V : List Nat) : comp R V = V.length := by
  unfold comp
  rw [List.countP_eq_length]
  intro v _
  simp only [decide_eq_true_eq]
  intro u hu
  cases hu with
  | refl => exact Nat.le_refl _
  | step _ r => exact absurd r (h _ _)

theorem Good.edge_top {c : Cx} (g : Good c) (hg : IsGraph c) {x : Sim} (hx : x ∈ c) (l : x.length = 2) : IsTop c x :=
  ⟨hx, fun z hz hs => (hs.eq_of_length_le (by have := hg z hz; omega)).symm⟩

theorem forest {n : Nat} : ∀ {c : Cx}, Good c → IsGraph c → cnt c 2 = n → (∀ a b, [a, b] ∈ c → ¬ Conn (Adj (rm c [a, b])) a b) → nparts c + n = cnt c 1 := by
  induction n with
  | zero =>
    intro c g hg hn _
    unfold nparts
    rw [comp_no_edge]
    · rw [vs_length]
      rfl
    · intro u v k
      unfold cnt at hn
      rw [List.countP_eq_zero] at hn
      rcases k with k | k
      · exact hn _ k (by simp)
      · exact hn _ k (by simp)
  | succ n ih =>
    intro c g hg hn hb
    have hpos : 0 < c.countP fun x => x.length == 2 := by
      have : cnt c 2 = c.countP fun x => x.length == 2 := rfl
      omega
    obtain ⟨x, hx, hl⟩ := List.countP_pos_iff.mp hpos
    have hl' : x.length = 2 := by simpa using hl
    obtain ⟨a, b, rfl⟩ := len2 hl'
    have ht := g.edge_top hg hx rfl
    have g1 := g.rmTop ht
    have e0 := g.parts_rm_bridge hx (hb a b hx)
    have e1 := cnt_rm g.nd hx 1
    have e2 := cnt_rm g.nd hx 2
    simp at e1 e2
    have := ih g1 (fun x hx => hg x (mem_rm.mp hx).1) (by omega) (fun u v k q => by
      refine hb u v (mem_rm.mp k).1 (q.mono fun s t r => .step (.refl _) (r.mono ?_))
      intro x hx
      obtain ⟨h1, h2⟩ := mem_rm.mp hx
      exact mem_rm.mpr ⟨(mem_rm.mp h1).1, h2⟩)
    omega

theorem comp_pos {R : Nat → Nat → Prop} {V : List Nat} {a : Nat} (h : ∀ u, Conn R u a → u ∈ V) : 0 < comp R V := by
  obtain ⟨m, hm, hm'⟩ := exists_min R a
  unfold comp
  rw [List.countP_pos_iff]
  refine ⟨m, h m hm, ?_⟩
  simp only [decide_eq_true_eq]
  intro u hu
  exact hm' u (hu.trans hm)

/-! ### counting an edge at its two ends -/
theorem sum_zero {β : Type} : ∀ E : List β, (E.map fun _ => 0).sum = 0
  | [] => rfl
  | _ :: E => by
    rw [List.map_cons, List.sum_cons, sum_zero E]
theorem sum_swap_step {α β : Type} (r : α → β → Bool) (a : α) (V : List α) : ∀ E : List β,
    E.countP (r a) + (E.map fun y => V.countP fun a => r a y).sum = (E.map fun y => (a :: V).countP fun a => r a y).sum
  | [] => rfl
  | y :: E => by
    have ih := sum_swap_step r a V E
    simp only [List.map_cons, List.sum_cons, List.countP_cons] at ih ⊢
    omega
theorem sum_swap {α β : Type} (r : α → β → Bool) (E : List β) : ∀ (V : List α), (V.map fun a => E.countP (r a)).sum = (E.map fun y => V.countP fun a => r a y).sum
  | [] => (sum_zero E).symm
  | a :: V => by
    rw [List.map_cons, List.sum_cons, sum_swap r E V]
    exact sum_swap_step r a V E

theorem sum_ge {α : Type} {f : α → Nat} {k : Nat} : ∀ {l : List α}, (∀ x ∈ l, k ≤ f x) → k * l.length ≤ (l.map f).sum
  | [], _ => by simp
  | a :: l, h => by
    have ih := sum_ge (l := l) fun x hx => h x (List.mem_cons_of_mem _ hx)
    have := h a (List.mem_cons_self ..)
    rw [List.map_cons, List.sum_cons, List.length_cons, Nat.mul_succ]
    omega

theorem sum_le {α : Type} {f : α → Nat} {k : Nat} : ∀ {l : List α}, (∀ x ∈ l, f x ≤ k) → (l.map f).sum ≤ k * l.length
  | [], _ => by simp
  | a :: l, h => by
    have ih := sum_le (l := l) fun x hx => h x (List.mem_cons_of_mem _ hx)
    have := h a (List.mem_cons_self ..)
    rw [List.map_cons, List.sum_cons, List.length_cons, Nat.mul_succ]
    omega

theorem countP_two {V : List Nat} (h : V.Nodup) (p q : Nat) : V.countP (fun a => [p, q].contains a) ≤ 2 := by
  have h1 : (V.filter fun a => [p, q].contains a).Nodup := nodup_filter h
  have := nodup_subset_length (m := [p, q]) h1 (fun x hx => by
    have := (List.mem_filter.mp hx).2
    simpa using this)
  rw [List.countP_eq_length_filter]
  simpa using this

theorem two_of {α : Type} {l : List α} {p : α → Bool} (hn : l.Nodup) {x y : α} (hx : x ∈ l) (hy : y ∈ l) (hne : x ≠ y) (px : p x = true) (py : p y = true) : 2 ≤ l.countP p := by
  have := nodup_subset_length (l := [x, y]) (m := l.filter p) (by simp [hne]) (by
    intro z hz
    simp at hz
    rcases hz with rfl | rfl
    · exact List.mem_filter.mpr ⟨hx, px⟩
    · exact List.mem_filter.mpr ⟨hy, py⟩)
  rw [List.countP_eq_length_filter]
  simpa using this

/-- not free and not alone: two that have it -/
theorem over_two {c : Cx} (g : Good c) {x y : Sim} (hx : x ∈ c) (hs : frees c = []) (hy : y ∈ over c x) : ∃ z ∈ over c x, z ≠ y := by
  by_cases h : ∃ z ∈ over c x, z ≠ y
  · exact h
  · exfalso
    have hn : (over c x).Nodup := nodup_filter g.nd
    have e : over c x = [y] := by
      have hall : ∀ z ∈ over c x, z = y := fun z hz => by
        by_cases e : z = y
        · exact e
        · exact absurd ⟨z, hz, e⟩ h
      match h0 : over c x with
      | [] => rw [h0] at hy; cases hy
      | [w] => rw [hall w (by rw [h0]; simp)]
      | w :: w' :: l =>
        exfalso
        rw [h0] at hn
        have e1 := hall w (by rw [h0]; simp)
        have e2 := hall w' (by rw [h0]; simp)
        subst e1
        subst e2
        simp at hn
    have := mem_frees.mpr ⟨hx, e⟩
    rw [hs] at this
    cases this

/-- an edge by its two ends -/
def edge (u v : Nat) : Sim := if u < v then [u, v] else [v, u]
theorem mem_edge {u v w : Nat} : w ∈ edge u v ↔ w = u ∨ w = v := by
  unfold edge
  split
  · simp
  · simp [or_comm]
theorem edge_rises {u v : Nat} (h : u ≠ v) : Rises (edge u v) := by
  unfold edge
  split
  · simpa
  · simp
    omega
theorem edge_length (u v : Nat) : (edge u v).length = 2 := by
  unfold edge
  split <;> rfl
theorem Good.edge_mem {c : Cx} (g : Good c) {y : Sim} (hy : y ∈ c) {u v : Nat} (hu : u ∈ y) (hv : v ∈ y) (h : u ≠ v) : edge u v ∈ c := by
  refine g.clo y hy _ (fun e => ?_) (sub_of_subset (edge_rises h) (g.ris y hy) ?_)
  · have := edge_length u v
    rw [e] at this
    cases this
  · intro w hw
    rcases mem_edge.mp hw with rfl | rfl
    · exact hu
    · exact hv
theorem Good.corner_mem {c : Cx} (g : Good c) {y : Sim} (hy : y ∈ c) {u : Nat} (hu : u ∈ y) : [u] ∈ c := by
  refine g.clo y hy _ (by simp) (by simpa using hu)

/-- the third corner -/
theorem third {y : Sim} (hr : Rises y) (hl : y.length = 3) {a b : Nat} (ha : a ∈ y) (hb : b ∈ y) (hab : a ≠ b) : ∃ f, f ∈ y ∧ f ≠ a ∧ f ≠ b ∧ ∀ w ∈ y, w = a ∨ w = b ∨ w = f := by
  obtain ⟨p, q, r, rfl⟩ := len3 hl
  simp at hr ha hb
  have hp : p < q ∧ p < r ∧ q < r := by omega
  rcases ha with rfl | rfl | rfl <;> rcases hb with rfl | rfl | rfl <;> first | (exact absurd rfl hab) | skip
  · exact ⟨r, by simp, by omega, by omega, by simp⟩
  · exact ⟨q, by simp, by omega, by omega, by simp⟩
  · exact ⟨r, by simp, by omega, by omega, by simp⟩
  · exact ⟨p, by simp, by omega, by omega, by simp⟩
  · exact ⟨q, by simp, by omega, by omega, by simp⟩
  · exact ⟨p, by simp, by omega, by omega, by simp⟩

theorem counts_le {c : Cx} : cnt c 1 + cnt c 2 + cnt c 3 ≤ c.length := by
  unfold cnt
  induction c with
  | nil => simp
  | cons x c ih =>
    simp only [List.countP_cons, List.length_cons]
    by_cases h1 : x.length = 1
    · simp [h1]; omega
    · by_cases h2 : x.length = 2
      · simp [h2]; omega
      · by_cases h3 : x.length = 3
        · simp [h3]; omega
        · simp [h1, h2, h3]; omega

theorem cnt_ge {c : Cx} {n : Nat} {l : List Sim} (hl : l.Nodup) (h : ∀ x ∈ l, x ∈ c ∧ x.length = n) : l.length ≤ cnt c n := by
  unfold cnt
  rw [List.countP_eq_length_filter]
  refine nodup_subset_length hl fun x hx => List.mem_filter.mpr ⟨(h x hx).1, by simpa using (h x hx).2⟩

theorem edge_ne {u v p q : Nat} (h : ¬ ((u = p ∧ v = q) ∨ (u = q ∧ v = p))) : edge u v ≠ edge p q := by
  intro e
  apply h
  unfold edge at e
  split at e <;> split at e <;> simp at e <;> omega

/-- a triangle each of whose sides is in one more: four corners, six edges, four triangles -/
theorem three_more {c : Cx} (g : Good c) {a b d : Nat} (habd : [a, b, d] ∈ c)
    {y z w : Sim} (hy : y ∈ c) (hz : z ∈ c) (hw : w ∈ c) (ly : y.length = 3) (lz : z.length = 3) (lw : w.length = 3)
    (ya : a ∈ y) (yb : b ∈ y) (za : a ∈ z) (zd : d ∈ z) (wb : b ∈ w) (wd : d ∈ w)
    (ny : y ≠ [a, b, d]) (nz : z ≠ [a, b, d]) (nw : w ≠ [a, b, d]) : 14 ≤ c.length := by
  have hr := g.ris _ habd
  have hlt : a < b ∧ a < d ∧ b < d := by
    simp at hr
    omega
  obtain ⟨f, fy, f1, f2, fall⟩ := third (g.ris _ hy) ly ya yb (by omega)
  obtain ⟨k, kz, k1, k2, kall⟩ := third (g.ris _ hz) lz za zd (by omega)
  obtain ⟨h, hw', h1, h2, hall⟩ := third (g.ris _ hw) lw wb wd (by omega)
  have fd : f ≠ d := by
    intro e
    subst e
    refine ny (rises_eq (g.ris _ hy) hr fun w => ⟨fun q => ?_, fun q => ?_⟩)
    · simpa using fall w q
    · have : w = a ∨ w = b ∨ w = f := by simpa using q
      rcases this with rfl | rfl | rfl <;> assumption
  have kb : k ≠ b := by
    intro e
    subst e
    refine nz (rises_eq (g.ris _ hz) hr fun w => ⟨fun q => ?_, fun q => ?_⟩)
    · have := kall w q
      simp
      omega
    · have : w = a ∨ w = k ∨ w = d := by simpa using q
      rcases this with rfl | rfl | rfl <;> assumption
  have ha : h ≠ a := by
    intro e
    subst e
    refine nw (rises_eq (g.ris _ hw) hr fun w => ⟨fun q => ?_, fun q => ?_⟩)
    · have := hall w q
      simp
      omega
    · have : w = h ∨ w = b ∨ w = d := by simpa using q
      rcases this with rfl | rfl | rfl <;> assumption
  have c1 : 4 ≤ cnt c 1 := cnt_ge (l := [[a], [b], [d], [f]]) (by
      simp
      omega) (by
      intro x hx
      simp at hx
      rcases hx with rfl | rfl | rfl | rfl
      · exact ⟨g.corner_mem habd (by simp), rfl⟩
      · exact ⟨g.corner_mem habd (by simp), rfl⟩
      · exact ⟨g.corner_mem habd (by simp), rfl⟩
      · exact ⟨g.corner_mem hy fy, rfl⟩)
  have c2 : 6 ≤ cnt c 2 := cnt_ge (l := [edge a b, edge a d, edge b d, edge a f, edge b f, edge d k]) (by
      simp only [List.nodup_cons, List.mem_cons, not_or, List.not_mem_nil, not_false_iff, List.nodup_nil, and_true]
      refine ⟨⟨?_, ?_, ?_, ?_, ?_⟩, ⟨?_, ?_, ?_, ?_⟩, ⟨?_, ?_, ?_⟩, ⟨?_, ?_⟩, ?_⟩ <;> apply edge_ne <;> omega) (by
      intro x hx
      simp only [List.mem_cons, List.not_mem_nil, or_false] at hx
      rcases hx with rfl | rfl | rfl | rfl | rfl | rfl
      · exact ⟨g.edge_mem habd (by simp) (by simp) (by omega), edge_length ..⟩
      · exact ⟨g.edge_mem habd (by simp) (by simp) (by omega), edge_length ..⟩
      · exact ⟨g.edge_mem habd (by simp) (by simp) (by omega), edge_length ..⟩
      · exact ⟨g.edge_mem hy ya fy (by omega), edge_length ..⟩
      · exact ⟨g.edge_mem hy yb fy (by omega), edge_length ..⟩
      · exact ⟨g.edge_mem hz zd kz (by omega), edge_length ..⟩)
  have nyz : y ≠ z := by
    intro e
    subst e
    have := fall d zd
    omega
  have nyw : y ≠ w := by
    intro e
    subst e
    have := fall d wd
    omega
  have nzw : z ≠ w := by
    intro e
    subst e
    have := kall b wb
    omega
  have c3 : 4 ≤ cnt c 3 := cnt_ge (l := [[a, b, d], y, z, w]) (by
      simp only [List.nodup_cons, List.mem_cons, not_or, List.not_mem_nil, not_false_iff, List.nodup_nil, and_true]
      exact ⟨⟨fun e => ny e.symm, fun e => nz e.symm, fun e => nw e.symm⟩, ⟨nyz, nyw⟩, nzw⟩) (by
      intro x hx
      simp only [List.mem_cons, List.not_mem_nil, or_false] at hx
      rcases hx with rfl | rfl | rfl | rfl
      · exact ⟨habd, rfl⟩
      · exact ⟨hy, ly⟩
      · exact ⟨hz, lz⟩
      · exact ⟨hw, lw⟩)
  have := counts_le (c := c)
  omega

theorem stuck_graph {c : Cx} (g : Good c) (f : Flat c) (hl : c.length ≤ 13) (hs : frees c = []) : IsGraph c := by
  intro x hx
  have h3 := f x hx
  rcases Nat.lt_or_ge 2 x.length with h | h
  · exfalso
    obtain ⟨a, b, d, rfl⟩ := len3 (x := x) (by omega)
    have hr := g.ris _ hx
    simp at hr
    have m1 : [a, b] ∈ c := g.clo _ hx _ (by simp) (by simp)
    have m2 : [a, d] ∈ c := g.clo _ hx _ (by simp) (List.Sublist.cons_cons a (List.Sublist.cons b (List.Sublist.refl _)))
    have m3 : [b, d] ∈ c := g.clo _ hx _ (by simp) (by simp)
    obtain ⟨y, hy, ny⟩ := over_two g m1 hs (mem_over.mpr ⟨hx, by simp, by simp⟩)
    obtain ⟨z, hz, nz⟩ := over_two g m2 hs (mem_over.mpr ⟨hx, by simp, by simp⟩)
    obtain ⟨w, hw, nw⟩ := over_two g m3 hs (mem_over.mpr ⟨hx, by simp, by simp⟩)
    obtain ⟨y1, y2, y3⟩ := mem_over.mp hy
    obtain ⟨z1, z2, z3⟩ := mem_over.mp hz
    obtain ⟨w1, w2, w3⟩ := mem_over.mp hw
    have fy := f y y1
    have fz := f z z1
    have fw := f w w1
    have : 14 ≤ c.length := three_more g hx y1 z1 w1 (by simp at y2; omega) (by simp at z2; omega) (by simp at w2; omega)
      (y3 a (by simp)) (y3 b (by simp)) (z3 a (by simp)) (z3 d (by simp)) (w3 b (by simp)) (w3 d (by simp)) ny nz nw
    omega
  · exact h

/-- what can't be pushed in has a top whose cut takes one away -/
theorem good_cut {c : Cx} (g : Good c) (f : Flat c) (hl : c.length ≤ 13) (hs : frees c = []) (hne : c ≠ []) : ∃ x, IsTop c x ∧ phi c = phi (rm c x) + 1 := by
  have hg := stuck_graph g f hl hs
  by_cases h1 : ∃ a, IsTop c [a]
  · obtain ⟨a, ha⟩ := h1
    exact ⟨[a], ha, g.phi_corner ha⟩
  by_cases h2 : ∃ a b, [a, b] ∈ c ∧ Conn (Adj (rm c [a, b])) a b
  · obtain ⟨a, b, hab, k⟩ := h2
    exact ⟨[a, b], g.edge_top hg hab rfl, g.phi_ring hab k⟩
  exfalso
  have hf := forest g hg rfl (fun a b k q => h2 ⟨a, b, k, q⟩)
  -- each corner is in two edges
  have deg : ∀ a ∈ vs c, 2 ≤ (c.filter fun x => x.length == 2).countP (fun x => x.contains a) := by
    intro a ha
    have ha' := mem_vs.mp ha
    have : ∃ z ∈ c, [a].Sublist z ∧ z ≠ [a] := by
      by_cases h : ∃ z ∈ c, [a].Sublist z ∧ z ≠ [a]
      · exact h
      · refine absurd ⟨ha', fun z hz hsub => ?_⟩ (fun q => h1 ⟨a, q⟩)
        by_cases e : z = [a]
        · exact e
        · exact absurd ⟨z, hz, hsub, e⟩ h
    obtain ⟨z, hz, hsub, hne'⟩ := this
    have hzo := (g.over_iff ha').mpr ⟨hz, hsub, hne'⟩
    obtain ⟨w, hw, hwz⟩ := over_two g ha' hs hzo
    obtain ⟨z1, z2, z3⟩ := mem_over.mp hzo
    obtain ⟨w1, w2, w3⟩ := mem_over.mp hw
    have gz := hg z z1
    have gw := hg w w1
    simp at z2 w2
    refine two_of (nodup_filter g.nd) (x := z) (y := w) (List.mem_filter.mpr ⟨z1, by simp; omega⟩) (List.mem_filter.mpr ⟨w1, by simp; omega⟩) (fun e => hwz e.symm) ?_ ?_
    · exact List.contains_iff_mem.mpr (z3 a (by simp))
    · exact List.contains_iff_mem.mpr (w3 a (by simp))
  have s1 := sum_ge deg
  rw [sum_swap (fun a (x : Sim) => x.contains a) (c.filter fun x => x.length == 2) (vs c)] at s1
  have s2 := sum_le (l := c.filter fun x => x.length == 2) (f := fun y => (vs c).countP fun a => y.contains a) (k := 2) (by
    intro x hx
    have hx' := (List.mem_filter.mp hx).2
    obtain ⟨p, q, rfl⟩ := len2 (x := x) (by simpa using hx')
    exact countP_two (vs_nodup g.nd) p q)
  have e1 : (vs c).length = cnt c 1 := vs_length c
  have e2 : (c.filter fun x => x.length == 2).length = cnt c 2 := by
    unfold cnt
    rw [List.countP_eq_length_filter]
  -- there is a corner
  have : 0 < nparts c := by
    obtain ⟨x, hx⟩ := List.exists_mem_of_ne_nil c hne
    have l := g.len x hx
    have hx0 : x ≠ [] := by
      intro e
      rw [e] at l
      simp at l
    obtain ⟨a, ha⟩ := List.exists_mem_of_ne_nil x hx0
    have ha : a ∈ vs c := mem_vs.mpr (g.corner_mem hx ha)
    exact comp_pos (fun u hu => g.conn_vs hu ha)
  omega

/-- never below 0 -/
theorem phi_nil : phi [] = 0 := by
  unfold phi nparts cnt comp vs
  rfl

theorem phi_nonneg : ∀ (n : Nat) {c : Cx}, c.length ≤ n → Good c → Flat c → c.length ≤ 13 → 0 ≤ phi c := by
  intro n
  induction n with
  | zero =>
    intro c h _ _ _
    have : c = [] := List.length_eq_zero_iff.mp (by omega)
    rw [this, phi_nil]
    exact Int.le_refl _
  | succ n ih =>
    intro c hn g f hl
    by_cases hne : c = []
    · rw [hne, phi_nil]
      exact Int.le_refl _
    cases hs : frees c with
    | nil =>
      obtain ⟨x, hx, e⟩ := good_cut g f hl hs hne
      have l := rm_length g.nd hx.1
      have := ih (c := rm c x) (by omega) (g.rmTop hx) (f.rm x) (by omega)
      omega
    | cons p l =>
      obtain ⟨x, y⟩ := p
      have hm : (x, y) ∈ frees c := by
        rw [hs]
        exact List.mem_cons_self ..
      obtain ⟨hx, ho⟩ := mem_frees.mp hm
      have l := push_length g hx ho
      have e := g.phi_push f hx ho
      have := ih (c := Ho04.push c x y) (by omega) (g.push hx ho) (by rw [push_rm]; exact (f.rm _).rm _) (by omega)
      omega
end Sc

set_option autoImplicit false
namespace Sc
open Classical
open HoBase Ho04

/-- at most 13 of them: none has four corners -/
theorem Good.flat {c : Cx} (g : Good c) (hl : c.length ≤ 13) : Flat c := by
  intro x hx
  have h := g.len x hx
  rcases Nat.lt_or_ge 3 x.length with k | k
  · exfalso
    have h4 : x.length = 4 := by omega
    match x, h4 with
    | [a, b, d, e], _ =>
      have hr := g.ris _ hx
      simp at hr
      have key : ∀ y ∈ HoBase.parts [a, b, d, e], y ∈ c := by
        intro y hy
        have : y ≠ [] ∧ y.Sublist [a, b, d, e] := by
          simp [HoBase.parts] at hy
          rcases hy with rfl | rfl | rfl | rfl | rfl | rfl | rfl | rfl | rfl | rfl | rfl | rfl | rfl | rfl | rfl <;> refine ⟨by simp, ?_⟩ <;> first | (simp; done) | (simp [List.sublist_cons_iff]; done) | exact sub_of_subset (by simp; omega) (by simp; omega) (by simp)
        exact g.clo _ hx y this.1 this.2
      have := nodup_subset_length (l := HoBase.parts [a, b, d, e]) (m := c) (by
        simp [HoBase.parts]
        omega) key
      simp [HoBase.parts] at this
      omega
  · exact k

/-! ### what comes by pushing -/
theorem mem_addNew {l : List Cx} {c x : Cx} : x ∈ addNew l c ↔ x = c ∨ x ∈ l := by
  unfold addNew
  split
  · rename_i h
    have : c ∈ l := by simpa using h
    constructor
    · exact .inr
    · rintro (rfl | h)
      · exact this
      · exact h
  · rw [List.mem_cons]

theorem mem_fold_addNew {x : Cx} : ∀ {m l : List Cx}, x ∈ m.foldl addNew l ↔ x ∈ m ∨ x ∈ l
  | [], l => by simp
  | c :: m, l => by
    rw [List.foldl_cons, mem_fold_addNew, mem_addNew, List.mem_cons]
    constructor
    · rintro (h | h | h)
      · exact .inl (.inr h)
      · exact .inl (.inl h)
      · exact .inr h
    · rintro ((h | h) | h)
      · exact .inr (.inl h)
      · exact .inl h
      · exact .inr (.inr h)

theorem mem_fold_new {seen : List Cx} {x : Cx} : ∀ {m l : List Cx}, x ∈ m.foldl (fun (l : List Cx) (c : Cx) => if seen.contains c = true then l else addNew l c) l ↔ (x ∈ m ∧ x ∉ seen) ∨ x ∈ l
  | [], l => by simp
  | c :: m, l => by
    rw [List.foldl_cons, mem_fold_new, List.mem_cons]
    by_cases h : seen.contains c = true
    · have hc : c ∈ seen := by simpa using h
      rw [if_pos h]
      constructor
      · rintro (⟨h1, h2⟩ | h1)
        · exact .inl ⟨.inr h1, h2⟩
        · exact .inr h1
      · rintro (⟨rfl | h1, h2⟩ | h1)
        · exact absurd hc h2
        · exact .inl ⟨h1, h2⟩
        · exact .inr h1
    · have hc : c ∉ seen := by simpa using h
      rw [if_neg h, mem_addNew]
      constructor
      · rintro (⟨h1, h2⟩ | rfl | h1)
        · exact .inl ⟨.inr h1, h2⟩
        · exact .inl ⟨.inl rfl, hc⟩
        · exact .inr h1
      · rintro (⟨rfl | h1, h2⟩ | h1)
        · exact .inr (.inl rfl)
        · exact .inl ⟨h1, h2⟩
        · exact .inr (.inr h1)

/-- what is met: pushes of it stay in it; P goes on by pushes -/
theorem allPushed_spec (P : Cx → Prop) (hP : ∀ c, P c → ∀ x y, (x, y) ∈ frees c → P (Ho04.push c x y) ∧ (Ho04.push c x y).length < c.length) :
    ∀ (f : Nat) (seen new : List Cx), (∀ c ∈ new, c.length < f) → (∀ c ∈ seen, P c) → (∀ c ∈ new, c ∈ seen) →
      (∀ c ∈ seen, c ∈ new ∨ ∀ x y, (x, y) ∈ frees c → Ho04.push c x y ∈ seen) →
      (∀ c ∈ seen, c ∈ allPushed f seen new) ∧ (∀ c ∈ allPushed f seen new, P c) ∧
      ∀ c ∈ allPushed f seen new, ∀ x y, (x, y) ∈ frees c → Ho04.push c x y ∈ allPushed f seen new
  | 0, seen, new, hf, hp, hs, hc => by
    have e : allPushed 0 seen new = seen := rfl
    rw [e]
    refine ⟨fun c h => h, hp, fun c h x y k => ?_⟩
    rcases hc c h with q | q
    · exact absurd (hf c q) (Nat.not_lt_zero _)
    · exact q x y k
  | f + 1, seen, [], hf, hp, hs, hc => by
    have e : allPushed (f + 1) seen [] = seen := rfl
    rw [e]
    refine ⟨fun c h => h, hp, fun c h x y k => ?_⟩
    rcases hc c h with q | q
    · cases q
    · exact q x y k
  | f + 1, seen, n0 :: new0, hf, hp, hs, hc => by
    generalize hnew : n0 :: new0 = new at *
    have e : allPushed (f + 1) seen new = allPushed f (((new.flatMap fun (c : Cx) => (frees c).map fun (x : Sim × Sim) => Ho04.push c x.1 x.2).foldl (fun (l : List Cx) (c : Cx) => if seen.contains c = true then l else addNew l c) []) ++ seen) ((new.flatMap fun (c : Cx) => (frees c).map fun (x : Sim × Sim) => Ho04.push c x.1 x.2).foldl (fun (l : List Cx) (c : Cx) => if seen.contains c = true then l else addNew l c) []) := by
      rw [← hnew]
      rfl
    rw [e]
    generalize hnext : (new.flatMap fun (c : Cx) => (frees c).map fun (x : Sim × Sim) => Ho04.push c x.1 x.2).foldl (fun (l : List Cx) (c : Cx) => if seen.contains c = true then l else addNew l c) [] = next
    have hmem : ∀ d, d ∈ next ↔ (∃ c ∈ new, ∃ x y, (x, y) ∈ frees c ∧ d = Ho04.push c x y) ∧ d ∉ seen := by
      intro d
      rw [← hnext, mem_fold_new, List.mem_flatMap]
      constructor
      · rintro (⟨⟨c, h1, h2⟩, h3⟩ | h)
        · obtain ⟨⟨x, y⟩, h4, h5⟩ := List.mem_map.mp h2
          exact ⟨⟨c, h1, x, y, h4, h5.symm⟩, h3⟩
        · cases h
      · rintro ⟨⟨c, h1, x, y, h4, h5⟩, h3⟩
        exact .inl ⟨⟨c, h1, List.mem_map.mpr ⟨(x, y), h4, h5.symm⟩⟩, h3⟩
    obtain ⟨i1, i2, i3⟩ := allPushed_spec P hP f (next ++ seen) next (by
        intro d hd
        obtain ⟨⟨c, h1, x, y, h4, rfl⟩, _⟩ := (hmem d).mp hd
        have := hf c h1
        have := (hP c (hp c (hs c h1)) x y h4).2
        omega) (by
        intro d hd
        rcases List.mem_append.mp hd with h | h
        · obtain ⟨⟨c, h1, x, y, h4, rfl⟩, _⟩ := (hmem d).mp h
          exact (hP c (hp c (hs c h1)) x y h4).1
        · exact hp d h) (fun d hd => List.mem_append.mpr (.inl hd)) (by
        intro d hd
        rcases List.mem_append.mp hd with h | h
        · exact .inl h
        · right
          intro x y k
          rcases hc d h with q | q
          · by_cases hin : Ho04.push d x y ∈ seen
            · exact List.mem_append.mpr (.inr hin)
            · exact List.mem_append.mpr (.inl ((hmem _).mpr ⟨⟨d, q, x, y, k, rfl⟩, hin⟩))
          · exact List.mem_append.mpr (.inr (q x y k)))
    exact ⟨fun c h => i1 c (List.mem_append.mpr (.inr h)), i2, i3⟩

/-- what is at hand behind k cuts -/
structure Ok (n : Nat) (p : Int) (c : Cx) : Prop where
  good : Good c
  len : c.length ≤ n
  few : c.length ≤ 13
  low : p ≤ phi c

theorem Ok.push {n : Nat} {p : Int} {c : Cx} (h : Ok n p c) {x y : Sim} (k : (x, y) ∈ frees c) : Ok n p (Ho04.push c x y) ∧ (Ho04.push c x y).length < c.length := by
  obtain ⟨hx, ho⟩ := mem_frees.mp k
  have l := push_length h.good hx ho
  have e := h.good.phi_push (h.good.flat h.few) hx ho
  have h2 := h.len
  have h3 := h.few
  have h4 := h.low
  exact ⟨⟨h.good.push hx ho, by omega, by omega, by omega⟩, by omega⟩

/-- in what is shut under pushes there is one that can't be pushed, as good as a given one -/
theorem to_stuck {r : List Cx} (hr : ∀ c ∈ r, ∀ x y, (x, y) ∈ frees c → Ho04.push c x y ∈ r) : ∀ (n : Nat) {c : Cx}, c.length ≤ n → c ∈ r → Good c → c.length ≤ 13 → c ≠ [] →
    ∃ d ∈ r, frees d = [] ∧ Good d ∧ d.length ≤ 13 ∧ phi d = phi c ∧ d ≠ [] := by
  intro n
  induction n with
  | zero =>
    intro c h _ _ _ hne
    exact absurd (List.length_eq_zero_iff.mp (by omega)) hne
  | succ n ih =>
    intro c hn hc g hl hne
    cases hs : frees c with
    | nil => exact ⟨c, hc, hs, g, hl, rfl, hne⟩
    | cons p l =>
      obtain ⟨x, y⟩ := p
      have hm : (x, y) ∈ frees c := by
        rw [hs]
        exact List.mem_cons_self ..
      obtain ⟨hx, ho⟩ := mem_frees.mp hm
      have l := push_length g hx ho
      have e := g.phi_push (g.flat hl) hx ho
      have hne' : Ho04.push c x y ≠ [] := by
        intro q
        -- a corner is left
        obtain ⟨t1, t2, hsub, hxy⟩ := g.push_tops hx ho
        have hf := g.flat hl
        have ly := hf y t1.1
        have lx := g.len x hx
        have lxy : x.length < y.length := by
          rcases Nat.lt_or_ge x.length y.length with h | h
          · exact h
          · exact absurd (hsub.eq_of_length_le h).symm hxy
        have hyr := g.ris _ t1.1
        have : ∃ a b, a ∈ y ∧ b ∈ y ∧ a ≠ b := by
          match y, lxy, hyr with
          | [], h, _ => simp at h
          | [_], h, _ =>
            have : x.length = 0 := by simpa using h
            omega
          | a :: b :: _, _, hr => exact ⟨a, b, by simp, by simp, by simp at hr; omega⟩
        obtain ⟨a, b, ha, hb, hab⟩ := this
        have ca := g.corner_mem t1.1 ha
        have cb := g.corner_mem t1.1 hb
        have : ∀ u, u ∈ y → [u] ≠ x → False := by
          intro u hu hux
          have : [u] ∈ Ho04.push c x y := by
            rw [push_rm]
            exact mem_rm.mpr ⟨mem_rm.mpr ⟨g.corner_mem t1.1 hu, fun e => by
              have : x.length < 1 := by rw [← e] at lxy; exact lxy
              omega⟩, hux⟩
          rw [q] at this
          cases this
        by_cases h1 : [a] = x
        · exact this b hb (fun h2 => hab (by rw [← h1] at h2; simpa using h2.symm))
        · exact this a ha h1
      obtain ⟨d, h1, h2, h3, h4, h5, h6⟩ := ih (c := Ho04.push c x y) (by omega) (hr c hc x y hm) (g.push hx ho) (by omega) hne'
      exact ⟨d, h1, h2, h3, h4, by omega, h6⟩

theorem cutsFrom_phi : ∀ (f k : Nat) (l : List Cx) (p : Int), (∀ c ∈ l, Ok (f - 1) p c) → (∃ m ∈ l, phi m = p) → 0 < f →
    (cutsFrom f k l : Int) = k + p
  | 0, _, _, _, _, _, h => absurd h (Nat.lt_irrefl _)
  | f + 1, k, l, p, hl, ⟨m, hm, em⟩, _ => by
    have om := hl m hm
    have pos := phi_nonneg _ (Nat.le_refl _) om.good (om.good.flat om.few) om.few
    unfold cutsFrom
    split
    · rename_i h
      obtain ⟨c, hc, hc'⟩ := List.any_eq_true.mp h
      have e : c = [] := by simpa using hc'
      have := (hl c hc).low
      rw [e, phi_nil] at this
      omega
    · rename_i h
      have hne : ∀ c ∈ l, c ≠ [] := by
        intro c hc e
        apply h
        rw [List.any_eq_true]
        exact ⟨c, hc, by rw [e]; rfl⟩
      have hf : 0 < f := by
        have h1 := om.len
        have h2 := hne m hm
        rcases Nat.eq_zero_or_pos f with e | e
        · subst e
          exact absurd (List.length_eq_zero_iff.mp (by omega)) h2
        · exact e
      obtain ⟨a1, a2, a3⟩ := allPushed_spec (Ok f p) (fun c hc x y k => hc.push k) 100 l l (fun c hc => by
        have := (hl c hc).few
        omega) (fun c hc => by
        have := hl c hc
        exact this) (fun c hc => hc) (fun c hc => .inl hc)
      obtain ⟨d, d1, d2, d3, d4, d5, d6⟩ := to_stuck a3 _ (Nat.le_refl _) (a1 m hm) om.good om.few (hne m hm)
      obtain ⟨x, x1, x2⟩ := good_cut d3 (d3.flat d4) d4 d2 d6
      have hmem : ∀ e, e ∈ (((stuck (allPushed 100 l l)).flatMap fun (c : Cx) => (tops c).map fun (x : Sim) => c.filter fun (y : Sim) => decide (y ≠ x)).foldl addNew []) ↔ ∃ c ∈ allPushed 100 l l, frees c = [] ∧ ∃ x ∈ tops c, e = rm c x := by
        intro e
        rw [mem_fold_addNew, List.mem_flatMap]
        constructor
        · rintro (⟨c, h1, h2⟩ | h)
          · obtain ⟨x, h3, h4⟩ := List.mem_map.mp h2
            unfold stuck at h1
            obtain ⟨h5, h6⟩ := List.mem_filter.mp h1
            exact ⟨c, h5, by simpa using h6, x, h3, h4.symm⟩
          · cases h
        · rintro ⟨c, h1, h2, x, h3, rfl⟩
          left
          refine ⟨c, ?_, List.mem_map.mpr ⟨x, h3, rfl⟩⟩
          unfold stuck
          exact List.mem_filter.mpr ⟨h1, by rw [h2]; rfl⟩
      have key := cutsFrom_phi f (k + 1) (((stuck (allPushed 100 l l)).flatMap fun (c : Cx) => (tops c).map fun (x : Sim) => c.filter fun (y : Sim) => decide (y ≠ x)).foldl addNew []) (p - 1) (by
        intro e he
        obtain ⟨c, h1, h2, x, h3, rfl⟩ := (hmem e).mp he
        have oc := a2 c h1
        have ht := (mem_tops oc.good).mp h3
        have hl1 := rm_length oc.good.nd ht.1
        have hcut := oc.good.phi_cut (oc.good.flat oc.few) ht
        have q1 := oc.len
        have q2 := oc.few
        have q3 := oc.low
        exact ⟨oc.good.rmTop ht, by omega, by omega, by omega⟩) ⟨rm d x, (hmem _).mpr ⟨d, d1, d2, x, (mem_tops d3).mpr x1, rfl⟩, by omega⟩ hf
      show ((cutsFrom f (k + 1) _ : Nat) : Int) = k + p
      rw [key]
      omega

theorem fewest_phi {c : Cx} (g : Good c) (h : c.length ≤ 13) : (Ho04.fewest c : Int) = phi c := by
  unfold Ho04.fewest
  rw [cutsFrom_phi (c.length + 1) 0 [c] (phi c) (fun d hd => by
    have : d = c := by simpa using hd
    subst this
    exact ⟨g, by omega, h, Int.le_refl _⟩) ⟨c, by simp, rfl⟩ (by omega)]
  omega
end Sc

set_option autoImplicit false
namespace Sc
open HoBase

/-! ### the least number of a table -/
def lpick (t : Tab) (b : Option (Nat × Nat)) (x : Nat × Nat) : Option (Nat × Nat) := if cell t x.1 x.2 = 0 then b else match b with
  | none => some x
  | some y => if (cell t x.1 x.2).natAbs < (cell t y.1 y.2).natAbs then some x else some y

def lplaces (t : Tab) : List (Nat × Nat) := (List.range t.length).flatMap fun (i : Nat) => (List.range (t.getD i []).length).map fun (j : Nat) => (i, j)

theorem least_eq (t : Tab) : least t = (lplaces t).foldl (lpick t) none := rfl

theorem lfold (t : Tab) : ∀ (l : List (Nat × Nat)) (b : Option (Nat × Nat)),
    (∀ y, b = some y → cell t y.1 y.2 ≠ 0) →
    (l.foldl (lpick t) b = none → b = none ∧ ∀ x ∈ l, cell t x.1 x.2 = 0) ∧
    (∀ y, l.foldl (lpick t) b = some y → cell t y.1 y.2 ≠ 0 ∧ (b = some y ∨ y ∈ l) ∧ (∀ z, b = some z → (cell t y.1 y.2).natAbs ≤ (cell t z.1 z.2).natAbs) ∧ ∀ x ∈ l, cell t x.1 x.2 ≠ 0 → (cell t y.1 y.2).natAbs ≤ (cell t x.1 x.2).natAbs)
  | [], b, hb => by
    refine ⟨fun h => ⟨h, fun x hx => by cases hx⟩, fun y h => ?_⟩
    have h : b = some y := h
    exact ⟨hb y h, .inl h, fun z hz => by rw [h] at hz; cases hz; exact Nat.le_refl _, fun x hx => by cases hx⟩
  | x :: l, b, hb => by
    rw [List.foldl_cons]
    by_cases h0 : cell t x.1 x.2 = 0
    · have e : lpick t b x = b := if_pos h0
      rw [e]
      obtain ⟨i1, i2⟩ := lfold t l b hb
      refine ⟨fun h => ⟨(i1 h).1, fun z hz => ?_⟩, fun y h => ?_⟩
      · rcases List.mem_cons.mp hz with rfl | hz
        · exact h0
        · exact (i1 h).2 z hz
      · obtain ⟨j1, j2, j3, j4⟩ := i2 y h
        refine ⟨j1, j2.elim .inl (fun h => .inr (List.mem_cons_of_mem _ h)), j3, fun z hz hz0 => ?_⟩
        rcases List.mem_cons.mp hz with rfl | hz
        · exact absurd h0 hz0
        · exact j4 z hz hz0
    · cases b with
      | none =>
        have e : lpick t none x = some x := if_neg h0
        rw [e]
        obtain ⟨i1, i2⟩ := lfold t l (some x) (fun y h => by cases h; exact h0)
        refine ⟨fun h => ?_, fun y h => ?_⟩
        · have := (i1 h).1
          cases this
        · obtain ⟨j1, j2, j3, j4⟩ := i2 y h
          refine ⟨j1, ?_, fun z hz => (by cases hz), fun z hz hz0 => ?_⟩
          · rcases j2 with j2 | j2
            · cases j2
              exact .inr (List.mem_cons_self ..)
            · exact .inr (List.mem_cons_of_mem _ j2)
          · rcases List.mem_cons.mp hz with rfl | hz
            · exact j3 _ rfl
            · exact j4 z hz hz0
      | some w =>
        have e : lpick t (some w) x = if (cell t x.1 x.2).natAbs < (cell t w.1 w.2).natAbs then some x else some w := if_neg h0
        rw [e]
        have hw := hb w rfl
        by_cases hlt : (cell t x.1 x.2).natAbs < (cell t w.1 w.2).natAbs
        · rw [if_pos hlt]
          obtain ⟨i1, i2⟩ := lfold t l (some x) (fun y h => by cases h; exact h0)
          refine ⟨fun h => ?_, fun y h => ?_⟩
          · have := (i1 h).1
            cases this
          · obtain ⟨j1, j2, j3, j4⟩ := i2 y h
            have jx := j3 x rfl
            refine ⟨j1, ?_, fun z hz => by cases hz; omega, fun z hz hz0 => ?_⟩
            · rcases j2 with j2 | j2
              · cases j2
                exact .inr (List.mem_cons_self ..)
              · exact .inr (List.mem_cons_of_mem _ j2)
            · rcases List.mem_cons.mp hz with rfl | hz
              · exact jx
              · exact j4 z hz hz0
        · rw [if_neg hlt]
          obtain ⟨i1, i2⟩ := lfold t l (some w) (fun y h => by cases h; exact hw)
          refine ⟨fun h => ?_, fun y h => ?_⟩
          · have := (i1 h).1
            cases this
          · obtain ⟨j1, j2, j3, j4⟩ := i2 y h
            have jx := j3 w rfl
            refine ⟨j1, j2.elim .inl (fun h => .inr (List.mem_cons_of_mem _ h)), j3, fun z hz hz0 => ?_⟩
            rcases List.mem_cons.mp hz with rfl | hz
            · omega
            · exact j4 z hz hz0

/-! ### tables by labels -/
variable {α β : Type}

def tab (R : List α) (C : List β) (A : α → β → Int) : Tab := R.map fun r => C.map fun c => A r c

theorem tab_getD (R : List α) (C : List β) (A : α → β → Int) {i : Nat} {r : α} (h : R[i]? = some r) : (tab R C A).getD i [] = C.map fun c => A r c := by
  unfold tab
  rw [List.getD_eq_getElem?_getD, List.getElem?_map, h]
  rfl

theorem tab_cell (R : List α) (C : List β) (A : α → β → Int) {i j : Nat} {r : α} {c : β} (h : R[i]? = some r) (k : C[j]? = some c) : cell (tab R C A) i j = A r c := by
  unfold cell
  rw [tab_getD R C A h, List.getD_eq_getElem?_getD, List.getElem?_map, k]
  rfl

theorem mem_lplaces (R : List α) (C : List β) (A : α → β → Int) {i j : Nat} : (i, j) ∈ lplaces (tab R C A) ↔ i < R.length ∧ j < C.length := by
  unfold lplaces
  rw [List.mem_flatMap]
  have el : (tab R C A).length = R.length := by
    unfold tab
    rw [List.length_map]
  constructor
  · rintro ⟨a, ha, hb⟩
    rw [List.mem_range, el] at ha
    obtain ⟨b, hb1, hb2⟩ := List.mem_map.mp hb
    cases hb2
    refine ⟨ha, ?_⟩
    rw [List.mem_range, tab_getD R C A (List.getElem?_eq_getElem ha), List.length_map] at hb1
    exact hb1
  · rintro ⟨h1, h2⟩
    refine ⟨i, by rw [List.mem_range, el]; exact h1, List.mem_map.mpr ⟨j, ?_, rfl⟩⟩
    rw [List.mem_range, tab_getD R C A (List.getElem?_eq_getElem h1), List.length_map]
    exact h2

theorem least_none {R : List α} {C : List β} {A : α → β → Int} (h : least (tab R C A) = none) : ∀ r ∈ R, ∀ c ∈ C, A r c = 0 := by
  intro r hr c hc
  obtain ⟨i, hi, rfl⟩ := List.mem_iff_getElem.mp hr
  obtain ⟨j, hj, rfl⟩ := List.mem_iff_getElem.mp hc
  rw [least_eq] at h
  have := ((lfold (tab R C A) (lplaces (tab R C A)) none (fun y h => by cases h)).1 h).2 (i, j) ((mem_lplaces R C A).mpr ⟨hi, hj⟩)
  rw [tab_cell R C A (List.getElem?_eq_getElem hi) (List.getElem?_eq_getElem hj)] at this
  exact this

theorem least_some {R : List α} {C : List β} {A : α → β → Int} {i j : Nat} (h : least (tab R C A) = some (i, j)) :
    ∃ r0 c0, R[i]? = some r0 ∧ C[j]? = some c0 ∧ A r0 c0 ≠ 0 ∧ ∀ r ∈ R, ∀ c ∈ C, A r c ≠ 0 → (A r0 c0).natAbs ≤ (A r c).natAbs := by
  rw [least_eq] at h
  obtain ⟨h1, h2, _, h4⟩ := (lfold (tab R C A) (lplaces (tab R C A)) none (fun y h => by cases h)).2 (i, j) h
  have hin : (i, j) ∈ lplaces (tab R C A) := h2.elim (fun h => by cases h) id
  obtain ⟨hi, hj⟩ := (mem_lplaces R C A).mp hin
  refine ⟨R[i], C[j], List.getElem?_eq_getElem hi, List.getElem?_eq_getElem hj, ?_, ?_⟩
  · rw [← tab_cell R C A (List.getElem?_eq_getElem hi) (List.getElem?_eq_getElem hj)]
    exact h1
  · intro r hr c hc h0
    obtain ⟨i', hi', rfl⟩ := List.mem_iff_getElem.mp hr
    obtain ⟨j', hj', rfl⟩ := List.mem_iff_getElem.mp hc
    have := h4 (i', j') ((mem_lplaces R C A).mpr ⟨hi', hj'⟩)
    rw [tab_cell R C A (List.getElem?_eq_getElem hi') (List.getElem?_eq_getElem hj'), tab_cell R C A (List.getElem?_eq_getElem hi) (List.getElem?_eq_getElem hj)] at this
    exact this h0

/-! ### one step -/
theorem nodup_place {l : List α} (h : l.Nodup) {i k : Nat} {x y : α} (hi : l[i]? = some x) (hk : l[k]? = some y) : k = i ↔ y = x := by
  constructor
  · rintro rfl
    rw [hi] at hk
    exact (Option.some.inj hk).symm
  · rintro rfl
    obtain ⟨h1, e1⟩ := List.getElem?_eq_some_iff.mp hi
    obtain ⟨h2, e2⟩ := List.getElem?_eq_some_iff.mp hk
    have hp := List.pairwise_iff_getElem.mp h
    rcases Nat.lt_trichotomy k i with q | q | q
    · exact absurd (e2.trans e1.symm) (hp k i h2 h1 q)
    · exact q
    · exact absurd (e1.trans e2.symm) (hp i k h1 h2 q)

theorem zip_map {γ δ : Type} [DecidableEq α] (R : List α) (hR : R.Nodup) {i : Nat} {r0 : α} (hi : R[i]? = some r0) (F : α → γ) (g h : γ → δ) :
    ((R.map F).zipIdx.map fun x => if x.2 = i then g x.1 else h x.1) = R.map fun r => if r = r0 then g (F r) else h (F r) := by
  apply List.ext_getElem?
  intro k
  rw [List.getElem?_map, List.getElem?_zipIdx, List.getElem?_map, List.getElem?_map]
  cases e : R[k]? with
  | none => rfl
  | some r =>
    have := nodup_place hR hi e
    simp only [Option.map_some, Nat.zero_add]
    by_cases q : k = i
    · rw [if_pos q, if_pos (this.mp q)]
    · rw [if_neg q, if_neg (fun z => q (this.mpr z))]

theorem zip_all [DecidableEq α] {γ : Type} (R : List α) (F : α → γ) (g : γ → Nat → Bool) (h : ∀ k r, R[k]? = some r → g (F r) k = true) :
    ((R.map F).zipIdx.all fun x => g x.1 x.2) = true := by
  rw [List.all_eq_true]
  intro ⟨x, k⟩ hx
  rw [List.mk_mem_zipIdx_iff_getElem?, List.getElem?_map] at hx
  cases e : R[k]? with
  | none => rw [e] at hx; cases hx
  | some r =>
    rw [e] at hx
    cases hx
    exact h k r e

theorem less_map (q : Int) (C : List β) (f g : β → Int) : less q (C.map f) (C.map g) = C.map fun c => f c - q * g c := by
  unfold less
  induction C with
  | nil => rfl
  | cons a C ih =>
    simp only [List.map_cons, List.zip_cons_cons]
    rw [ih]

theorem eraseIdx_map {γ : Type} (f : α → γ) : ∀ (l : List α) (i : Nat), (l.map f).eraseIdx i = (l.eraseIdx i).map f
  | [], _ => rfl
  | _ :: _, 0 => rfl
  | a :: l, i + 1 => by
    show f a :: (l.map f).eraseIdx i = f a :: (l.eraseIdx i).map f
    rw [eraseIdx_map f l i]

/-- what is left behind a step -/
def elim (A : α → β → Int) (r0 : α) (c0 : β) : α → β → Int := fun r c => A r c - Int.fdiv (A r c0) (A r0 c0) * A r0 c

theorem fdiv_mul_of_dvd {a p : Int} (hp : p ≠ 0) (h : p ∣ a) : Int.fdiv a p * p = a := by
  obtain ⟨k, rfl⟩ := h
  rw [Int.mul_comm p k]
  rw [Int.mul_fdiv_cancel _ hp]

theorem diag_step [DecidableEq α] [DecidableEq β] {R : List α} {C : List β} (hR : R.Nodup) (hC : C.Nodup) {A : α → β → Int} {i j : Nat} (hl : least (tab R C A) = some (i, j))
    {r0 : α} {c0 : β} (hi : R[i]? = some r0) (hj : C[j]? = some c0) (h0 : A r0 c0 ≠ 0) (hd : ∀ r ∈ R, ∀ c ∈ C, A r0 c0 ∣ A r c) (f : Nat) :
    diagonal (f + 1) (tab R C A) = (A r0 c0).natAbs :: diagonal f (tab (R.eraseIdx i) (C.eraseIdx j) (elim A r0 c0)) := by
  have hr0 : r0 ∈ R := List.mem_iff_getElem?.mpr ⟨i, hi⟩
  have hc0 : c0 ∈ C := List.mem_iff_getElem?.mpr ⟨j, hj⟩
  have ep : cell (tab R C A) i j = A r0 c0 := tab_cell R C A hi hj
  have er : (tab R C A).getD i [] = C.map fun c => A r0 c := tab_getD R C A hi
  have erow : ∀ r : α, ((C.map fun c => A r c).getD j 0) = A r c0 := fun r => by
    rw [List.getD_eq_getElem?_getD, List.getElem?_map, hj]
    rfl
  -- u
  let U : α → β → Int := fun r c => if r = r0 then A r c else elim A r0 c0 r c
  have eu : ((tab R C A).zipIdx.map fun (x : List Int × Nat) => if x.2 = i then x.1 else less (Int.fdiv (x.1.getD j 0) (A r0 c0)) x.1 (C.map fun c => A r0 c)) = tab R C U := by
    unfold tab
    rw [zip_map R hR hi (fun r => C.map fun c => A r c) (fun x => x) (fun x => less (Int.fdiv (x.getD j 0) (A r0 c0)) x (C.map fun c => A r0 c))]
    apply List.map_congr_left
    intro r _
    by_cases e : r = r0
    · rw [if_pos e]
      apply List.map_congr_left
      intro c _
      exact (if_pos e).symm
    · rw [if_neg e, erow, less_map]
      apply List.map_congr_left
      intro c _
      exact (if_neg e).symm
  have eur : (tab R C U).getD i [] = C.map fun c => A r0 c := by
    rw [tab_getD R C U hi]
    apply List.map_congr_left
    intro c _
    exact if_pos rfl
  have hU0 : ∀ r, r ∈ R → r ≠ r0 → U r c0 = 0 := fun r hr e => by
    show (if r = r0 then A r c0 else elim A r0 c0 r c0) = 0
    rw [if_neg e]
    unfold elim
    rw [fdiv_mul_of_dvd h0 (hd r hr c0 hc0)]
    omega
  have hUp : U r0 c0 = A r0 c0 := if_pos rfl
  -- v
  let W : α → β → Int := fun r c => if r = r0 then (if c = c0 then A r0 c0 else 0) else elim A r0 c0 r c
  have ecol : ∀ c ∈ C, ∀ k, C[k]? = some c → (C.map fun c => A r0 c).getD k 0 = A r0 c := fun c _ k hk => by
    rw [List.getD_eq_getElem?_getD, List.getElem?_map, hk]
    rfl
  have ev : ((tab R C U).map fun (x : List Int) => x.zipIdx.map fun (y : Int × Nat) => if y.2 = j then y.1 else y.1 - Int.fdiv ((C.map fun c => A r0 c).getD y.2 0) (A r0 c0) * x.getD j 0) = tab R C W := by
    unfold tab
    rw [List.map_map]
    apply List.map_congr_left
    intro r hr
    show ((C.map fun c => U r c).zipIdx.map fun (y : Int × Nat) => if y.2 = j then y.1 else y.1 - Int.fdiv ((C.map fun c => A r0 c).getD y.2 0) (A r0 c0) * (C.map fun c => U r c).getD j 0) = C.map fun c => W r c
    have exj : (C.map fun c => U r c).getD j 0 = U r c0 := by
      rw [List.getD_eq_getElem?_getD, List.getElem?_map, hj]
      rfl
    rw [exj]
    apply List.ext_getElem?
    intro k
    rw [List.getElem?_map, List.getElem?_zipIdx, List.getElem?_map, List.getElem?_map]
    cases e : C[k]? with
    | none => rfl
    | some c =>
      have hc : c ∈ C := List.mem_iff_getElem?.mpr ⟨k, e⟩
      have hkj := nodup_place hC hj e
      simp only [Option.map_some, Nat.zero_add]
      congr 1
      by_cases q : k = j
      · have qc := hkj.mp q
        rw [if_pos q, qc]
        by_cases er0 : r = r0
        · show (if r = r0 then A r c0 else elim A r0 c0 r c0) = if r = r0 then (if c0 = c0 then A r0 c0 else 0) else elim A r0 c0 r c0
          rw [if_pos er0, if_pos er0, if_pos rfl, er0]
        · show (if r = r0 then A r c0 else elim A r0 c0 r c0) = if r = r0 then (if c0 = c0 then A r0 c0 else 0) else elim A r0 c0 r c0
          rw [if_neg er0, if_neg er0]
      · have qc : c ≠ c0 := fun z => q (hkj.mpr z)
        rw [if_neg q, ecol c hc k e]
        by_cases er0 : r = r0
        · subst er0
          rw [hUp]
          show (if r = r then A r c else elim A r c0 r c) - _ = if r = r then (if c = c0 then A r c0 else 0) else elim A r c0 r c
          rw [if_pos rfl, if_pos rfl, if_neg qc, fdiv_mul_of_dvd h0 (hd r hr0 c hc)]
          omega
        · rw [hU0 r hr er0]
          show (if r = r0 then A r c else elim A r0 c0 r c) - _ = if r = r0 then (if c = c0 then A r0 c0 else 0) else elim A r0 c0 r c
          rw [if_neg er0, if_neg er0, Int.mul_zero, Int.sub_zero]
  have hWd : ∀ r ∈ R, ∀ c ∈ C, A r0 c0 ∣ W r c := by
    intro r hr c hc
    by_cases er0 : r = r0
    · show A r0 c0 ∣ if r = r0 then (if c = c0 then A r0 c0 else 0) else elim A r0 c0 r c
      rw [if_pos er0]
      split
      · exact Int.dvd_refl _
      · exact Int.dvd_zero _
    · show A r0 c0 ∣ if r = r0 then (if c = c0 then A r0 c0 else 0) else elim A r0 c0 r c
      rw [if_neg er0]
      unfold elim
      exact Int.dvd_sub (hd r hr c hc) (Int.dvd_mul_of_dvd_right (hd r0 hr0 c hc))
  have hWj : ∀ r ∈ R, r ≠ r0 → W r c0 = 0 := by
    intro r hr e
    show (if r = r0 then (if c0 = c0 then A r0 c0 else 0) else elim A r0 c0 r c0) = 0
    rw [if_neg e]
    unfold elim
    rw [fdiv_mul_of_dvd h0 (hd r hr c0 hc0)]
    omega
  have eclean : (((tab R C W).zipIdx.all fun (x : List Int × Nat) => x.2 == i || x.1.getD j 0 == 0) && (((tab R C W).getD i []).zipIdx.all fun (y : Int × Nat) => y.2 == j || y.1 == 0)) = true := by
    rw [Bool.and_eq_true]
    constructor
    · unfold tab
      refine zip_all R (fun r => C.map fun c => W r c) (fun x k => k == i || x.getD j 0 == 0) (fun k r hk => ?_)
      rw [Bool.or_eq_true]
      by_cases q : k = i
      · left
        simpa using q
      · right
        have hne : r ≠ r0 := fun z => q ((nodup_place hR hi hk).mpr z)
        have : (C.map fun c => W r c).getD j 0 = W r c0 := by
          rw [List.getD_eq_getElem?_getD, List.getElem?_map, hj]
          rfl
        rw [this, hWj r (List.mem_iff_getElem?.mpr ⟨k, hk⟩) hne]
        rfl
    · rw [tab_getD R C W hi]
      refine zip_all C (fun c => W r0 c) (fun x k => k == j || x == 0) (fun k c hk => ?_)
      rw [Bool.or_eq_true]
      by_cases q : k = j
      · left
        simpa using q
      · right
        have hne : c ≠ c0 := fun z => q ((nodup_place hC hj hk).mpr z)
        have : W r0 c = 0 := by
          show (if r0 = r0 then (if c = c0 then A r0 c0 else 0) else elim A r0 c0 r0 c) = 0
          rw [if_pos rfl, if_neg hne]
        rw [this]
        rfl
  have efind : ((List.range (tab R C W).length).find? fun (k : Nat) => k != i && ((tab R C W).getD k []).any fun (z : Int) => decide (z % (A r0 c0) ≠ 0)) = none := by
    rw [List.find?_eq_none]
    intro k hk
    rw [List.mem_range] at hk
    have hk' : k < R.length := by
      unfold tab at hk
      rwa [List.length_map] at hk
    rw [tab_getD R C W (List.getElem?_eq_getElem hk')]
    intro q
    rw [Bool.and_eq_true] at q
    obtain ⟨z, hz, hz'⟩ := List.any_eq_true.mp q.2
    obtain ⟨c, hc, rfl⟩ := List.mem_map.mp hz
    have := Int.emod_eq_zero_of_dvd (hWd R[k] (List.getElem_mem hk') c hc)
    simp at hz'
    exact hz' this
  have elast : ((tab R C W).eraseIdx i).map (fun (x : List Int) => x.eraseIdx j) = tab (R.eraseIdx i) (C.eraseIdx j) (elim A r0 c0) := by
    unfold tab
    rw [eraseIdx_map, List.map_map]
    apply List.map_congr_left
    intro r hr
    show (C.map fun c => W r c).eraseIdx j = (C.eraseIdx j).map fun c => elim A r0 c0 r c
    rw [eraseIdx_map]
    apply List.map_congr_left
    intro c _
    have hne : r ≠ r0 := by
      intro e
      subst e
      obtain ⟨hi1, hi2⟩ := List.getElem?_eq_some_iff.mp hi
      rw [List.mem_eraseIdx_iff_getElem] at hr
      obtain ⟨k, hk, hk1, hk2⟩ := hr
      exact hk1 ((nodup_place hR hi (List.getElem?_eq_some_iff.mpr ⟨hk, hk2⟩)).mpr rfl)
    exact if_neg hne
  rw [diagonal, hl]
  simp only [ep, er]
  rw [eu]
  simp only [eur]
  rw [ev, if_pos eclean]
  split
  · rename_i k hk
    rw [efind] at hk
    cases hk
  · rw [elast]
end Sc

set_option autoImplicit false
namespace Sc
open Classical
open HoBase Ho04

/-! ### the table of corners and edges -/
def inc (L : Nat → Nat) (r : Nat) (c : Nat × Nat) : Int := (if r = L c.2 then 1 else 0) - (if r = L c.1 then 1 else 0)

theorem inc_abs (L : Nat → Nat) (r : Nat) (c : Nat × Nat) : inc L r c = 0 ∨ inc L r c = 1 ∨ inc L r c = -1 := by
  unfold inc
  split <;> split <;> simp

theorem dvd_one {p : Int} (h : p = 1 ∨ p = -1) (a : Int) : p ∣ a := by
  rcases h with rfl | rfl
  · exact Int.one_dvd a
  · exact (Int.neg_dvd).mpr (Int.one_dvd a)

theorem fdiv_one {p : Int} (h : p = 1 ∨ p = -1) (a : Int) : Int.fdiv a p = a * p := by
  have hp : p ≠ 0 := by omega
  have := fdiv_mul_of_dvd hp (dvd_one h a)
  rcases h with rfl | rfl
  · omega
  · omega

theorem mem_erase_nodup {α : Type} {l : List α} (h : l.Nodup) {i : Nat} {x y : α} (hi : l[i]? = some x) : y ∈ l.eraseIdx i ↔ y ∈ l ∧ y ≠ x := by
  rw [List.mem_eraseIdx_iff_getElem]
  constructor
  · rintro ⟨k, hk, hne, e⟩
    subst e
    exact ⟨List.getElem_mem hk, fun q => hne ((nodup_place h hi (List.getElem?_eq_getElem hk)).mpr q)⟩
  · rintro ⟨hy, hne⟩
    obtain ⟨k, hk, rfl⟩ := List.mem_iff_getElem.mp hy
    exact ⟨k, hk, fun q => hne ((nodup_place h hi (List.getElem?_eq_getElem hk)).mp q), rfl⟩

theorem nodup_erase {α : Type} {l : List α} (h : l.Nodup) (i : Nat) : (l.eraseIdx i).Nodup := List.Pairwise.sublist (List.eraseIdx_sublist l i) h

theorem length_erase {α : Type} {l : List α} {i : Nat} {x : α} (hi : l[i]? = some x) : (l.eraseIdx i).length + 1 = l.length := by
  obtain ⟨h, _⟩ := List.getElem?_eq_some_iff.mp hi
  rw [List.length_eraseIdx, if_pos h]
  omega

theorem tab_congr {α β : Type} {R : List α} {C : List β} {A B : α → β → Int} (h : ∀ r ∈ R, ∀ c ∈ C, A r c = B r c) : tab R C A = tab R C B := by
  unfold tab
  apply List.map_congr_left
  intro r hr
  apply List.map_congr_left
  intro c hc
  exact h r hr c hc

theorem rank1_aux (V : List Nat) (hV : V.Nodup) (Q : Nat → Nat → Prop) (hQs : ∀ u v, Q u v → Q v u) : ∀ (f : Nat) (R : List Nat) (C : List (Nat × Nat)) (L : Nat → Nat) (F : Nat → Nat → Prop),
    R.Nodup → C.Nodup → C.length < f → (∀ v ∈ V, L v ∈ R) → (∀ c ∈ C, c.1 ∈ V ∧ c.2 ∈ V) →
    (∀ u v, F u v → F v u) → (∀ u v, F u v → u ∈ V) → (∀ u v, u ∈ V → v ∈ V → (Conn F u v ↔ L u = L v)) →
    (∀ u v, F u v → Conn Q u v) → (∀ u v, Q u v → Conn F u v ∨ ((u, v) ∈ C ∨ (v, u) ∈ C)) → (∀ c ∈ C, Q c.1 c.2) →
    (diagonal f (tab R C (inc L))).length + comp Q V = comp F V
  | 0, _, _, _, _, _, _, h, _, _, _, _, _, _, _, _ => absurd h (Nat.not_lt_zero _)
  | f + 1, R, C, L, F, hR, hC, hf, hL, hCV, hs, hFV, hF, hFQ, hQF, hCQ => by
    cases hl : least (tab R C (inc L)) with
    | none =>
      have hz := least_none hl
      have e : diagonal (f + 1) (tab R C (inc L)) = [] := by
        rw [diagonal, hl]
      rw [e]
      have hCF : ∀ c ∈ C, Conn F c.1 c.2 := by
        intro c hc
        obtain ⟨h1, h2⟩ := hCV c hc
        have z := hz (L c.2) (hL _ h2) c hc
        refine (hF _ _ h1 h2).mpr ?_
        unfold inc at z
        rw [if_pos rfl] at z
        split at z
        · rename_i q
          exact q.symm
        · omega
      have : comp Q V = comp F V := by
        apply comp_congr
        · intro u v k
          rcases hQF u v k with q | q | q
          · exact q
          · exact hCF _ q
          · exact (hCF _ q).symm hs
        · exact hFQ
      rw [this]
      simp
    | some ij =>
      obtain ⟨i, j⟩ := ij
      obtain ⟨r0, c0, hi, hj, h0, _⟩ := least_some hl
      have hp : inc L r0 c0 = 1 ∨ inc L r0 c0 = -1 := by
        rcases inc_abs L r0 c0 with h | h | h
        · exact absurd h h0
        · exact .inl h
        · exact .inr h
      rw [diag_step hR hC hl hi hj h0 (fun r _ c _ => dvd_one hp _)]
      have hc0 : c0 ∈ C := List.mem_iff_getElem?.mpr ⟨j, hj⟩
      obtain ⟨ha, hb⟩ := hCV c0 hc0
      have hab : L c0.1 ≠ L c0.2 := by
        intro e
        apply h0
        unfold inc
        rw [e]
        omega
      have hr0 : r0 = L c0.1 ∨ r0 = L c0.2 := by
        by_cases h1 : r0 = L c0.1
        · exact .inl h1
        · by_cases h2 : r0 = L c0.2
          · exact .inr h2
          · exfalso
            apply h0
            unfold inc
            rw [if_neg h1, if_neg h2]
            omega
      -- the other end
      have hso : ∃ s0, s0 ≠ r0 ∧ s0 ∈ R ∧ ((r0 = L c0.1 ∧ s0 = L c0.2) ∨ (r0 = L c0.2 ∧ s0 = L c0.1)) := by
        rcases hr0 with h | h
        · exact ⟨L c0.2, fun e => hab (by rw [← h, e]), hL _ hb, .inl ⟨h, rfl⟩⟩
        · exact ⟨L c0.1, fun e => hab (by rw [← h, e]), hL _ ha, .inr ⟨h, rfl⟩⟩
      obtain ⟨s0, hs0, hsR, hrs⟩ := hso
      let L' : Nat → Nat := fun x => if L x = r0 then s0 else L x
      have hL1 : ∀ x, L x = r0 → L' x = s0 := fun x q => if_pos q
      have hL2 : ∀ x, L x ≠ r0 → L' x = L x := fun x q => if_neg q
      have hL'r : ∀ x, L' x ≠ r0 := by
        intro x e
        simp only [L'] at e
        split at e
        · exact hs0 e
        · contradiction
      have etab : tab (R.eraseIdx i) (C.eraseIdx j) (elim (inc L) r0 c0) = tab (R.eraseIdx i) (C.eraseIdx j) (inc L') := by
        apply tab_congr
        intro r hr c _
        have hrr : r ≠ r0 := ((mem_erase_nodup hR hi).mp hr).2
        unfold elim
        rw [fdiv_one hp]
        have key : inc L r c - inc L r c0 * inc L r0 c0 * inc L r0 c = inc L' r c := by
          by_cases hrs0 : r = s0
          · have e1 : inc L r c0 * inc L r0 c0 = -1 := by
              rcases hrs with ⟨h1, h2⟩ | ⟨h1, h2⟩
              · unfold inc
                rw [hrs0, if_pos h2, if_neg (fun e => hs0 (by rw [e, ← h1])), if_neg (fun e => hs0 (by rw [h2, ← e])), if_pos h1]
                rfl
              · unfold inc
                rw [hrs0, if_neg (fun e => hs0 (by rw [e, ← h1])), if_pos h2, if_pos h1, if_neg (fun e => hs0 (by rw [h2, ← e]))]
                rfl
            rw [e1]
            have one : ∀ x, (if r = L' x then (1 : Int) else 0) = (if r = L x then 1 else 0) + (if r0 = L x then 1 else 0) := by
              intro x
              by_cases q : L x = r0
              · rw [hL1 x q, if_pos hrs0, if_pos q.symm, if_neg (fun e => hrr (e.trans q))]
                rfl
              · rw [hL2 x q, if_neg (fun e : r0 = L x => q e.symm)]
                omega
            unfold inc
            rw [one, one]
            omega
          · have e1 : inc L r c0 = 0 := by
              unfold inc
              rcases hrs with ⟨h1, h2⟩ | ⟨h1, h2⟩
              · rw [if_neg (fun e => hrs0 (by rw [e, h2])), if_neg (fun e => hrr (by rw [e, h1]))]
                rfl
              · rw [if_neg (fun e => hrr (by rw [e, h1])), if_neg (fun e => hrs0 (by rw [e, h2]))]
                rfl
            rw [e1]
            have one : ∀ x, (if r = L' x then (1 : Int) else 0) = (if r = L x then 1 else 0) := by
              intro x
              by_cases q : L x = r0
              · rw [hL1 x q, if_neg hrs0, if_neg (fun e => hrr (e.trans q))]
              · rw [hL2 x q]
            unfold inc
            rw [one, one]
            omega
        exact key
      rw [etab, List.length_cons]
      have hnab : ¬ Conn F c0.1 c0.2 := fun q => hab ((hF _ _ ha hb).mp q)
      have hFin : ∀ u v, Conn F u v → v ∈ V → u ∈ V := by
        intro u v h
        induction h with
        | refl => exact id
        | step _ r ih => exact fun _ => ih (hFV _ _ r)
      have ec := comp_more hs hV hnab (fun u hu => hFin _ _ hu ha) (fun u hu => hFin _ _ hu hb)
      have ih := rank1_aux V hV Q hQs f (R.eraseIdx i) (C.eraseIdx j) L' (More F c0.1 c0.2) (nodup_erase hR i) (nodup_erase hC j)
        (by have := length_erase hj; omega)
        (fun v hv => (mem_erase_nodup hR hi).mpr ⟨by
          simp only [L']
          split
          · exact hsR
          · exact hL v hv, hL'r v⟩)
        (fun c hc => hCV c ((mem_erase_nodup hC hj).mp hc).1)
        (fun u v h => by
          rcases h with h | ⟨h1, h2⟩ | ⟨h1, h2⟩
          · exact .inl (hs _ _ h)
          · exact .inr (.inr ⟨h2, h1⟩)
          · exact .inr (.inl ⟨h2, h1⟩))
        (fun u v h => by
          rcases h with h | ⟨rfl, rfl⟩ | ⟨rfl, rfl⟩
          · exact hFV _ _ h
          · exact ha
          · exact hb)
        (fun u v hu hv => by
          have hLe : L' u = L' v ↔ (L u = L v ∨ ((L u = r0 ∧ L v = s0) ∨ (L u = s0 ∧ L v = r0))) := by
            simp only [L']
            constructor
            · intro e
              split at e <;> split at e
              · rename_i h1 h2
                exact .inl (h1.trans h2.symm)
              · rename_i h1 h2
                exact .inr (.inl ⟨h1, e.symm⟩)
              · rename_i h1 h2
                exact .inr (.inr ⟨e, h2⟩)
              · exact .inl e
            · rintro (e | ⟨e1, e2⟩ | ⟨e1, e2⟩)
              · rw [e]
              · rw [if_pos e1, if_neg (fun q => hs0 (e2.symm.trans q)), e2]
              · rw [if_neg (fun q => hs0 (e1.symm.trans q)), if_pos e2, e1]
          rw [hLe]
          constructor
          · intro h
            rcases more_conn hs h with q | ⟨q1, q2⟩ | ⟨q1, q2⟩
            · exact .inl ((hF _ _ hu hv).mp q)
            · have w1 := (hF _ _ hu ha).mp q1
              have w2 := (hF _ _ hb hv).mp q2
              right
              rcases hrs with ⟨h1, h2⟩ | ⟨h1, h2⟩
              · exact .inl ⟨w1.trans h1.symm, w2.symm.trans h2.symm⟩
              · exact .inr ⟨w1.trans h2.symm, w2.symm.trans h1.symm⟩
            · have w1 := (hF _ _ hu hb).mp q1
              have w2 := (hF _ _ ha hv).mp q2
              right
              rcases hrs with ⟨h1, h2⟩ | ⟨h1, h2⟩
              · exact .inr ⟨w1.trans h2.symm, w2.symm.trans h1.symm⟩
              · exact .inl ⟨w1.trans h1.symm, w2.symm.trans h2.symm⟩
          · have byab : ∀ u v, u ∈ V → v ∈ V → L u = L c0.1 → L v = L c0.2 → Conn (More F c0.1 c0.2) u v := fun u v hu hv e1 e2 =>
              (((hF _ _ hu ha).mpr e1).more).trans (Conn.newEdge.trans (((hF _ _ hb hv).mpr e2.symm).more))
            have byba : ∀ u v, u ∈ V → v ∈ V → L u = L c0.2 → L v = L c0.1 → Conn (More F c0.1 c0.2) u v := fun u v hu hv e1 e2 =>
              (((hF _ _ hu hb).mpr e1).more).trans (Conn.newEdge'.trans (((hF _ _ ha hv).mpr e2.symm).more))
            rintro (e | ⟨e1, e2⟩ | ⟨e1, e2⟩)
            · exact ((hF _ _ hu hv).mpr e).more
            · rcases hrs with ⟨h1, h2⟩ | ⟨h1, h2⟩
              · exact byab u v hu hv (e1.trans h1) (e2.trans h2)
              · exact byba u v hu hv (e1.trans h1) (e2.trans h2)
            · rcases hrs with ⟨h1, h2⟩ | ⟨h1, h2⟩
              · exact byba u v hu hv (e1.trans h2) (e2.trans h1)
              · exact byab u v hu hv (e1.trans h2) (e2.trans h1))
        (fun u v h => by
          rcases h with h | ⟨rfl, rfl⟩ | ⟨rfl, rfl⟩
          · exact hFQ _ _ h
          · exact .step (.refl _) (hCQ c0 hc0)
          · -- Q need not be symmetric by itself: by F's own edges
            exact .step (.refl _) (hQs _ _ (hCQ c0 hc0)))
        (fun u v h => by
          rcases hQF u v h with q | q | q
          · exact .inl q.more
          · by_cases e : (u, v) = c0
            · left
              subst e
              exact Conn.newEdge
            · exact .inr (.inl ((mem_erase_nodup hC hj).mpr ⟨q, e⟩))
          · by_cases e : (v, u) = c0
            · left
              subst e
              exact Conn.newEdge'
            · exact .inr (.inr ((mem_erase_nodup hC hj).mpr ⟨q, e⟩)))
        (fun c hc => hCQ c ((mem_erase_nodup hC hj).mp hc).1)
      omega
end Sc

set_option autoImplicit false
namespace Sc
open Classical
open HoBase Ho04

/-! ### corners and edges -/
def es (c : Cx) : List (Nat × Nat) := c.filterMap fun x => match x with
  | [a, b] => some (a, b)
  | _ => none

theorem mem_es {c : Cx} {p : Nat × Nat} : p ∈ es c ↔ [p.1, p.2] ∈ c := by
  unfold es
  rw [List.mem_filterMap]
  constructor
  · rintro ⟨x, hx, h⟩
    match x, h with
    | [a, b], h =>
      have : (a, b) = p := by simpa using h
      subst this
      exact hx
  · intro h
    exact ⟨_, h, rfl⟩

theorem es_cons_one (a b : Nat) (c : Cx) : es ([a, b] :: c) = (a, b) :: es c := rfl
theorem es_cons_other {x : Sim} (c : Cx) (h : x.length ≠ 2) : es (x :: c) = es c := by
  match x, h with
  | [], _ => rfl
  | [_], _ => rfl
  | [_, _], h => exact absurd rfl h
  | _ :: _ :: _ :: _, _ => rfl

theorem es_nodup : ∀ {c : Cx}, c.Nodup → (es c).Nodup
  | [], _ => List.nodup_nil
  | x :: c, h => by
    have h' := List.nodup_cons.mp h
    by_cases e : x.length = 2
    · match x, e with
      | [a, b], _ =>
        rw [es_cons_one]
        exact List.nodup_cons.mpr ⟨fun k => h'.1 (mem_es.mp k), es_nodup h'.2⟩
    · rw [es_cons_other c e]
      exact es_nodup h'.2

theorem ofDim0 : ∀ (c : Cx), ofDim c 0 = (vs c).map fun a => [a]
  | [] => rfl
  | x :: c => by
    have ih := ofDim0 c
    by_cases e : x.length = 1
    · match x, e with
      | [a], _ =>
        rw [vs_cons_one, List.map_cons, ← ih]
        rfl
    · rw [vs_cons_other c e, ← ih]
      unfold ofDim
      rw [List.filter_cons_of_neg (by simpa using e)]

theorem ofDim1 : ∀ (c : Cx), ofDim c 1 = (es c).map fun p => [p.1, p.2]
  | [] => rfl
  | x :: c => by
    have ih := ofDim1 c
    by_cases e : x.length = 2
    · match x, e with
      | [a, b], _ =>
        rw [es_cons_one, List.map_cons, ← ih]
        rfl
    · rw [es_cons_other c e, ← ih]
      unfold ofDim
      rw [List.filter_cons_of_neg (by simpa using e)]

theorem es_length (c : Cx) : (es c).length = cnt c 2 := by
  have := congrArg List.length (ofDim1 c)
  rw [List.length_map] at this
  rw [← this]
  unfold ofDim cnt
  rw [List.countP_eq_length_filter]

theorem incidence2 {a b v : Nat} (h : a < b) : incidence [a, b] [v] = inc id v (a, b) := by
  unfold incidence inc
  have e0 : face [a, b] 0 = [b] := rfl
  have e1 : face [a, b] 1 = [a] := rfl
  by_cases hb : v = b
  · subst hb
    have : (List.range [a, v].length).find? (fun i => decide (face [a, v] i = [v])) = some 0 := by
      simp [List.range, List.range.loop, face]
    rw [this]
    simp [sgn]
    omega
  · by_cases ha : v = a
    · subst ha
      have : (List.range [v, b].length).find? (fun i => decide (face [v, b] i = [v])) = some 1 := by
        simp [List.range, List.range.loop, face]
        omega
      rw [this]
      simp [sgn]
      omega
    · have : (List.range [a, b].length).find? (fun i => decide (face [a, b] i = [v])) = none := by
        simp [List.range, List.range.loop, face]
        omega
      rw [this]
      simp
      rw [if_neg hb, if_neg ha]
      rfl

theorem Good.boundary1 {c : Cx} (g : Good c) : boundary c 1 = tab (vs c) (es c) (inc id) := by
  unfold boundary tab
  rw [if_neg (by decide)]
  show (ofDim c 0).map (fun y => (ofDim c 1).map fun x => incidence x y) = _
  rw [ofDim0, ofDim1, List.map_map]
  apply List.map_congr_left
  intro v _
  show ((es c).map fun p => [p.1, p.2]).map (fun x => incidence x [v]) = _
  rw [List.map_map]
  apply List.map_congr_left
  intro p hp
  have := g.ris _ (mem_es.mp hp)
  exact incidence2 (by simpa using this)

theorem Good.rank1 {c : Cx} (g : Good c) (hl : c.length ≤ 13) : rank (boundary c 1) + nparts c = cnt c 1 := by
  unfold rank factors
  rw [g.boundary1]
  have hle : (es c).length ≤ 13 := by
    rw [es_length]
    have := counts_le (c := c)
    omega
  have := rank1_aux (vs c) (vs_nodup g.nd) (Adj c) Adj.symm STEPS (vs c) (es c) id (fun _ _ => False) (vs_nodup g.nd) (es_nodup g.nd)
    (by show (es c).length < 20000; omega) (fun v hv => hv) (fun p hp => ⟨g.adj_vs (.inl (mem_es.mp hp)), g.adj_vs (.inr (mem_es.mp hp))⟩)
    (fun _ _ h => h) (fun _ _ h => h.elim) (fun u v _ _ => ⟨fun h => by
      cases h with
      | refl => rfl
      | step _ r => exact r.elim, fun h => by
      have : u = v := h
      rw [this]
      exact .refl _⟩) (fun _ _ h => h.elim) (fun u v h => .inr (h.elim (fun h => .inl (mem_es.mpr h)) (fun h => .inr (mem_es.mpr h)))) (fun p hp => .inl (mem_es.mp hp))
  unfold nparts
  rw [this, comp_no_edge (fun _ _ h => h), vs_length]
  rfl

/-! ### triangles -/
theorem incidence3 {a b d : Nat} (h1 : a < b) (h2 : b < d) (y : Sim) : incidence [a, b, d] y = if y = [b, d] then 1 else if y = [a, d] then -1 else if y = [a, b] then 1 else 0 := by
  unfold incidence
  have e0 : face [a, b, d] 0 = [b, d] := rfl
  have e1 : face [a, b, d] 1 = [a, d] := rfl
  have e2 : face [a, b, d] 2 = [a, b] := rfl
  have er : List.range [a, b, d].length = [0, 1, 2] := rfl
  rw [er]
  by_cases q0 : y = [b, d]
  · rw [if_pos q0, List.find?_cons_of_pos (by rw [e0, q0]; simp)]
    rfl
  · rw [if_neg q0, List.find?_cons_of_neg (by rw [e0]; simpa using fun e => q0 e.symm)]
    by_cases q1 : y = [a, d]
    · rw [if_pos q1, List.find?_cons_of_pos (by rw [e1, q1]; simp)]
      rfl
    · rw [if_neg q1, List.find?_cons_of_neg (by rw [e1]; simpa using fun e => q1 e.symm)]
      by_cases q2 : y = [a, b]
      · rw [if_pos q2, List.find?_cons_of_pos (by rw [e2, q2]; simp)]
        rfl
      · rw [if_neg q2, List.find?_cons_of_neg (by rw [e2]; simpa using fun e => q2 e.symm)]
        rfl

theorem inc3_abs {a b d : Nat} (h1 : a < b) (h2 : b < d) (y : Sim) : incidence [a, b, d] y = 0 ∨ incidence [a, b, d] y = 1 ∨ incidence [a, b, d] y = -1 := by
  rw [incidence3 h1 h2]
  split
  · simp
  · split
    · simp
    · split <;> simp

theorem inc3_ne {a b d : Nat} (h1 : a < b) (h2 : b < d) (y : Sim) : incidence [a, b, d] y ≠ 0 ↔ (y = [b, d] ∨ y = [a, d] ∨ y = [a, b]) := by
  rw [incidence3 h1 h2]
  constructor
  · intro h
    split at h
    · exact .inl ‹_›
    · split at h
      · exact .inr (.inl ‹_›)
      · split at h
        · exact .inr (.inr ‹_›)
        · exact absurd rfl h
  · intro h
    split
    · decide
    · split
      · decide
      · split
        · decide
        · rename_i n1 n2 n3
          rcases h with h | h | h
          · exact absurd h n1
          · exact absurd h n2
          · exact absurd h n3

/-- of some triangles, one has a side that no other of them has -/
theorem Good.peel {c : Cx} (g : Good c) (hl : c.length ≤ 13) {D : List Sim} (hD : ∀ x ∈ D, x ∈ c ∧ x.length = 3) (hne : D ≠ []) :
    ∃ x ∈ D, ∃ y ∈ c, y.length = 2 ∧ (∀ u ∈ y, u ∈ x) ∧ ∀ z ∈ D, (∀ u ∈ y, u ∈ z) → z = x := by
  obtain ⟨x, hx⟩ := List.exists_mem_of_ne_nil D hne
  obtain ⟨hxc, hx3⟩ := hD x hx
  obtain ⟨a, b, d, rfl⟩ := len3 hx3
  by_cases h : ∃ x ∈ D, ∃ y ∈ c, y.length = 2 ∧ (∀ u ∈ y, u ∈ x) ∧ ∀ z ∈ D, (∀ u ∈ y, u ∈ z) → z = x
  · exact h
  · exfalso
    have key : ∀ y : Sim, y ∈ c → y.length = 2 → (∀ u ∈ y, u ∈ [a, b, d]) → ∃ z ∈ D, (∀ u ∈ y, u ∈ z) ∧ z ≠ [a, b, d] := by
      intro y hy h2 hs
      by_cases q : ∃ z ∈ D, (∀ u ∈ y, u ∈ z) ∧ z ≠ [a, b, d]
      · exact q
      · refine absurd ⟨[a, b, d], hx, y, hy, h2, hs, fun z hz hzs => ?_⟩ h
        by_cases e : z = [a, b, d]
        · exact e
        · exact absurd ⟨z, hz, hzs, e⟩ q
    have m1 : [a, b] ∈ c := g.clo _ hxc _ (by simp) (by simp)
    have m2 : [a, d] ∈ c := g.clo _ hxc _ (by simp) (List.Sublist.cons_cons a (List.Sublist.cons b (List.Sublist.refl _)))
    have m3 : [b, d] ∈ c := g.clo _ hxc _ (by simp) (by simp)
    obtain ⟨y, y1, y2, y3⟩ := key _ m1 rfl (by simp)
    obtain ⟨z, z1, z2, z3⟩ := key _ m2 rfl (by simp)
    obtain ⟨w, w1, w2, w3⟩ := key _ m3 rfl (by simp)
    have := three_more g hxc (hD y y1).1 (hD z z1).1 (hD w w1).1 (hD y y1).2 (hD z z1).2 (hD w w1).2 (y2 a (by simp)) (y2 b (by simp)) (z2 a (by simp)) (z2 d (by simp)) (w2 b (by simp)) (w2 d (by simp)) y3 z3 w3
    omega

theorem Good.many_edges {c : Cx} (g : Good c) (hl : c.length ≤ 13) : ∀ (n : Nat) (D : List Sim), D.length = n + 1 → D.Nodup → (∀ x ∈ D, x ∈ c ∧ x.length = 3) →
    ∃ E : List Sim, E.Nodup ∧ E.length = n + 3 ∧ (∀ y ∈ E, y ∈ c ∧ y.length = 2) ∧ ∀ y ∈ E, ∃ x ∈ D, ∀ u ∈ y, u ∈ x
  | 0, D, hn, _, hD => by
    match D, hn with
    | [x], _ =>
      obtain ⟨hxc, hx3⟩ := hD x (by simp)
      obtain ⟨a, b, d, rfl⟩ := len3 hx3
      have hr := g.ris _ hxc
      simp at hr
      have m1 : [a, b] ∈ c := g.clo _ hxc _ (by simp) (by simp)
      have m2 : [a, d] ∈ c := g.clo _ hxc _ (by simp) (List.Sublist.cons_cons a (List.Sublist.cons b (List.Sublist.refl _)))
      have m3 : [b, d] ∈ c := g.clo _ hxc _ (by simp) (by simp)
      refine ⟨[[a, b], [a, d], [b, d]], by simp; omega, rfl, ?_, ?_⟩
      · intro y hy
        simp at hy
        rcases hy with rfl | rfl | rfl
        · exact ⟨m1, rfl⟩
        · exact ⟨m2, rfl⟩
        · exact ⟨m3, rfl⟩
      · intro y hy
        simp at hy
        refine ⟨[a, b, d], by simp, ?_⟩
        rcases hy with rfl | rfl | rfl <;> simp
  | n + 1, D, hn, hnd, hD => by
    obtain ⟨x, hx, y, hy, hy2, hyx, hall⟩ := g.peel hl hD (by intro e; rw [e] at hn; cases hn)
    obtain ⟨s, t, rfl⟩ := List.append_of_mem hx
    have hsub : (s ++ t).Sublist (s ++ x :: t) := List.Sublist.append_left (List.sublist_cons_self ..) s
    have hxst : x ∉ s ++ t := by
      intro h
      have := (List.perm_middle (a := x) (l₁ := s) (l₂ := t)).nodup_iff.mp hnd
      exact (List.nodup_cons.mp this).1 h
    obtain ⟨E, h1, h2, h3, h4⟩ := g.many_edges hl n (s ++ t) (by simp at hn ⊢; omega) (List.Pairwise.sublist hsub hnd) (fun z hz => hD z (hsub.subset hz))
    refine ⟨y :: E, List.nodup_cons.mpr ⟨fun h => ?_, h1⟩, by simp; omega, ?_, ?_⟩
    · obtain ⟨z, hz, hzs⟩ := h4 y h
      exact hxst (hall z (hsub.subset hz) hzs ▸ hz)
    · intro z hz
      rcases List.mem_cons.mp hz with rfl | hz
      · exact ⟨hy, hy2⟩
      · exact h3 z hz
    · intro z hz
      rcases List.mem_cons.mp hz with rfl | hz
      · exact ⟨x, hx, hyx⟩
      · obtain ⟨w, hw, hws⟩ := h4 z hz
        exact ⟨w, hsub.subset hw, hws⟩

theorem Good.few_triangles {c : Cx} (g : Good c) (hl : c.length ≤ 13) : cnt c 3 ≤ 3 := by
  rcases Nat.lt_or_ge 3 (cnt c 3) with h | h
  · exfalso
    have e : cnt c 3 = (c.filter fun x => x.length == 3).length := by
      unfold cnt
      rw [List.countP_eq_length_filter]
    have hD : ∀ x ∈ c.filter (fun x => x.length == 3), x ∈ c ∧ x.length = 3 := fun x hx => ⟨(List.mem_filter.mp hx).1, by simpa using (List.mem_filter.mp hx).2⟩
    obtain ⟨E, h1, h2, h3, _⟩ := g.many_edges hl (cnt c 3 - 1) (c.filter fun x => x.length == 3) (by omega) (nodup_filter g.nd) hD
    have c2 := cnt_ge h1 h3
    have hnd : (c.filter fun x => x.length == 3).Nodup := nodup_filter g.nd
    match hm : c.filter (fun x => x.length == 3) with
    | [] => rw [hm] at e; simp at e; omega
    | [_] => rw [hm] at e; simp at e; omega
    | x :: y :: r =>
      rw [hm] at hnd hD
      obtain ⟨hx, hx3⟩ := hD x (by simp)
      obtain ⟨hy, hy3⟩ := hD y (by simp)
      have hxy : x ≠ y := by
        intro q
        subst q
        simp at hnd
      obtain ⟨u, hu, hux⟩ : ∃ u ∈ y, u ∉ x := by
        by_cases q : ∃ u ∈ y, u ∉ x
        · exact q
        · refine absurd ?_ hxy
          have : ∀ u ∈ y, u ∈ x := fun u hu => by
            by_cases h : u ∈ x
            · exact h
            · exact absurd ⟨u, hu, h⟩ q
          exact ((sub_of_subset (g.ris _ hy) (g.ris _ hx) this).eq_of_length_le (by omega)).symm
      obtain ⟨a, b, d, rfl⟩ := len3 hx3
      have hr := g.ris _ hx
      simp at hr hux
      have c1 : 4 ≤ cnt c 1 := cnt_ge (l := [[a], [b], [d], [u]]) (by simp; omega) (by
        intro z hz
        simp at hz
        rcases hz with rfl | rfl | rfl | rfl
        · exact ⟨g.corner_mem hx (by simp), rfl⟩
        · exact ⟨g.corner_mem hx (by simp), rfl⟩
        · exact ⟨g.corner_mem hx (by simp), rfl⟩
        · exact ⟨g.corner_mem hy hu, rfl⟩)
      have := counts_le (c := c)
      omega
  · exact h

/-! ### columns that no mixture makes nothing -/
section
variable {α β : Type}
def dot (C : List β) (f x : β → Int) : Int := (C.map fun c => f c * x c).sum

def Indep (R : List α) (C : List β) (A : α → β → Int) : Prop := ∀ x : β → Int, (∀ r ∈ R, dot C (A r) x = 0) → ∀ c ∈ C, x c = 0

theorem dot_cons (c : β) (C : List β) (f x : β → Int) : dot (c :: C) f x = f c * x c + dot C f x := by
  unfold dot
  rw [List.map_cons, List.sum_cons]

theorem dot_append (C D : List β) (f x : β → Int) : dot (C ++ D) f x = dot C f x + dot D f x := by
  unfold dot
  rw [List.map_append, List.sum_append]

theorem dot_erase : ∀ {C : List β} {j : Nat} {c0 : β}, C[j]? = some c0 → ∀ f x : β → Int, dot C f x = f c0 * x c0 + dot (C.eraseIdx j) f x
  | [], _, _, h, _, _ => by simp at h
  | c :: C, 0, c0, h, f, x => by
    have : c = c0 := by simpa using h
    subst this
    exact dot_cons c C f x
  | c :: C, j + 1, c0, h, f, x => by
    have h' : C[j]? = some c0 := by simpa using h
    have ih := dot_erase h' f x
    show dot (c :: C) f x = f c0 * x c0 + dot (c :: C.eraseIdx j) f x
    rw [dot_cons, dot_cons, ih]
    omega

theorem dot_congr {C : List β} {f g x y : β → Int} (h : ∀ c ∈ C, f c * x c = g c * y c) : dot C f x = dot C g y := by
  unfold dot
  rw [List.map_congr_left h]

theorem dot_mix (C : List β) (f g x : β → Int) (q : Int) : dot C (fun c => f c - q * g c) x = dot C f x - q * dot C g x := by
  induction C with
  | nil => simp [dot]
  | cons c C ih =>
    rw [dot_cons, dot_cons, dot_cons, ih]
    rw [Int.sub_mul, Int.mul_add, Int.mul_assoc]
    omega

theorem dot_zero (C : List β) (x : β → Int) : dot C (fun _ => 0) x = 0 := by
  unfold dot
  induction C with
  | nil => rfl
  | cons c C ih =>
    rw [List.map_cons, List.sum_cons, ih]
    simp

theorem Indep.elim {R : List α} {C : List β} {A : α → β → Int} (h : Indep R C A) (hR : R.Nodup) (hC : C.Nodup) {i j : Nat} {r0 : α} {c0 : β} (hi : R[i]? = some r0) (hj : C[j]? = some c0)
    (hp : A r0 c0 = 1 ∨ A r0 c0 = -1) : Indep (R.eraseIdx i) (C.eraseIdx j) (Sc.elim A r0 c0) := by
  intro x' hx'
  let S := dot (C.eraseIdx j) (A r0) x'
  let x : β → Int := fun c => if c = c0 then - (A r0 c0 * S) else x' c
  have hx0 : x c0 = - (A r0 c0 * S) := if_pos rfl
  have hx1 : ∀ c, c ≠ c0 → x c = x' c := fun c e => if_neg e
  have hne : ∀ c ∈ C.eraseIdx j, c ≠ c0 := fun c hc => ((mem_erase_nodup hC hj).mp hc).2
  have hd : ∀ r, dot C (A r) x = A r c0 * - (A r0 c0 * S) + dot (C.eraseIdx j) (A r) x' := by
    intro r
    rw [dot_erase hj, hx0]
    congr 1
    apply dot_congr
    intro c hc
    rw [hx1 c (hne c hc)]
  have hpp : A r0 c0 * A r0 c0 = 1 := by
    rcases hp with e | e <;> rw [e] <;> rfl
  have hall : ∀ r ∈ R, dot C (A r) x = 0 := by
    intro r hr
    rw [hd]
    by_cases e : r = r0
    · subst e
      show A r c0 * - (A r c0 * S) + S = 0
      rw [Int.mul_neg, ← Int.mul_assoc, hpp]
      omega
    · have := hx' r ((mem_erase_nodup hR hi).mpr ⟨hr, e⟩)
      unfold Sc.elim at this
      rw [dot_mix, fdiv_one hp] at this
      have e2 : A r c0 * -(A r0 c0 * S) = -(A r c0 * A r0 c0 * S) := by
        rw [Int.mul_neg, Int.mul_assoc]
      rw [e2]
      have e3 : dot (C.eraseIdx j) (A r0) x' = S := rfl
      rw [e3] at this
      omega
  intro c hc
  have := h x hall c ((mem_erase_nodup hC hj).mp hc).1
  rwa [hx1 c (hne c hc)] at this

theorem Indep.least {R : List α} {C : List β} {A : α → β → Int} (h : Indep R C A) (hne : C ≠ []) : ∃ i j, least (tab R C A) = some (i, j) := by
  cases e : HoBase.least (tab R C A) with
  | some ij => exact ⟨ij.1, ij.2, rfl⟩
  | none =>
    exfalso
    obtain ⟨c, hc⟩ := List.exists_mem_of_ne_nil C hne
    have hz := least_none e
    have := h (fun _ => 1) (fun r hr => by
      have : dot C (A r) (fun _ => 1) = dot C (fun _ => 0) (fun _ => 0) := dot_congr fun c hc => by
        rw [hz r hr c hc]
        rfl
      rw [this]
      exact dot_zero C _) c hc
    exact absurd this (by decide)

theorem diag_no_col (f : Nat) (R : List α) (A : α → β → Int) : diagonal f (tab R [] A) = [] := by
  cases f with
  | zero => rfl
  | succ f =>
    have : least (tab R ([] : List β) A) = none := by
      cases e : least (tab R ([] : List β) A) with
      | none => rfl
      | some ij =>
        obtain ⟨_, c0, _, hj, _⟩ := least_some (i := ij.1) (j := ij.2) e
        simp at hj
    rw [diagonal, this]

theorem diag_one [DecidableEq α] [DecidableEq β] {R : List α} {C : List β} {A : α → β → Int} (hR : R.Nodup) (hC : C.length = 1) (h : Indep R C A) (hb : ∀ r ∈ R, ∀ c ∈ C, (A r c).natAbs ≤ 2) (f : Nat) :
    (diagonal (f + 1) (tab R C A)).length = 1 := by
  have hCn : C.Nodup := by
    match C, hC with
    | [c], _ => simp
  obtain ⟨i, j, hl⟩ := h.least (by intro e; rw [e] at hC; cases hC)
  obtain ⟨r0, c0, hi, hj, h0, hmin⟩ := least_some hl
  rw [diag_step hR hCn hl hi hj h0 (fun r hr c hc => by
    have h1 := hb r hr c hc
    have h2 := hb r0 (List.mem_iff_getElem?.mpr ⟨i, hi⟩) c0 (List.mem_iff_getElem?.mpr ⟨j, hj⟩)
    by_cases q : A r c = 0
    · rw [q]
      exact Int.dvd_zero _
    · have := hmin r hr c hc q
      have : (A r0 c0 = 1 ∨ A r0 c0 = -1) ∨ (A r0 c0 = 2 ∨ A r0 c0 = -2) ∧ (A r c = 2 ∨ A r c = -2) := by omega
      rcases this with q | ⟨q1 | q1, q2 | q2⟩
      · exact dvd_one q _
      · rw [q1, q2]; decide
      · rw [q1, q2]; decide
      · rw [q1, q2]; decide
      · rw [q1, q2]; decide)]
  have e : C.eraseIdx j = [] := by
    have := length_erase hj
    exact List.length_eq_zero_iff.mp (by omega)
  rw [e, diag_no_col]
  rfl

theorem diag_more [DecidableEq α] [DecidableEq β] {R : List α} {C : List β} {A : α → β → Int} (hR : R.Nodup) (hC : C.Nodup) (hne : C ≠ []) (h : Indep R C A) (hb : ∀ r ∈ R, ∀ c ∈ C, A r c = 0 ∨ A r c = 1 ∨ A r c = -1) (f : Nat) :
    ∃ i j r0 c0, R[i]? = some r0 ∧ C[j]? = some c0 ∧ (A r0 c0 = 1 ∨ A r0 c0 = -1) ∧
      (diagonal (f + 1) (tab R C A)).length = (diagonal f (tab (R.eraseIdx i) (C.eraseIdx j) (elim A r0 c0))).length + 1 ∧ Indep (R.eraseIdx i) (C.eraseIdx j) (elim A r0 c0) := by
  obtain ⟨i, j, hl⟩ := h.least hne
  obtain ⟨r0, c0, hi, hj, h0, _⟩ := least_some hl
  have hp : A r0 c0 = 1 ∨ A r0 c0 = -1 := by
    rcases hb r0 (List.mem_iff_getElem?.mpr ⟨i, hi⟩) c0 (List.mem_iff_getElem?.mpr ⟨j, hj⟩) with q | q | q
    · exact absurd q h0
    · exact .inl q
    · exact .inr q
  refine ⟨i, j, r0, c0, hi, hj, hp, ?_, h.elim hR hC hi hj hp⟩
  rw [diag_step hR hC hl hi hj h0 (fun r _ c _ => dvd_one hp _)]
  rfl

theorem elim_abs {A : α → β → Int} {r0 r : α} {c0 c : β} (hp : A r0 c0 = 1 ∨ A r0 c0 = -1) (h1 : A r c = 0 ∨ A r c = 1 ∨ A r c = -1) (h2 : A r c0 = 0 ∨ A r c0 = 1 ∨ A r c0 = -1) (h3 : A r0 c = 0 ∨ A r0 c = 1 ∨ A r0 c = -1) :
    (elim A r0 c0 r c).natAbs ≤ 2 ∧ ((A r c = 0 ∨ A r c0 = 0 ∨ A r0 c = 0) → (elim A r0 c0 r c = 0 ∨ elim A r0 c0 r c = 1 ∨ elim A r0 c0 r c = -1)) := by
  unfold elim
  rw [fdiv_one hp]
  rcases hp with p | p <;> rcases h1 with a | a | a <;> rcases h2 with b | b | b <;> rcases h3 with d | d | d <;> rw [p, a, b, d] <;> decide

theorem diag_three [DecidableEq α] [DecidableEq β] {R : List α} {C : List β} {A : α → β → Int} (hR : R.Nodup) (hC : C.Nodup) (hl : C.length ≤ 3) (h : Indep R C A) (hb : ∀ r ∈ R, ∀ c ∈ C, A r c = 0 ∨ A r c = 1 ∨ A r c = -1)
    (ho : ∀ r ∈ R, ∀ s ∈ R, ∀ c ∈ C, ∀ d ∈ C, A r c ≠ 0 → A r d ≠ 0 → A s c ≠ 0 → A s d ≠ 0 → r ≠ s → c = d) (f : Nat) :
    (diagonal (f + 3) (tab R C A)).length = C.length := by
  have : C.length = 0 ∨ C.length = 1 ∨ C.length = 2 ∨ C.length = 3 := by omega
  have two : ∀ r ∈ R, ∀ c ∈ C, (A r c).natAbs ≤ 2 := fun r hr c hc => by
    have := hb r hr c hc
    omega
  have first : ∀ {i j r0 c0}, R[i]? = some r0 → C[j]? = some c0 → (A r0 c0 = 1 ∨ A r0 c0 = -1) → ∀ r ∈ R.eraseIdx i, ∀ c ∈ C.eraseIdx j, elim A r0 c0 r c = 0 ∨ elim A r0 c0 r c = 1 ∨ elim A r0 c0 r c = -1 := by
    intro i j r0 c0 hi hj hp r hr c hc
    obtain ⟨hr1, hr2⟩ := (mem_erase_nodup hR hi).mp hr
    obtain ⟨hc1, hc2⟩ := (mem_erase_nodup hC hj).mp hc
    have hr0 := List.mem_iff_getElem?.mpr ⟨i, hi⟩
    have hc0 := List.mem_iff_getElem?.mpr ⟨j, hj⟩
    refine (elim_abs hp (hb r hr1 c hc1) (hb r hr1 c0 hc0) (hb r0 hr0 c hc1)).2 ?_
    by_cases q1 : A r c = 0
    · exact .inl q1
    · by_cases q2 : A r c0 = 0
      · exact .inr (.inl q2)
      · by_cases q3 : A r0 c = 0
        · exact .inr (.inr q3)
        · exact absurd (ho r hr1 r0 hr0 c hc1 c0 hc0 q1 q2 q3 (by omega) hr2) hc2
  rcases this with e | e | e | e
  · have : C = [] := List.length_eq_zero_iff.mp e
    subst this
    rw [diag_no_col]
    rfl
  · rw [e]
    exact diag_one hR e h two _
  · obtain ⟨i, j, r0, c0, hi, hj, hp, k1, k2⟩ := diag_more hR hC (by intro q; rw [q] at e; cases e) h hb (f + 2)
    have l1 := length_erase hj
    rw [k1, diag_one (nodup_erase hR i) (by omega) k2 (fun r hr c hc => by
      have := first hi hj hp r hr c hc
      omega) (f + 1)]
    omega
  · obtain ⟨i, j, r0, c0, hi, hj, hp, k1, k2⟩ := diag_more hR hC (by intro q; rw [q] at e; cases e) h hb (f + 2)
    have l1 := length_erase hj
    have hb' := first hi hj hp
    obtain ⟨i', j', r1, c1, hi', hj', hp', k1', k2'⟩ := diag_more (nodup_erase hR i) (nodup_erase hC j) (by intro q; rw [q] at l1; simp at l1; omega) k2 hb' (f + 1)
    have l2 := length_erase hj'
    rw [k1, k1', diag_one (nodup_erase (nodup_erase hR i) i') (by omega) k2' (fun r hr c hc => by
      obtain ⟨hr1, _⟩ := (mem_erase_nodup (nodup_erase hR i) hi').mp hr
      obtain ⟨hc1, _⟩ := (mem_erase_nodup (nodup_erase hC j) hj').mp hc
      exact (elim_abs hp' (hb' r hr1 c hc1) (hb' r hr1 c1 (List.mem_iff_getElem?.mpr ⟨j', hj'⟩)) (hb' r1 (List.mem_iff_getElem?.mpr ⟨i', hi'⟩) c hc1)).1) f]
    omega
end

theorem Good.tri {c : Cx} (g : Good c) {x : Sim} (hx : x ∈ ofDim c 2) : ∃ a b d, x = [a, b, d] ∧ a < b ∧ b < d ∧ [a, b, d] ∈ c := by
  unfold ofDim at hx
  obtain ⟨h1, h2⟩ := List.mem_filter.mp hx
  obtain ⟨a, b, d, rfl⟩ := len3 (x := x) (by simpa using h2)
  have := g.ris _ h1
  simp at this
  exact ⟨a, b, d, rfl, this.1.1, this.2, h1⟩

theorem Good.indep {c : Cx} (g : Good c) (hl : c.length ≤ 13) (x : Sim → Int) : ∀ (n : Nat) (D : List Sim), D.length = n → D.Nodup → (∀ z ∈ D, z ∈ c ∧ z.length = 3) →
    (∀ r ∈ ofDim c 1, dot D (fun z => incidence z r) x = 0) → ∀ z ∈ D, x z = 0
  | 0, D, hn, _, _, _ => by
    have : D = [] := List.length_eq_zero_iff.mp hn
    subst this
    intro z hz
    cases hz
  | n + 1, D, hn, hnd, hD, h0 => by
    obtain ⟨z, hz, y, hy, hy2, hyz, hall⟩ := g.peel hl hD (by intro e; rw [e] at hn; cases hn)
    obtain ⟨s, t, rfl⟩ := List.append_of_mem hz
    have hsub : (s ++ t).Sublist (s ++ z :: t) := List.Sublist.append_left (List.sublist_cons_self ..) s
    have hzst : z ∉ s ++ t := by
      intro h
      have := (List.perm_middle (a := z) (l₁ := s) (l₂ := t)).nodup_iff.mp hnd
      exact (List.nodup_cons.mp this).1 h
    have split : ∀ r, dot (s ++ z :: t) (fun z => incidence z r) x = incidence z r * x z + dot (s ++ t) (fun z => incidence z r) x := by
      intro r
      rw [dot_append, dot_cons, dot_append]
      omega
    have hyd : y ∈ ofDim c 1 := by
      unfold ofDim
      exact List.mem_filter.mpr ⟨hy, by simpa using hy2⟩
    have sub_of_ne : ∀ w, w ∈ c → w.length = 3 → incidence w y ≠ 0 → ∀ u ∈ y, u ∈ w := by
      intro w hw hw3 hne
      obtain ⟨a, b, d, rfl⟩ := len3 hw3
      have hr := g.ris _ hw
      simp at hr
      rcases (inc3_ne hr.1.1 hr.2 y).mp hne with rfl | rfl | rfl <;> simp
    have hrest : dot (s ++ t) (fun z => incidence z y) x = 0 := by
      have : dot (s ++ t) (fun z => incidence z y) x = dot (s ++ t) (fun _ => 0) x := dot_congr fun w hw => by
        have : incidence w y = 0 := by
          by_cases q : incidence w y = 0
          · exact q
          · have hw' := hsub.subset hw
            exact absurd (hall w hw' (sub_of_ne w (hD w hw').1 (hD w hw').2 q)) (fun e => hzst (e ▸ hw))
        rw [this]
      rw [this]
      exact dot_zero _ _
    have hzy : incidence z y ≠ 0 := by
      obtain ⟨hzc, hz3⟩ := hD z hz
      obtain ⟨a, b, d, rfl⟩ := len3 hz3
      have hr := g.ris _ hzc
      simp at hr
      obtain ⟨p, q, rfl⟩ := len2 hy2
      have hpq := g.ris _ hy
      simp at hpq
      refine (inc3_ne hr.1.1 hr.2 _).mpr ?_
      have h1 := hyz p (by simp)
      have h2 := hyz q (by simp)
      simp at h1 h2
      simp
      omega
    have hx0 : x z = 0 := by
      have := h0 y hyd
      rw [split, hrest] at this
      have : incidence z y * x z = 0 := by omega
      rcases Int.mul_eq_zero.mp this with q | q
      · exact absurd q hzy
      · exact q
    have ih := g.indep hl x n (s ++ t) (by simp at hn ⊢; omega) (List.Pairwise.sublist hsub hnd) (fun w hw => hD w (hsub.subset hw)) (fun r hr => by
      have := h0 r hr
      rw [split, hx0] at this
      omega)
    intro w hw
    rcases List.mem_append.mp hw with q | q
    · exact ih w (List.mem_append.mpr (.inl q))
    · rcases List.mem_cons.mp q with rfl | q
      · exact hx0
      · exact ih w (List.mem_append.mpr (.inr q))

theorem ofDim_length (c : Cx) (d : Nat) : (ofDim c d).length = cnt c (d + 1) := by
  unfold ofDim cnt
  rw [List.countP_eq_length_filter]

theorem Good.rank2 {c : Cx} (g : Good c) (hl : c.length ≤ 13) : rank (boundary c 2) = cnt c 3 := by
  have hb : boundary c 2 = tab (ofDim c 1) (ofDim c 2) (fun y x => incidence x y) := rfl
  have ht := g.few_triangles hl
  unfold rank factors
  rw [hb, ← ofDim_length c 2]
  have es : STEPS = 19997 + 3 := rfl
  rw [es]
  refine diag_three (nodup_filter g.nd) (nodup_filter g.nd) (by have := ofDim_length c 2; unfold ofDim at this; rw [this]; exact ht) ?_ ?_ ?_ 19997
  · intro x hx
    exact g.indep hl x _ (ofDim c 2) rfl (nodup_filter g.nd) (fun z hz => by
      obtain ⟨a, b, d, rfl, _, _, h⟩ := g.tri hz
      exact ⟨h, rfl⟩) hx
  · intro r _ x hx
    obtain ⟨a, b, d, rfl, h1, h2, _⟩ := g.tri hx
    exact inc3_abs h1 h2 r
  · intro r _ s _ x hx y hy n1 n2 n3 n4 hrs
    obtain ⟨a, b, d, rfl, h1, h2, _⟩ := g.tri hx
    obtain ⟨a', b', d', rfl, h1', h2', _⟩ := g.tri hy
    rcases (inc3_ne h1 h2 r).mp n1 with rfl | rfl | rfl <;> rcases (inc3_ne h1 h2 s).mp n3 with rfl | rfl | rfl <;> first | exact absurd rfl hrs | skip
    all_goals
      have m1 := (inc3_ne h1' h2' _).mp n2
      have m2 := (inc3_ne h1' h2' _).mp n4
      simp at m1 m2
      simp
      omega

theorem diag_empty_rows (f : Nat) (R : List Sim) (A : Sim → Sim → Int) : diagonal f (tab R ([] : List Sim) A) = [] := diag_no_col f R A

theorem no_four {c : Cx} (f : Flat c) : ofDim c 3 = [] := by
  unfold ofDim
  rw [List.filter_eq_nil_iff]
  intro x hx
  have := f x hx
  simp
  omega

/-- as many edges as corners, less the parts, and the triangles -/
theorem beta_graph : ∀ (n : Nat) {c : Cx}, Good c → IsGraph c → cnt c 2 = n → cnt c 1 ≤ nparts c + cnt c 2 := by
  intro n
  induction n with
  | zero =>
    intro c g hg hn
    have : nparts c = cnt c 1 := by
      unfold nparts
      rw [comp_no_edge]
      · rw [vs_length]
        rfl
      · intro u v k
        unfold cnt at hn
        rw [List.countP_eq_zero] at hn
        rcases k with k | k
        · exact hn _ k (by simp)
        · exact hn _ k (by simp)
    omega
  | succ n ih =>
    intro c g hg hn
    have hpos : 0 < c.countP fun x => x.length == 2 := by
      have : cnt c 2 = c.countP fun x => x.length == 2 := rfl
      omega
    obtain ⟨x, hx, hl⟩ := List.countP_pos_iff.mp hpos
    have hl' : x.length = 2 := by simpa using hl
    obtain ⟨a, b, rfl⟩ := len2 hl'
    have ht := g.edge_top hg hx rfl
    have e1 := cnt_rm g.nd hx 1
    have e2 := cnt_rm g.nd hx 2
    simp at e1 e2
    have := ih (c := rm c [a, b]) (g.rmTop ht) (fun x hx => hg x (mem_rm.mp hx).1) (by omega)
    by_cases k : Conn (Adj (rm c [a, b])) a b
    · have := g.parts_rm_edge hx k
      omega
    · have := g.parts_rm_bridge hx k
      omega

theorem Good.push_dim {c : Cx} (g : Good c) (f : Flat c) {x y : Sim} (hx : x ∈ c) (h : over c x = [y]) : y.length = x.length + 1 := by
  obtain ⟨t1, _, hs, hne⟩ := g.push_tops hx h
  have hy := t1.1
  have ly := f y hy
  have lx := g.len x hx
  have lxy : x.length < y.length := by
    rcases Nat.lt_or_ge x.length y.length with h | h
    · exact h
    · exact absurd (hs.eq_of_length_le h).symm hne
  rcases Nat.lt_or_ge (x.length + 1) y.length with hq | hq
  · exfalso
    obtain ⟨a, rfl⟩ := len1 (x := x) (by omega)
    obtain ⟨p, q, r, rfl⟩ := len3 (x := y) (by simp at hq; omega)
    have ha : a = p ∨ a = q ∨ a = r := by simpa using hs.subset (List.mem_cons_self ..)
    have m1 : [p, q] ∈ c := g.clo _ hy _ (by simp) (by simp)
    have m3 : [q, r] ∈ c := g.clo _ hy _ (by simp) (by simp)
    have hov : ∀ z ∈ over c [a], z = [p, q, r] := fun z hz => by
      rw [h] at hz
      exact List.mem_singleton.mp hz
    rcases ha with rfl | rfl | rfl
    · have := hov _ ((g.over_iff hx).mpr ⟨m1, by simp, by simp⟩)
      simp at this
    · have := hov _ ((g.over_iff hx).mpr ⟨m1, by simp, by simp⟩)
      simp at this
    · have := hov _ ((g.over_iff hx).mpr ⟨m3, by simp, by simp⟩)
      simp at this
  · omega

theorem beta : ∀ (n : Nat) {c : Cx}, c.length ≤ n → Good c → c.length ≤ 13 → cnt c 1 + cnt c 3 ≤ nparts c + cnt c 2 := by
  intro n
  induction n with
  | zero =>
    intro c hn _ _
    have : c = [] := List.length_eq_zero_iff.mp (by omega)
    subst this
    simp [cnt]
  | succ n ih =>
    intro c hn g hl
    cases hs : frees c with
    | nil =>
      have hg := stuck_graph g (g.flat hl) hl hs
      have := beta_graph _ g hg rfl
      have e : cnt c 3 = 0 := by
        unfold cnt
        rw [List.countP_eq_zero]
        intro x hx
        have := hg x hx
        simp
        omega
      omega
    | cons p l =>
      obtain ⟨x, y⟩ := p
      have hm : (x, y) ∈ frees c := by
        rw [hs]
        exact List.mem_cons_self ..
      obtain ⟨hx, ho⟩ := mem_frees.mp hm
      obtain ⟨t1, t2, hsub, hne⟩ := g.push_tops hx ho
      have l := push_length g hx ho
      have e := g.phi_push (g.flat hl) hx ho
      have := ih (c := Ho04.push c x y) (by omega) (g.push hx ho) (by omega)
      -- the parts stay as many
      have ly := g.flat hl y t1.1
      have lx := g.len x hx
      have lxy : x.length < y.length := by
        rcases Nat.lt_or_ge x.length y.length with h | h
        · exact h
        · exact absurd (hsub.eq_of_length_le h).symm hne
      have a1 := cnt_rm g.nd t1.1 1
      have a2 := cnt_rm g.nd t1.1 2
      have a3 := cnt_rm g.nd t1.1 3
      have b1 := cnt_rm (g.rmTop t1).nd t2.1 1
      have b2 := cnt_rm (g.rmTop t1).nd t2.1 2
      have b3 := cnt_rm (g.rmTop t1).nd t2.1 3
      rw [push_rm] at this e
      unfold phi at e
      have hlen : (x.length = 1 ∧ y.length = 2) ∨ (x.length = 2 ∧ y.length = 3) := by
        have := g.push_dim (g.flat hl) hx ho
        omega
      rcases hlen with ⟨l1, l2⟩ | ⟨l1, l2⟩
      · simp [l1, l2] at a1 a2 a3 b1 b2 b3
        omega
      · simp [l1, l2] at a1 a2 a3 b1 b2 b3
        omega

theorem holes_phi {c : Cx} (g : Good c) (hl : c.length ≤ 13) : (holesInAll c : Int) = phi c := by
  have r1 := g.rank1 hl
  have r2 := g.rank2 hl
  have b := beta _ (Nat.le_refl _) g hl
  have f := g.flat hl
  have e3 : factors (boundary c 3) = [] := by
    have : boundary c 3 = tab (ofDim c 2) (ofDim c 3) (fun y x => incidence x y) := rfl
    unfold factors
    rw [this, no_four f]
    exact diag_empty_rows _ _ _
  have e4 : factors (boundary c 4) = [] := by
    have : boundary c 4 = tab (ofDim c 3) (ofDim c 4) (fun y x => incidence x y) := rfl
    unfold factors
    rw [this, no_four f]
    rfl
  have e0 : rank (boundary c 0) = 0 := rfl
  have h0 : (holes c 0).free = cnt c 1 - rank (boundary c 0) - rank (boundary c 1) := by
    show (ofDim c 0).length - rank (boundary c 0) - (factors (boundary c 1)).length = _
    rw [ofDim_length]
    rfl
  have h1 : (holes c 1).free = cnt c 2 - rank (boundary c 1) - rank (boundary c 2) := by
    show (ofDim c 1).length - rank (boundary c 1) - (factors (boundary c 2)).length = _
    rw [ofDim_length]
    rfl
  have h2 : (holes c 2).free = cnt c 3 - rank (boundary c 2) - 0 := by
    show (ofDim c 2).length - rank (boundary c 2) - (factors (boundary c 3)).length = _
    rw [ofDim_length, e3]
    rfl
  have h3 : (holes c 3).free = 0 := by
    show (ofDim c 3).length - rank (boundary c 3) - (factors (boundary c 4)).length = _
    rw [no_four f]
    simp
  have : holesInAll c = (holes c 0).free + (holes c 1).free + (holes c 2).free + (holes c 3).free := by
    show 0 + (holes c 0).free + (holes c 1).free + (holes c 2).free + (holes c 3).free = _
    omega
  rw [this, h0, h1, h2, h3, e0, r2]
  unfold phi
  omega
end Sc

set_option autoImplicit false
namespace Sc
open Classical
open HoBase Ho04

/-! ### the order of simplices -/
theorem lexLess_irrefl : ∀ x : Sim, lexLess x x = false
  | [] => rfl
  | a :: x => by
    simp [lexLess, lexLess_irrefl x]
theorem before_irrefl (x : Sim) : before x x = false := by
  unfold before
  rw [lexLess_irrefl]
  simp
theorem lexLess_trans : ∀ {x y z : Sim}, lexLess x y = true → lexLess y z = true → lexLess x z = true
  | [], _, _, h, _ => by simp [lexLess] at h
  | _ :: _, [], _, h, _ => by simp [lexLess] at h
  | _ :: _, _ :: _, [], _, h => by simp [lexLess] at h
  | a :: x, b :: y, c :: z, h, k => by
    simp only [lexLess, Bool.or_eq_true, Bool.and_eq_true, decide_eq_true_eq, beq_iff_eq] at h k ⊢
    rcases h with h | ⟨h1, h2⟩
    · rcases k with k | ⟨k1, k2⟩
      · left; omega
      · left; omega
    · rcases k with k | ⟨k1, k2⟩
      · left; omega
      · exact .inr ⟨by omega, lexLess_trans h2 k2⟩
theorem before_iff {x y : Sim} : before x y = true ↔ x.length < y.length ∨ (x.length = y.length ∧ lexLess x y = true) := by
  unfold before
  simp
theorem before_trans {x y z : Sim} (h : before x y = true) (k : before y z = true) : before x z = true := by
  rw [before_iff] at h k ⊢
  rcases h with h | ⟨h1, h2⟩
  · rcases k with k | ⟨k1, k2⟩
    · left; omega
    · left; omega
  · rcases k with k | ⟨k1, k2⟩
    · left; omega
    · exact .inr ⟨by omega, lexLess_trans h2 k2⟩
theorem lexLess_total : ∀ {x y : Sim}, x.length = y.length → x ≠ y → lexLess x y = true ∨ lexLess y x = true
  | [], [], _, h => absurd rfl h
  | a :: x, b :: y, hl, h => by
    simp only [lexLess, Bool.or_eq_true, Bool.and_eq_true, decide_eq_true_eq, beq_iff_eq]
    rcases Nat.lt_trichotomy a b with q | q | q
    · exact .inl (.inl q)
    · subst q
      rcases lexLess_total (x := x) (y := y) (by simpa using hl) (fun e => h (by rw [e])) with k | k
      · exact .inl (.inr ⟨rfl, k⟩)
      · exact .inr (.inr ⟨rfl, k⟩)
    · exact .inr (.inl q)
theorem before_total {x y : Sim} (h : x ≠ y) : before x y = true ∨ before y x = true := by
  rw [before_iff, before_iff]
  rcases Nat.lt_trichotomy x.length y.length with q | q | q
  · exact .inl (.inl q)
  · rcases lexLess_total q h with k | k
    · exact .inl (.inr ⟨q, k⟩)
    · exact .inr (.inr ⟨q.symm, k⟩)
  · exact .inr (.inl q)

abbrev Ordered (c : Cx) : Prop := c.Pairwise fun a b => before a b = true

theorem ordered_of {ys : List Sim} (h : ys.Pairwise fun a b => before b a = false) (n : ys.Nodup) : Ordered ys := by
  have : ys.Pairwise fun a b => before b a = false ∧ a ≠ b := List.Pairwise.and h n
  refine this.imp fun {a b} ⟨h1, h2⟩ => ?_
  rcases before_total h2 with q | q
  · exact q
  · rw [h1] at q
    cases q
theorem ordered_nodup {c : Cx} (h : Ordered c) : c.Nodup := h.imp fun {a b} hab e => by
  subst e
  rw [before_irrefl] at hab
  cases hab
/-- in order, the same ones: the same list -/
theorem ordered_unique : ∀ {c d : Cx}, Ordered c → Ordered d → (∀ x, x ∈ c ↔ x ∈ d) → c = d
  | [], [], _, _, _ => rfl
  | [], y :: d, _, _, h => by
    have := (h y).mpr (List.mem_cons_self ..)
    cases this
  | x :: c, [], _, _, h => by
    have := (h x).mp (List.mem_cons_self ..)
    cases this
  | x :: c, y :: d, hc, hd, h => by
    have hc' := List.pairwise_cons.mp hc
    have hd' := List.pairwise_cons.mp hd
    have e : x = y := by
      rcases List.mem_cons.mp ((h x).mp (List.mem_cons_self ..)) with q | q
      · exact q
      · rcases List.mem_cons.mp ((h y).mpr (List.mem_cons_self ..)) with k | k
        · exact k.symm
        · have h1 := hd'.1 x q
          have h2 := hc'.1 y k
          have := before_trans h1 h2
          rw [before_irrefl] at this
          cases this
    subst e
    congr 1
    refine ordered_unique hc'.2 hd'.2 fun z => ?_
    have hx1 : x ∉ c := fun q => by
      have := hc'.1 x q
      rw [before_irrefl] at this
      cases this
    have hx2 : x ∉ d := fun q => by
      have := hd'.1 x q
      rw [before_irrefl] at this
      cases this
    constructor
    · intro hz
      rcases List.mem_cons.mp ((h z).mp (List.mem_cons_of_mem _ hz)) with q | q
      · subst q
        exact absurd hz hx1
      · exact q
    · intro hz
      rcases List.mem_cons.mp ((h z).mpr (List.mem_cons_of_mem _ hz)) with q | q
      · subst q
        exact absurd hz hx2
      · exact q

/-! ### the specification's own sort -/
theorem mem_insert {x z : Sim} : ∀ {l : List Sim}, z ∈ HoBase.insert x l ↔ z = x ∨ z ∈ l
  | [] => by simp [HoBase.insert]
  | y :: l => by
    unfold HoBase.insert
    split
    · rename_i e
      subst e
      constructor
      · exact .inr
      · rintro (rfl | h)
        · exact List.mem_cons_self ..
        · exact h
    · split
      · rw [List.mem_cons]
      · rw [List.mem_cons, mem_insert, List.mem_cons]
        constructor
        · rintro (h | h | h)
          · exact .inr (.inl h)
          · exact .inl h
          · exact .inr (.inr h)
        · rintro (h | h | h)
          · exact .inr (.inl h)
          · exact .inl h
          · exact .inr (.inr h)
theorem ordered_insert {x : Sim} : ∀ {l : List Sim}, Ordered l → Ordered (HoBase.insert x l)
  | [], _ => by simp [HoBase.insert, Ordered]
  | y :: l, h => by
    have h' := List.pairwise_cons.mp h
    unfold HoBase.insert
    split
    · exact h
    · rename_i hne
      split
      · rename_i hb
        refine List.pairwise_cons.mpr ⟨fun z hz => ?_, h⟩
        rcases List.mem_cons.mp hz with rfl | hz
        · exact hb
        · exact before_trans hb (h'.1 z hz)
      · rename_i hb
        refine List.pairwise_cons.mpr ⟨fun z hz => ?_, ordered_insert h'.2⟩
        rcases mem_insert.mp hz with rfl | hz
        · rcases before_total hne with q | q
          · exact absurd q hb
          · exact q
        · exact h'.1 z hz
theorem fold_insert : ∀ (l m : List Sim), Ordered m → Ordered (l.foldl (fun (m : List Sim) (x : Sim) => HoBase.insert x m) m) ∧ ∀ z, z ∈ l.foldl (fun (m : List Sim) (x : Sim) => HoBase.insert x m) m ↔ z ∈ l ∨ z ∈ m
  | [], m, h => ⟨h, fun z => by simp⟩
  | x :: l, m, h => by
    obtain ⟨h1, h2⟩ := fold_insert l (HoBase.insert x m) (ordered_insert h)
    refine ⟨h1, fun z => ?_⟩
    rw [List.foldl_cons, h2, mem_insert, List.mem_cons]
    constructor
    · rintro (h | h | h)
      · exact .inl (.inr h)
      · exact .inl (.inl h)
      · exact .inr h
    · rintro ((h | h) | h)
      · exact .inr (.inl h)
      · exact .inl h
      · exact .inr (.inr h)
theorem sorted_ordered (l : List Sim) : Ordered (HoBase.sorted l) := (fold_insert l [] (by simp [Ordered])).1
theorem mem_sorted {l : List Sim} {z : Sim} : z ∈ HoBase.sorted l ↔ z ∈ l := by
  have := (fold_insert l [] (by simp [Ordered])).2 z
  unfold HoBase.sorted
  rw [this]
  simp
theorem mem_parts : ∀ {x y : Sim}, y ∈ HoBase.parts x ↔ y ≠ [] ∧ y.Sublist x
  | [], y => by
    simp only [HoBase.parts, List.not_mem_nil, false_iff]
    rintro ⟨h1, h2⟩
    exact h1 (List.sublist_nil.mp h2)
  | a :: x, y => by
    have ih : ∀ y, y ∈ HoBase.parts x ↔ y ≠ [] ∧ y.Sublist x := fun y => mem_parts
    simp only [HoBase.parts, List.mem_cons, List.mem_append, List.mem_map, ih]
    constructor
    · rintro (rfl | ⟨h1, h2⟩ | ⟨z, ⟨h1, h2⟩, rfl⟩)
      · exact ⟨by simp, by simp⟩
      · exact ⟨h1, h2.cons a⟩
      · exact ⟨by simp, h2.cons_cons a⟩
    · rintro ⟨h1, h2⟩
      cases h2 with
      | cons _ h => exact .inr (.inl ⟨h1, h⟩)
      | cons_cons _ h =>
        rename_i z
        by_cases e : z = []
        · subst e
          exact .inl rfl
        · exact .inr (.inr ⟨z, ⟨e, h⟩, rfl⟩)
theorem mem_closed {l : List Sim} {y : Sim} : y ∈ HoBase.closed l ↔ ∃ x ∈ l, y ≠ [] ∧ y.Sublist x := by
  unfold HoBase.closed
  rw [mem_sorted, List.mem_flatMap]
  constructor
  · rintro ⟨x, hx, hy⟩
    exact ⟨x, hx, mem_parts.mp hy⟩
  · rintro ⟨x, hx, hy⟩
    exact ⟨x, hx, mem_parts.mpr hy⟩
theorem closed_ordered (l : List Sim) : Ordered (HoBase.closed l) := sorted_ordered _
theorem closed_good {l : List Sim} (h : ∀ x ∈ l, Rises x ∧ x.length ≤ 4) : Good (HoBase.closed l) where
  nd := ordered_nodup (closed_ordered l)
  len := fun y hy => by
    obtain ⟨x, hx, h1, h2⟩ := mem_closed.mp hy
    have := h2.length_le
    have := (h x hx).2
    have : y.length ≠ 0 := fun e => h1 (List.length_eq_zero_iff.mp e)
    omega
  ris := fun y hy => by
    obtain ⟨x, hx, h1, h2⟩ := mem_closed.mp hy
    exact List.Pairwise.sublist h2 (h x hx).1
  clo := fun y hy z hz hs => by
    obtain ⟨x, hx, h1, h2⟩ := mem_closed.mp hy
    exact mem_closed.mpr ⟨x, hx, hz, hs.trans h2⟩

/-! ### the program's own words -/
def aboveL (c : Cx) (x : Sim) : List Sim := c.filter fun y => decide (y ≠ x) && within x y
def topsL (c : Cx) : List Sim := c.filter fun x => decide ((aboveL c x).length = 0)
def freeL (c : Cx) : List (Sim × Sim) := c.filterMap fun x => match aboveL c x with
  | [y] => some (x, y)
  | _ => none
def leansT (ts : List Sim) (a b : Nat) : Bool := ts.all fun t => !(t.contains a && !t.contains b)

theorem Good.above {c : Cx} (g : Good c) {x : Sim} (hx : x ∈ c) : over c x = aboveL c x := by
  unfold over aboveL
  apply List.filter_congr
  intro y hy
  by_cases hw : within x y = true
  · rw [hw, Bool.and_true, Bool.and_true]
    have hs := sub_of_subset (g.ris x hx) (g.ris y hy) (within_iff.mp hw)
    by_cases e : y = x
    · subst e
      simp
    · rw [decide_eq_true e]
      rw [decide_eq_true_eq]
      rcases Nat.lt_or_ge x.length y.length with h | h
      · exact h
      · exact absurd (hs.eq_of_length_le h).symm e
  · have : within x y = false := by
      cases h : within x y
      · rfl
      · exact absurd h hw
    rw [this, Bool.and_false, Bool.and_false]
theorem Good.tops {c : Cx} (g : Good c) : HoBase.tops c = topsL c := by
  unfold HoBase.tops topsL
  apply List.filter_congr
  intro x hx
  rw [← g.above hx]
  unfold over
  by_cases h : (c.any fun y => decide (x.length < y.length) && within x y) = true
  · rw [h]
    have : (c.filter fun y => decide (x.length < y.length) && within x y).length ≠ 0 := by
      obtain ⟨y, hy, hy'⟩ := List.any_eq_true.mp h
      intro e
      have e' := List.length_eq_zero_iff.mp e
      have : y ∈ (c.filter fun y => decide (x.length < y.length) && within x y) := List.mem_filter.mpr ⟨hy, hy'⟩
      rw [e'] at this
      cases this
    rw [decide_eq_false this]
    rfl
  · have h' : (c.any fun y => decide (x.length < y.length) && within x y) = false := by
      cases q : (c.any fun y => decide (x.length < y.length) && within x y)
      · rfl
      · exact absurd q h
    rw [h']
    have : (c.filter fun y => decide (x.length < y.length) && within x y).length = 0 := by
      rw [List.length_eq_zero_iff, List.filter_eq_nil_iff]
      intro y hy q
      rw [List.any_eq_false] at h'
      exact h' y hy q
    rw [decide_eq_true this]
    rfl
theorem filterMap_congr_mem {α β : Type} {f g : α → Option β} : ∀ {l : List α}, (∀ x ∈ l, f x = g x) → l.filterMap f = l.filterMap g
  | [], _ => rfl
  | a :: l, h => by
    rw [List.filterMap_cons, List.filterMap_cons, h a (List.mem_cons_self ..), filterMap_congr_mem fun x hx => h x (List.mem_cons_of_mem _ hx)]
theorem Good.frees {c : Cx} (g : Good c) : Ho04.frees c = freeL c := by
  unfold Ho04.frees freeL
  apply filterMap_congr_mem
  intro x hx
  unfold free
  rw [g.above hx]
  split <;> simp_all
theorem push_without (c : Cx) (x y : Sim) : Ho04.push c x y = c.filter fun z => !([x, y].contains z) := by
  unfold Ho04.push
  apply List.filter_congr
  intro z _
  by_cases h1 : z = x
  · subst h1
    simp
  · by_cases h2 : z = y
    · subst h2
      simp
    · simp [h1, h2]
/-- each one is a face of a top -/
theorem Good.under_top {c : Cx} (g : Good c) : ∀ (n : Nat) (x : Sim), x ∈ c → 4 - x.length ≤ n → ∃ t ∈ topsL c, ∀ a ∈ x, a ∈ t := by
  intro n
  induction n with
  | zero =>
    intro x hx h
    have hl := g.len x hx
    refine ⟨x, ?_, fun a ha => ha⟩
    rw [← g.tops, mem_tops g]
    refine ⟨hx, fun z hz hs => ?_⟩
    have hz' := g.len z hz
    exact (hs.eq_of_length_le (by omega)).symm
  | succ n ih =>
    intro x hx h
    by_cases ht : IsTop c x
    · exact ⟨x, by rw [← g.tops, mem_tops g]; exact ht, fun a ha => ha⟩
    · have : ∃ z ∈ c, x.Sublist z ∧ z ≠ x := by
        by_cases q : ∃ z ∈ c, x.Sublist z ∧ z ≠ x
        · exact q
        · refine absurd ⟨hx, fun z hz hs => ?_⟩ ht
          by_cases e : z = x
          · exact e
          · exact absurd ⟨z, hz, hs, e⟩ q
      obtain ⟨z, hz, hs, hne⟩ := this
      have hl : x.length < z.length := by
        rcases Nat.lt_or_ge x.length z.length with h | h
        · exact h
        · exact absurd (hs.eq_of_length_le h).symm hne
      have hz4 := (g.len z hz).2
      obtain ⟨t, ht, hsub⟩ := ih z hz (by omega)
      exact ⟨t, ht, fun a ha => hsub a (hs.subset ha)⟩
theorem Good.leans {c : Cx} (g : Good c) (a b : Nat) : Ho04.leans c a b = (decide (b ≠ a) && leansT (topsL c) a b) := by
  unfold Ho04.leans
  have e1 : (a != b) = decide (b ≠ a) := by
    by_cases h : a = b
    · subst h
      simp
    · have : b ≠ a := fun e => h e.symm
      simp [h, this]
  rw [e1]
  congr 1
  have hiff : (c.all fun x => !x.contains a || c.any fun y => within x y && y.contains b) = true ↔ leansT (topsL c) a b = true := by
    unfold leansT
    rw [List.all_eq_true, List.all_eq_true]
    constructor
    · intro h t ht
      have ht' := (mem_tops g).mp (by rw [g.tops]; exact ht)
      have := h t ht'.1
      cases q : t.contains a with
      | false => rfl
      | true =>
        rw [q] at this
        have hany : (c.any fun y => within t y && y.contains b) = true := by simpa using this
        obtain ⟨y, hy, hyb⟩ := List.any_eq_true.mp hany
        rw [Bool.and_eq_true] at hyb
        have hys := sub_of_subset (g.ris t ht'.1) (g.ris y hy) (within_iff.mp hyb.1)
        have e := ht'.2 y hy hys
        subst e
        rw [hyb.2]
        rfl
    · intro h x hx
      cases q : x.contains a with
      | false => rfl
      | true =>
        obtain ⟨t, ht, hsub⟩ := g.under_top _ x hx (Nat.le_refl _)
        have ht' := (mem_tops g).mp (by rw [g.tops]; exact ht)
        have ha : t.contains a = true := List.contains_iff_mem.mpr (hsub a (List.contains_iff_mem.mp q))
        have := h t ht
        rw [ha] at this
        have hb : t.contains b = true := by
          cases z : t.contains b
          · rw [z] at this
            simp at this
          · rfl
        have hany : (c.any fun y => within x y && y.contains b) = true := List.any_eq_true.mpr ⟨t, ht'.1, by rw [Bool.and_eq_true]; exact ⟨within_iff.mpr hsub, hb⟩⟩
        rw [hany]
        rfl
  cases h1 : (c.all fun x => !x.contains a || c.any fun y => within x y && y.contains b) with
  | true => exact (hiff.mp h1).symm
  | false =>
    cases h2 : leansT (topsL c) a b with
    | false => rfl
    | true =>
      rw [hiff.mpr h2] at h1
      cases h1
theorem Good.drop {c : Cx} (g : Good c) (a : Nat) : Good (Ho04.drop c a) where
  nd := nodup_filter g.nd
  len := fun x hx => g.len x (List.mem_filter.mp hx).1
  ris := fun x hx => g.ris x (List.mem_filter.mp hx).1
  clo := fun x hx y hy hs => by
    obtain ⟨h1, h2⟩ := List.mem_filter.mp hx
    refine List.mem_filter.mpr ⟨g.clo x h1 y hy hs, ?_⟩
    have hn : a ∉ x := by simpa using h2
    have : a ∉ y := fun q => hn (hs.subset q)
    simpa using this
theorem ordered_filter {c : Cx} {p : Sim → Bool} (h : Ordered c) : Ordered (c.filter p) := List.Pairwise.sublist List.filter_sublist h
end Sc

set_option autoImplicit false
namespace Sc
open Classical
open HoBase Ho04

/-! ### how a simplex is told -/
def IsSim (ns : List Int) : Prop := 1 ≤ ns.length ∧ ns.length ≤ 4 ∧ ns.Nodup ∧ ∀ z ∈ ns, 0 ≤ z ∧ z ≤ 9
def ins (l : List Nat) (n : Nat) : List Nat := (l.filter fun (m : Nat) => decide (m < n)) ++ n :: l.filter fun (m : Nat) => decide (n ≤ m)
theorem ins_perm (l : List Nat) (n : Nat) : (ins l n).Perm (n :: l) := by
  unfold ins
  refine List.perm_middle.trans (List.Perm.cons n ?_)
  have h : (l.filter fun (m : Nat) => decide (n ≤ m)) = l.filter fun m => !decide (m < n) := by
    apply List.filter_congr
    intro m _
    by_cases q : m < n
    · rw [decide_eq_true q, decide_eq_false (by omega)]
      rfl
    · rw [decide_eq_false q, decide_eq_true (by omega)]
      rfl
  rw [h]
  exact List.filter_append_perm _ _
theorem ins_sorted {l : List Nat} {n : Nat} (h : l.Pairwise (· ≤ ·)) : (ins l n).Pairwise (· ≤ ·) := by
  unfold ins
  refine List.pairwise_append.mpr ⟨List.Pairwise.sublist List.filter_sublist h, List.pairwise_cons.mpr ⟨fun m hm => ?_, List.Pairwise.sublist List.filter_sublist h⟩, fun a ha b hb => ?_⟩
  · have := (List.mem_filter.mp hm).2
    simpa using this
  · have h1 := (List.mem_filter.mp ha).2
    have h1 : a < n := by simpa using h1
    rcases List.mem_cons.mp hb with rfl | hb
    · omega
    · have h2 := (List.mem_filter.mp hb).2
      have h2 : n ≤ b := by simpa using h2
      omega
theorem fold_ins : ∀ (r l : List Nat), l.Pairwise (· ≤ ·) → (r.foldl ins l).Pairwise (· ≤ ·) ∧ (r.foldl ins l).Perm (r ++ l)
  | [], l, h => ⟨h, .refl _⟩
  | n :: r, l, h => by
    obtain ⟨h1, h2⟩ := fold_ins r (ins l n) (ins_sorted h)
    refine ⟨h1, h2.trans ?_⟩
    have h3 : (r ++ ins l n).Perm (r ++ n :: l) := List.Perm.append_left r (ins_perm l n)
    exact h3.trans List.perm_middle
theorem rising_iff : ∀ {s : List Nat}, rising s = true ↔ Rises s
  | [] => by simp [rising]
  | [a] => by simp [rising]
  | a :: b :: s => by
    have ih := rising_iff (s := b :: s)
    simp only [rising, Bool.and_eq_true, decide_eq_true_eq, ih]
    constructor
    · rintro ⟨h1, h2⟩
      refine List.pairwise_cons.mpr ⟨fun z hz => ?_, h2⟩
      rcases List.mem_cons.mp hz with rfl | hz
      · exact h1
      · have := (List.pairwise_cons.mp h2).1 z hz
        omega
    · intro h
      have h' := List.pairwise_cons.mp h
      exact ⟨h'.1 b (List.mem_cons_self ..), h'.2⟩
theorem strict_of {s : List Nat} (h : s.Pairwise (· ≤ ·)) (n : s.Nodup) : Rises s := by
  have : s.Pairwise fun a b => a ≤ b ∧ a ≠ b := List.Pairwise.and h n
  exact this.imp fun {a b} ⟨h1, h2⟩ => by omega
def sortN (r : List Int) : List Nat := (r.map Int.toNat).foldl ins []
theorem simOf_eq (r : List Int) : simOf r = if r.length < 1 ∨ 4 < r.length ∨ (r.all fun (z : Int) => decide (0 ≤ z) && decide (z < 10)) = false then none else if rising (sortN r) = true then some (sortN r) else none := rfl
theorem sortN_spec (r : List Int) : (sortN r).Pairwise (· ≤ ·) ∧ (sortN r).Perm (r.map Int.toNat) := by
  obtain ⟨h1, h2⟩ := fold_ins (r.map Int.toNat) [] (by simp)
  rw [List.append_nil] at h2
  exact ⟨h1, h2⟩
theorem toNat_nodup {r : List Int} (h : ∀ z ∈ r, 0 ≤ z) : (r.map Int.toNat).Nodup ↔ r.Nodup := by
  constructor
  · intro q
    rw [List.Nodup, List.pairwise_map] at q
    exact q.imp fun {a b} hab e => hab (by rw [e])
  · intro q
    rw [List.Nodup, List.pairwise_map]
    refine List.Pairwise.imp_of_mem (fun {a b} ha hb hab e => hab ?_) q
    have h1 := h a ha
    have h2 := h b hb
    omega
theorem all_range {r : List Int} : (r.all fun (z : Int) => decide (0 ≤ z) && decide (z < 10)) = true ↔ ∀ z ∈ r, 0 ≤ z ∧ z ≤ 9 := by
  rw [List.all_eq_true]
  constructor
  · intro h z hz
    have := h z hz
    simp at this
    omega
  · intro h z hz
    have := h z hz
    simp
    omega
theorem simOf_none {r : List Int} (h : ¬ IsSim r) : simOf r = none := by
  rw [simOf_eq]
  split
  · rfl
  · rename_i hc
    have h1 : ¬ r.length < 1 := fun q => hc (.inl q)
    have h2 : ¬ 4 < r.length := fun q => hc (.inr (.inl q))
    have h3 : (r.all fun (z : Int) => decide (0 ≤ z) && decide (z < 10)) = true := by
      cases q : (r.all fun (z : Int) => decide (0 ≤ z) && decide (z < 10))
      · exact absurd (.inr (.inr q)) hc
      · rfl
    have h3' := all_range.mp h3
    split
    · rename_i hr
      exfalso
      apply h
      refine ⟨by omega, by omega, ?_, h3'⟩
      have hn := rises_nodup (rising_iff.mp hr)
      rw [(sortN_spec r).2.nodup_iff] at hn
      exact (toNat_nodup fun z hz => (h3' z hz).1).mp hn
    · rfl
theorem simOf_some {r ms : List Int} (h : IsSim r) (p : ms.Perm r) (o : ms.Pairwise (· ≤ ·)) :
    simOf r = some (ms.map Int.toNat) ∧ Rises (ms.map Int.toNat) ∧ (ms.map Int.toNat).length ≤ 4 ∧ 1 ≤ (ms.map Int.toNat).length ∧ (∀ n ∈ ms.map Int.toNat, n ≤ 9) ∧ (ms.map Int.toNat).map (fun (n : Nat) => (n : Int)) = ms := by
  obtain ⟨h1, h2, h3, h4⟩ := h
  have hpos : ∀ z ∈ r, 0 ≤ z := fun z hz => (h4 z hz).1
  have hn := (toNat_nodup hpos).mpr h3
  obtain ⟨s1, s2⟩ := sortN_spec r
  have hs : Rises (sortN r) := strict_of s1 (s2.nodup_iff.mpr hn)
  have pm : (ms.map Int.toNat).Perm (r.map Int.toNat) := p.map _
  have om : (ms.map Int.toNat).Pairwise (· ≤ ·) := by
    rw [List.pairwise_map]
    exact o.imp fun {a b} hab => by omega
  have hm : Rises (ms.map Int.toNat) := strict_of om (pm.nodup_iff.mpr hn)
  have e : sortN r = ms.map Int.toNat := rises_eq hs hm fun a => by rw [s2.mem_iff, pm.mem_iff]
  refine ⟨?_, hm, ?_, ?_, ?_, ?_⟩
  · rw [simOf_eq, if_neg, if_pos (rising_iff.mpr hs), e]
    rintro (q | q | q)
    · omega
    · omega
    · rw [all_range.mpr h4] at q
      cases q
  · rw [List.length_map, p.length_eq]
    exact h2
  · rw [List.length_map, p.length_eq]
    exact h1
  · intro n hnm
    obtain ⟨z, hz, rfl⟩ := List.mem_map.mp hnm
    have := h4 z (p.mem_iff.mp hz)
    omega
  · rw [List.map_map]
    have : ∀ l : List Int, (∀ z ∈ l, 0 ≤ z) → l.map ((fun (n : Nat) => (n : Int)) ∘ Int.toNat) = l := by
      intro l hl
      induction l with
      | nil => rfl
      | cons a l ih =>
        rw [List.map_cons, ih fun z hz => hl z (List.mem_cons_of_mem _ hz)]
        congr 1
        have := hl a (List.mem_cons_self ..)
        show ((a.toNat : Nat) : Int) = a
        omega
    exact this ms fun z hz => hpos z (p.mem_iff.mp hz)

/-! ### all faces -/
def facesL : Sim → List Sim := fun x => x.foldl (fun l n => l ++ l.map fun y => y ++ [n]) [[]]
theorem mem_faces_aux : ∀ (x w : Sim) (l : List Sim), (∀ y, y ∈ l ↔ y.Sublist w) → ∀ y, y ∈ x.foldl (fun l n => l ++ l.map fun y => y ++ [n]) l ↔ y.Sublist (w ++ x)
  | [], w, l, h, y => by
    rw [List.append_nil]
    exact h y
  | n :: x, w, l, h, y => by
    have := mem_faces_aux x (w ++ [n]) (l ++ l.map fun y => y ++ [n]) (by
      intro z
      rw [List.mem_append, List.mem_map, List.sublist_append_iff]
      constructor
      · rintro (hz | ⟨u, hu, rfl⟩)
        · exact ⟨z, [], by simp, (h z).mp hz, by simp⟩
        · exact ⟨u, [n], rfl, (h u).mp hu, List.Sublist.refl _⟩
      · rintro ⟨a, b, rfl, ha, hb⟩
        cases hb with
        | cons _ q =>
          have : b = [] := List.sublist_nil.mp q
          subst this
          rw [List.append_nil]
          exact .inl ((h a).mpr ha)
        | cons_cons _ q =>
          rename_i b'
          have : b' = [] := List.sublist_nil.mp q
          subst this
          exact .inr ⟨a, (h a).mpr ha, rfl⟩) y
    rw [List.foldl_cons, this, List.append_assoc]
    rfl
theorem faces_head_aux : ∀ (x : Sim) (r : List Sim), (∀ y ∈ r, y ≠ []) → ∃ r', x.foldl (fun l n => l ++ l.map fun y => y ++ [n]) ([] :: r) = [] :: r' ∧ ∀ y ∈ r', y ≠ []
  | [], r, h => ⟨r, rfl, h⟩
  | n :: x, r, h => by
    rw [List.foldl_cons]
    exact faces_head_aux x (r ++ ([] :: r).map fun y => y ++ [n]) (by
      intro y hy
      rcases List.mem_append.mp hy with hy | hy
      · exact h y hy
      · obtain ⟨z, _, rfl⟩ := List.mem_map.mp hy
        simp)
theorem mem_faces {x y : Sim} : y ∈ (facesL x).drop 1 ↔ y ≠ [] ∧ y.Sublist x := by
  have h1 := mem_faces_aux x [] [[]] (fun y => by simp) y
  rw [List.nil_append] at h1
  obtain ⟨r', e, hr⟩ := faces_head_aux x [] (by simp)
  have e' : facesL x = [] :: r' := e
  have h1' : y ∈ facesL x ↔ y.Sublist x := h1
  rw [e'] at h1' ⊢
  rw [List.drop_one, List.tail_cons]
  constructor
  · intro hy
    exact ⟨hr y hy, h1'.mp (List.mem_cons_of_mem _ hy)⟩
  · rintro ⟨hne, hs⟩
    rcases List.mem_cons.mp (h1'.mpr hs) with q | q
    · exact absurd q hne
    · exact q
theorem closed_of {xs ys : List Sim} (order : ys.Pairwise fun a b => before b a = false) (nd : ys.Nodup) (mem : ∀ y, y ∈ ys ↔ ∃ x ∈ xs, y ∈ (facesL x).drop 1) : ys = HoBase.closed xs := by
  refine ordered_unique (ordered_of order nd) (closed_ordered xs) fun y => ?_
  rw [mem, mem_closed]
  constructor
  · rintro ⟨x, hx, hy⟩
    exact ⟨x, hx, mem_faces.mp hy⟩
  · rintro ⟨x, hx, hy⟩
    exact ⟨x, hx, mem_faces.mpr hy⟩
end Sc

namespace Sc
open HoBase Ho04
section
open Classical
variable {α β : Type}

/-! ### elimination by rows, crosswise -/
def firstNZ (row : List Int) : Option Nat := row.findIdx? fun z => decide (z ≠ 0)
def clr (p : Nat) (row first : List Int) : List Int := (List.range row.length).map fun k => row.getD k 0 * first.getD p 0 - first.getD k 0 * row.getD p 0
def rankF : Nat → List (List Int) → Nat
  | 0, _ => 0
  | _ + 1, [] => 0
  | f + 1, r :: L => match firstNZ r with
    | none => rankF f L
    | some p => rankF f (L.map fun row => clr p row r) + 1

/-- a row is a mixture of those ahead of it -/
def Dep (C : List β) (A : α → β → Int) (pre : List α) (r : α) : Prop := ∃ (y : Int) (x : α → Int), y ≠ 0 ∧ ∀ c ∈ C, y * A r c = dot pre (fun s => A s c) x
noncomputable def icount (C : List β) (A : α → β → Int) : List α → List α → Nat
  | _, [] => 0
  | pre, r :: R => (if Dep C A pre r then 0 else 1) + icount C A (pre ++ [r]) R

theorem icount_shift {C : List β} {A A' : α → β → Int} {f : α} (h : ∀ pre r, f ∉ pre → (Dep C A (f :: pre) r ↔ Dep C A' pre r)) :
    ∀ (R pre : List α), f ∉ pre ++ R → icount C A (f :: pre) R = icount C A' pre R
  | [], pre, _ => rfl
  | r :: R, pre, hf => by
    have ih := icount_shift h R (pre ++ [r]) (by simpa using hf)
    have hp : f ∉ pre := fun q => hf (List.mem_append.mpr (.inl q))
    unfold icount
    rw [List.cons_append, ih]
    simp only [h pre r hp]

theorem dot_lin (pre : List α) (f g x : α → Int) (p q : Int) : dot pre (fun s => f s * p - q * g s) x = p * dot pre f x - q * dot pre g x := by
  induction pre with
  | nil => simp [dot]
  | cons s pre ih =>
    rw [dot_cons, dot_cons, dot_cons, ih]
    grind
theorem dot_scale (pre : List α) (f x : α → Int) (q : Int) : dot pre f (fun s => q * x s) = q * dot pre f x := by
  induction pre with
  | nil => simp [dot]
  | cons s pre ih =>
    rw [dot_cons, dot_cons, ih]
    grind

theorem dep_zero {C : List β} {A : α → β → Int} {f : α} (h : ∀ c ∈ C, A f c = 0) (pre : List α) (r : α) : Dep C A (f :: pre) r ↔ Dep C A pre r := by
  constructor
  · rintro ⟨y, x, hy, hx⟩
    refine ⟨y, x, hy, fun c hc => ?_⟩
    rw [hx c hc, dot_cons, h c hc]
    omega
  · rintro ⟨y, x, hy, hx⟩
    refine ⟨y, x, hy, fun c hc => ?_⟩
    rw [hx c hc, dot_cons, h c hc]
    omega

def clrA (A : α → β → Int) (f : α) (c0 : β) : α → β → Int := fun r c => A r c * A f c0 - A f c * A r c0

theorem dep_clear {C : List β} {A : α → β → Int} {f : α} {c0 : β} (hc0 : c0 ∈ C) (hf : A f c0 ≠ 0) (pre : List α) (r : α) (hp : f ∉ pre) : Dep C A (f :: pre) r ↔ Dep C (clrA A f c0) pre r := by
  constructor
  · rintro ⟨y, x, hy, hx⟩
    refine ⟨y, x, hy, fun c hc => ?_⟩
    have h1 := hx c hc
    have h0 := hx c0 hc0
    rw [dot_cons] at h1 h0
    have h2 : dot pre (fun s => clrA A f c0 s c) x = A f c0 * dot pre (fun s => A s c) x - A f c * dot pre (fun s => A s c0) x := dot_lin pre (fun s => A s c) (fun s => A s c0) x (A f c0) (A f c)
    rw [h2]
    unfold clrA
    grind
  · rintro ⟨y, x, hy, hx⟩
    refine ⟨y * A f c0, fun s => if s = f then y * A r c0 - dot pre (fun s => A s c0) x else A f c0 * x s, fun e => ?_, fun c hc => ?_⟩
    · rcases Int.mul_eq_zero.mp e with q | q
      · exact hy q
      · exact hf q
    · have h1 := hx c hc
      have h2 : dot pre (fun s => clrA A f c0 s c) x = A f c0 * dot pre (fun s => A s c) x - A f c * dot pre (fun s => A s c0) x := dot_lin pre (fun s => A s c) (fun s => A s c0) x (A f c0) (A f c)
      rw [h2] at h1
      have h3 : dot pre (fun s => A s c) (fun s => if s = f then y * A r c0 - dot pre (fun s => A s c0) x else A f c0 * x s) = A f c0 * dot pre (fun s => A s c) x := by
        rw [← dot_scale]
        refine dot_congr fun s hs => ?_
        rw [if_neg (show ¬ s = f from fun e => hp (e ▸ hs))]
      rw [dot_cons, h3, if_pos rfl]
      unfold clrA at h1
      grind

theorem firstNZ_none {C : List β} {g : β → Int} (h : firstNZ (C.map g) = none) : ∀ c ∈ C, g c = 0 := by
  unfold firstNZ at h
  rw [List.findIdx?_eq_none_iff] at h
  intro c hc
  have := h (g c) (List.mem_map.mpr ⟨c, hc, rfl⟩)
  simpa using this
theorem firstNZ_some {C : List β} {g : β → Int} {p : Nat} (h : firstNZ (C.map g) = some p) : ∃ c0, C[p]? = some c0 ∧ g c0 ≠ 0 := by
  unfold firstNZ at h
  rw [List.findIdx?_eq_some_iff_getElem] at h
  obtain ⟨hl, h1, _⟩ := h
  rw [List.length_map] at hl
  refine ⟨C[p], List.getElem?_eq_getElem hl, ?_⟩
  simpa using h1
theorem clr_map {C : List β} {g f : β → Int} {p : Nat} {c0 : β} (h : C[p]? = some c0) : clr p (C.map g) (C.map f) = C.map fun c => g c * f c0 - f c * g c0 := by
  unfold clr
  apply List.ext_getElem
  · simp
  · intro i h1 h2
    have hi : i < C.length := by simpa using h2
    simp [List.getD_eq_getElem?_getD, List.getElem?_eq_getElem hi, h]

theorem rank_tab {C : List β} : ∀ (f : Nat) (R : List α) (A : α → β → Int), R.length ≤ f → R.Nodup → rankF f (tab R C A) = icount C A [] R
  | 0, [], A, _, _ => rfl
  | f + 1, [], A, _, _ => rfl
  | f + 1, r :: R, A, hl, hn => by
    have hn' := List.nodup_cons.mp hn
    have hl' : R.length ≤ f := by simpa using hl
    show rankF (f + 1) ((C.map fun c => A r c) :: tab R C A) = (if Dep C A [] r then 0 else 1) + icount C A ([] ++ [r]) R
    unfold rankF
    cases e : firstNZ (C.map fun c => A r c) with
    | none =>
      have hz := firstNZ_none e
      have hd : Dep C A [] r := ⟨1, fun _ => 0, by decide, fun c hc => by rw [hz c hc]; rfl⟩
      rw [if_pos hd, Nat.zero_add]
      show rankF f (tab R C A) = icount C A [r] R
      rw [icount_shift (A' := A) (fun pre r' _ => dep_zero hz pre r') R [] (by simpa using hn'.1)]
      exact rank_tab f R A hl' hn'.2
    | some p =>
      obtain ⟨c0, h0, hne⟩ := firstNZ_some e
      have hm : c0 ∈ C := List.mem_iff_getElem?.mpr ⟨p, h0⟩
      have hd : ¬ Dep C A [] r := by
        rintro ⟨y, x, hy, hx⟩
        have := hx c0 hm
        have e0 : dot ([] : List α) (fun s => A s c0) x = 0 := rfl
        rw [e0] at this
        rcases Int.mul_eq_zero.mp this with q | q
        · exact hy q
        · exact hne q
      rw [if_neg hd]
      show rankF f ((tab R C A).map fun row => clr p row (C.map fun c => A r c)) + 1 = 1 + icount C A [r] R
      have ht : ((tab R C A).map fun row => clr p row (C.map fun c => A r c)) = tab R C (clrA A r c0) := by
        unfold tab
        rw [List.map_map]
        apply List.map_congr_left
        intro s _
        exact clr_map h0
      rw [ht, rank_tab f R (clrA A r c0) hl' hn'.2, icount_shift (A' := clrA A r c0) (fun pre r' hp => dep_clear hm hne pre r' hp) R [] (by simpa using hn'.1)]
      omega

theorem dot_add (pre : List α) (f g x : α → Int) : dot pre (fun s => f s + g s) x = dot pre f x + dot pre g x := by
  induction pre with
  | nil => rfl
  | cons s pre ih =>
    rw [dot_cons, dot_cons, dot_cons, ih]
    grind
theorem dot_swap (M : α → β → Int) (pre : List α) (x : α → Int) (z : β → Int) : ∀ W : List β, dot W (fun w => dot pre (fun s => M s w) x) z = dot pre (fun s => dot W (M s) z) x
  | [] => by
    have : dot pre (fun s => dot ([] : List β) (M s) z) x = dot pre (fun _ => 0) x := rfl
    rw [this, dot_zero]
    rfl
  | w :: W => by
    rw [dot_cons, dot_swap M pre x z W]
    have e : dot pre (fun s => dot (w :: W) (M s) z) x = dot pre (fun s => M s w * z w + dot W (M s) z) x := dot_congr fun s _ => by rw [dot_cons]
    rw [e, dot_add]
    congr 1
    induction pre with
    | nil => simp [dot]
    | cons s pre ih =>
      rw [dot_cons, dot_cons, ← ih]
      · grind
      · exact dot_congr fun s _ => by rw [dot_cons]
theorem dot_delta [DecidableEq α] {pre : List α} (hn : pre.Nodup) {s0 : α} (hs : s0 ∈ pre) (f x : α → Int) (k : Int) : dot pre f (fun s => x s + if s = s0 then k else 0) = dot pre f x + f s0 * k := by
  induction pre with
  | nil => cases hs
  | cons s pre ih =>
    rw [dot_cons, dot_cons]
    have hn' := List.nodup_cons.mp hn
    by_cases e : s = s0
    · subst e
      have : dot pre f (fun t => x t + if t = s then k else 0) = dot pre f x := dot_congr fun t ht => by
        rw [if_neg (show ¬ t = s from fun q => hn'.1 (q ▸ ht))]
        grind
      rw [this, if_pos rfl]
      grind
    · have hs' : s0 ∈ pre := by
        rcases List.mem_cons.mp hs with q | q
        · exact absurd q.symm e
        · exact q
      rw [ih hn'.2 hs', if_neg e]
      grind
end
end Sc

namespace Sc
open HoBase Ho04
open Classical

theorem inc_one (a : Nat) (y : Sim) : incidence [a] y = 0 := by
  unfold incidence
  split
  · simp
  · rfl
theorem face_length {x : Sim} {i : Nat} (h : i < x.length) : (face x i).length + 1 = x.length := by
  unfold face
  rw [List.length_append, List.length_take, List.length_drop]
  omega
theorem inc_len {x y : Sim} (h : incidence x y ≠ 0) : y.length + 1 = x.length := by
  unfold incidence at h
  split at h
  · rename_i i e
    have h1 := List.find?_some e
    have h2 := List.mem_of_find?_eq_some e
    have h3 : face x i = y := by simpa using h1
    rw [← h3]
    exact face_length (List.mem_range.mp h2)
  · exact absurd rfl h
theorem inc_zero {x y : Sim} (h : y.length + 1 ≠ x.length) : incidence x y = 0 := by
  by_cases e : incidence x y = 0
  · exact e
  · exact absurd (inc_len e) h
theorem inc_edge {a b w : Nat} (h : a < b) : incidence [a, b] [w] = (if w = b then 1 else 0) - (if w = a then 1 else 0) := by
  rw [incidence2 h]
  rfl

theorem conn_mix {pre : Cx} (hn : pre.Nodup) (hr : ∀ x ∈ pre, Rises x) {u v : Nat} (h : Conn (Adj pre) u v) :
    ∃ x : Sim → Int, (∀ s, s.length ≠ 2 → x s = 0) ∧ ∀ w, ((if w = v then 1 else 0) - (if w = u then 1 else 0) : Int) = dot pre (fun s => incidence s [w]) x := by
  induction h with
  | refl =>
    refine ⟨fun _ => 0, fun _ _ => rfl, fun w => ?_⟩
    have : dot pre (fun s => incidence s [w]) (fun _ => 0) = dot pre (fun _ => 0) (fun _ => 0) := dot_congr fun s _ => by simp
    rw [this, dot_zero]
    omega
  | step hc r ih =>
    rename_i p q
    obtain ⟨x, hx1, hx2⟩ := ih
    rcases r with r | r
    · have hlt : p < q := by simpa using hr _ r
      refine ⟨fun s => x s + if s = [p, q] then 1 else 0, fun s hs => ?_, fun w => ?_⟩
      · show x s + _ = 0
        rw [hx1 s hs, if_neg (fun e => hs (by rw [e]; rfl))]
        rfl
      · rw [dot_delta hn r, ← hx2 w, inc_edge hlt]
        omega
    · have hlt : q < p := by simpa using hr _ r
      refine ⟨fun s => x s + if s = [q, p] then -1 else 0, fun s hs => ?_, fun w => ?_⟩
      · show x s + _ = 0
        rw [hx1 s hs, if_neg (fun e => hs (by rw [e]; rfl))]
        rfl
      · rw [dot_delta hn r, ← hx2 w, inc_edge hlt]
        omega

theorem dot_pick : ∀ {V : List Nat}, V.Nodup → ∀ {b : Nat}, b ∈ V → ∀ z : Nat → Int, dot V (fun w => if w = b then 1 else 0) z = z b
  | [], _, b, hb, _ => by cases hb
  | v :: V, hn, b, hb, z => by
    have hn' := List.nodup_cons.mp hn
    rw [dot_cons]
    by_cases e : v = b
    · subst e
      have : dot V (fun w => if w = v then 1 else 0) z = dot V (fun _ => 0) z := dot_congr fun w hw => by
        rw [if_neg (show ¬ w = v from fun q => hn'.1 (q ▸ hw))]
      rw [this, dot_zero, if_pos rfl]
      omega
    · have hb' : b ∈ V := by
        rcases List.mem_cons.mp hb with q | q
        · exact absurd q.symm e
        · exact q
      rw [dot_pick hn'.2 hb' z, if_neg e]
      omega
theorem dot_edge {V : List Nat} (hn : V.Nodup) {a b : Nat} (h : a < b) (ha : a ∈ V) (hb : b ∈ V) (z : Nat → Int) : dot V (fun w => incidence [a, b] [w]) z = z b - z a := by
  have e : dot V (fun w => incidence [a, b] [w]) z = dot V (fun w => (if w = b then 1 else 0) - 1 * (if w = a then 1 else 0)) z := dot_congr fun w _ => by
    rw [inc_edge h, Int.one_mul]
  rw [e, dot_mix, dot_pick hn hb, dot_pick hn ha]
  omega

theorem Good.dep_edge {c pre : Cx} (g : Good c) (hs : ∀ x ∈ pre, x ∈ c) (hn : pre.Nodup) {a b : Nat} (hab : [a, b] ∈ c) : Dep c incidence pre [a, b] ↔ Conn (Adj pre) a b := by
  have hlt : a < b := by simpa using g.ris _ hab
  constructor
  · rintro ⟨y, x, hy, hx⟩
    apply Classical.byContradiction
    intro hnc
    let z : Nat → Int := fun w => if Conn (Adj pre) a w then 1 else 0
    have hV := vs_nodup g.nd
    have ha : a ∈ vs c := mem_vs.mpr (g.clo _ hab [a] (by simp) (by simp))
    have hb : b ∈ vs c := mem_vs.mpr (g.clo _ hab [b] (by simp) (by simp))
    have h1 : dot (vs c) (fun w => dot pre (fun s => incidence s [w]) x) z = dot (vs c) (fun w => y * incidence [a, b] [w]) z := dot_congr fun w hw => by
      rw [hx [w] (mem_vs.mp hw)]
    have h2 : dot (vs c) (fun w => y * incidence [a, b] [w]) z = y * (z b - z a) := by
      rw [← dot_edge hV hlt ha hb z]
      have : ∀ V : List Nat, dot V (fun w => y * incidence [a, b] [w]) z = y * dot V (fun w => incidence [a, b] [w]) z := by
        intro V
        induction V with
        | nil => simp [dot]
        | cons v V ih =>
          rw [dot_cons, dot_cons, ih]
          grind
      exact this _
    rw [dot_swap (fun s w => incidence s [w]) pre x z (vs c)] at h1
    have h3 : dot pre (fun s => dot (vs c) (fun w => incidence s [w]) z) x = dot pre (fun _ => 0) x := dot_congr fun s hsp => by
      have : dot (vs c) (fun w => incidence s [w]) z = 0 := by
        by_cases h2 : s.length = 2
        · obtain ⟨p, q, rfl⟩ := len2 h2
          have hsc := hs _ hsp
          have hpq : p < q := by simpa using g.ris _ hsc
          rw [dot_edge hV hpq (mem_vs.mpr (g.clo _ hsc [p] (by simp) (by simp))) (mem_vs.mpr (g.clo _ hsc [q] (by simp) (by simp)))]
          have : z q = z p := by
            show (if Conn (Adj pre) a q then (1 : Int) else 0) = if Conn (Adj pre) a p then 1 else 0
            by_cases k : Conn (Adj pre) a p
            · rw [if_pos k, if_pos (k.step (.inl hsp))]
            · rw [if_neg k, if_neg (fun k' => k (k'.step (.inr hsp)))]
          omega
        · have : dot (vs c) (fun w => incidence s [w]) z = dot (vs c) (fun _ => 0) z := dot_congr fun w _ => by
            rw [inc_zero (fun e => h2 (by simpa using e.symm))]
          rw [this, dot_zero]
      rw [this]
    rw [h3, dot_zero, h2] at h1
    have za : z a = 1 := if_pos (.refl _)
    have zb : z b = 0 := if_neg hnc
    rw [za, zb] at h1
    omega
  · intro hc
    obtain ⟨x, hx1, hx2⟩ := conn_mix hn (fun s hsp => g.ris _ (hs s hsp)) hc
    refine ⟨1, x, by decide, fun y hy => ?_⟩
    rw [Int.one_mul]
    by_cases h1 : y.length = 1
    · obtain ⟨w, rfl⟩ := len1 h1
      rw [inc_edge hlt, hx2 w]
    · rw [inc_zero (fun e => h1 (by simpa using e))]
      have : dot pre (fun s => incidence s y) x = dot pre (fun _ => 0) x := dot_congr fun s _ => by
        by_cases h2 : s.length = 2
        · rw [inc_zero (fun e => h1 (by omega))]
        · rw [hx1 s h2]
          simp
      rw [this, dot_zero]

theorem dot_filter (f x : Sim → Int) (p : Sim → Bool) : ∀ pre : List Sim, (∀ s ∈ pre, p s = false → f s = 0) → dot pre f x = dot (pre.filter p) f x
  | [], _ => rfl
  | s :: pre, h => by
    have ih := dot_filter f x p pre fun t ht => h t (List.mem_cons_of_mem _ ht)
    rw [dot_cons, ih]
    cases e : p s with
    | true => rw [List.filter_cons_of_pos e, dot_cons]
    | false =>
      rw [List.filter_cons_of_neg (by rw [e]; decide), h s (List.mem_cons_self ..) e]
      omega

theorem Good.dep_tri {c pre : Cx} (g : Good c) (hl : c.length ≤ 13) (hs : ∀ x ∈ pre, x ∈ c) (hn : pre.Nodup) {r : Sim} (hr : r ∈ c) (h3 : r.length = 3) (hrp : r ∉ pre) : ¬ Dep c incidence pre r := by
  rintro ⟨y, x, hy, hx⟩
  have hD : ∀ z ∈ r :: pre.filter (fun s => s.length == 3), z ∈ c ∧ z.length = 3 := by
    intro z hz
    rcases List.mem_cons.mp hz with rfl | hz
    · exact ⟨hr, h3⟩
    · obtain ⟨q1, q2⟩ := List.mem_filter.mp hz
      exact ⟨hs z q1, by simpa using q2⟩
  have hnd : (r :: pre.filter (fun s => s.length == 3)).Nodup := List.nodup_cons.mpr ⟨fun q => hrp (List.mem_filter.mp q).1, nodup_filter hn⟩
  have := g.indep hl (fun s => if s = r then -y else x s) _ _ rfl hnd hD (fun e he => by
    have he' : e ∈ c ∧ e.length = 2 := by
      unfold ofDim at he
      obtain ⟨q1, q2⟩ := List.mem_filter.mp he
      exact ⟨q1, by simpa using q2⟩
    have h1 := hx e he'.1
    rw [dot_filter (fun s => incidence s e) x (fun s => s.length == 3) pre (fun s _ hs3 => inc_zero (fun q => by
      have : s.length = 3 := by omega
      rw [this] at hs3
      cases hs3))] at h1
    rw [dot_cons, if_pos rfl]
    have h2 : dot (pre.filter fun s => s.length == 3) (fun s => incidence s e) (fun s => if s = r then -y else x s) = dot (pre.filter fun s => s.length == 3) (fun s => incidence s e) x := dot_congr fun s hs' => by
      rw [if_neg (show ¬ s = r from fun q => hrp (q ▸ (List.mem_filter.mp hs').1))]
    rw [h2, ← h1]
    grind) r (List.mem_cons_self ..)
  rw [if_pos rfl] at this
  omega

theorem adj_append {pre : Cx} {r : Sim} (h : r.length ≠ 2) (u v : Nat) : Adj (pre ++ [r]) u v ↔ Adj pre u v := by
  unfold Adj
  constructor
  · rintro (q | q)
    · rcases List.mem_append.mp q with q | q
      · exact .inl q
      · have : [u, v] = r := by simpa using q
        exact absurd (by rw [← this]; rfl) h
    · rcases List.mem_append.mp q with q | q
      · exact .inr q
      · have : [v, u] = r := by simpa using q
        exact absurd (by rw [← this]; rfl) h
  · rintro (q | q)
    · exact .inl (List.mem_append.mpr (.inl q))
    · exact .inr (List.mem_append.mpr (.inl q))
theorem adj_append2 {pre : Cx} {a b : Nat} (u v : Nat) : Adj (pre ++ [[a, b]]) u v ↔ More (Adj pre) a b u v := by
  unfold Adj More
  constructor
  · rintro (q | q)
    · rcases List.mem_append.mp q with q | q
      · exact .inl (.inl q)
      · have : u = a ∧ v = b := by simpa using q
        exact .inr (.inl this)
    · rcases List.mem_append.mp q with q | q
      · exact .inl (.inr q)
      · have : v = a ∧ u = b := by simpa using q
        exact .inr (.inr ⟨this.2, this.1⟩)
  · rintro ((q | q) | ⟨rfl, rfl⟩ | ⟨rfl, rfl⟩)
    · exact .inl (List.mem_append.mpr (.inl q))
    · exact .inr (List.mem_append.mpr (.inl q))
    · exact .inl (by simp)
    · exact .inr (by simp)

theorem comp_iff {R R' : Nat → Nat → Prop} (h : ∀ u v, R u v ↔ R' u v) (V : List Nat) : comp R V = comp R' V :=
  comp_congr (fun a b q => .step (.refl _) ((h a b).mp q)) (fun a b q => .step (.refl _) ((h a b).mpr q)) V

theorem Good.icount {c : Cx} (g : Good c) (hl : c.length ≤ 13) : ∀ (R pre : Cx), c = pre ++ R → icount c incidence pre R + nparts c = comp (Adj pre) (vs c) + cnt R 3
  | [], pre, h => by
    rw [List.append_nil] at h
    subst h
    show 0 + nparts c = nparts c + 0
    omega
  | r :: R, pre, h => by
    have ih := g.icount hl R (pre ++ [r]) (by rw [h]; simp)
    have hrc : r ∈ c := by rw [h]; simp
    have hsp : ∀ x ∈ pre, x ∈ c := fun x hx => by rw [h]; simp [hx]
    have hnd := g.nd
    rw [h] at hnd
    have hnp : pre.Nodup := (List.nodup_append.mp hnd).1
    have hrp : r ∉ pre := fun q => (List.nodup_append.mp hnd).2.2 r q r (List.mem_cons_self ..) rfl
    have hlen := g.len r hrc
    have hfl := g.flat hl r hrc
    have hc3 : cnt (r :: R) 3 = cnt R 3 + if r.length = 3 then 1 else 0 := by
      unfold cnt
      rw [List.countP_cons]
      by_cases e : r.length = 3
      · simp [e]
      · simp [e]
    rw [hc3]
    unfold Sc.icount
    by_cases h2 : r.length = 2
    · obtain ⟨a, b, rfl⟩ := len2 h2
      have hd := g.dep_edge hsp hnp hrc
      rw [if_neg (show ¬ [a, b].length = 3 by simp)]
      rw [comp_iff adj_append2] at ih
      by_cases hc : Conn (Adj pre) a b
      · rw [if_pos (hd.mpr hc)]
        have : comp (More (Adj pre) a b) (vs c) = comp (Adj pre) (vs c) := comp_congr (fun u v q => by
          rcases q with q | ⟨rfl, rfl⟩ | ⟨rfl, rfl⟩
          · exact .step (.refl _) q
          · exact hc
          · exact hc.symm (Adj.symm)) (fun u v q => .step (.refl _) (.inl q)) _
        omega
      · rw [if_neg (fun q => hc (hd.mp q))]
        have hcon : ∀ {x : Nat}, x ∈ vs c → ∀ u, Conn (Adj pre) u x → u ∈ vs c := fun {x} hx u hu => g.conn_vs (hu.mono fun p q k => .step (.refl _) (k.mono hsp)) hx
        have ha : a ∈ vs c := mem_vs.mpr (g.clo _ hrc [a] (by simp) (by simp))
        have hb : b ∈ vs c := mem_vs.mpr (g.clo _ hrc [b] (by simp) (by simp))
        have := comp_more (R := Adj pre) Adj.symm (vs_nodup g.nd) hc (hcon ha) (hcon hb)
        omega
    · rw [comp_iff (adj_append h2)] at ih
      by_cases h1 : r.length = 1
      · obtain ⟨a, rfl⟩ := len1 h1
        have hd : Dep c incidence pre [a] := ⟨1, fun _ => 0, by decide, fun y _ => by
          rw [inc_one]
          have : dot pre (fun s => incidence s y) (fun _ => 0) = dot pre (fun _ => 0) (fun _ => 0) := dot_congr fun s _ => by simp
          rw [this, dot_zero]
          rfl⟩
        rw [if_pos hd, if_neg (by omega)]
        omega
      · have h3 : r.length = 3 := by omega
        rw [if_neg (g.dep_tri hl hsp hnp hrc h3 hrp), if_pos h3]
        omega

theorem counts_eq {c : Cx} (h : ∀ x ∈ c, 1 ≤ x.length ∧ x.length ≤ 3) : cnt c 1 + cnt c 2 + cnt c 3 = c.length := by
  unfold cnt
  induction c with
  | nil => simp
  | cons x c ih =>
    have hx := h x (List.mem_cons_self ..)
    have ih := ih fun y hy => h y (List.mem_cons_of_mem _ hy)
    simp only [List.countP_cons, List.length_cons]
    by_cases h1 : x.length = 1
    · simp [h1]; omega
    · by_cases h2 : x.length = 2
      · simp [h2]; omega
      · have h3 : x.length = 3 := by omega
        simp [h3]; omega

/-- what the program answers as the number of holes -/
theorem rank_phi {c : Cx} (g : Good c) (hl : c.length ≤ 13) : (c.length : Int) - 2 * (rankF c.length (tab c c incidence) : Int) = phi c := by
  have h1 := rank_tab (C := c) c.length c incidence (Nat.le_refl _) g.nd
  have h2 := g.icount hl c [] rfl
  rw [comp_no_edge (fun u v q => by
    rcases q with q | q <;> cases q), vs_length] at h2
  have h3 := counts_eq (c := c) fun x hx => ⟨(g.len x hx).1, g.flat hl x hx⟩
  have h4 : List.countP (fun x => x.length == 1) c = cnt c 1 := rfl
  rw [h4] at h2
  rw [h1]
  unfold phi
  omega
end Sc

namespace Sc
open HoBase Ho04

/-! ### bits -/
def bitsUp (f : Nat → Bool) : Nat → Nat
  | 0 => 0
  | k + 1 => if f k = true then bitsUp f k ||| 2 ^ k else bitsUp f k
theorem bitsUp_test (f : Nat → Bool) : ∀ (n j : Nat), (bitsUp f n).testBit j = (decide (j < n) && f j)
  | 0, j => by simp [bitsUp]
  | n + 1, j => by
    have ih := bitsUp_test f n j
    unfold bitsUp
    by_cases h : f n = true
    · rw [if_pos h, Nat.testBit_or, ih, Nat.testBit_two_pow]
      by_cases e : n = j
      · subst e
        simp [h]
      · have : (j < n + 1) ↔ j < n := by omega
        simp [e, this]
    · rw [if_neg h, ih]
      by_cases e : n = j
      · subst e
        simp [h]
      · have : (j < n + 1) ↔ j < n := by omega
        simp [this]
theorem bitsUp_lt (f : Nat → Bool) : ∀ n, bitsUp f n < 2 ^ n
  | 0 => by simp [bitsUp]
  | n + 1 => by
    have ih := bitsUp_lt f n
    have h2 : 2 ^ n < 2 ^ (n + 1) := Nat.pow_lt_pow_right (by decide) (by omega)
    unfold bitsUp
    split
    · exact Nat.or_lt_two_pow (by omega) h2
    · omega
theorem and_pow (m k : Nat) : m &&& 2 ^ k = 0 ↔ m.testBit k = false := by
  constructor
  · intro h
    have := congrArg (fun x => x.testBit k) h
    simp only [Nat.testBit_and, Nat.testBit_two_pow, Nat.zero_testBit] at this
    simpa using this
  · intro h
    apply Nat.eq_of_testBit_eq
    intro j
    rw [Nat.testBit_and, Nat.testBit_two_pow, Nat.zero_testBit]
    by_cases e : k = j
    · subst e
      simp [h]
    · simp [e]
theorem pow_le_of_bit {m k : Nat} (h : m.testBit k = true) : 2 ^ k ≤ m := Nat.ge_two_pow_of_testBit h
theorem sub_bit {m k : Nat} (h : m.testBit k = true) (j : Nat) : (m - 2 ^ k).testBit j = (m.testBit j && decide (j ≠ k)) := by
  have hx : (m ^^^ 2 ^ k).testBit j = (m.testBit j && decide (j ≠ k)) := by
    rw [Nat.testBit_xor, Nat.testBit_two_pow]
    by_cases e : k = j
    · subst e
      simp [h]
    · have e' : ¬ j = k := fun q => e q.symm
      simp [e, e']
  have e : m - 2 ^ k = m ^^^ 2 ^ k := by
    have hs : (m ^^^ 2 ^ k) + 2 ^ k = m := by
      have h0 : (m ^^^ 2 ^ k) &&& 2 ^ k = 0 := by
        rw [and_pow, Nat.testBit_xor, Nat.testBit_two_pow, h]
        simp
      have h1 : (m ^^^ 2 ^ k) + 2 ^ k = (m ^^^ 2 ^ k) ||| 2 ^ k := by
        have hb := (and_pow _ _).mp h0
        -- split the number at k
        have hd := Nat.div_add_mod (m ^^^ 2 ^ k) (2 ^ (k + 1))
        have hlow : (m ^^^ 2 ^ k) % 2 ^ (k + 1) < 2 ^ k := by
          apply Nat.lt_pow_two_of_testBit
          intro i hi
          rw [Nat.testBit_mod_two_pow]
          by_cases e : i = k
          · subst e
            simp [hb]
          · have : ¬ i < k + 1 := by omega
            simp [this]
        generalize hq : (m ^^^ 2 ^ k) / 2 ^ (k + 1) = q at hd
        generalize hr : (m ^^^ 2 ^ k) % 2 ^ (k + 1) = r at hd hlow
        rw [← hd]
        have hr2 : r < 2 ^ (k + 1) := by
          rw [Nat.pow_succ]
          omega
        have hr3 : 2 ^ k + r < 2 ^ (k + 1) := by
          rw [Nat.pow_succ]
          omega
        have e1 : 2 ^ (k + 1) * q + r + 2 ^ k = 2 ^ (k + 1) * q + (2 ^ k + r) := by omega
        rw [e1, Nat.two_pow_add_eq_or_of_lt hr3, Nat.two_pow_add_eq_or_of_lt hr2, Nat.or_assoc]
        congr 1
        have := Nat.two_pow_add_eq_or_of_lt hlow 1
        rw [Nat.mul_one] at this
        rw [this, Nat.or_comm]
      rw [h1]
      apply Nat.eq_of_testBit_eq
      intro i
      rw [Nat.testBit_or, Nat.testBit_xor, Nat.testBit_two_pow]
      by_cases e : k = i
      · subst e
        simp [h]
      · simp [e]
    omega
  rw [e, hx]
theorem one_bit_two : ∀ a, a < 128 → ∀ b, b < 64 → a * 64 + b ≠ 0 → (a * 64 + b) &&& (a * 64 + b - 1) = 0 → ∃ j, j < 13 ∧ a * 64 + b = 2 ^ j := by decide +kernel
theorem one_bit (o : Nat) (h : o < 2 ^ 13) (h0 : o ≠ 0) (h1 : o &&& (o - 1) = 0) : ∃ j, j < 13 ∧ o = 2 ^ j := by
  have e : o / 64 * 64 + o % 64 = o := by omega
  have := one_bit_two (o / 64) (by omega) (o % 64) (by omega)
  rw [e] at this
  exact this h0 h1
theorem bit_one {j : Nat} (h : j < 13) : 2 ^ j &&& (2 ^ j - 1) = 0 := by
  have : ∀ j, j < 13 → 2 ^ j &&& (2 ^ j - 1) = 0 := by decide
  exact this j h

/-! ### parts of a shape by their bits -/
def part (c : Cx) (m : Nat) : Cx := c.filter fun y => m.testBit (c.idxOf y)
def aboveBits (c : Cx) (x : Sim) : Nat := bitsUp (fun j => match c[j]? with
  | some y => decide (y ≠ x) && within x y
  | none => false) c.length
theorem idx_at {c : Cx} (hn : c.Nodup) {k : Nat} (h : k < c.length) : c.idxOf c[k] = k := hn.idxOf_getElem k h
theorem at_idx {c : Cx} {y : Sim} (h : y ∈ c) : c.idxOf y < c.length ∧ c[c.idxOf y]? = some y := by
  have h1 : c.idxOf y < c.length := List.idxOf_lt_length_iff.mpr h
  exact ⟨h1, by rw [List.getElem?_eq_getElem h1, List.getElem_idxOf]⟩
theorem mem_part {c : Cx} {m : Nat} {y : Sim} : y ∈ part c m ↔ y ∈ c ∧ m.testBit (c.idxOf y) = true := by
  unfold part
  rw [List.mem_filter]
theorem part_sub {c : Cx} (hn : c.Nodup) {m k : Nat} (hk : k < c.length) (h : m.testBit k = true) : part c (m - 2 ^ k) = rm (part c m) c[k] := by
  unfold rm part
  rw [List.filter_filter]
  apply List.filter_congr
  intro y hy
  rw [sub_bit h, Bool.and_comm]
  congr 1
  have : (c.idxOf y ≠ k) ↔ y ≠ c[k] := by
    constructor
    · intro q e
      apply q
      rw [e]
      exact idx_at hn hk
    · intro q e
      apply q
      obtain ⟨h1, h2⟩ := at_idx hy
      rw [e, List.getElem?_eq_getElem hk] at h2
      exact (Option.some.inj h2).symm
  simp only [this]
theorem above_test {c : Cx} {x y : Sim} (hy : y ∈ c) : (aboveBits c x).testBit (c.idxOf y) = (decide (y ≠ x) && within x y) := by
  obtain ⟨h1, h2⟩ := at_idx hy
  unfold aboveBits
  rw [bitsUp_test, h2, decide_eq_true h1]
  rfl
theorem part_above (c : Cx) (x : Sim) (m : Nat) : aboveL (part c m) x = part c (aboveBits c x &&& m) := by
  unfold aboveL part
  rw [List.filter_filter]
  apply List.filter_congr
  intro y hy
  rw [Nat.testBit_and, above_test hy]
theorem part_zero (c : Cx) : part c 0 = [] := by
  unfold part
  simp
theorem part_nil {c : Cx} (hn : c.Nodup) {m : Nat} (hm : m < 2 ^ c.length) (h : part c m = []) : m = 0 := by
  apply Nat.eq_of_testBit_eq
  intro j
  rw [Nat.zero_testBit]
  by_cases hj : j < c.length
  · cases e : m.testBit j with
    | false => rfl
    | true =>
      have : c[j] ∈ part c m := mem_part.mpr ⟨List.getElem_mem hj, by rw [idx_at hn hj]; exact e⟩
      rw [h] at this
      cases this
  · exact Nat.testBit_lt_two_pow (Nat.lt_of_lt_of_le hm (Nat.pow_le_pow_right (by decide) (by omega)))
theorem filter_one {c : Cx} (hn : c.Nodup) {y : Sim} (hy : y ∈ c) : c.filter (fun z => decide (z = y)) = [y] := by
  induction c with
  | nil => cases hy
  | cons z c ih =>
    have hn' := List.nodup_cons.mp hn
    by_cases e : z = y
    · subst e
      rw [List.filter_cons_of_pos (by simp)]
      congr 1
      rw [List.filter_eq_nil_iff]
      intro a ha q
      have : a = z := by simpa using q
      exact hn'.1 (this ▸ ha)
    · rw [List.filter_cons_of_neg (by simpa using e)]
      apply ih hn'.2
      rcases List.mem_cons.mp hy with q | q
      · exact absurd q.symm e
      · exact q
theorem part_one {c : Cx} (hn : c.Nodup) {j : Nat} (hj : j < c.length) : part c (2 ^ j) = [c[j]] := by
  rw [← filter_one hn (List.getElem_mem hj)]
  unfold part
  apply List.filter_congr
  intro y hy
  rw [Nat.testBit_two_pow]
  have : (j = c.idxOf y) ↔ y = c[j] := by
    constructor
    · intro e
      obtain ⟨h1, h2⟩ := at_idx hy
      rw [← e, List.getElem?_eq_getElem hj] at h2
      exact (Option.some.inj h2).symm
    · intro e
      rw [e]
      exact (idx_at hn hj).symm
  simp only [this]
theorem part_single {c : Cx} (hn : c.Nodup) {o : Nat} (ho : o < 2 ^ c.length) {y : Sim} (h : part c o = [y]) : y ∈ c ∧ o = 2 ^ c.idxOf y := by
  have hy : y ∈ c := (mem_part.mp (by rw [h]; simp : y ∈ part c o)).1
  refine ⟨hy, ?_⟩
  apply Nat.eq_of_testBit_eq
  intro j
  rw [Nat.testBit_two_pow]
  by_cases hj : j < c.length
  · have : o.testBit j = true ↔ c.idxOf y = j := by
      constructor
      · intro e
        have : c[j] ∈ part c o := mem_part.mpr ⟨List.getElem_mem hj, by rw [idx_at hn hj]; exact e⟩
        rw [h] at this
        have e2 : c[j] = y := by simpa using this
        rw [← e2]
        exact idx_at hn hj
      · intro e
        have : y ∈ part c o := by rw [h]; simp
        have := (mem_part.mp this).2
        rwa [e] at this
    by_cases q : c.idxOf y = j
    · rw [this.mpr q]
      simp [q]
    · rw [decide_eq_false q]
      cases e : o.testBit j with
      | false => rfl
      | true => exact absurd (this.mp e) q
  · rw [Nat.testBit_lt_two_pow (Nat.lt_of_lt_of_le ho (Nat.pow_le_pow_right (by decide) (by omega)))]
    have := (at_idx hy).1
    rw [decide_eq_false (by omega)]
theorem part_whole (c : Cx) : part c (2 ^ c.length - 1) = c := by
  unfold part
  rw [List.filter_eq_self]
  intro y hy
  rw [Nat.testBit_two_pow_sub_one]
  exact decide_eq_true (at_idx hy).1

/-! ### the steps -/
def stepAt (left bits k : Nat) : Option (Nat × Nat) := if left &&& 2 ^ k = 0 then none else if bits &&& left = 0 then some (left - 2 ^ k, 1) else if (bits &&& left) &&& ((bits &&& left) - 1) = 0 then some (left - 2 ^ k - (bits &&& left), 0) else none
def stepsL (A : List Nat) (left : Nat) : List (Nat × Nat) := A.zipIdx.filterMap fun p => stepAt left p.1 p.2
theorem mem_steps {A : List Nat} {left : Nat} {s : Nat × Nat} : s ∈ stepsL A left ↔ ∃ k b, A[k]? = some b ∧ stepAt left b k = some s := by
  unfold stepsL
  rw [List.mem_filterMap]
  constructor
  · rintro ⟨p, hp, e⟩
    exact ⟨p.2, p.1, List.mem_zipIdx_iff_getElem?.mp hp, e⟩
  · rintro ⟨k, b, h, e⟩
    exact ⟨(b, k), List.mem_zipIdx_iff_getElem?.mpr h, e⟩
theorem rm_comm (c : Cx) (x y : Sim) : rm (rm c x) y = rm (rm c y) x := by
  unfold rm
  rw [List.filter_filter, List.filter_filter]
  apply List.filter_congr
  intro z _
  rw [Bool.and_comm]

structure PartOk (c : Cx) (m : Nat) : Prop where
  lt : m < 2 ^ c.length
  good : Good (part c m)
theorem part_len (c : Cx) (m : Nat) : (part c m).length ≤ c.length := List.length_filter_le _ _

theorem step_ok {c : Cx} (g : Good c) (hl : c.length ≤ 13) {left : Nat} (ok : PartOk c left) {r cut : Nat} (h : (r, cut) ∈ stepsL (c.map (aboveBits c)) left) :
    r < left ∧ PartOk c r ∧ phi (part c left) ≤ cut + phi (part c r) := by
  obtain ⟨k, b, hb, hs⟩ := mem_steps.mp h
  rw [List.getElem?_map] at hb
  cases hx : c[k]? with
  | none => rw [hx] at hb; cases hb
  | some x =>
    rw [hx] at hb
    have eb : aboveBits c x = b := Option.some.inj hb
    subst eb
    have hk := (List.getElem?_eq_some_iff.mp hx).1
    have ex : c[k] = x := (List.getElem?_eq_some_iff.mp hx).2
    have hpl := part_len c left
    have hflat := ok.good.flat (by omega)
    unfold stepAt at hs
    split at hs
    · cases hs
    · rename_i h1
      have hbit : left.testBit k = true := by
        cases e : left.testBit k with
        | true => rfl
        | false => exact absurd ((and_pow _ _).mpr e) h1
      have hxm : x ∈ part c left := mem_part.mpr ⟨ex ▸ List.getElem_mem hk, by rw [← ex, idx_at g.nd hk]; exact hbit⟩
      have hov := ok.good.above hxm
      rw [part_above] at hov
      have hle := pow_le_of_bit hbit
      have hpos : 0 < 2 ^ k := Nat.pow_pos (by decide)
      have hsub := part_sub g.nd hk hbit
      rw [ex] at hsub
      split at hs
      · rename_i h2
        have e := Option.some.inj hs
        have e1 : left - 2 ^ k = r := congrArg Prod.fst e
        have e2 : 1 = cut := congrArg Prod.snd e
        subst e1 e2
        rw [h2, part_zero] at hov
        have htop : IsTop (part c left) x := (mem_tops ok.good).mp (by
          unfold HoBase.tops
          rw [List.mem_filter]
          refine ⟨hxm, ?_⟩
          unfold over at hov
          rw [List.filter_eq_nil_iff] at hov
          have : ((part c left).any fun y => decide (x.length < y.length) && within x y) = false := by
            rw [List.any_eq_false]
            exact hov
          rw [this]
          rfl)
        refine ⟨by omega, ⟨by have := ok.lt; omega, by rw [hsub]; exact ok.good.rmTop htop⟩, ?_⟩
        rw [hsub]
        have := ok.good.phi_cut hflat htop
        omega
      · rename_i h2
        split at hs
        · rename_i h3
          have e := Option.some.inj hs
          have e1 : left - 2 ^ k - (aboveBits c x &&& left) = r := congrArg Prod.fst e
          have e2 : 0 = cut := congrArg Prod.snd e
          subst e1 e2
          have hlt : aboveBits c x &&& left < 2 ^ c.length := Nat.and_lt_two_pow _ ok.lt
          have hlt13 : aboveBits c x &&& left < 2 ^ 13 := Nat.lt_of_lt_of_le hlt (Nat.pow_le_pow_right (by decide) hl)
          obtain ⟨j, _, ho⟩ := one_bit _ hlt13 h2 h3
          have hj : j < c.length := by
            rw [ho] at hlt
            exact (Nat.pow_lt_pow_iff_right (by decide)).mp hlt
          rw [ho, part_one g.nd hj] at hov
          have hjb : left.testBit j = true := by
            have := congrArg (fun z => z.testBit j) ho
            simp only [Nat.testBit_and, Nat.testBit_two_pow] at this
            simp at this
            exact this.2
          have hyx : c[j] ≠ x := by
            intro e
            have h5 : c[j] ∈ over (part c left) x := by rw [hov]; simp
            have := ((ok.good.over_iff hxm).mp h5).2.2
            exact this e
          have hjk : j ≠ k := by
            intro e
            subst e
            exact hyx ex
          have hjb2 : (left - 2 ^ k).testBit j = true := by
            rw [sub_bit hbit, hjb, decide_eq_true hjk]
            rfl
          have hle2 := pow_le_of_bit hjb2
          have hpart : part c (left - 2 ^ k - 2 ^ j) = Ho04.push (part c left) x c[j] := by
            rw [part_sub g.nd hj hjb2, hsub, push_rm, rm_comm]
          rw [ho]
          refine ⟨by omega, ⟨by have := ok.lt; omega, by rw [hpart]; exact ok.good.push hxm hov⟩, ?_⟩
          rw [hpart, ok.good.phi_push hflat hxm hov]
          simp
        · cases hs

theorem step_best {c : Cx} (g : Good c) (hl : c.length ≤ 13) {left : Nat} (ok : PartOk c left) (h0 : left ≠ 0) : ∃ r cut, (r, cut) ∈ stepsL (c.map (aboveBits c)) left ∧ phi (part c left) = cut + phi (part c r) := by
  have hpl := part_len c left
  have hflat := ok.good.flat (by omega)
  have hne : part c left ≠ [] := fun e => h0 (part_nil g.nd ok.lt e)
  have key : ∀ x ∈ part c left, ∃ k, k < c.length ∧ c[k]? = some x ∧ left.testBit k = true ∧ (c.map (aboveBits c))[k]? = some (aboveBits c x) ∧ part c (left - 2 ^ k) = rm (part c left) x ∧ over (part c left) x = part c (aboveBits c x &&& left) := by
    intro x hx
    obtain ⟨hxc, hb⟩ := mem_part.mp hx
    obtain ⟨h1, h2⟩ := at_idx hxc
    have ex : c[c.idxOf x] = x := List.getElem_idxOf h1
    refine ⟨c.idxOf x, h1, h2, hb, by rw [List.getElem?_map, h2]; rfl, ?_, ?_⟩
    · rw [part_sub g.nd h1 hb, ex]
    · rw [ok.good.above hx, part_above]
  cases hf : frees (part c left) with
  | nil =>
    obtain ⟨x, htop, hphi⟩ := good_cut ok.good hflat (by omega) hf hne
    obtain ⟨k, hk, hkx, hbit, hA, hsub, hov⟩ := key x htop.1
    have hlt : aboveBits c x &&& left < 2 ^ c.length := Nat.and_lt_two_pow _ ok.lt
    have hzero : aboveBits c x &&& left = 0 := by
      apply part_nil g.nd hlt
      rw [← hov]
      cases e : over (part c left) x with
      | nil => rfl
      | cons y l =>
        have hy : y ∈ over (part c left) x := by rw [e]; simp
        obtain ⟨h1, h2, h3⟩ := (ok.good.over_iff htop.1).mp hy
        exact absurd (htop.2 y h1 h2) h3
    refine ⟨left - 2 ^ k, 1, mem_steps.mpr ⟨k, _, hA, ?_⟩, ?_⟩
    · unfold stepAt
      rw [if_neg (fun q => by rw [(and_pow _ _).mp q] at hbit; cases hbit), if_pos hzero]
    · rw [hsub, hphi]
      omega
  | cons p l =>
    obtain ⟨x, y⟩ := p
    have hm : (x, y) ∈ frees (part c left) := by rw [hf]; simp
    obtain ⟨hx, hov0⟩ := mem_frees.mp hm
    obtain ⟨k, hk, hkx, hbit, hA, hsub, hov⟩ := key x hx
    have hlt : aboveBits c x &&& left < 2 ^ c.length := Nat.and_lt_two_pow _ ok.lt
    rw [hov] at hov0
    obtain ⟨hyc, ho⟩ := part_single g.nd hlt hov0
    obtain ⟨hj, hjy⟩ := at_idx hyc
    have hpos : 0 < 2 ^ c.idxOf y := Nat.pow_pos (by decide)
    have hmem : (left - 2 ^ k - 2 ^ c.idxOf y, 0) ∈ stepsL (c.map (aboveBits c)) left := by
      refine mem_steps.mpr ⟨k, _, hA, ?_⟩
      unfold stepAt
      rw [if_neg (fun q => by rw [(and_pow _ _).mp q] at hbit; cases hbit), ho, if_neg (by omega), if_pos (bit_one (by omega))]
    refine ⟨_, 0, hmem, ?_⟩
    have hjb : left.testBit (c.idxOf y) = true := by
      have := congrArg (fun z => z.testBit (c.idxOf y)) ho
      simp only [Nat.testBit_and, Nat.testBit_two_pow] at this
      simp at this
      exact this.2
    rw [hov0] at hov
    have hyx : y ≠ x := ((ok.good.over_iff hx).mp (by rw [hov]; simp)).2.2
    have hjk : c.idxOf y ≠ k := by
      intro e
      rw [e, hkx] at hjy
      exact hyx (Option.some.inj hjy).symm
    have hjb2 : (left - 2 ^ k).testBit (c.idxOf y) = true := by
      rw [sub_bit hbit, hjb, decide_eq_true hjk]
      rfl
    have ey : c[c.idxOf y] = y := List.getElem_idxOf hj
    have hpart : part c (left - 2 ^ k - 2 ^ c.idxOf y) = Ho04.push (part c left) x y := by
      rw [part_sub g.nd hj hjb2, hsub, push_rm, rm_comm, ey]
    rw [hpart, ok.good.phi_push hflat hx hov]
    simp

/-! ### the table of cuts -/
def putMin (d : Nat → Option Nat) (n r v : Nat) : Nat → Option Nat := fun m => if m = r then some (min ((d r).getD n) v) else d m
def Low (c : Cx) (d : Nat → Option Nat) : Prop := ∀ m v, d m = some v → PartOk c m ∧ phi c ≤ v + phi (part c m)
def DInv (c : Cx) (t : Nat) (d : Nat → Option Nat) : Prop := Low c d ∧ ∃ m v, m ≤ t ∧ d m = some v ∧ v + phi (part c m) ≤ phi c
structure DIn (c : Cx) (left w : Nat) (S : List (Nat × Nat)) (d : Nat → Option Nat) : Prop where
  low : Low c d
  here : d left = some w
  up : (∃ m v, m < left ∧ d m = some v ∧ v + phi (part c m) ≤ phi c) ∨ (w + phi (part c left) ≤ phi c ∧ ∀ s ∈ S, ∃ v, d s.1 = some v ∧ v ≤ w + s.2)
theorem comp_le (R : Nat → Nat → Prop) (V : List Nat) : comp R V ≤ V.length := List.countP_le_length
theorem phi_le {c : Cx} (g : Good c) : phi c ≤ c.length := by
  have h1 := comp_le (Adj c) (vs c)
  rw [vs_length] at h1
  have h2 : List.countP (fun x => x.length == 1) c = cnt c 1 := rfl
  have h3 : nparts c = comp (Adj c) (vs c) := rfl
  have h4 := counts_le (c := c)
  unfold phi
  omega
theorem part_nonneg {c : Cx} (hl : c.length ≤ 13) {m : Nat} (ok : PartOk c m) : 0 ≤ phi (part c m) := by
  have := part_len c m
  exact phi_nonneg (part c m).length (Nat.le_refl _) ok.good (ok.good.flat (by omega)) (by omega)
theorem dinv_start {c : Cx} (g : Good c) : DInv c (2 ^ c.length - 1) (fun m => if m = 2 ^ c.length - 1 then some 0 else none) := by
  have hpos : 0 < 2 ^ c.length := Nat.pow_pos (by decide)
  have hp : part c (2 ^ c.length - 1) = c := part_whole c
  refine ⟨fun m v h => ?_, 2 ^ c.length - 1, 0, Nat.le_refl _, if_pos rfl, ?_⟩
  · simp only at h
    split at h
    · rename_i e
      subst e
      refine ⟨⟨by omega, by rw [hp]; exact g⟩, ?_⟩
      rw [hp]
      omega
    · cases h
  · rw [hp]
    simp
theorem dinv_skip {c : Cx} {t : Nat} {d : Nat → Option Nat} (h : DInv c (t + 1) d) (hn : d (t + 1) = none) : DInv c t d := by
  obtain ⟨low, m, v, hm, hd, hv⟩ := h
  refine ⟨low, m, v, ?_, hd, hv⟩
  have : m ≠ t + 1 := fun e => by rw [e, hn] at hd; cases hd
  omega
theorem din_start {c : Cx} {left w : Nat} {d : Nat → Option Nat} (h : DInv c left d) (hw : d left = some w) : DIn c left w [] d := by
  obtain ⟨low, m, v, hm, hd, hv⟩ := h
  refine ⟨low, hw, ?_⟩
  by_cases e : m = left
  · subst e
    rw [hw] at hd
    cases hd
    exact .inr ⟨hv, fun s hs => by cases hs⟩
  · exact .inl ⟨m, v, by omega, hd, hv⟩
theorem din_step {c : Cx} (g : Good c) (hl : c.length ≤ 13) {left w : Nat} {S : List (Nat × Nat)} {d : Nat → Option Nat} (h : DIn c left w S d) {r cut : Nat} (hs : (r, cut) ∈ stepsL (c.map (aboveBits c)) left) :
    DIn c left w (S ++ [(r, cut)]) (putMin d c.length r (w + cut)) := by
  obtain ⟨okL, lowL⟩ := h.low left w h.here
  obtain ⟨hr, okR, hphi⟩ := step_ok g hl okL hs
  have hle := phi_le g
  have hnn := part_nonneg hl okR
  have dec : ∀ m v, d m = some v → ∃ v', putMin d c.length r (w + cut) m = some v' ∧ v' ≤ v := fun m v hd => by
    unfold putMin
    by_cases e : m = r
    · subst e
      rw [if_pos rfl, hd]
      exact ⟨_, rfl, Nat.min_le_left _ _⟩
    · rw [if_neg e]
      exact ⟨v, hd, Nat.le_refl _⟩
  refine ⟨fun m v hd => ?_, ?_, ?_⟩
  · unfold putMin at hd
    split at hd
    · rename_i e
      subst e
      have ev := Option.some.inj hd
      refine ⟨okR, ?_⟩
      have hmin : (v = (d m).getD c.length) ∨ v = w + cut := by omega
      rcases hmin with q | q
      · cases hdr : d m with
        | none =>
          rw [hdr] at q
          have : v = c.length := q
          omega
        | some v0 =>
          rw [hdr] at q
          have : v = v0 := q
          have := (h.low m v0 hdr).2
          omega
      · omega
    · exact h.low m v hd
  · unfold putMin
    rw [if_neg (by omega)]
    exact h.here
  · rcases h.up with ⟨m, v, hm, hd, hv⟩ | ⟨hw, hS⟩
    · obtain ⟨v', h1, h2⟩ := dec m v hd
      exact .inl ⟨m, v', hm, h1, by omega⟩
    · refine .inr ⟨hw, fun s hsm => ?_⟩
      rcases List.mem_append.mp hsm with q | q
      · obtain ⟨v, h1, h2⟩ := hS s q
        obtain ⟨v', h3, h4⟩ := dec s.1 v h1
        exact ⟨v', h3, by omega⟩
      · have es : s = (r, cut) := by simpa using q
        subst es
        refine ⟨_, if_pos rfl, ?_⟩
        show min _ (w + cut) ≤ w + cut
        exact Nat.min_le_right _ _
theorem din_end {c : Cx} (g : Good c) (hl : c.length ≤ 13) {t w : Nat} {d : Nat → Option Nat} (h : DIn c (t + 1) w (stepsL (c.map (aboveBits c)) (t + 1)) d) : DInv c t d := by
  refine ⟨h.low, ?_⟩
  rcases h.up with ⟨m, v, hm, hd, hv⟩ | ⟨hw, hS⟩
  · exact ⟨m, v, by omega, hd, hv⟩
  · obtain ⟨okL, _⟩ := h.low _ _ h.here
    obtain ⟨r, cut, hs, hphi⟩ := step_best g hl okL (by omega)
    obtain ⟨hr, okR, _⟩ := step_ok g hl okL hs
    obtain ⟨v, h1, h2⟩ := hS _ hs
    have h2' : v ≤ w + cut := h2
    exact ⟨r, v, by omega, h1, by omega⟩
theorem dinv_end {c : Cx} {d : Nat → Option Nat} (h : DInv c 0 d) : ∃ v, d 0 = some v ∧ (v : Int) = phi c := by
  obtain ⟨low, m, v, hm, hd, hv⟩ := h
  have : m = 0 := by omega
  subst this
  have h1 := (low 0 v hd).2
  rw [part_zero, phi_nil] at h1 hv
  exact ⟨v, hd, by omega⟩
end Sc

namespace Sc
open HoBase Ho04

/-! ### a row of the boundary's table, face by face -/
theorem face_sublist (x : Sim) (k : Nat) : (face x k).Sublist x := by
  unfold face
  have h : (x.take k ++ x.drop (k + 1)).Sublist (x.take k ++ x.drop k) := List.Sublist.append_left (List.drop_sublist_drop_left x (by omega)) _
  rwa [List.take_append_drop] at h
theorem face_ne {x : Sim} (hr : Rises x) {i k : Nat} (hi : i < k) (hk : k < x.length) : face x i ≠ face x k := by
  intro e
  have h1 : (face x i)[i]? = x[i + 1]? := by
    unfold face
    rw [List.getElem?_append_right (by rw [List.length_take]; omega), List.length_take, Nat.min_eq_left (by omega), Nat.sub_self, List.getElem?_drop]
  have h2 : (face x k)[i]? = x[i]? := by
    unfold face
    rw [List.getElem?_append_left (by rw [List.length_take]; omega), List.getElem?_take, if_pos hi]
  rw [e, h2, List.getElem?_eq_getElem (by omega), List.getElem?_eq_getElem (by omega)] at h1
  have h3 := List.pairwise_iff_getElem.mp hr i (i + 1) (by omega) (by omega) (by omega)
  have h4 := Option.some.inj h1
  omega
def rowT (c : Cx) (x : Sim) (k : Nat) : List Int := c.map fun y => match (List.range k).find? (fun i => decide (face x i = y)) with
  | some i => sgn i
  | none => 0
theorem rowT_zero (c : Cx) (x : Sim) : rowT c x 0 = List.replicate c.length 0 := by
  unfold rowT
  simp [List.range, List.range.loop]
  exact List.map_const'
theorem rowT_len (c : Cx) (x : Sim) (k : Nat) : (rowT c x k).length = c.length := List.length_map _
theorem rowT_more {c : Cx} (hn : c.Nodup) {x : Sim} (hr : Rises x) {k : Nat} (hk : k < x.length) (hf : face x k ∈ c) : (rowT c x k).set (c.idxOf (face x k)) (sgn k) = rowT c x (k + 1) := by
  obtain ⟨hj, hjx⟩ := at_idx hf
  apply List.ext_getElem?
  intro m
  rw [List.getElem?_set]
  unfold rowT
  rw [List.length_map, List.getElem?_map, List.getElem?_map]
  by_cases e : c.idxOf (face x k) = m
  · subst e
    rw [if_pos rfl, if_pos hj, hjx]
    show some (sgn k) = some _
    congr 1
    have h1 : (List.range k).find? (fun i => decide (face x i = face x k)) = none := by
      rw [List.find?_eq_none]
      intro i hi q
      have hi' := List.mem_range.mp hi
      exact face_ne hr hi' hk (by simpa using q)
    dsimp only
    rw [List.range_succ, List.find?_append, h1]
    simp
  · rw [if_neg e]
    cases ey : c[m]? with
    | none => rfl
    | some y =>
      have hne : ¬ face x k = y := by
        intro q
        apply e
        have hm := (List.getElem?_eq_some_iff.mp ey).1
        have hy := (List.getElem?_eq_some_iff.mp ey).2
        rw [q, ← hy]
        exact idx_at hn hm
      show some _ = some _
      congr 1
      dsimp only
      rw [List.range_succ, List.find?_append]
      have : (List.find? (fun i => decide (face x i = y)) [k]) = none := by simp [hne]
      rw [this, Option.or_none]
theorem rowT_all {c : Cx} {x : Sim} (h : 1 < x.length) : rowT c x x.length = c.map (incidence x) := by
  unfold rowT
  apply List.map_congr_left
  intro y _
  unfold incidence
  split
  · rename_i e
    simp only [e]
    rw [if_neg (by omega)]
  · rename_i e
    simp only [e]
theorem row_one {c : Cx} {x : Sim} (h : x.length = 1) : List.replicate c.length 0 = c.map (incidence x) := by
  obtain ⟨a, rfl⟩ := len1 h
  apply List.ext_getElem
  · simp
  · intro i h1 h2
    simp [inc_one]
theorem sgn_of (k : Nat) : sgn k = if k % 2 = 0 then 1 else -1 := rfl
theorem sgn_small (k : Nat) : (sgn k).natAbs ≤ 1 := by
  unfold sgn
  split <;> decide
theorem inc_small (x y : Sim) : (incidence x y).natAbs < 2 ^ 1 := by
  unfold incidence
  split
  · split
    · decide
    · have := sgn_small
      rename_i i _ _
      have := this i
      omega
  · decide
theorem clr_len (p : Nat) (row first : List Int) : (clr p row first).length = row.length := by
  unfold clr
  rw [List.length_map, List.length_range]
theorem natAbs_pow {a b e : Nat} (ha : a < 2 ^ e) (hb : b < 2 ^ e) : a * b < 2 ^ (2 * e) := by
  rw [Nat.two_mul, Nat.pow_add]
  exact Nat.mul_lt_mul'' ha hb
theorem clr_small {p e : Nat} {row first : List Int} (h1 : ∀ z ∈ row, z.natAbs < 2 ^ e) (h2 : ∀ z ∈ first, z.natAbs < 2 ^ e) : ∀ z ∈ clr p row first, z.natAbs < 2 ^ (2 * e + 1) := by
  intro z hz
  unfold clr at hz
  obtain ⟨k, _, rfl⟩ := List.mem_map.mp hz
  have g : ∀ {l : List Int} (hl : ∀ z ∈ l, z.natAbs < 2 ^ e) (k : Nat), (l.getD k 0).natAbs < 2 ^ e := by
    intro l hl k
    rw [List.getD_eq_getElem?_getD]
    cases q : l[k]? with
    | none =>
      show (0 : Nat) < _
      exact Nat.pow_pos (by decide)
    | some y => exact hl y (List.mem_iff_getElem?.mpr ⟨k, q⟩)
  have a1 := natAbs_pow (g h1 k) (g h2 p)
  have a2 := natAbs_pow (g h2 k) (g h1 p)
  rw [← Int.natAbs_mul] at a1 a2
  rw [Nat.pow_succ]
  omega
end Sc

namespace Sc
theorem calls_split {f : Nat} {p : Int} {r : List Int} {cs : List (List (List Int))} (h : PyWide.calls f (p :: r) = some cs) :
    ∃ f' c t cs', f = f' + 1 ∧ PyWide.call (p :: r) = some (c, t) ∧ PyWide.calls f' t = some cs' ∧ cs = c :: cs' := by
  cases f with
  | zero => cases h
  | succ f' =>
    unfold PyWide.calls at h
    split at h
    · cases h
    · rename_i c t e
      split at h
      · cases h
      · rename_i cs' e2
        exact ⟨f', c, t, cs', rfl, e, e2, (Option.some.inj h).symm⟩
theorem call_split {p : Int} {r t : List Int} {c : List (List Int)} (h : PyWide.call (p :: r) = some (c, t)) :
    ∃ ns k u xs, PyFlat.row r = some (ns, k :: u) ∧ 0 ≤ k ∧ PyFlat.rows k.toNat u = some (xs, t) ∧ c = (p :: ns) :: xs := by
  cases er : PyFlat.row r with
  | none =>
    simp only [PyWide.call, er] at h
    cases h
  | some q =>
    obtain ⟨ns, z⟩ := q
    cases z with
    | nil =>
      simp only [PyWide.call, er] at h
      cases h
    | cons k u =>
      simp only [PyWide.call, er] at h
      split at h
      · rename_i hk
        split at h
        · cases h
        · rename_i xs u' e2
          have e3 := Option.some.inj h
          have h1 : (p :: ns) :: xs = c := congrArg Prod.fst e3
          have h2 : u' = t := congrArg Prod.snd e3
          subst h1 h2
          exact ⟨ns, k, u, xs, rfl, hk, e2, rfl⟩
      · cases h
structure CallOk (c : List (List Int)) : Prop where
  some : ∃ x, Ho04.callOf c = some x
  shape : ∀ ns rows, c = (0 :: ns) :: rows → rows.length ≤ 80 ∧ ∀ r ∈ rows, r.length ≤ 8
  push : ∀ ns rows, c = (2 :: ns) :: rows → ns.length ≤ 8
  leave : ∀ ns rows, c = (5 :: ns) :: rows → ∀ z ∈ ns, 0 ≤ z
theorem callOk_of {c : List (List Int)} (h1 : PyHo04.fits c = true) (h2 : Ho04Neutral.asked1 c = true) : CallOk c where
  some := by
    unfold Ho04Neutral.asked1 at h2
    have : (Ho04Neutral.callOf c).isSome = true := by
      simp only [Bool.and_eq_true] at h2
      exact h2.1
    exact Option.isSome_iff_exists.mp this
  shape := by
    rintro ns rows rfl
    unfold PyHo04.fits PyHo04.form at h1
    simp at h1
    obtain ⟨⟨h3, h4⟩, _⟩ := h1
    exact ⟨h3.2, fun r hr => (h4 r hr).1⟩
  push := by
    rintro ns rows rfl
    unfold PyHo04.fits PyHo04.form at h1
    simp at h1
    omega
  leave := by
    rintro ns rows rfl
    unfold Ho04Neutral.asked1 at h2
    simp only [Bool.and_eq_true] at h2
    have h3 := h2.2.2
    unfold Ho04.asked at h3
    intro z hz
    have := List.all_eq_true.mp h3 z hz
    simpa using this
theorem asked_of {l : List Int} (h : PyHo04.answers_asked l = true) : ∃ cs, PyWide.calls l.length l = some cs ∧ cs.length ≤ 40 ∧ (∀ c ∈ cs, CallOk c) ∧ (PyFlat.told (PyFlat.played Ho04Neutral.step Ho04Neutral.start cs)).length ≤ 10000000 ∧ PyHo04.answers l = PyFlat.told (PyFlat.played Ho04Neutral.step Ho04Neutral.start cs) := by
  unfold PyHo04.answers_asked at h
  unfold PyHo04.calls at h
  cases e : PyWide.calls l.length l with
  | none => rw [e] at h; cases h
  | some cs =>
    rw [e] at h
    have ea : PyHo04.answers l = PyFlat.told (PyFlat.played Ho04Neutral.step Ho04Neutral.start cs) := by
      unfold PyHo04.answers PyHo04.calls
      rw [e]
    rw [ea] at h
    simp only [Bool.and_eq_true] at h
    obtain ⟨⟨⟨⟨h0, h1⟩, h2⟩, h3⟩, h4⟩ := h
    refine ⟨cs, rfl, by simpa [PyFlat.atMost] using h2, fun c hc => ?_, by simpa [PyFlat.short] using h4, ea⟩
    unfold Ho04Neutral.asked at h3
    simp only [Bool.and_eq_true] at h3
    exact callOk_of (List.all_eq_true.mp h1 c hc) (List.all_eq_true.mp h3.1 c hc)
theorem step_of {s : Ho04.State} {c : List (List Int)} {x : Ho04.Call} (h : Ho04.callOf c = some x) : Ho04Neutral.step s c = Ho04.step s x := by
  unfold Ho04Neutral.step Ho04Neutral.callOf
  rw [h]
theorem told_cons {s : Ho04.State} {c : List (List Int)} {cs : List (List (List Int))} : PyFlat.told (PyFlat.played Ho04Neutral.step s (c :: cs)) = ((Ho04Neutral.step s c).2.length : Int) :: ((Ho04Neutral.step s c).2 ++ PyFlat.told (PyFlat.played Ho04Neutral.step (Ho04Neutral.step s c).1 cs)) := by
  rw [PyFlat.played]
  unfold PyFlat.told
  rw [List.flatMap_cons]
  rfl
theorem old_step (s : Ho04.State) (x : Ho04.Call) : (Ho04.step s x).1.old.length ≤ s.old.length + 1 := by
  cases x <;> unfold Ho04.step
  all_goals repeat' split
  all_goals simp_all [Ho04.changed]
  all_goals omega
end Sc

set_option maxRecDepth 100000
set_option maxHeartbeats 4000000
namespace Sh
open PySem PySem.Spec PyProof.Rows L2

def top (i : Nat) : Stmt := PySem.Challenge.pw_shapecores_s01_answers.main.body.getD i (.Pass ⟨0, 0, 0, 0⟩)

/-! ### simplices in the heap -/
abbrev Sim := List Nat
def sv (x : Sim) : List V := x.map fun (n : Nat) => V.int (n : Int)
def TupAt (H : Hp) (a : Addr) (x : Sim) : Prop := H a = some (.tup (sv x))
theorem TupAt.sq {K : PySem.W.Frag} {H : Hp} {a : Addr} {x : Sim} (h : TupAt H a x) : SqT K H a (sv x) := SqT.of h
theorem TupAt.same {H H' : Hp} {a : Addr} {x : Sim} (h : TupAt H a x) (e : Same H H') : TupAt H' a x := e _ _ h
/-- a list of simplices: where they stand, and what they are -/
abbrev PS2 := List (Addr × Sim)
def refs (ps : PS2) : List V := ps.map fun p => V.ref p.1
def sims (ps : PS2) : List Sim := ps.map fun p => p.2
def AllAt (H : Hp) (ps : PS2) : Prop := ∀ p ∈ ps, TupAt H p.1 p.2
structure ListAt (H : Hp) (l : Addr) (ps : PS2) : Prop where
  lst : H l = some (.lst (refs ps))
  each : AllAt H ps
theorem AllAt.same {H H' : Hp} {ps : PS2} (h : AllAt H ps) (e : Same H H') : AllAt H' ps := fun p hp => (h p hp).same e
theorem ListAt.same {H H' : Hp} {l : Addr} {ps : PS2} (h : ListAt H l ps) (e : Same H H') : ListAt H' l ps := ⟨e _ _ h.lst, h.each.same e⟩
theorem same_upd {H : Hp} {p : Addr} {o : HO} (h : H p = none) : Same H (upd H p o) := fun b x e => by
  rw [upd_ne (ne_of_none e h)]
  exact e
theorem sv_len (x : Sim) : (sv x).length = x.length := List.length_map _
theorem sv_flat (x : Sim) : (sv x).all flatV = true := by
  rw [List.all_eq_true]
  intro v hv
  obtain ⟨n, _, rfl⟩ := List.mem_map.mp hv
  rfl
theorem sv_in (x : Sim) (n : Nat) : inV (.int (n : Int)) (sv x) = x.contains n := by
  unfold inV sv
  rw [List.any_map, List.contains_eq_any_beq]
  congr 1
  funext m
  show ((m : Int) == (n : Int)) = (n == m)
  by_cases h : m = n
  · subst h
    simp
  · have h1 : ((m : Int) == (n : Int)) = false := beq_eq_false_iff_ne.mpr (by omega)
    have h2 : (n == m) = false := beq_eq_false_iff_ne.mpr (by omega)
    rw [h1, h2]
theorem sv_get {x : Sim} {i : Nat} {v : V} (h : (sv x)[i]? = some v) : ∃ n, x[i]? = some n ∧ v = .int (n : Int) := by
  unfold sv at h
  rw [List.getElem?_map] at h
  cases e : x[i]? with
  | none => rw [e] at h; cases h
  | some n =>
    rw [e] at h
    exact ⟨n, rfl, (Option.some.inj h).symm⟩
theorem refs_get {ps : PS2} {i : Nat} {v : V} (h : (refs ps)[i]? = some v) : ∃ p, ps[i]? = some p ∧ v = .ref p.1 := by
  unfold refs at h
  rw [List.getElem?_map] at h
  cases e : ps[i]? with
  | none => rw [e] at h; cases h
  | some n =>
    rw [e] at h
    exact ⟨n, rfl, (Option.some.inj h).symm⟩
theorem mem_of_get {α : Type} {l : List α} {i : Nat} {x : α} (h : l[i]? = some x) : x ∈ l := List.mem_iff_getElem?.mpr ⟨i, h⟩
theorem take_more {α : Type} {l : List α} {i : Nat} {x : α} (h : l[i]? = some x) : l.take (i + 1) = l.take i ++ [x] := by
  rw [List.take_add_one, h]
  rfl
section
variable {P : Program} {w : World} {K : PySem.W.Frag} {mg : Str → Option Value} {base : Heap}

/-! ### is_face -/
abbrev sIsFace : Stmt := top 27
def spIsFace (K : PySem.W.Frag) : Sp := fun vs H Q _ => ∃ (a b : Addr) (x y : Sim), vs = [.ref a, .ref b] ∧ SqT K H a (sv x) ∧ SqT K H b (sv y) ∧ Q (.bl (HoBase.within x y)) H
theorem scIsFace : FnScope ["simplex", "other", "corner"] ["simplex", "other"] (defScope sIsFace) := ⟨rfl, rfl, rfl, by decide +kernel, rfl, by decide +kernel, by decide +kernel⟩
theorem within_split {x y : Sim} {i : Nat} {n : Nat} (h : x[i]? = some n) : (x.take (i + 1)).all y.contains = ((x.take i).all y.contains && y.contains n) := by
  rw [take_more h, List.all_append]
  simp
theorem within_false {x y : Sim} {n : Nat} (h : n ∈ x) (k : y.contains n = false) : HoBase.within x y = false := by
  unfold HoBase.within
  rw [List.all_eq_false]
  exact ⟨n, h, by rw [k]; decide⟩
theorem ok_isFace {f : Addr} {fd : FuncData} {k : Nat} (F : Fun K "is_face" "is_face" sIsFace f fd) : FnOk P w K mg base CX0 (k + 1) f fd ["simplex", "other"] (spIsFace K) := by
  refine F.ok scIsFace (fun vs H Q E h => ?_) (fun cdv A outer s H vs Q E hr h => ?_)
  · obtain ⟨a, b, x, y, rfl, _⟩ := h
    rfl
  · obtain ⟨a, b, x, y, rfl, ha, hb, q⟩ := h
    refine ⟨_, pss_cons (ps_for PassesOwn.never rfl (pi_tup (pv 0)) (pg_name (i := 2) scIsFace.nd rfl (.inl rfl))
        (pss_one (ps_if (pt_cmpR op_notIn_seq (pv 2) (pv 1) rfl) (pss_one (ps_ret pe_bl)) pss_nil)))
      (pss_one (ps_ret pe_bl)), ?_⟩
    refine ⟨_, rfl, a, rfl, ⟨_, ha⟩, for_tup (K := K) (a := a) (xs := sv x) (fun i σ H' => ∃ v, σ = [some (.ref a), some (.ref b), v] ∧ H' = H ∧ (x.take i).all y.contains = true)
      ⟨none, rfl, rfl, rfl⟩ (fun i σ H' _ ⟨_, _, e, _⟩ => e ▸ ha) ?_ ?_⟩
    · rintro i v σ H' hi ⟨v0, rfl, rfl, hall⟩
      obtain ⟨n, hn, rfl⟩ := sv_get hi
      refine ⟨_, rfl, _, rfl, b, sv y, rfl, .inr hb, rfl, sv_flat y, _, rfl, ?_⟩
      show if (!inV (.int (n : Int)) (sv y)) = true then _ else _
      rw [sv_in]
      cases hc : y.contains n with
      | false =>
        refine iteT ?_
        rw [within_false (mem_of_get hn) hc] at q
        exact q
      | true =>
        refine iteF ?_
        exact ⟨some (.int n), rfl, rfl, by rw [within_split hn, hall, hc]; rfl⟩
    · rintro σ H' ⟨v0, rfl, rfl, hall⟩
      rw [sv_len, List.take_length] at hall
      have : HoBase.within x y = true := hall
      rw [this] at q
      exact q
end
end Sh

set_option maxRecDepth 100000
set_option maxHeartbeats 4000000
namespace Sh
open PySem PySem.Spec PyProof.Rows L2

/-! ### tuples of numbers as data -/
def tD (x : Sim) : PyData := .tuple (x.map fun (n : Nat) => PyData.int (n : Int))
theorem ints_lay : ∀ x : Sim, PyData.canLayAll0 (x.map fun (n : Nat) => PyData.int (n : Int)) = true
  | [] => by simp [PyData.canLayAll0]
  | n :: x => by simp [PyData.canLayAll0, PyData.canLay0, ints_lay x]
theorem ints_depth : ∀ x : Sim, PyData.depthAll (x.map fun (n : Nat) => PyData.int (n : Int)) = 0
  | [] => by simp [PyData.depthAll]
  | n :: x => by simp [PyData.depthAll, PyData.depth, ints_depth x]
theorem tD_lay (x : Sim) : (tD x).canLay0 = true := by simp only [tD, PyData.canLay0, ints_lay]
theorem tD_depth (x : Sim) : (tD x).depth = 1 := by simp only [tD, PyData.depth, ints_depth]
theorem tD_shaped (x : Sim) : SeqAt.shaped (tD x) = true := by
  show ((tD x).canLay0 && decide ((tD x).depth ≤ 64)) = true
  rw [tD_lay, tD_depth]
  rfl
theorem tDs_lay : ∀ xs : List Sim, PyData.canLayAll0 (xs.map tD) = true
  | [] => by simp [PyData.canLayAll0]
  | x :: xs => by simp [PyData.canLayAll0, tD_lay x, tDs_lay xs]
theorem tDs_depth : ∀ xs : List Sim, PyData.depthAll (xs.map tD) ≤ 1
  | [] => by simp [PyData.depthAll]
  | x :: xs => by
    have h1 := tDs_depth xs
    have h2 := tD_depth x
    simp only [List.map_cons, PyData.depthAll]
    omega
theorem tDs_shapedL (xs : List Sim) : SeqAt.shaped (.list (xs.map tD)) = true := by
  have h1 := tDs_depth xs
  show (PyData.canLay0 (.list (xs.map tD)) && decide (PyData.depth (.list (xs.map tD)) ≤ 64)) = true
  rw [Bool.and_eq_true]
  exact ⟨by simp only [PyData.canLay0]; exact tDs_lay xs, decide_eq_true (by simp only [PyData.depth]; omega)⟩
theorem tDs_shapedT (xs : List Sim) : SeqAt.shaped (.tuple (xs.map tD)) = true := by
  have h1 := tDs_depth xs
  show (PyData.canLay0 (.tuple (xs.map tD)) && decide (PyData.depth (.tuple (xs.map tD)) ≤ 64)) = true
  rw [Bool.and_eq_true]
  exact ⟨by simp only [PyData.canLay0]; exact tDs_lay xs, decide_eq_true (by simp only [PyData.depth]; omega)⟩
theorem eqv_ints : ∀ x y : Sim, PyData.eqvAll (x.map fun (n : Nat) => PyData.int (n : Int)) (y.map fun (n : Nat) => PyData.int (n : Int)) = decide (x = y)
  | [], [] => by simp [PyData.eqvAll]
  | [], b :: y => by simp [PyData.eqvAll]
  | a :: x, [] => by simp [PyData.eqvAll]
  | a :: x, b :: y => by
    have ih := eqv_ints x y
    simp only [List.map_cons, PyData.eqvAll, PyData.eqv, ih]
    by_cases h : a = b
    · subst h
      simp
    · have h1 : ((a : Int) == (b : Int)) = false := beq_eq_false_iff_ne.mpr (by omega)
      rw [h1]
      simp [h]
theorem tD_eqv (x y : Sim) : PyData.eqv (tD x) (tD y) = decide (x = y) := by
  simp only [tD, PyData.eqv]
  exact eqv_ints x y
theorem dpAll_ints {K : PySem.W.Frag} {H : Hp} : ∀ x : Sim, DpAll K H (sv x) (x.map fun (n : Nat) => PyData.int (n : Int))
  | [] => .nil
  | n :: x => .cons (.int _) (dpAll_ints x)
theorem dp_tup {K : PySem.W.Frag} {H : Hp} {a : Addr} {x : Sim} (h : SqT K H a (sv x)) : Dp K H (.ref a) (tD x) := .tup h (dpAll_ints x)
theorem dpAll_tups {K : PySem.W.Frag} {H : Hp} : ∀ {ps : PS2}, AllAt H ps → DpAll K H (refs ps) ((sims ps).map tD)
  | [], _ => .nil
  | p :: ps, h => .cons (dp_tup (h p (List.mem_cons_self ..)).sq) (dpAll_tups fun q hq => h q (List.mem_cons_of_mem _ hq))
theorem dp_list {K : PySem.W.Frag} {H : Hp} {l : Addr} {ps : PS2} (h : ListAt H l ps) : Dp K H (.ref l) (.list ((sims ps).map tD)) := .lst (SqL.of h.lst) (dpAll_tups h.each)
theorem any_eqv (xs : List Sim) (x : Sim) : ((xs.map tD).any fun z => PyData.eqv z (tD x)) = xs.contains x := by
  rw [List.any_map, List.contains_eq_any_beq]
  congr 1
  funext y
  show PyData.eqv (tD y) (tD x) = (x == y)
  rw [tD_eqv]
  by_cases h : y = x
  · subst h
    simp
  · rw [decide_eq_false h]
    exact (beq_eq_false_iff_ne.mpr (fun e => h e.symm)).symm

/-! ### in, not in: a tuple of tuples -/
section
variable {X : Cx}
def rInDT (K : PySem.W.Frag) (neg : Bool) : R2 := fun x y H Q => ∃ d ds, Dp K H x d ∧ Dp K H y (.tuple ds) ∧ SeqAt.shaped d = true ∧ SeqAt.shaped (.tuple ds) = true ∧ Q (.bl (if neg then !ds.any fun z => PyData.eqv z d else ds.any fun z => PyData.eqv z d)) H
theorem op_notInDT (hu : X.A.units + 65 < cLine) : OpR X (compareOp .NotIn) (rInDT X.K true) := by
  intro pn st sl Hp0 vx vy wx wy W Iv hvx hvy ⟨dx, dys, kx, ky, shx, shy, fin⟩
  obtain ⟨ax, redx⟩ := Dp.reads Iv dx vx wx kx hvx
  obtain ⟨ay, redy⟩ := Dp.reads Iv (.tuple dys) vy wy ky hvy
  exact SeqAt.notIn_tuple_reads redy redx (SeqAt.canLay_of_shaped shy) (SeqAt.canLay_of_shaped shx) (room_in_shaped shx hu) ⟨.bl _, Hp0, Iv, rfl, fin⟩
theorem op_inDT (hu : X.A.units + 65 < cLine) : OpR X (compareOp .In) (rInDT X.K false) := by
  intro pn st sl Hp0 vx vy wx wy W Iv hvx hvy ⟨dx, dys, kx, ky, shx, shy, fin⟩
  obtain ⟨ax, redx⟩ := Dp.reads Iv dx vx wx kx hvx
  obtain ⟨ay, redy⟩ := Dp.reads Iv (.tuple dys) vy wy ky hvy
  exact SeqAt.in_tuple_reads redy redx (SeqAt.canLay_of_shaped shy) (SeqAt.canLay_of_shaped shx) (room_in_shaped shx hu) ⟨.bl _, Hp0, Iv, rfl, fin⟩
end
theorem units65 {A : Around} {k : Nat} (hr : Room k A) : A.units + 65 < cLine := by
  have := hr.un
  omega

/-! ### [f(x) for x in xs if T(x)] -/
theorem lc_fm {α : Type} {K : PySem.W.Frag} {a : Addr} {xs : List α} {v : α → V} {g : TG} {tt : TT} {te : TE} {vs : List Nat} {σ : L2.St} {H1 : Hp} {D : Addr} {Qd : Hp → Prop} (T : α → Bool) (f : α → V)
    (hD : H1 D = none) (hl : SqL K H1 a (xs.map v)) (hz : xs.length < sizeLine)
    (hs : ∀ x ∈ xs, ∀ H2, Same H1 H2 → ∀ Nx : Hp → Prop, (T x = true → ∀ H5, Same H2 H5 → ∃ acc, H5 D = some (.lst acc) ∧ acc.length < sizeLine ∧ Nx (upd H5 D (.lst (acc ++ [f x])))) → (T x = false → ∀ H5, Same H2 H5 → Nx H5) →
      g (v x) (wipe σ vs) H2 fun σ2 H3 => wipe σ2 vs = wipe σ vs ∧ tt σ2 H3 fun b H4 =>
        if b = true then te σ2 H4 fun y H5 => ∃ acc, H5 D = some (.lst acc) ∧ acc.length < sizeLine ∧ Nx (upd H5 D (.lst (acc ++ [y]))) else Nx H4)
    (hd : ∀ H, Same H1 H → H D = some (.lst ((xs.filter T).map f)) → Qd H) :
    ∃ Wk : Nat → Nat → Hp → Prop, (∃ n0, Wk 0 n0 (upd H1 D (.lst []))) ∧ ∀ j n Hj, Wk j n Hj → ((Itl K a).stop j Hj ∧ Qd Hj) ∨
      ((Itl K a).go j Hj ∧ ∃ On : Hp → Prop, (∀ Hn, On Hn → ∃ n', n' < n ∧ Wk (j + 1) n' Hn) ∧ ∀ u Hu, (Itl K a).yld j Hj u Hu → g u (wipe σ vs) Hu fun τ Ht => wipe τ vs = wipe σ vs ∧ tt τ Ht fun c Hc =>
        if c = true then te τ Hc fun y Hy => ∃ l0, Hy D = some (.lst l0) ∧ l0.length < sizeLine ∧ On (upd Hy D (.lst (l0 ++ [y]))) else On Hc) := by
  refine lc_list (K := K) (a := a) (xs := xs.map v) (fun i H => Same H1 H ∧ H D = some (.lst (((xs.take i).filter T).map f))) ⟨same_upd hD, upd_same⟩ (fun i H _ h => h.1.seq hl) ?_ ?_
  · rintro i y H hi ⟨sm, hDl⟩
    rw [List.getElem?_map] at hi
    cases e : xs[i]? with
    | none => rw [e] at hi; cases hi
    | some x =>
      rw [e] at hi
      cases hi
      refine hs x (mem_of_get e) H sm _ (fun hT H5 s5 => ?_) (fun hT H5 s5 => ?_)
      · refine ⟨_, s5 _ _ hDl, ?_, ?_, ?_⟩
        · rw [List.length_map]
          have h1 := List.length_filter_le T (xs.take i)
          have h2 : (xs.take i).length ≤ xs.length := by
            rw [List.length_take]
            omega
          omega
        · intro b o hb
          rw [upd_ne (ne_of_none hb hD)]
          exact s5 _ _ (sm _ _ hb)
        · rw [upd_same, take_more e, List.filter_append, List.map_append]
          simp [hT]
      · refine ⟨sm.trans s5, ?_⟩
        rw [s5 _ _ hDl, take_more e, List.filter_append, List.map_append]
        simp [hT]
  · rintro H ⟨sm, hDl⟩
    rw [List.length_map, List.take_length] at hDl
    exact hd H sm hDl

section
variable {P : Program} {w : World} {K : PySem.W.Frag} {mg : Str → Option Value} {base : Heap}

/-! ### others_above -/
abbrev sOthers : Stmt := top 28
def above (ps : PS2) (x : Sim) : PS2 := ps.filter fun p => decide (p.2 ≠ x) && HoBase.within x p.2
def spOthers : Sp := fun vs H Q _ => ∃ (l a : Addr) (ps : PS2) (x : Sim), vs = [.ref l, .ref a] ∧ ListAt H l ps ∧ TupAt H a x ∧ ps.length ≤ 1000 ∧
  ∀ (H' : Hp) (p : Addr), Same H H' → H p = none → H' p = some (.lst (refs (above ps x))) → Q (.ref p) H'
theorem scOthers : FnScope ["simplices", "simplex", "other"] ["simplices", "simplex"] (defScope sOthers) := ⟨rfl, rfl, rfl, by decide +kernel, rfl, by decide +kernel, by decide +kernel⟩
theorem ok_others {f f1 : Addr} {fd fd1 : FuncData} {k : Nat} (F : Fun K "others_above" "others_above" sOthers f fd)
    (G : FnOk P w K mg base CX0 k f1 fd1 ["simplex", "other"] (spIsFace K)) (mf : mg "is_face" = some (.ref f1)) (kf : PySem.W.keepIn K (.ref f1) = true) (bf : Binds K fd1 ["simplex", "other"] []) :
    FnOk P w K mg base CX0 (k + 1) f fd ["simplices", "simplex"] spOthers := by
  refine F.ok scOthers (fun vs H Q E h => ?_) (fun cdv A outer s H vs Q E hr h => ?_)
  · obtain ⟨l, a, ps, x, rfl, _⟩ := h
    rfl
  · obtain ⟨l, a, ps, x, rfl, hl, ha, hz, q⟩ := h
    refine ⟨_, pss_one (ps_ret (pe_lc (own := [("other", 2)]) (g := gName 2) rfl scOthers.nd (pi_list (pv 0)) (blkOk_by (own := [("other", 2)]) (N := ["simplices", "simplex", "other"]) (sc := defScope sOthers) (by decide +kernel))
      (fun _ _ _ _ _ => pg_name (i := 2) scOthers.nd rfl (Or.inl rfl))
      (fun _ _ _ _ _ => pts_one (PW.pt (pw_and (pt_cmpR (show OpR _ _ (rNeD K) from op_neD hr.units) (pv 2) (pv 1) (nomark _)) (pw_and1 (pt_val (pe_call G hr rfl mf kf bf .nil pass0 (pa_cons (pv 1) (pa_cons (pv 2) pa_nil))))))))
      (fun _ _ _ _ _ => pv 2))), ?_⟩
    refine ⟨_, rfl, l, rfl, ⟨_, SqL.of hl.lst⟩, fun D nD => lc_fm (K := K) (a := l) (xs := ps) (v := fun p => .ref p.1) (fun p => decide (p.2 ≠ x) && HoBase.within x p.2) (fun p => .ref p.1) nD (SqL.of hl.lst) (Nat.lt_of_le_of_lt hz (by decide)) ?_ ?_⟩
    · intro p hp H2 s2 Nx yes no
      refine ⟨rfl, ?_⟩
      have tp := (hl.each p hp).same s2
      have tx := ha.same s2
      refine ⟨_, rfl, _, rfl, tD p.2, tD x, dp_tup tp.sq, dp_tup tx.sq, tD_shaped _, tD_shaped _, _, rfl, ?_⟩
      rw [tD_eqv]
      by_cases e : p.2 = x
      · rw [decide_eq_true e]
        refine iteF ?_
        refine iteF ?_
        exact no (by rw [decide_eq_false (fun q => q e)]; rfl) H2 (Same.refl _)
      · rw [decide_eq_false e]
        refine iteT ?_
        refine ⟨_, rfl, _, rfl, a, p.1, x, p.2, rfl, tx.sq, tp.sq, _, rfl, ?_⟩
        cases hw : HoBase.within x p.2 with
        | true =>
          refine iteT ⟨_, rfl, ?_⟩
          exact yes (by rw [decide_eq_true e, hw]; rfl) H2 (Same.refl _)
        | false =>
          refine iteF ?_
          exact no (by rw [hw, Bool.and_false]) H2 (Same.refl _)
    · intro H' sm hDl
      exact q H' D sm nD hDl
end
end Sh

set_option maxRecDepth 100000
set_option maxHeartbeats 4000000
namespace Sh
open PySem PySem.Spec PyProof.Rows L2
section
variable {P : Program} {w : World} {K : PySem.W.Frag} {mg : Str → Option Value} {base : Heap}
theorem refs_len (ps : PS2) : (refs ps).length = ps.length := List.length_map _
theorem above_len (ps : PS2) (x : Sim) : (above ps x).length ≤ ps.length := List.length_filter_le _ _

/-! ### tops_of -/
abbrev sTops : Stmt := top 29
def topsP (ps : PS2) : PS2 := ps.filter fun p => decide ((above ps p.2).length = 0)
def spTops : Sp := fun vs H Q _ => ∃ (l : Addr) (ps : PS2), vs = [.ref l] ∧ ListAt H l ps ∧ ps.length ≤ 1000 ∧
  ∀ (H' : Hp) (p : Addr), Same H H' → H p = none → H' p = some (.lst (refs (topsP ps))) → Q (.ref p) H'
theorem scTops : FnScope ["simplices", "simplex"] ["simplices"] (defScope sTops) := ⟨rfl, rfl, rfl, by decide +kernel, rfl, by decide +kernel, by decide +kernel⟩
theorem ok_tops {f f1 : Addr} {fd fd1 : FuncData} {k : Nat} (F : Fun K "tops_of" "tops_of" sTops f fd) (ml : mg "len" = none)
    (G : FnOk P w K mg base CX0 k f1 fd1 ["simplices", "simplex"] spOthers) (mf : mg "others_above" = some (.ref f1)) (kf : PySem.W.keepIn K (.ref f1) = true) (bf : Binds K fd1 ["simplices", "simplex"] []) :
    FnOk P w K mg base CX0 (k + 1) f fd ["simplices"] spTops := by
  refine F.ok scTops (fun vs H Q E h => ?_) (fun cdv A outer s H vs Q E hr h => ?_)
  · obtain ⟨l, ps, rfl, _⟩ := h
    rfl
  · obtain ⟨l, ps, rfl, hl, hz, q⟩ := h
    refine ⟨_, pss_one (ps_ret (pe_lc (own := [("simplex", 1)]) (g := gName 1) rfl scTops.nd (pi_list (pv 0)) (blkOk_by (own := [("simplex", 1)]) (N := ["simplices", "simplex"]) (sc := defScope sTops) (by decide +kernel))
      (fun _ _ _ _ _ => pg_name (i := 1) scTops.nd rfl (Or.inl rfl))
      (fun _ _ _ _ _ => pts_one (pt_cmpR op_eq (pe_callB (show CallR _ _ (fun xs H Q => ∃ p ys, xs = [.ref p] ∧ (SqL K H p ys ∨ SqT K H p ys) ∧ Q (.int ys.length) H) from call_len_seq) (by rfl) ml PySem.boot_len (pa_cons (pe_call G hr rfl mf kf bf .nil pass0 (pa_cons (pv 0) (pa_cons (pv 1) pa_nil))) pa_nil)) pe_int (nomark _)))
      (fun _ _ _ _ _ => pv 1))), ?_⟩
    refine ⟨_, rfl, l, rfl, ⟨_, SqL.of hl.lst⟩, fun D nD => lc_fm (K := K) (a := l) (xs := ps) (v := fun p => .ref p.1) (fun p => decide ((above ps p.2).length = 0)) (fun p => .ref p.1) nD (SqL.of hl.lst) (Nat.lt_of_le_of_lt hz (by decide)) ?_ ?_⟩
    · intro p hp H2 s2 Nx yes no
      refine ⟨rfl, ?_⟩
      refine ⟨_, rfl, _, rfl, l, p.1, ps, p.2, rfl, hl.same s2, (hl.each p hp).same s2, hz, fun H3 a3 s3 n3 e3 => ?_⟩
      refine ⟨a3, _, rfl, .inl (SqL.of e3), ?_⟩
      rw [refs_len]
      refine ⟨rfl, _, rfl, ?_⟩
      by_cases e : (above ps p.2).length = 0
      · have h1 : decide (V.int ((above ps p.2).length : Int) = V.int 0) = true := decide_eq_true (by rw [e]; rfl)
        rw [h1]
        exact iteT ⟨_, rfl, yes (decide_eq_true e) H3 s3⟩
      · have h1 : decide (V.int ((above ps p.2).length : Int) = V.int 0) = false := decide_eq_false (fun q => e (by
          have := V.int.inj q
          omega))
        rw [h1]
        exact iteF (no (decide_eq_false e) H3 s3)
    · intro H' sm hDl
      exact q H' D sm nD hDl

/-! ### free_pairs -/
abbrev sFree : Stmt := top 30
/-- the free ones, each with that into which it is pushed -/
def freeP (ps : PS2) : List ((Addr × Sim) × (Addr × Sim)) := ps.filterMap fun p => match above ps p.2 with
  | [q] => some (p, q)
  | _ => none
/-- a list of pairs of simplices: where the pairs stand -/
structure PairsAt (H : Hp) (l : Addr) (as : List Addr) (prs : List ((Addr × Sim) × (Addr × Sim))) : Prop where
  len : as.length = prs.length
  lst : H l = some (.lst (as.map V.ref))
  each : ∀ (i : Nat) (a : Addr) (pr : (Addr × Sim) × (Addr × Sim)), as[i]? = some a → prs[i]? = some pr → H a = some (.tup [.ref pr.1.1, .ref pr.2.1]) ∧ TupAt H pr.1.1 pr.1.2 ∧ TupAt H pr.2.1 pr.2.2
theorem PairsAt.same {H H' : Hp} {l : Addr} {as : List Addr} {prs : List ((Addr × Sim) × (Addr × Sim))} (h : PairsAt H l as prs) (e : Same H H') : PairsAt H' l as prs :=
  ⟨h.len, e _ _ h.lst, fun i a pr h1 h2 => let ⟨q1, q2, q3⟩ := h.each i a pr h1 h2; ⟨e _ _ q1, q2.same e, q3.same e⟩⟩
def spFree : Sp := fun vs H Q _ => ∃ (l : Addr) (ps : PS2), vs = [.ref l] ∧ ListAt H l ps ∧ ps.length ≤ 1000 ∧
  ∀ (H' : Hp) (p : Addr) (as : List Addr), Same H H' → H p = none → PairsAt H' p as (freeP ps) → Q (.ref p) H'
theorem scFree : FnScope ["simplices", "pairs", "simplex", "above"] ["simplices"] (defScope sFree) := ⟨rfl, rfl, rfl, by decide +kernel, rfl, by decide +kernel, by decide +kernel⟩
def freeP' (ps qs : PS2) : List ((Addr × Sim) × (Addr × Sim)) := qs.filterMap fun p => match above ps p.2 with
  | [q] => some (p, q)
  | _ => none
theorem freeP_len (ps qs : PS2) : (freeP' ps qs).length ≤ qs.length := List.length_filterMap_le _ _
theorem freeP'_more {ps qs : PS2} {i : Nat} {p r : Addr × Sim} (h : qs[i]? = some p) (e : above ps p.2 = [r]) : freeP' ps (qs.take (i + 1)) = freeP' ps (qs.take i) ++ [(p, r)] := by
  unfold freeP'
  rw [take_more h, List.filterMap_append]
  simp [e]
theorem freeP'_none {ps qs : PS2} {i : Nat} {p : Addr × Sim} (h : qs[i]? = some p) (e : ¬ (above ps p.2).length = 1) : freeP' ps (qs.take (i + 1)) = freeP' ps (qs.take i) := by
  unfold freeP'
  rw [take_more h, List.filterMap_append]
  match hm : above ps p.2 with
  | [] => simp [hm]
  | [_] => rw [hm] at e; exact absurd rfl e
  | _ :: _ :: _ => simp [hm]
theorem freeP'_mem {ps qs : PS2} {pr : (Addr × Sim) × (Addr × Sim)} (h : pr ∈ freeP' ps qs) : pr.1 ∈ qs ∧ pr.2 ∈ ps := by
  unfold freeP' at h
  obtain ⟨p, hp, he⟩ := List.mem_filterMap.mp h
  split at he
  · rename_i r hr
    cases he
    refine ⟨hp, ?_⟩
    have : r ∈ above ps p.2 := by rw [hr]; simp
    exact (List.mem_filter.mp this).1
  · cases he
theorem ok_free {f f1 : Addr} {fd fd1 : FuncData} {k : Nat} (F : Fun K "free_pairs" "free_pairs" sFree f fd) (ml : mg "len" = none)
    (G : FnOk P w K mg base CX0 k f1 fd1 ["simplices", "simplex"] spOthers) (mf : mg "others_above" = some (.ref f1)) (kf : PySem.W.keepIn K (.ref f1) = true) (bf : Binds K fd1 ["simplices", "simplex"] []) :
    FnOk P w K mg base CX0 (k + 1) f fd ["simplices"] spFree := by
  refine F.ok scFree (fun vs H Q E h => ?_) (fun cdv A outer s H vs Q E hr h => ?_)
  · obtain ⟨l, ps, rfl, _⟩ := h
    rfl
  · obtain ⟨l, ps, rfl, hl, hz, q⟩ := h
    refine ⟨_, pss_cons (ps_set (i := 1) scFree.nd rfl (.inl rfl) (pe_lst pa_nil))
      (pss_cons (ps_for PassesOwn.never rfl (pi_list (pv 0)) (pg_name (i := 2) scFree.nd rfl (.inl rfl))
        (pss_cons (ps_set (i := 3) scFree.nd rfl (.inl rfl) (pe_call G hr rfl mf kf bf .nil pass0 (pa_cons (pv 0) (pa_cons (pv 2) pa_nil))))
        (pss_one (ps_if (pt_cmpR op_eq (pe_callB call_len_seq (by rfl) ml PySem.boot_len (pa_cons (pv 3) pa_nil)) pe_int (nomark _))
          (pss_one (ps_expr (pe_bm PySem.F.plainAttrs_list PySem.F.slot_list_append PySem.F.type_list_append mt_append (pv 1) (pa_cons (pe_tup (pa_cons (pv 2) (pa_cons (pe_ix ix_list (pv 3) pe_int (fun _ _ => rfl)) pa_nil))) pa_nil))))
          pss_nil))))
      (pss_one (ps_ret (pv 1)))), ?_⟩
    refine ⟨Nat.zero_le _, fun o no => ?_⟩
    have s1 : Same H (upd H o (.lst [])) := same_upd no
    refine ⟨_, rfl, l, rfl, ⟨_, SqL.of (hl.same s1).lst⟩, for_list (K := K) (a := l) (xs := refs ps)
      (fun i σ H' => ∃ v3 v4 as, σ = [some (.ref l), some (.ref o), v3, v4] ∧ Same H H' ∧ PairsAt H' o as (freeP' ps (ps.take i)))
      ⟨none, none, [], rfl, s1, ⟨rfl, upd_same, fun i a pr h => by simp at h⟩⟩ (fun i σ H' _ ⟨_, _, _, _, e, _⟩ => SqL.of (hl.same e).lst) ?_ ?_⟩
    · rintro i v σ H' hi ⟨v3, v4, as, rfl, sm, pa⟩
      obtain ⟨p, hp, rfl⟩ := refs_get hi
      have hpm := mem_of_get hp
      refine ⟨_, rfl, _, rfl, l, p.1, ps, p.2, rfl, hl.same sm, (hl.each p hpm).same sm, hz, fun H3 a3 s3 n3 e3 => ?_⟩
      refine ⟨_, rfl, a3, _, rfl, .inl (SqL.of e3), ?_⟩
      rw [refs_len]
      refine ⟨rfl, _, rfl, ?_⟩
      have sm3 := sm.trans s3
      have pa3 := pa.same s3
      by_cases e : (above ps p.2).length = 1
      · have h1 : decide (V.int ((above ps p.2).length : Int) = V.int 1) = true := decide_eq_true (by rw [e]; rfl)
        rw [h1]
        refine iteT ?_
        obtain ⟨r, hr1⟩ : ∃ r, above ps p.2 = [r] := List.length_eq_one_iff.mp e
        have hrm : r ∈ ps := by
          have : r ∈ above ps p.2 := by rw [hr1]; simp
          exact (List.mem_filter.mp this).1
        refine ⟨_, rfl, .inl ⟨rfl, _, SqL.of pa3.lst⟩, _, rfl, _, rfl, a3, refs (above ps p.2), 0, .ref r.1, rfl, rfl, SqL.of e3, ?_, ?_, fun t nt => ?_⟩
        · rw [hr1]
          rfl
        · show 2 ≤ sizeLine
          decide
        have st : Same H3 (upd H3 t (.tup [.ref p.1, .ref r.1])) := same_upd nt
        refine ⟨o, _, _, rfl, rfl, st _ _ pa3.lst, ?_, ?_⟩
        · rw [List.length_map, pa3.len]
          have h2 := freeP_len ps (ps.take i)
          have h3 : (ps.take i).length ≤ ps.length := by
            rw [List.length_take]
            omega
          exact Nat.lt_of_le_of_lt (Nat.le_trans h2 (Nat.le_trans h3 hz)) (by decide)
        · have hno : ∀ b ob, H b = some ob → b ≠ o := fun b ob hb => ne_of_none hb no
          have hot : o ≠ t := ne_of_none pa3.lst nt
          refine ⟨some (.ref p.1), some (.ref a3), as ++ [t], rfl, fun b ob hb => ?_, ⟨?_, ?_, ?_⟩⟩
          · rw [upd_ne (hno b ob hb)]
            exact st _ _ (sm3 _ _ hb)
          · rw [freeP'_more hp hr1, List.length_append, List.length_append, pa3.len]
            rfl
          · rw [upd_same, List.map_append]
            rfl
          · rw [freeP'_more hp hr1]
            intro j a pr ha hpr
            have nto : ∀ b ob, H b = some ob → b ≠ o := hno
            have keep : ∀ b y, TupAt H b y → TupAt (upd (upd H3 t (.tup [.ref p.1, .ref r.1])) o (.lst (as.map V.ref ++ [.ref t]))) b y := fun b y hb => by
              unfold TupAt
              rw [upd_ne (hno _ _ hb)]
              exact st _ _ (sm3 _ _ hb)
            by_cases hj : j < as.length
            · rw [List.getElem?_append_left hj] at ha
              rw [List.getElem?_append_left (by rw [← pa3.len]; exact hj)] at hpr
              obtain ⟨q1, q2, q3⟩ := pa3.each j a pr ha hpr
              have hprm := freeP'_mem (mem_of_get hpr)
              refine ⟨?_, keep _ _ (hl.each _ (by exact List.mem_of_mem_take hprm.1)), keep _ _ (hl.each _ hprm.2)⟩
              rw [upd_ne (show a ≠ o from fun e => by rw [e, pa3.lst] at q1; cases q1)]
              exact st _ _ q1
            · have ej : j = as.length := by
                have := (List.getElem?_eq_some_iff.mp ha).1
                rw [List.length_append] at this
                simp at this
                omega
              subst ej
              rw [List.getElem?_append_right (Nat.le_refl _), Nat.sub_self] at ha
              rw [pa3.len, List.getElem?_append_right (Nat.le_refl _), Nat.sub_self] at hpr
              cases ha
              cases hpr
              refine ⟨?_, keep _ _ (hl.each _ hpm), keep _ _ (hl.each _ hrm)⟩
              rw [upd_ne hot.symm, upd_same]
      · have h1 : decide (V.int ((above ps p.2).length : Int) = V.int 1) = false := decide_eq_false (fun q => e (by
          have := V.int.inj q
          omega))
        rw [h1]
        refine iteF ?_
        refine ⟨some (.ref p.1), some (.ref a3), as, rfl, sm3, ?_⟩
        rw [freeP'_none hp e]
        exact pa3
    · rintro σ H' ⟨v3, v4, as, rfl, sm, pa⟩
      rw [refs_len, List.take_length] at pa
      exact ⟨_, rfl, q H' o as sm no pa⟩
end
end Sh

set_option maxRecDepth 100000
set_option maxHeartbeats 4000000
namespace Sh
open PySem PySem.Spec PyProof.Rows L2
theorem extend_tupW (l : Addr) (its : Array Value) (n : Nat) (b : Addr) (more : Array Value) (m : Nat) (dd : Option Addr) (sl : Array (Option Value)) (door : ¬(!its.isEmpty && Builtin.List.listTooLong (its.size + more.size)) = true) (small : its.size ≤ sizeLine) (both : its.size + more.size ≤ sizeLine + 1) :
    Meets (Builtin.«list.extend» ⟨[.ref l, .ref b], []⟩) (fun _ R st => st.heap.get? l = some { cls := .type "list", dict := none, data := .seq its n, slots := #[] } ∧ st.heap.get? b = some { cls := .type "tuple", dict := dd, data := .seq more m, slots := sl } ∧ R (.ok (.ret Value.none)) { st with heap := st.heap.update l (Obj.mapSeq fun x => x ++ more), toks := st.toks }) := by
  refine Meets.of_wp fun pg wd ar R st want => ?_
  obtain ⟨hh, gg, dr, tt, oo⟩ := st
  obtain ⟨atl, atb, fin⟩ := want
  have i1 := PySem.AutoSeq1.idx_int
  have i2 := PySem.AutoSeq1.sub_tuple_tuple
  have i3 := PySem.AutoSeq1.sub_list_list
  have i4 := PySem.AutoSeq1.sub_tuple_list
  have i5 := PySem.AutoSeq1.sub_list_tuple
  have all : (its ++ more).size ≤ sizeLine + 1 := by
    rw [Array.size_append]
    omega
  wp_walk using (wpAny_updateSeq atl rfl (hz := small) (_hz' := all)), PySem.AutoSeq1.wpAny_loadPart' atl, PySem.AutoSeq1.wpAny_loadPart' atb
  exact ⟨_, rfl, fin⟩
section
variable {X : Cx}
/-- xs.extend(t), t a tuple -/
def rExtendT (K : PySem.W.Frag) : V → List V → Hp → VK → Prop := fun x vs H Q => ∃ l b xs zs, x = .ref l ∧ vs = [.ref b] ∧ H l = some (.lst xs) ∧ SqT K H b zs ∧ xs.length + zs.length ≤ sizeLine ∧ Q .non (upd H l (.lst (xs ++ zs)))
theorem mt_extendT : MtM X "list.extend" (rExtendT X.K) := by
  intro pn st sl Hp0 vx vargs wx wargs W Iv hvx hvargs want
  obtain ⟨l, b, xs, zs, rfl, rfl, atl, atb, room, fin⟩ := want
  cases hvx
  obtain ⟨wb, rfl, hwb⟩ := hvargs.one
  cases hwb
  obtain ⟨_, its, n, rel, _, ol⟩ := Iv.lstM atl
  obtain ⟨its2, rel2, ⟨⟨cls, dd, data, slo⟩, ob, hc, n2, hd⟩, _⟩ := Iv.tuple atb
  simp only at hc hd
  subst hc hd
  have len1 := rel.length
  have len2 := rel2.length
  have sz : its.toArray.size + its2.toArray.size ≤ sizeLine := by
    simp only [List.size_toArray]
    omega
  have door : ¬ (!its.toArray.isEmpty && Builtin.List.listTooLong (its.toArray.size + its2.toArray.size)) = true := fun bad => by
    rw [notLongL sz, Bool.and_false] at bad
    cases bad
  exact call_meets F.slot_list_extend ⟨_, ol, rfl⟩ F.entry_list_extend (F.args_list_extend_2 _ _) (extend_tupW l its.toArray n b its2.toArray n2 dd slo door (by omega) (by omega))
    ⟨ol, ob, .non, _, Iv.lset (its' := its ++ its2) atl ol (by simp) (rel.append rel2) (by rw [List.length_append]; omega), rfl, fin⟩
end
section
variable {P : Program} {w : World} {K : PySem.W.Frag} {mg : Str → Option Value} {base : Heap}
/-! ### without -/
abbrev sWithout : Stmt := top 31
def spWithout (K : PySem.W.Frag) : Sp := fun vs H Q _ => ∃ (l a : Addr) (ps gs : PS2), vs = [.ref l, .ref a] ∧ ListAt H l ps ∧ H a = some (.tup (refs gs)) ∧ AllAt H gs ∧ ps.length ≤ 1000 ∧
  ∀ (H' : Hp) (p : Addr), Same H H' → H p = none → ListAt H' p (ps.filter fun p => !(sims gs).contains p.2) → Q (.ref p) H'
theorem scWithout : FnScope ["simplices", "gone", "simplex"] ["simplices", "gone"] (defScope sWithout) := ⟨rfl, rfl, rfl, by decide +kernel, rfl, by decide +kernel, by decide +kernel⟩
theorem ok_without {f : Addr} {fd : FuncData} {k : Nat} (F : Fun K "without" "without" sWithout f fd) :
    FnOk P w K mg base CX0 (k + 1) f fd ["simplices", "gone"] (spWithout K) := by
  refine F.ok scWithout (fun vs H Q E h => ?_) (fun cdv A outer s H vs Q E hr h => ?_)
  · obtain ⟨l, a, ps, gs, rfl, _⟩ := h
    rfl
  · obtain ⟨l, a, ps, gs, rfl, hl, ha, hg, hz, q⟩ := h
    refine ⟨_, pss_one (ps_ret (pe_lc (own := [("simplex", 2)]) (g := gName 2) rfl scWithout.nd (pi_list (pv 0)) (blkOk_by (own := [("simplex", 2)]) (N := ["simplices", "gone", "simplex"]) (sc := defScope sWithout) (by decide +kernel))
      (fun _ _ _ _ _ => pg_name (i := 2) scWithout.nd rfl (Or.inl rfl))
      (fun _ _ _ _ _ => pts_one (pt_cmpR (show OpR _ _ (rInDT K true) from op_notInDT (units65 hr)) (pv 2) (pv 1) rfl))
      (fun _ _ _ _ _ => pv 2))), ?_⟩
    refine ⟨_, rfl, l, rfl, ⟨_, SqL.of hl.lst⟩, fun D nD => lc_fm (K := K) (a := l) (xs := ps) (v := fun p => .ref p.1) (fun p => !(sims gs).contains p.2) (fun p => .ref p.1) nD (SqL.of hl.lst) (Nat.lt_of_le_of_lt hz (by decide)) ?_ ?_⟩
    · intro p hp H2 s2 Nx yes no
      refine ⟨rfl, ?_⟩
      refine ⟨_, rfl, _, rfl, tD p.2, (sims gs).map tD, dp_tup ((hl.each p hp).same s2).sq, .tup (SqT.of (s2 _ _ ha)) (dpAll_tups (hg.same s2)), tD_shaped _, tDs_shapedT _, _, rfl, ?_⟩
      rw [if_pos rfl, any_eqv]
      cases hc : (!(sims gs).contains p.2) with
      | true => exact iteT ⟨_, rfl, yes hc H2 (Same.refl _)⟩
      | false => exact iteF (no hc H2 (Same.refl _))
    · intro H' sm hDl
      exact q H' D sm nD ⟨hDl, fun p hp => (hl.each p (List.mem_filter.mp hp).1).same sm⟩

/-! ### corners_of -/
abbrev sCorners : Stmt := top 33
def cornersL (xs : List Sim) : List Nat := (xs.filter fun x => x.length == 1).map fun x => x.headD 0
def spCorners : Sp := fun vs H Q _ => ∃ (l : Addr) (ps : PS2), vs = [.ref l] ∧ ListAt H l ps ∧ ps.length ≤ 1000 ∧
  ∀ (H' : Hp) (p : Addr), Same H H' → H p = none → H' p = some (.lst (sv (cornersL (sims ps)))) → Q (.ref p) H'
theorem scCorners : FnScope ["simplices", "simplex"] ["simplices"] (defScope sCorners) := ⟨rfl, rfl, rfl, by decide +kernel, rfl, by decide +kernel, by decide +kernel⟩
theorem corners_map (ps : PS2) : (ps.filter fun p => p.2.length == 1).map (fun p => V.int ((p.2.headD 0 : Nat) : Int)) = sv (cornersL (sims ps)) := by
  unfold sv cornersL sims
  rw [List.filter_map, List.map_map, List.map_map]
  rfl
theorem ok_corners {f : Addr} {fd : FuncData} {k : Nat} (F : Fun K "corners_of" "corners_of" sCorners f fd) (ml : mg "len" = none) :
    FnOk P w K mg base CX0 (k + 1) f fd ["simplices"] spCorners := by
  refine F.ok scCorners (fun vs H Q E h => ?_) (fun cdv A outer s H vs Q E hr h => ?_)
  · obtain ⟨l, ps, rfl, _⟩ := h
    rfl
  · obtain ⟨l, ps, rfl, hl, hz, q⟩ := h
    refine ⟨_, pss_one (ps_ret (pe_lc (own := [("simplex", 1)]) (g := gName 1) rfl scCorners.nd (pi_list (pv 0)) (blkOk_by (own := [("simplex", 1)]) (N := ["simplices", "simplex"]) (sc := defScope sCorners) (by decide +kernel))
      (fun _ _ _ _ _ => pg_name (i := 1) scCorners.nd rfl (Or.inl rfl))
      (fun _ _ _ _ _ => pts_one (pt_cmpR op_eq (pe_callB (show CallR _ _ (fun xs H Q => ∃ p ys, xs = [.ref p] ∧ (SqL K H p ys ∨ SqT K H p ys) ∧ Q (.int ys.length) H) from call_len_seq) (by rfl) ml PySem.boot_len (pa_cons (pv 1) pa_nil)) pe_int (nomark _)))
      (fun _ _ _ _ _ => pe_ix (show IxR _ (rIxT K) from ix_tup) (pv 1) pe_int (fun _ _ => rfl)))), ?_⟩
    refine ⟨_, rfl, l, rfl, ⟨_, SqL.of hl.lst⟩, fun D nD => lc_fm (K := K) (a := l) (xs := ps) (v := fun p => .ref p.1) (fun p => p.2.length == 1) (fun p => V.int ((p.2.headD 0 : Nat) : Int)) nD (SqL.of hl.lst) (Nat.lt_of_le_of_lt hz (by decide)) ?_ ?_⟩
    · intro p hp H2 s2 Nx yes no
      refine ⟨rfl, ?_⟩
      have tp := (hl.each p hp).same s2
      refine ⟨_, rfl, p.1, _, rfl, .inr tp.sq, ?_⟩
      rw [sv_len]
      refine ⟨rfl, _, rfl, ?_⟩
      by_cases e : p.2.length = 1
      · have h1 : decide (V.int (p.2.length : Int) = V.int 1) = true := decide_eq_true (by rw [e]; rfl)
        rw [h1]
        refine iteT ?_
        obtain ⟨n, hn⟩ : ∃ n, p.2 = [n] := List.length_eq_one_iff.mp e
        refine ⟨_, rfl, p.1, sv p.2, 0, .int (n : Int), rfl, rfl, tp.sq, by rw [hn]; rfl, ?_⟩
        have := yes (by simpa using e) H2 (Same.refl _)
        rw [hn] at this
        exact this
      · have h1 : decide (V.int (p.2.length : Int) = V.int 1) = false := decide_eq_false (fun q => e (by
          have := V.int.inj q
          omega))
        rw [h1]
        exact iteF (no (by simpa using e) H2 (Same.refl _))
    · intro H' sm hDl
      rw [corners_map] at hDl
      exact q H' D sm nD hDl

/-! ### leans -/
abbrev sLeans : Stmt := top 34
def leansT (ts : List Sim) (a b : Nat) : Bool := ts.all fun t => !(t.contains a && !t.contains b)
def spLeans (K : PySem.W.Frag) : Sp := fun vs H Q _ => ∃ (l : Addr) (ps : PS2) (a b : Nat), vs = [.ref l, .int (a : Int), .int (b : Int)] ∧ ListAt H l ps ∧ Q (.bl (leansT (sims ps) a b)) H
theorem scLeans : FnScope ["tops", "corner", "other", "top"] ["tops", "corner", "other"] (defScope sLeans) := ⟨rfl, rfl, rfl, by decide +kernel, rfl, by decide +kernel, by decide +kernel⟩
theorem all_take_more {α : Type} {l : List α} {i : Nat} {x : α} {f : α → Bool} (h : l[i]? = some x) : (l.take (i + 1)).all f = ((l.take i).all f && f x) := by
  rw [take_more h, List.all_append]
  simp
theorem ok_leans {f : Addr} {fd : FuncData} {k : Nat} (F : Fun K "leans" "leans" sLeans f fd) : FnOk P w K mg base CX0 (k + 1) f fd ["tops", "corner", "other"] (spLeans K) := by
  refine F.ok scLeans (fun vs H Q E h => ?_) (fun cdv A outer s H vs Q E hr h => ?_)
  · obtain ⟨l, ps, a, b, rfl, _⟩ := h
    rfl
  · obtain ⟨l, ps, a, b, rfl, hl, q⟩ := h
    refine ⟨_, pss_cons (ps_for PassesOwn.never rfl (pi_list (pv 0)) (pg_name (i := 3) scLeans.nd rfl (.inl rfl))
        (pss_one (ps_if (PW.pt (pw_and (pt_cmpR op_in_seq (pv 1) (pv 3) rfl) (pw_and1 (pt_cmpR op_notIn_seq (pv 2) (pv 3) rfl)))) (pss_one (ps_ret pe_bl)) pss_nil)))
      (pss_one (ps_ret pe_bl)), ?_⟩
    refine ⟨_, rfl, l, rfl, ⟨_, SqL.of hl.lst⟩, for_list (K := K) (a := l) (xs := refs ps) (fun i σ H' => ∃ v, σ = [some (.ref l), some (.int a), some (.int b), v] ∧ H' = H ∧ (ps.take i).all (fun p => !(p.2.contains a && !p.2.contains b)) = true)
      ⟨none, rfl, rfl, rfl⟩ (fun i σ H' _ ⟨_, _, e, _⟩ => e ▸ SqL.of hl.lst) ?_ ?_⟩
    · rintro i v σ H' hi ⟨v0, rfl, rfl, hall⟩
      obtain ⟨p, hp, rfl⟩ := refs_get hi
      have tp := hl.each p (mem_of_get hp)
      have bad : p.2.contains a = true → p.2.contains b = false → leansT (sims ps) a b = false := fun h1 h2 => by
        unfold leansT sims
        rw [List.all_eq_false]
        exact ⟨p.2, List.mem_map.mpr ⟨p, mem_of_get hp, rfl⟩, by rw [h1, h2]; decide⟩
      refine ⟨_, rfl, _, rfl, p.1, sv p.2, rfl, .inr tp.sq, rfl, sv_flat _, _, rfl, ?_⟩
      show if inV (.int (a : Int)) (sv p.2) = true then _ else _
      rw [sv_in]
      cases h1 : p.2.contains a with
      | false =>
        refine iteF ?_
        refine iteF ?_
        exact ⟨some (.ref p.1), rfl, rfl, by rw [all_take_more hp, hall, h1]; rfl⟩
      | true =>
        refine iteT ?_
        refine ⟨_, rfl, _, rfl, p.1, sv p.2, rfl, .inr tp.sq, rfl, sv_flat _, _, rfl, ?_⟩
        show if (!inV (.int (b : Int)) (sv p.2)) = true then _ else _
        rw [sv_in]
        cases h2 : p.2.contains b with
        | false =>
          refine iteT ?_
          rw [bad h1 h2] at q
          exact q
        | true =>
          refine iteF ?_
          exact ⟨some (.ref p.1), rfl, rfl, by rw [all_take_more hp, hall, h1, h2]; rfl⟩
    · rintro σ H' ⟨v0, rfl, rfl, hall⟩
      rw [refs_len, List.take_length] at hall
      have : leansT (sims ps) a b = true := by
        unfold leansT sims
        rw [List.all_map]
        exact hall
      rw [this] at q
      exact q

/-! ### lowest_leaned_on -/
abbrev sLowest : Stmt := top 35
def lowest (ts : List Sim) (cs : List Nat) (a : Nat) : Option Nat := cs.find? fun b => decide (b ≠ a) && leansT ts a b
def natV : Option Nat → V
  | some n => .int (n : Int)
  | none => .non
def spLowest (K : PySem.W.Frag) : Sp := fun vs H Q _ => ∃ (l c : Addr) (ps : PS2) (cs : List Nat) (a : Nat), vs = [.ref l, .ref c, .int (a : Int)] ∧ ListAt H l ps ∧ H c = some (.lst (sv cs)) ∧ Q (natV (lowest (sims ps) cs a)) H
theorem scLowest : FnScope ["tops", "corners", "corner", "other"] ["tops", "corners", "corner"] (defScope sLowest) := ⟨rfl, rfl, rfl, by decide +kernel, rfl, by decide +kernel, by decide +kernel⟩
theorem find_take {α : Type} {l : List α} {i : Nat} {x : α} {f : α → Bool} (h : l[i]? = some x) (k : (l.take i).find? f = none) (e : f x = true) : l.find? f = some x := by
  have h2 : l = l.take i ++ (x :: l.drop (i + 1)) := by
    obtain ⟨hi, e⟩ := List.getElem?_eq_some_iff.mp h
    rw [← e, List.getElem_cons_drop, List.take_append_drop]
  rw [h2, List.find?_append, k]
  simp [e]
theorem find_take_no {α : Type} {l : List α} {i : Nat} {x : α} {f : α → Bool} (h : l[i]? = some x) (k : (l.take i).find? f = none) (e : f x = false) : (l.take (i + 1)).find? f = none := by
  rw [take_more h, List.find?_append, k]
  simp [e]
theorem ok_lowest {f f1 : Addr} {fd fd1 : FuncData} {k : Nat} (F : Fun K "lowest_leaned_on" "lowest_leaned_on" sLowest f fd)
    (G : FnOk P w K mg base CX0 k f1 fd1 ["tops", "corner", "other"] (spLeans K)) (mf : mg "leans" = some (.ref f1)) (kf : PySem.W.keepIn K (.ref f1) = true) (bf : Binds K fd1 ["tops", "corner", "other"] []) :
    FnOk P w K mg base CX0 (k + 1) f fd ["tops", "corners", "corner"] (spLowest K) := by
  refine F.ok scLowest (fun vs H Q E h => ?_) (fun cdv A outer s H vs Q E hr h => ?_)
  · obtain ⟨l, c, ps, cs, a, rfl, _⟩ := h
    rfl
  · obtain ⟨l, c, ps, cs, a, rfl, hl, hc, q⟩ := h
    refine ⟨_, pss_cons (ps_for PassesOwn.never rfl (pi_list (pv 1)) (pg_name (i := 3) scLowest.nd rfl (.inl rfl))
        (pss_one (ps_if (PW.pt (pw_and (pt_cmpR op_ne (pv 3) (pv 2) (nomark _)) (pw_and1 (pt_val (pe_call G hr rfl mf kf bf .nil pass0 (pa_cons (pv 0) (pa_cons (pv 2) (pa_cons (pv 3) pa_nil)))))))) (pss_one (ps_ret (pv 3))) pss_nil)))
      (pss_one (ps_ret pe_non)), ?_⟩
    refine ⟨_, rfl, c, rfl, ⟨_, SqL.of hc⟩, for_list (K := K) (a := c) (xs := sv cs) (fun i σ H' => ∃ v, σ = [some (.ref l), some (.ref c), some (.int a), v] ∧ H' = H ∧ lowest (sims ps) (cs.take i) a = none)
      ⟨none, rfl, rfl, rfl⟩ (fun i σ H' _ ⟨_, _, e, _⟩ => e ▸ SqL.of hc) ?_ ?_⟩
    · rintro i v σ H' hi ⟨v0, rfl, rfl, hno⟩
      obtain ⟨b, hb, rfl⟩ := sv_get hi
      refine ⟨_, rfl, _, rfl, rfl, _, rfl, ?_⟩
      by_cases e : b = a
      · have h1 : (!decide (V.int (b : Int) = V.int (a : Int))) = false := by rw [decide_eq_true (by rw [e])]; rfl
        rw [h1]
        refine iteF ?_
        refine iteF ?_
        exact ⟨some (.int b), rfl, rfl, find_take_no hb hno (by rw [decide_eq_false (fun q => q e)]; rfl)⟩
      · have h1 : (!decide (V.int (b : Int) = V.int (a : Int))) = true := by
          rw [decide_eq_false (fun q => e (by
            have := V.int.inj q
            omega))]
          rfl
        rw [h1]
        refine iteT ?_
        refine ⟨_, rfl, _, rfl, _, rfl, l, ps, a, b, rfl, hl, _, rfl, ?_⟩
        cases h2 : leansT (sims ps) a b with
        | true =>
          refine iteT ?_
          have e2 : lowest (sims ps) cs a = some b := find_take hb hno (by rw [decide_eq_true e, h2]; rfl)
          rw [e2] at q
          exact ⟨_, rfl, q⟩
        | false =>
          refine iteF ?_
          exact ⟨some (.int b), rfl, rfl, find_take_no hb hno (by rw [h2, Bool.and_false])⟩
    · rintro σ H' ⟨v0, rfl, rfl, hno⟩
      rw [sv_len, List.take_length] at hno
      rw [hno] at q
      exact q

/-! ### told -/
abbrev sTold : Stmt := top 45
def toldL (xs : List Sim) : List Nat := xs.length :: xs.flatMap fun x => x.length :: x
def spTold (K : PySem.W.Frag) : Sp := fun vs H Q _ => ∃ (l : Addr) (ps : PS2), vs = [.ref l] ∧ ListAt H l ps ∧ ps.length ≤ 1000 ∧ (∀ p ∈ ps, p.2.length ≤ 1000) ∧
  ∀ (H' : Hp) (p : Addr), Same H H' → H p = none → H' p = some (.lst (sv (toldL (sims ps)))) → Q (.ref p) H'
theorem scTold : FnScope ["simplices", "numbers", "simplex"] ["simplices"] (defScope sTold) := ⟨rfl, rfl, rfl, by decide +kernel, rfl, by decide +kernel, by decide +kernel⟩
def toldT (ps : PS2) (n : Nat) : List Nat := n :: (ps.flatMap fun p => p.2.length :: p.2)
theorem toldT_more {ps : PS2} {i n : Nat} {p : Addr × Sim} (h : ps[i]? = some p) : toldT (ps.take (i + 1)) n = toldT (ps.take i) n ++ [p.2.length] ++ p.2 := by
  unfold toldT
  rw [take_more h, List.flatMap_append]
  simp
theorem toldT_len : ∀ (ps : PS2) (n : Nat), (∀ p ∈ ps, p.2.length ≤ 1000) → (toldT ps n).length ≤ 1 + 1001 * ps.length
  | [], _, _ => by simp [toldT]
  | p :: ps, n, h => by
    have ih := toldT_len ps n (fun q hq => h q (List.mem_cons_of_mem _ hq))
    have := h p (List.mem_cons_self ..)
    unfold toldT at ih ⊢
    simp only [List.flatMap_cons, List.length_cons, List.length_append] at ih ⊢
    omega
theorem sv_append (x y : Sim) : sv (x ++ y) = sv x ++ sv y := List.map_append
theorem ok_told {f : Addr} {fd : FuncData} {k : Nat} (F : Fun K "told" "told" sTold f fd) (ml : mg "len" = none) : FnOk P w K mg base CX0 (k + 1) f fd ["simplices"] (spTold K) := by
  refine F.ok scTold (fun vs H Q E h => ?_) (fun cdv A outer s H vs Q E hr h => ?_)
  · obtain ⟨l, ps, rfl, _⟩ := h
    rfl
  · obtain ⟨l, ps, rfl, hl, hz, hzs, q⟩ := h
    refine ⟨_, pss_cons (ps_set (i := 1) scTold.nd rfl (.inl rfl) (pe_lst (pa_cons (pe_callB call_len_seq (by rfl) ml PySem.boot_len (pa_cons (pv 0) pa_nil)) pa_nil)))
      (pss_cons (ps_for PassesOwn.never rfl (pi_list (pv 0)) (pg_name (i := 2) scTold.nd rfl (.inl rfl))
        (pss_cons (ps_expr (pe_bm PySem.F.plainAttrs_list PySem.F.slot_list_append PySem.F.type_list_append mt_append (pv 1) (pa_cons (pe_callB call_len_seq (by rfl) ml PySem.boot_len (pa_cons (pv 2) pa_nil)) pa_nil)))
        (pss_one (ps_expr (pe_bm PySem.F.plainAttrs_list PySem.F.slot_list_extend PySem.F.type_list_extend mt_extendT (pv 1) (pa_cons (pv 2) pa_nil))))))
      (pss_one (ps_ret (pv 1)))), ?_⟩
    refine ⟨_, rfl, l, _, rfl, .inl (SqL.of hl.lst), ?_⟩
    rw [refs_len]
    refine ⟨by show 1 ≤ sizeLine; decide, fun o no => ?_⟩
    have s1 : Same H (upd H o (.lst [.int (ps.length : Int)])) := same_upd no
    refine ⟨_, rfl, l, rfl, ⟨_, SqL.of (hl.same s1).lst⟩, for_list (K := K) (a := l) (xs := refs ps)
      (fun i σ H' => ∃ v, σ = [some (.ref l), some (.ref o), v] ∧ Same H H' ∧ H' o = some (.lst (sv (toldT (ps.take i) ps.length))))
      ⟨none, rfl, s1, upd_same⟩ (fun i σ H' _ ⟨_, _, e, _⟩ => SqL.of (hl.same e).lst) ?_ ?_⟩
    · rintro i v σ H' hi ⟨v3, rfl, sm, ho⟩
      obtain ⟨p, hp, rfl⟩ := refs_get hi
      have hpm := mem_of_get hp
      have tp := (hl.each p hpm).same sm
      have hlen : (toldT (ps.take i) ps.length).length ≤ 1 + 1001 * 1000 := by
        have h1 := toldT_len (ps.take i) ps.length (fun q hq => hzs q (List.mem_of_mem_take hq))
        have h3 : (ps.take i).length ≤ ps.length := by
          rw [List.length_take]
          omega
        omega
      have hp2 := hzs p hpm
      have esl := sizeLine_eq
      have hpo : p.1 ≠ o := ne_of_none (hl.each p hpm) no
      refine ⟨_, rfl, .inl ⟨rfl, _, SqL.of ho⟩, _, rfl, p.1, _, rfl, .inr tp.sq, ?_⟩
      rw [sv_len]
      refine ⟨o, _, _, rfl, rfl, ho, by rw [sv_len]; omega, ?_⟩
      refine ⟨_, rfl, .inl ⟨rfl, _, SqL.of upd_same⟩, _, rfl, o, p.1, _, sv p.2, rfl, rfl, upd_same, SqT.of (by rw [upd_ne hpo]; exact tp), ?_, ?_⟩
      · rw [List.length_append, sv_len, sv_len]
        simp
        omega
      · refine ⟨some (.ref p.1), rfl, fun b ob hb => ?_, ?_⟩
        · rw [upd_ne (ne_of_none hb no), upd_ne (ne_of_none hb no)]
          exact sm _ _ hb
        · rw [upd_same, toldT_more hp, sv_append, sv_append]
          rfl
    · rintro σ H' ⟨v3, rfl, sm, ho⟩
      rw [refs_len, List.take_length] at ho
      refine ⟨_, rfl, q H' o sm no ?_⟩
      rw [ho]
      unfold toldT toldL sims
      rw [List.length_map, List.flatMap_map]
end
end Sh

set_option maxRecDepth 100000
set_option maxHeartbeats 4000000
namespace Sh
open PySem PySem.Spec PyProof.Rows L2

/-! ### len(set(xs)) of ints, any -/
theorem first_all {ns : List Int} : ∀ m, m ≤ ns.length → (PyProof.Rows.firstMet (fun i => ns.getD i 0) m).length = m → (ns.take m).Nodup
  | 0, _, _ => by simp
  | m + 1, hm, full => by
    have lt : m < ns.length := hm
    have few := PyProof.Rows.firstMet_length_le (fun i => ns.getD i 0) m
    have at_m : ns.getD m 0 = ns[m] := by simp [List.getD_eq_getElem?_getD, lt]
    rw [PyProof.Rows.firstMet_succ] at full
    have st : PyProof.Rows.step_dedup (PyProof.Rows.firstMet (fun i => ns.getD i 0) m) (ns.getD m 0) = if (PyProof.Rows.firstMet (fun i => ns.getD i 0) m).any (· == ns.getD m 0) = true then PyProof.Rows.firstMet (fun i => ns.getD i 0) m else PyProof.Rows.firstMet (fun i => ns.getD i 0) m ++ [ns.getD m 0] := rfl
    rw [st] at full
    by_cases met : (PyProof.Rows.firstMet (fun i => ns.getD i 0) m).any (· == ns.getD m 0) = true
    · rw [if_pos met] at full
      omega
    · rw [if_neg met, List.length_append, List.length_singleton] at full
      have ih := first_all m (Nat.le_of_lt lt) (by omega)
      rw [take_more (List.getElem?_eq_getElem lt)]
      rw [PyProof.Rows.firstMet_any] at met
      refine List.nodup_append.mpr ⟨ih, by simp, ?_⟩
      intro a ha b hb e
      have hb' : b = ns[m] := by simpa using hb
      subst hb'
      subst e
      apply met
      rw [List.any_eq_true]
      obtain ⟨k, kth⟩ := List.getElem?_of_mem ha
      rw [List.getElem?_take] at kth
      by_cases low : k < m
      · rw [if_pos low] at kth
        refine ⟨ns.getD k 0, List.mem_map.mpr ⟨k, List.mem_range.mpr low, rfl⟩, ?_⟩
        rw [at_m, List.getD_eq_getElem?_getD, kth]
        simp
      · rw [if_neg low] at kth
        cases kth
def setLen (ns : List Int) : Nat := (PyProof.Rows.firstMet (fun i => ns.getD i 0) ns.length).length
theorem setLen_iff (ns : List Int) : setLen ns = ns.length ↔ ns.Nodup := by
  constructor
  · intro h
    have := first_all ns.length (Nat.le_refl _) h
    rwa [List.take_length] at this
  · intro h
    unfold setLen
    rw [RZ.firstMet_nodup h ns.length (Nat.le_refl _), List.take_length]
theorem setLen_le (ns : List Int) : setLen ns ≤ ns.length := PyProof.Rows.firstMet_length_le _ _
def tLenSetN (K : PySem.W.Frag) (ta : TE) : TE := fun σ H Q => ta σ H fun x H1 => ∃ (l : Addr) (ns : List Int), x = .ref l ∧ SqL K H1 l (ns.map V.int) ∧ ns.length ≤ 4000 ∧ Q (.int ((setLen ns : Nat) : Int)) H1
theorem pe_lenSetN {X : Cx} {a : Expr} {ta : TE} {p p2 q pos : Pos} (gLen : Gl X "len") (mLen : X.mg "len" = none) (gSet : Gl X "set") (mSet : X.mg "set" = none) (hp : PE X a ta) (calm : X.calm = true := by rfl)
    (plain : starEach [a] X.env = (false, eval a X.env) :: starEach [] X.env := by rfl) : PE X (.Call (.Name "len" p) [.Call (.Name "set" p2) [a] [] q] [] pos) (tLenSetN X.K ta) := by
  constructor
  intro pn st sl Hp0 W Iv want
  refine Call_ (ld_blt Iv gLen mLen boot_len (PyProof.Rows.callWith_builtin1 (PyProof.Rows.args_cons (Call_ (ld_blt Iv gSet mSet boot_set ?_)) rfl) rfl rfl))
  refine PyProof.Rows.callWith_type1 (PyProof.Rows.args_cons (thn (hp.run pn st sl Hp0 _ Iv want) ?_) plain) plain rfl
  rintro w st1 ⟨x, Hp1, Iv1, rel, l, ns, rfl, isl, small, fin⟩
  cases rel
  refine PyProof.Rows.args_nil ?_
  obtain ⟨us, relL, pls, _⟩ := Iv1.list isl
  have len : us.toArray.size = ns.length := by
    have := relL.length
    simp only [List.length_map] at this
    simp [this]
  refine call_set_list (Iv1.ok.hd calm) pls.isList (by simpa using RZ.intsAre_vals relL) (by rw [len]; unfold scanBound; omega) fun hp2 tk isSet kept => PyProof.Rows.args_nil ?_
  rw [len] at isSet
  obtain ⟨so, ents, epo, tab, atS, exact1, dat, _, _, _, fill, num⟩ := isSet
  have Iv2 : Inv X pn sl Hp1 { st1 with heap := hp2, toks := tk } := Iv1.kept fun b ob there => kept b ob (Heap.lt_size there) there
  have le := setLen_le ns
  exact call_len_set atS exact1 dat fill (by rw [num]; unfold setLen at le; omega) ⟨.int (setLen ns : Nat), Hp1, Iv2.tok _, ⟨_, by rw [num]; rfl⟩, fin⟩

section
variable {P : Program} {w : World} {K : PySem.W.Frag} {mg : Str → Option Value} {base : Heap}
/-! ### is_simplex -/
abbrev sIsSim : Stmt := top 22
def IsSim (ns : List Int) : Prop := 1 ≤ ns.length ∧ ns.length ≤ 4 ∧ ns.Nodup ∧ ∀ z ∈ ns, 0 ≤ z ∧ z ≤ 9
noncomputable def isSimB (ns : List Int) : Bool := open Classical in decide (IsSim ns)
theorem isSimB_true {ns : List Int} (h : IsSim ns) : isSimB ns = true := by
  unfold isSimB
  exact @decide_eq_true _ (Classical.propDecidable _) h
theorem isSimB_false {ns : List Int} (h : ¬ IsSim ns) : isSimB ns = false := by
  unfold isSimB
  exact @decide_eq_false _ (Classical.propDecidable _) h
def spIsSim (K : PySem.W.Frag) : Sp := fun vs H Q _ => ∃ (a : Addr) (ns : List Int), vs = [.ref a] ∧ SqL K H a (ns.map V.int) ∧ ns.length ≤ 4000 ∧ Q (.bl (isSimB ns)) H
theorem scIsSim : FnScope ["corners"] ["corners"] (defScope sIsSim) := ⟨rfl, rfl, rfl, by decide +kernel, rfl, by decide +kernel, by decide +kernel⟩
theorem ok_isSim {f : Addr} {fd : FuncData} {k : Nat} {t4 t9 : Tok} (F : Fun K "is_simplex" "is_simplex" sIsSim f fd) (ml : mg "len" = none) (ms : mg "set" = none) (mmin : mg "min" = none) (mmax : mg "max" = none)
    (m4 : mg "MOST_CORNERS" = some (.int 4 t4)) (m9 : mg "LAST_CORNER" = some (.int 9 t9)) : FnOk P w K mg base CX0 (k + 1) f fd ["corners"] (spIsSim K) := by
  refine F.ok scIsSim (fun vs H Q E h => ?_) (fun cdv A outer s H vs Q E hr h => ?_)
  · obtain ⟨a, ns, rfl, _⟩ := h
    rfl
  · obtain ⟨a, ns, rfl, ha, hz, q⟩ := h
    refine ⟨_, pss_cons (ps_if (PW.pt (pw_or (pt_cmpR op_lt (pe_callB call_len_seq (by rfl) ml PySem.boot_len (pa_cons (pv 0) pa_nil)) pe_int (nomark _))
          (pw_or1 (pt_cmpR op_gt (pe_callB call_len_seq (by rfl) ml PySem.boot_len (pa_cons (pv 0) pa_nil)) (pe_glob (v := .int 4) rfl m4 ⟨_, rfl⟩) (nomark _))))) (pss_one (ps_ret pe_bl)) pss_nil)
      (pss_cons (ps_if (pt_cmpR op_ne (pe_lenSetN (by rfl) ml (by rfl) ms (pv 0)) (pe_callB call_len_seq (by rfl) ml PySem.boot_len (pa_cons (pv 0) pa_nil)) (nomark _)) (pss_one (ps_ret pe_bl)) pss_nil)
      (pss_one (ps_ret (pe_and (pe_cmpR op_ge (pe_callB (cr_min rfl) (by rfl) mmin (by decide +kernel) (pa_cons (pv 0) pa_nil)) pe_int (nomark _))
        (pe_one (pe_cmpR op_le (pe_callB (cr_max rfl) (by rfl) mmax (by decide +kernel) (pa_cons (pv 0) pa_nil)) (pe_glob (v := .int 9) rfl m9 ⟨_, rfl⟩) (nomark _))))))), ?_⟩
    have elen : (ns.map V.int).length = ns.length := List.length_map _
    refine ⟨_, rfl, a, _, rfl, .inl ha, ?_⟩
    rw [elen]
    refine ⟨_, _, rfl, rfl, _, rfl, ?_⟩
    by_cases c1 : (ns.length : Int) < 1
    · rw [decide_eq_true c1]
      refine iteT (iteT ?_)
      rw [isSimB_false (fun z => by have := z.1; omega)] at q
      exact q
    rw [decide_eq_false c1]
    refine iteF ?_
    refine ⟨_, rfl, a, _, rfl, .inl ha, ?_⟩
    rw [elen]
    refine ⟨_, _, rfl, rfl, _, rfl, ?_⟩
    by_cases c2 : (4 : Int) < (ns.length : Int)
    · rw [decide_eq_true c2]
      refine iteT ?_
      rw [isSimB_false (fun z => by have := z.2.1; omega)] at q
      exact q
    rw [decide_eq_false c2]
    refine iteF ?_
    refine ⟨_, rfl, a, ns, rfl, ha, hz, _, rfl, a, _, rfl, .inl ha, ?_⟩
    rw [elen]
    refine ⟨rfl, _, rfl, ?_⟩
    by_cases c3 : ns.Nodup
    · have e3 := (setLen_iff ns).mpr c3
      have h1 : (!decide (V.int ((setLen ns : Nat) : Int) = V.int (ns.length : Int))) = false := by rw [e3, decide_eq_true rfl]; rfl
      rw [h1]
      refine iteF ?_
      have hpos : 0 < ns.length := by omega
      refine ⟨_, rfl, a, ns, rfl, ha, hpos, fun m hm hmin => ?_⟩
      refine ⟨_, _, rfl, rfl, _, rfl, ?_⟩
      by_cases c4 : (0 : Int) ≤ m
      · rw [decide_eq_true c4]
        refine iteT ?_
        refine ⟨_, rfl, a, ns, rfl, ha, hpos, fun m2 hm2 hmax => ?_⟩
        refine ⟨_, _, rfl, rfl, ?_⟩
        by_cases c5 : m2 ≤ (9 : Int)
        · show Q (.bl (decide (m2 ≤ 9))) H
          rw [decide_eq_true c5]
          rw [isSimB_true ⟨by omega, by omega, c3, fun z hz => ⟨by have := hmin z hz; omega, by have := hmax z hz; omega⟩⟩] at q
          exact q
        · show Q (.bl (decide (m2 ≤ 9))) H
          rw [decide_eq_false c5]
          rw [isSimB_false (fun z => c5 (z.2.2.2 m2 hm2).2)] at q
          exact q
      · rw [decide_eq_false c4]
        refine iteF ?_
        rw [isSimB_false (fun z => c4 (z.2.2.2 m hm).1)] at q
        exact q
    · have e3 : setLen ns ≠ ns.length := fun e => c3 ((setLen_iff ns).mp e)
      have h1 : (!decide (V.int ((setLen ns : Nat) : Int) = V.int (ns.length : Int))) = true := by
        rw [decide_eq_false (fun q => e3 (by
          have := V.int.inj q
          omega))]
        rfl
      rw [h1]
      refine iteT ?_
      rw [isSimB_false (fun z => c3 z.2.2.1)] at q
      exact q

/-! ### rising -/
abbrev sRising : Stmt := top 23
def spRising (K : PySem.W.Frag) : Sp := fun vs H Q _ => ∃ (a : Addr) (ns : List Int), vs = [.ref a] ∧ SqL K H a (ns.map V.int) ∧
  ∀ (H' : Hp) (p : Addr) (ms : List Int), Same H H' → H p = none → ms.Perm ns → ms.Pairwise (· ≤ ·) → H' p = some (.tup (ms.map V.int)) → Q (.ref p) H'
theorem scRising : FnScope ["corners"] ["corners"] (defScope sRising) := ⟨rfl, rfl, rfl, by decide +kernel, rfl, by decide +kernel, by decide +kernel⟩
theorem ok_rising {f : Addr} {fd : FuncData} {k : Nat} (F : Fun K "rising" "rising" sRising f fd) (mt : mg "tuple" = none) (ms : mg "sorted" = none) : FnOk P w K mg base CX0 (k + 1) f fd ["corners"] (spRising K) := by
  refine F.ok scRising (fun vs H Q E h => ?_) (fun cdv A outer s H vs Q E hr h => ?_)
  · obtain ⟨a, ns, rfl, _⟩ := h
    rfl
  · obtain ⟨a, ns, rfl, ha, q⟩ := h
    refine ⟨_, pss_one (ps_ret (pe_callTy call_tuple_of (by rfl) mt (by decide +kernel) (pa_cons (pe_callB cr_sortedI (by rfl) ms (by decide +kernel) (pa_cons (pv 0) pa_nil)) pa_nil))), ?_⟩
    refine ⟨_, rfl, a, ns, rfl, ha, fun ms p hp ho np => ?_⟩
    refine ⟨p, _, rfl, .inl ⟨SqL.of upd_same, fun l nl => ?_⟩⟩
    have s1 : Same H (upd H p (.lst (ms.map V.int))) := same_upd np
    exact q _ l ms (s1.trans (same_upd nl)) (s1.free nl) hp ho upd_same

/-! ### faces_of -/
abbrev sFaces : Stmt := top 25
def facesL : Sim → List Sim := fun x => x.foldl (fun l n => l ++ l.map fun y => y ++ [n]) [[]]
theorem facesL_more {x : Sim} {i n : Nat} (h : x[i]? = some n) : facesL (x.take (i + 1)) = facesL (x.take i) ++ (facesL (x.take i)).map fun y => y ++ [n] := by
  unfold facesL
  rw [take_more h, List.foldl_append]
  rfl
theorem facesL_len : ∀ (x : Sim), (facesL x).length = 2 ^ x.length := by
  intro x
  unfold facesL
  have : ∀ (x : Sim) (l : List Sim), (x.foldl (fun l n => l ++ l.map fun y => y ++ [n]) l).length = l.length * 2 ^ x.length := by
    intro x
    induction x with
    | nil => intro l; simp
    | cons n x ih =>
      intro l
      rw [List.foldl_cons, ih]
      simp only [List.length_append, List.length_map, List.length_cons, Nat.pow_succ]
      rw [← Nat.two_mul, Nat.mul_comm 2, Nat.mul_assoc, Nat.mul_comm (2 ^ x.length) 2]
  have h := this x [[]]
  simpa using h
theorem faces_short_aux : ∀ (x : Sim) (l : List Sim) (k : Nat), (∀ y ∈ l, y.length ≤ k) → ∀ y ∈ x.foldl (fun l n => l ++ l.map fun y => y ++ [n]) l, y.length ≤ k + x.length
  | [], l, k, h, y, hy => h y hy
  | n :: x, l, k, h, y, hy => by
    have := faces_short_aux x (l ++ l.map fun y => y ++ [n]) (k + 1) (by
      intro z hz
      rcases List.mem_append.mp hz with hz | hz
      · have := h z hz
        omega
      · obtain ⟨u, hu, rfl⟩ := List.mem_map.mp hz
        have := h u hu
        simp
        omega) y hy
    rw [List.length_cons]
    omega
theorem faces_short (x y : Sim) (h : y ∈ facesL x) : y.length ≤ x.length := by
  have := faces_short_aux x [[]] 0 (by simp) y h
  omega
def spFaces (K : PySem.W.Frag) : Sp := fun vs H Q _ => ∃ (a : Addr) (x : Sim), vs = [.ref a] ∧ TupAt H a x ∧ x.length ≤ 4 ∧
  ∀ (H' : Hp) (p : Addr) (ps : PS2), Same H H' → H p = none → ListAt H' p ps → sims ps = (facesL x).drop 1 → Q (.ref p) H'
theorem scFaces : FnScope ["simplex", "found", "corner", "face"] ["simplex"] (defScope sFaces) := ⟨rfl, rfl, rfl, by decide +kernel, rfl, by decide +kernel, by decide +kernel⟩
theorem cut1 (xs : List V) : cutV xs (some 1) none = xs.drop 1 := by
  unfold cutV
  rw [show HT.sIx xs.length 0 (some 1) = min 1 xs.length from HT.sIx_nat xs.length 0 1, HT.sIx_none]
  cases xs with
  | nil => rfl
  | cons x r =>
    rw [show min 1 (x :: r).length = 1 by
      rw [List.length_cons]
      omega]
    show (List.take ((x :: r).length - 1) r) = r
    rw [List.length_cons, Nat.add_sub_cancel]
    exact List.take_length
theorem tyes {σ : L2.St} {H : Hp} {f g : Hp → Prop} (h : f H) : tYes σ H fun b H3 => if b = true then f H3 else g H3 := by
  show if true = true then f H else g H
  rw [if_pos rfl]
  exact h
theorem sims_get {ps : PS2} {i : Nat} {p : Addr × Sim} (h : ps[i]? = some p) : (sims ps)[i]? = some p.2 := by
  unfold sims
  rw [List.getElem?_map, h]
  rfl
theorem sims_append (ps qs : PS2) : sims (ps ++ qs) = sims ps ++ sims qs := List.map_append
theorem sims_len (ps : PS2) : (sims ps).length = ps.length := List.length_map _
theorem sims_take (ps : PS2) (i : Nat) : (sims ps).take i = sims (ps.take i) := (List.map_take ..).symm
theorem ok_faces {f : Addr} {fd : FuncData} {k : Nat} (F : Fun K "faces_of" "faces_of" sFaces f fd) : FnOk P w K mg base CX0 (k + 1) f fd ["simplex"] (spFaces K) := by
  refine F.ok scFaces (fun vs H Q E h => ?_) (fun cdv A outer s H vs Q E hr h => ?_)
  · obtain ⟨a, x, rfl, _⟩ := h
    rfl
  · obtain ⟨a, x, rfl, ha, hx, q⟩ := h
    refine ⟨_, pss_cons (ps_set (i := 1) scFaces.nd rfl (.inl rfl) (pe_lst (pa_cons (pe_tup pa_nil) pa_nil)))
      (pss_cons (ps_for PassesOwn.never rfl (pi_tup (pv 0)) (pg_name (i := 2) scFaces.nd rfl (.inr rfl))
        (pss_one (ps_set (i := 1) scFaces.nd rfl (.inl rfl) (pe_op op_cat (pv 1) (pe_lc (own := [("face", 3)]) (g := gName 3) (tt := tYes) rfl scFaces.nd (pi_list (pv 1)) (blkOk_by (own := [("face", 3)]) (N := ["simplex", "found", "corner", "face"]) (sc := defScope sFaces) (by decide +kernel))
          (fun _ _ _ _ _ => pg_name (i := 3) scFaces.nd rfl (Or.inl rfl))
          (fun _ _ _ _ _ => pts_nil)
          (fun _ _ _ _ _ => pe_op (show OpR _ _ (rCatA K) from op_catA) (pv 3) (pe_tup (pa_cons (pv 2) pa_nil))))))))
      (pss_one (ps_ret (pe_slice sl_list (pv 1) (po_some pe_int) po_none)))), ?_⟩
    refine ⟨Nat.zero_le _, fun t nt => ⟨by show 1 ≤ sizeLine; decide, fun o no => ?_⟩⟩
    have st : Same H (upd H t (.tup [])) := same_upd nt
    have so : Same (upd H t (.tup [])) (upd (upd H t (.tup [])) o (.lst [.ref t])) := same_upd no
    have s1 := st.trans so
    refine ⟨_, rfl, a, rfl, ⟨_, (ha.same s1).sq⟩, for_tup (K := K) (a := a) (xs := sv x)
      (fun i σ H' => ∃ l v3 v4 ps, σ = [some (.ref a), some (.ref l), v3, v4] ∧ Same H H' ∧ H l = none ∧ ListAt H' l ps ∧ sims ps = facesL (x.take i))
      ⟨o, none, none, [(t, [])], rfl, s1, st.free no, ⟨upd_same, fun p hp => by
        have : p = (t, []) := by simpa using hp
        subst this
        exact so _ _ upd_same⟩, rfl⟩ (fun i σ H' _ ⟨_, _, _, _, _, e, _⟩ => (ha.same e).sq) ?_ ?_⟩
    · rintro i v σ H' hi ⟨l, v3, v4, ps, rfl, sm, nl, hl, hf⟩
      obtain ⟨n, hn, rfl⟩ := sv_get hi
      have hpl : ps.length = 2 ^ (x.take i).length := by
        rw [← sims_len, hf, facesL_len]
      have hpl2 : ps.length ≤ 16 := by
        rw [hpl, List.length_take]
        exact Nat.pow_le_pow_right (by decide) (Nat.le_trans (Nat.min_le_right _ _) hx)
      have esl := sizeLine_eq
      refine ⟨_, rfl, _, rfl, l, rfl, ⟨_, SqL.of hl.lst⟩, fun D nD => lc_list (K := K) (a := l) (xs := refs ps)
        (fun j H2 => Same H' H2 ∧ ∃ qs, ListAt H2 D qs ∧ sims qs = ((sims ps).take j).map fun y => y ++ [n])
        ⟨same_upd nD, [], ⟨upd_same, fun p hp => by cases hp⟩, rfl⟩ (fun j H2 _ h => SqL.of (hl.same h.1).lst) ?_ ?_⟩
      · rintro j y H2 hj ⟨s2, qs, hq, hqs⟩
        obtain ⟨p, hp, rfl⟩ := refs_get hj
        have hpm := mem_of_get hp
        have tp := (hl.each p hpm).same s2
        have hql : qs.length ≤ 16 := by
          rw [← sims_len, hqs, List.length_map, List.length_take, sims_len]
          omega
        have hpx : p.2.length ≤ 1000 := by
          have : p.2 ∈ facesL (x.take i) := by
            rw [← hf]
            exact List.mem_map.mpr ⟨p, hpm, rfl⟩
          have := faces_short _ _ this
          rw [List.length_take] at this
          omega
        refine ⟨rfl, ?_⟩
        refine tyes ?_
        refine ⟨_, rfl, _, rfl, by show 1 ≤ sizeLine; decide, fun u nu => ?_⟩
        have su : Same H2 (upd H2 u (.tup [.int (n : Int)])) := same_upd nu
        -- what is added to the new list
        have fin : ∀ (H5 : Hp) (e : Addr), Same H2 H5 → TupAt H5 e (p.2 ++ [n]) → ∃ acc, H5 D = some (.lst acc) ∧ acc.length < sizeLine ∧ (Same H' (upd H5 D (.lst (acc ++ [.ref e]))) ∧ ∃ qs, ListAt (upd H5 D (.lst (acc ++ [.ref e]))) D qs ∧ sims qs = ((sims ps).take (j + 1)).map fun y => y ++ [n]) := by
          intro H5 e s5 te
          refine ⟨_, s5 _ _ hq.lst, by rw [refs_len]; omega, fun b ob hb => ?_, qs ++ [(e, p.2 ++ [n])], ⟨?_, ?_⟩, ?_⟩
          · rw [upd_ne (ne_of_none hb nD)]
            exact s5 _ _ (s2 _ _ hb)
          · rw [upd_same]
            unfold refs
            rw [List.map_append]
            rfl
          · intro z hz
            rcases List.mem_append.mp hz with hz | hz
            · have := (hq.each z hz).same s5
              have hzD : z.1 ≠ D := fun e => by
                have q1 := hq.each z hz
                unfold TupAt at q1
                rw [e, hq.lst] at q1
                cases q1
              unfold TupAt
              rw [upd_ne hzD]
              exact this
            · have ez : z = (e, p.2 ++ [n]) := by simpa using hz
              subst ez
              have hzD : e ≠ D := fun e' => by
                have q1 := te
                unfold TupAt at q1
                rw [e', s5 _ _ hq.lst] at q1
                cases q1
              unfold TupAt
              rw [upd_ne hzD]
              exact te
          · rw [sims_append, hqs, take_more (sims_get hp), List.map_append]
            rfl
        refine ⟨p.1, u, sv p.2, [.int (n : Int)], rfl, rfl, (tp.same su).sq, SqT.of upd_same, by rw [sv_len]; simp; omega, fun e0 => ?_, fun _ e => (by cases e), fun e0 _ w nw => ?_⟩
        · have ep : p.2 = [] := by
            match hpe : p.2 with
            | [] => rfl
            | m :: r => rw [hpe] at e0; cases e0
          exact fin _ u su (by
            unfold TupAt
            rw [upd_same, ep]
            rfl)
        · have sw : Same (upd H2 u (.tup [.int (n : Int)])) (upd (upd H2 u (.tup [.int (n : Int)])) w (.tup (sv p.2 ++ [.int (n : Int)]))) := same_upd nw
          exact fin _ w (su.trans sw) (by
            unfold TupAt
            rw [upd_same, sv_append]
            rfl)
      · rintro H2 ⟨s2, qs, hq, hqs⟩
        rw [refs_len, ← sims_len, List.take_length] at hqs
        have hql : qs.length = ps.length := by
          rw [← sims_len, hqs, List.length_map, sims_len]
        refine ⟨l, D, refs ps, refs qs, rfl, rfl, (hl.same s2).lst, hq.lst, by rw [refs_len, refs_len]; omega, fun r nr => ?_⟩
        have sr : Same H2 (upd H2 r (.lst (refs ps ++ refs qs))) := same_upd nr
        refine ⟨r, some (.int (n : Int)), v4, ps ++ qs, rfl, (sm.trans s2).trans sr, (sm.trans s2).free nr, ⟨?_, ?_⟩, ?_⟩
        · rw [upd_same]
          unfold refs
          rw [List.map_append]
        · intro z hz
          rcases List.mem_append.mp hz with hz | hz
          · exact ((hl.each z hz).same s2).same sr
          · exact (hq.each z hz).same sr
        · rw [facesL_more hn, ← hf, ← hqs]
          unfold sims
          rw [List.map_append]
    · rintro σ H' ⟨l, v3, v4, ps, rfl, sm, nl, hl, hf⟩
      rw [sv_len, List.take_length] at hf
      refine ⟨_, rfl, 1, rfl, l, refs ps, rfl, SqL.of hl.lst, fun r nr => ?_⟩
      have sr : Same H' (upd H' r (.lst (cutV (refs ps) (some 1) none))) := same_upd nr
      refine q _ r (ps.drop 1) (sm.trans sr) (sm.free nr) ⟨?_, ?_⟩ ?_
      · rw [upd_same, cut1]
        unfold refs
        rw [List.map_drop]
      · intro z hz
        exact (hl.each z (List.mem_of_mem_drop hz)).same sr
      · rw [← hf]
        exact List.map_drop ..
end
end Sh

set_option maxRecDepth 100000
set_option maxHeartbeats 4000000
namespace Sh
open PySem PySem.Spec PyProof.Rows L2
abbrev sPlace : Stmt := top 24
theorem scPlace : FnScope ["simplex"] ["simplex"] (defScope sPlace) := ⟨rfl, rfl, rfl, by decide +kernel, rfl, by decide +kernel, by decide +kernel⟩
def keyD (x : Sim) : PyData := .tuple [.int (x.length : Int), tD x]
section
variable {P : Program} {w : World} {K : PySem.W.Frag} {mg : Str → Option Value} {base : Heap}
theorem reads_ints {h : Heap} : ∀ {x : Sim} {its : List Value}, Vals (sv x) its → ReadsAll h its (x.map fun (n : Nat) => PyData.int (n : Int)) []
  | [], _, .nil => .nil
  | n :: x, _, .cons r t => by
    obtain ⟨k, rfl⟩ := r
    exact ReadsAll.cons (Reads.int (n : Int) k) (reads_ints t)
theorem key_pure {A : Around} {outer : List Env} {s : Shared} {H : Hp} {f : Addr} {fd : FuncData} {a : Addr} {x : Sim} (F : Fun K "place_in_order" "place_in_order" sPlace f fd) (bf : Binds K fd ["simplex"] []) (ml : mg "len" = none)
    (hr : Room 1 A) (e0 : Env0 P w K mg base A outer s H) (ha : TupAt H a x) (hx : x.length ≤ 1000) :
    wpAny (model P w) A (call (.ref f) [.ref a]) (PySem.W.KeyPure (keyD x) s) (fun _ _ => False) s := by
  obtain ⟨ocl, odi, kwv, docv, pmv, ann, cdv, ctv, slo, rfl, look, coded⟩ := F.ex
  have kept := fun b o e => (e0.bs b o e).1
  have KX := e0.mod.kin.keeps kept
  have lim := e0.mod.nolimit.keeps kept
  have S := scPlace
  have hkind : ∀ y ∈ (["simplex"] : List Str).zip [Value.ref a], (defScope sPlace).names.lookup y.1 = some .local ∨ ((defScope sPlace).names.lookup y.1 = some .cell ∧ ((cellsFrom (s.heap.objs.size + 1) (defScope sPlace).names []).lookup y.1).isSome = true) := by
    intro y hy
    have ey : y = (("simplex" : Str), Value.ref a) := by simpa using hy
    subst ey
    exact .inl rfl
  refine wpAny_call ?_
  refine codeAny_call_function hr.depth (KX _ _ look) rfl S.co S.gen rfl (PySem.W.codeRec_of KX coded) (bf s [.ref a] KX rfl _ _ _ _ ?_)
  refine wpAny_newFunctionEnv_cells S.kind hkind fun env he s1 xc => ?_
  subst he
  refine ⟨lim.keeps xc.toInCall.keep, codeAny_func ?_⟩
  have I1 : Inv (cxOf CX0 P w K mg base ["simplex"] "place_in_order" (defScope sPlace) f cdv A outer s H E0) [] (start ["simplex"] [V.ref a]) H s1 := inv_start S hr.hd e0 rfl (.cons rfl .nil) xc
  refine wpAny_mono (Q := fun fl s' => ∃ u, fl = Flow.ret u ∧ PySem.W.KeyPure (keyD x) s u s') (E := fun _ _ => False) ?_ (fun fl s' ⟨u, e, h⟩ => by subst e; exact h) (fun _ _ h => h.elim)
  -- where the argument is read
  have ld : ∀ (pos : Pos) (E : Value → Shared → Prop) (s2 : Shared) (Q : Value → Shared → Prop), Inv (cxOf CX0 P w K mg base ["simplex"] "place_in_order" (defScope sPlace) f cdv A outer s H E0) [] (start ["simplex"] [V.ref a]) H s2 → Q (.ref a) s2 →
      wpAny (model P w) (cxOf CX0 P w K mg base ["simplex"] "place_in_order" (defScope sPlace) f cdv A outer s H E0).A (eval (.Name "simplex" pos) (cxOf CX0 P w K mg base ["simplex"] "place_in_order" (defScope sPlace) f cdv A outer s H E0).env) Q E s2 := by
    intro pos E s2 Q I2 hq
    obtain ⟨m, hn, hl⟩ := I2.loc
    obtain ⟨u, r, l⟩ := hl 0 "simplex" (.ref a) rfl rfl (.inl rfl)
    obtain rfl : u = Value.ref a := r
    rcases l with ⟨loc, val⟩ | ⟨other, _⟩
    · exact wpAny_Name (wpAny_loadName_local I2.ok.kind loc hn val hq) (by decide)
    · rcases other with k | k <;> cases k
  show wpAny (model P w) (cxOf CX0 P w K mg base ["simplex"] "place_in_order" (defScope sPlace) f cdv A outer s H E0).A (execs [.Return (some (.Tuple [.Call (.Name "len" _) [.Name "simplex" _] [] _, .Name "simplex" _] _ _)) _] (cxOf CX0 P w K mg base ["simplex"] "place_in_order" (defScope sPlace) f cdv A outer s H E0).env) _ _ s1
  refine wpAny_execs_cons (wpAny_Return_some (wpAny_Tuple_spliced ?_))
  refine Calls.spliced_cons ?_
  refine wpAny_Call_Name_kw (ld_blt I1 (by rfl) ml PySem.boot_len ?_)
  refine PyProof.Rows.callWith_builtin1 (Calls.spliced_cons (ld _ _ _ _ I1 (Calls.spliced_nil ?_))) rfl rfl
  obtain ⟨its, r, pl, hz⟩ := I1.tuple (TupAt.sq (K := K) ha)
  have hlen : its.length = x.length := by rw [← r.length, sv_len]
  refine len_tuple pl (by rw [List.size_toArray, hlen]; omega) ?_
  have I2 := I1.tok (s1.toks + 1 + 1)
  refine Calls.spliced_cons (ld _ _ _ _ I2 (Calls.spliced_nil ⟨by show 2 ≤ sizeLine; decide, ?_⟩))
  refine ⟨_, rfl, ?_⟩
  obtain ⟨h1, tk1, e1⟩ := xc.toInCall.same
  have hgood : its.toArray.size = x.length := by rw [List.size_toArray, hlen]
  rw [hgood]
  refine ⟨s1.heap.push { cls := .type "tuple", data := .seq #[.int (x.length : Int) (s1.toks + 1), .ref a] }, s1.toks + 1 + 1, ?_, fun b o e => Heap.get?_push_of_some _ (xc.toInCall.keep b o e), ?_⟩
  · rw [e1]
  · obtain ⟨o, ho, hc, n, hd⟩ := pl
    have rt : Reads (s1.heap.push { cls := .type "tuple", data := .seq #[.int (x.length : Int) (s1.toks + 1), .ref a] }) (.ref a) (tD x) [] :=
      .tuple (Heap.get?_push_of_some _ ho) hc hd (reads_ints r)
    have := Reads.tuple (h := s1.heap.push { cls := .type "tuple", data := .seq #[.int (x.length : Int) (s1.toks + 1), .ref a] }) (Heap.get?_push_size _ rfl) rfl rfl (ReadsAll.cons (Reads.int (x.length : Int) (s1.toks + 1)) (ReadsAll.cons rt ReadsAll.nil))
    exact this
end
end Sh

set_option maxRecDepth 100000
set_option maxHeartbeats 400000
namespace Sh
open PySem PySem.Spec PyProof.Rows L2

/-! ### the order -/
theorem lexLess_toks : ∀ (x y : Sim) (t : List (Int ⊕ List Nat)), x.length = y.length →
    PyProof.Rows.lexLt itemOrd (PySem.W.keyToksAll (x.map fun (n : Nat) => PyData.int (n : Int)) ++ t) (PySem.W.keyToksAll (y.map fun (n : Nat) => PyData.int (n : Int)) ++ t) = HoBase.lexLess x y
  | [], [], t, _ => by
    rw [lex_irrefl]
    rfl
  | a :: x, b :: y, t, h => by
    have ih := lexLess_toks x y t (by simpa using h)
    simp only [List.map_cons, PySem.W.keyToksAll, PySem.W.keyToks, List.cons_append, List.nil_append]
    rw [lex_self]
    by_cases e : a = b
    · subst e
      rw [lex_self, ih]
      simp [HoBase.lexLess]
    · rw [lex_diff (O := itemOrd) (fun q => e (by
        have := Sum.inl.inj q
        omega))]
      show decide ((a : Int) < (b : Int)) = _
      simp only [HoBase.lexLess]
      have h2 : (a == b) = false := beq_eq_false_iff_ne.mpr e
      rw [h2, Bool.false_and, Bool.or_false]
      by_cases hl : a < b
      · rw [decide_eq_true hl, decide_eq_true (by omega)]
      · rw [decide_eq_false hl, decide_eq_false (by omega)]
theorem keyLt (x y : Sim) : PySem.W.dataLt (keyD x) (keyD y) = HoBase.before x y := by
  unfold keyD
  rw [PySem.W.dataLt_tuple]
  unfold tD
  simp only [PySem.W.keyToksAll, PySem.W.keyToks, List.cons_append, List.nil_append]
  rw [lex_self]
  unfold HoBase.before
  by_cases e : x.length = y.length
  · rw [e, lex_self, lex_self, lexLess_toks x y _ e]
    simp
  · rw [lex_diff (O := itemOrd) (fun q => e (by
      have := Sum.inl.inj q
      omega))]
    show decide ((x.length : Int) < (y.length : Int)) = _
    have h2 : (x.length == y.length) = false := beq_eq_false_iff_ne.mpr e
    rw [h2, Bool.false_and, Bool.or_false]
    by_cases hl : x.length < y.length
    · rw [decide_eq_true hl, decide_eq_true (by omega)]
    · rw [decide_eq_false hl, decide_eq_false (by omega)]
theorem dataLe_place (p q : Addr × Sim) : PySem.W.dataLe false (fun p : Addr × Sim => keyD p.2) p q = !HoBase.before q.2 p.2 := by
  show (!PySem.W.dataLt (keyD q.2) (keyD p.2)) = _
  rw [keyLt]

/-! ### sorted(xs, key=place_in_order) -/
def sortP (ps : PS2) : PS2 := ps.mergeSort (PySem.W.dataLe false fun p : Addr × Sim => keyD p.2)
theorem sortP_perm (ps : PS2) : (sortP ps).Perm ps := List.mergeSort_perm _ _
theorem sortP_order (ps : PS2) : (sortP ps).Pairwise fun p q => HoBase.before q.2 p.2 = false := by
  have h := PySem.W.sort_pairwise (le := PySem.W.dataLe false fun p : Addr × Sim => keyD p.2) (PySem.W.sortLe_total _ _ _) ps
  refine List.Pairwise.imp (fun {p q} hpq => ?_) h
  rw [dataLe_place] at hpq
  simpa using hpq
section
variable {X : Cx}
def rSortedPlace (K : PySem.W.Frag) (f : Addr) : List V → List V → Hp → VK → Prop := fun vs zs H Q => ∃ (l : Addr) (ps : PS2), vs = [V.ref l] ∧ zs = [V.ref f] ∧ SqL K H l (refs ps) ∧ AllAt H ps ∧ ps.length ≤ 100000 ∧ (∀ p ∈ ps, p.2.length ≤ 1000) ∧
  ∀ p, H p = none → Q (.ref p) (upd H p (.lst (refs (sortP ps))))
theorem vals_refs : ∀ {ps : PS2} {us : List Value}, Vals (refs ps) us → PySem.W.EachIs (fun v (p : Addr × Sim) => v = .ref p.1) us ps
  | [], _, .nil => .nil
  | p :: ps, _, .cons r t => .cons r (vals_refs t)
theorem refs_vals : ∀ {ps : PS2} {us : List Value}, PySem.W.EachIs (fun v (p : Addr × Sim) => v = .ref p.1) us ps → Vals (refs ps) us
  | _, _, .nil => .nil
  | _, _, .cons r t => .cons r (refs_vals t)
theorem alike_ints : ∀ x y : Sim, PySem.W.alikeAll (x.map fun (n : Nat) => PyData.int (n : Int)) (y.map fun (n : Nat) => PyData.int (n : Int)) = true
  | [], _ => by simp [PySem.W.alikeAll]
  | _ :: _, [] => by simp [PySem.W.alikeAll]
  | a :: x, b :: y => by
    have := alike_ints x y
    simp [PySem.W.alikeAll, PySem.W.alike, this]
theorem keyD_alike (x y : Sim) : PySem.W.alike (keyD x) (keyD y) = true := by
  unfold keyD tD
  simp [PySem.W.alike, PySem.W.alikeAll, alike_ints]
theorem keyD_depth (x : Sim) : (keyD x).depth = 2 := by
  unfold keyD
  simp only [PyData.depth, PyData.depthAll, tD_depth]
  rfl
theorem cr_sortedPlace {f : Addr} {fd : FuncData} (F : Fun X.K "place_in_order" "place_in_order" sPlace f fd) (bf : Binds X.K fd ["simplex"] []) (ml : X.mg "len" = none) (hr : Room 3 X.A) :
    CallRK X (.builtin "sorted") [Str.ofString "key"] (rSortedPlace X.K f) := by
  intro pn st sl Hp0 vs zs us ws W Iv hv hz want
  obtain ⟨l, ps, rfl, rfl, hl, hall, hps, hzs, fin⟩ := want
  obtain rfl := Vals.ref1 hv
  obtain ⟨kv, rfl, ek⟩ := vals1 hz
  obtain rfl : kv = Value.ref f := ek
  obtain ⟨its, rv, hli, hz2⟩ := Iv.list hl
  have hsl := sizeLine_eq
  have each := vals_refs rv
  show wpAny (model X.prog X.w) X.A (call (.builtin "sorted") [.ref l] [(Str.ofString "key", .ref f)]) (EP X pn sl W) X.xe st
  refine PySem.W.sorted_key_data (β := Addr × Sim) (R := fun v p => v = .ref p.1) (bs := ps) (f := .ref f) (kw := [(Str.ofString "key", .ref f)]) (b := false) (fun p => keyD p.2) hli.isList each ?_ ?_ (by omega) (fun p _ => ?_) (PyProof.Rows.ksk_s1 _ _) (fun _ => PyProof.Rows.ksk_l1 _ _) (fun x => PyProof.Rows.ksk_t1 f x) ?_ ?_
  · intro d hd d' hd'
    obtain ⟨p, _, rfl⟩ := List.mem_map.mp hd
    obtain ⟨p', _, rfl⟩ := List.mem_map.mp hd'
    exact keyD_alike _ _
  · left
    intro d hd
    obtain ⟨p, _, rfl⟩ := List.mem_map.mp hd
    exact ⟨_, _, rfl⟩
  · show X.A.units + 2 + (keyD p.2).depth < cLine
    rw [keyD_depth]
    have := hr.un
    omega
  · intro v p hv hp h tk keep
    subst hv
    have I' : Inv X pn sl Hp0 { st with heap := h, toks := tk } := Iv.kept keep
    exact key_pure (A := X.A.in1.in1) (outer := X.stack) F bf ml (hr.in1.in1) I'.env0.in1.in1 (hall p hp) (hzs p hp)
  · intro out c h' tk keep fresh hD hlen heach
    have hv := refs_vals heach
    have hol : (refs (sortP ps)).length ≤ sizeLine := by
      rw [refs_len, (sortP_perm ps).length_eq]
      omega
    exact ⟨.ref (st.heap.objs.size + 1), upd Hp0 (st.heap.objs.size + 1) (.lst (refs (sortP ps))), Iv.laid (t' := tk) keep (Nat.le_succ _) ⟨hol, out, c, hv, hD⟩, rfl, fin _ (Iv.hok.fresh (Nat.le_succ _))⟩
end
end Sh

set_option maxRecDepth 100000
set_option maxHeartbeats 400000
namespace Sh
open PySem PySem.Spec PyProof.Rows L2

/-! ### a dict of simplices -/
def kk (x : Sim) : List L2.Key := x.map fun (n : Nat) => Sum.inl (n : Int)
theorem kk_sv (x : Sim) : (kk x).map kV = sv x := by
  unfold kk sv
  rw [List.map_map]
  rfl
theorem kk_inj {x y : Sim} (h : kk x = kk y) : x = y := by
  unfold kk at h
  refine List.map_inj_right ?_ |>.mp h
  intro a b e
  have := Sum.inl.inj e
  omega
def dictOf (ks : List Sim) : List (List L2.Key × V) := ks.map fun x => (kk x, V.bl true)
def addKey (ks : List Sim) (x : Sim) : List Sim := if ks.contains x then ks else ks ++ [x]
theorem put_dict (ks : List Sim) (x : Sim) : putK (dictOf ks) (kk x) (.bl true) = dictOf (addKey ks x) := by
  unfold putK addKey
  have h : ((dictOf ks).any fun kv => decide (kv.1 = kk x)) = ks.contains x := by
    unfold dictOf
    rw [List.any_map, List.contains_eq_any_beq]
    congr 1
    funext y
    show decide (kk y = kk x) = (x == y)
    by_cases e : y = x
    · subst e
      simp
    · rw [decide_eq_false (fun q => e (kk_inj q))]
      exact (beq_eq_false_iff_ne.mpr (fun q => e q.symm)).symm
  rw [h]
  by_cases c : ks.contains x = true
  · rw [if_pos c, if_pos c]
    unfold dictOf
    rw [List.map_map]
    apply List.map_congr_left
    intro y _
    show (if kk y = kk x then (kk y, V.bl true) else (kk y, V.bl true)) = _
    split <;> rfl
  · rw [if_neg c, if_neg c]
    unfold dictOf
    rw [List.map_append]
    rfl
theorem addKey_len (ks : List Sim) (x : Sim) : (addKey ks x).length ≤ ks.length + 1 := by
  unfold addKey
  split
  · omega
  · simp
theorem addKey_mem {ks : List Sim} {x y : Sim} : y ∈ addKey ks x ↔ y ∈ ks ∨ y = x := by
  unfold addKey
  split
  · rename_i h
    have h : x ∈ ks := by simpa using h
    constructor
    · exact .inl
    · rintro (h' | rfl)
      · exact h'
      · exact h
  · simp
theorem addKey_nodup {ks : List Sim} {x : Sim} (h : ks.Nodup) : (addKey ks x).Nodup := by
  unfold addKey
  split
  · exact h
  · rename_i hc
    have hc : x ∉ ks := by simpa using hc
    refine List.nodup_append.mpr ⟨h, by simp, ?_⟩
    intro a ha b hb e
    have : b = x := by simpa using hb
    subst this
    subst e
    exact hc ha
def keysOf (l : List Sim) : List Sim := l.foldl addKey []
theorem keysOf_more (l : List Sim) (x : Sim) : keysOf (l ++ [x]) = addKey (keysOf l) x := by
  unfold keysOf
  rw [List.foldl_append]
  rfl
theorem fold_mem : ∀ (l ks : List Sim) (y : Sim), y ∈ l.foldl addKey ks ↔ y ∈ l ∨ y ∈ ks
  | [], ks, y => by simp
  | x :: l, ks, y => by
    rw [List.foldl_cons, fold_mem l, addKey_mem, List.mem_cons]
    constructor
    · rintro (h | h | h)
      · exact .inl (.inr h)
      · exact .inr h
      · exact .inl (.inl h)
    · rintro ((h | h) | h)
      · exact .inr (.inr h)
      · exact .inl h
      · exact .inr (.inl h)
theorem keysOf_mem {l : List Sim} {y : Sim} : y ∈ keysOf l ↔ y ∈ l := by
  unfold keysOf
  rw [fold_mem]
  simp
theorem fold_nodup : ∀ (l ks : List Sim), ks.Nodup → (l.foldl addKey ks).Nodup
  | [], _, h => h
  | x :: l, ks, h => fold_nodup l _ (addKey_nodup h)
theorem keysOf_nodup (l : List Sim) : (keysOf l).Nodup := fold_nodup l [] List.nodup_nil
theorem fold_len : ∀ (l ks : List Sim), (l.foldl addKey ks).length ≤ ks.length + l.length
  | [], ks => by simp
  | x :: l, ks => by
    have := fold_len l (addKey ks x)
    have := addKey_len ks x
    rw [List.foldl_cons, List.length_cons]
    omega
theorem keysOf_len (l : List Sim) : (keysOf l).length ≤ l.length := by
  have := fold_len l []
  unfold keysOf
  simpa using this
def facesAll (ps : PS2) : List Sim := ps.flatMap fun p => (facesL p.2).drop 1
theorem facesAll_more {ps : PS2} {i : Nat} {p : Addr × Sim} (h : ps[i]? = some p) : facesAll (ps.take (i + 1)) = facesAll (ps.take i) ++ (facesL p.2).drop 1 := by
  unfold facesAll
  rw [take_more h, List.flatMap_append]
  simp
theorem faces_len {x : Sim} (h : x.length ≤ 4) : ((facesL x).drop 1).length ≤ 15 := by
  rw [List.length_drop, facesL_len]
  have : 2 ^ x.length ≤ 2 ^ 4 := Nat.pow_le_pow_right (by decide) h
  omega
theorem facesAll_len : ∀ {ps : PS2}, (∀ p ∈ ps, p.2.length ≤ 4) → (facesAll ps).length ≤ 15 * ps.length
  | [], _ => by simp [facesAll]
  | p :: ps, h => by
    have ih := facesAll_len (ps := ps) fun q hq => h q (List.mem_cons_of_mem _ hq)
    have := faces_len (h p (List.mem_cons_self ..))
    unfold facesAll at ih ⊢
    rw [List.flatMap_cons, List.length_append, List.length_cons]
    omega
theorem keys_zip {H : Hp} : ∀ {ks : List Sim} {bs : List Addr}, IsKeys H (dictOf ks) bs → refs (bs.zip ks) = bs.map V.ref ∧ sims (bs.zip ks) = ks ∧ AllAt H (bs.zip ks)
  | [], _, .nil => ⟨rfl, rfl, fun p hp => by cases hp⟩
  | x :: ks, b :: bs, .cons r t => by
    obtain ⟨h1, h2, h3⟩ := keys_zip (ks := ks) (bs := bs) t
    refine ⟨?_, ?_, ?_⟩
    · show V.ref b :: refs (bs.zip ks) = V.ref b :: bs.map V.ref
      rw [h1]
    · show x :: sims (bs.zip ks) = x :: ks
      rw [h2]
    · intro p hp
      rcases List.mem_cons.mp hp with rfl | hp
      · have r' : H b = some (.tup ((kk x).map kV)) := r
        unfold TupAt
        rw [r', kk_sv]
      · exact h3 p hp

section
variable {P : Program} {w : World} {K : PySem.W.Frag} {mg : Str → Option Value} {base : Heap}
/-! ### with_all_faces -/
abbrev sWith : Stmt := top 26
/-- sorted, without doubles, all faces -/
structure AllFaces (xs ys : List Sim) : Prop where
  order : ys.Pairwise fun a b => HoBase.before b a = false
  nd : ys.Nodup
  mem : ∀ y, y ∈ ys ↔ ∃ x ∈ xs, y ∈ (facesL x).drop 1
def spWith (K : PySem.W.Frag) : Sp := fun vs H Q _ => ∃ (l : Addr) (ps : PS2), vs = [.ref l] ∧ ListAt H l ps ∧ ps.length ≤ 100 ∧ (∀ p ∈ ps, p.2.length ≤ 4) ∧
  ∀ (H' : Hp) (p : Addr) (qs : PS2), Same H H' → H p = none → ListAt H' p qs → AllFaces (sims ps) (sims qs) → Q (.ref p) H'
theorem scWith : FnScope ["simplices", "present", "simplex", "face"] ["simplices"] (defScope sWith) := ⟨rfl, rfl, rfl, by decide +kernel, rfl, by decide +kernel, by decide +kernel⟩
theorem ok_with {f f1 f2 : Addr} {fd fd1 fd2 : FuncData} {k : Nat} (F : Fun K "with_all_faces" "with_all_faces" sWith f fd) (ml : mg "len" = none) (mli : mg "list" = none) (mso : mg "sorted" = none)
    (G : FnOk P w K mg base CX0 (k + 3) f1 fd1 ["simplex"] (spFaces K)) (mf : mg "faces_of" = some (.ref f1)) (kf : PySem.W.keepIn K (.ref f1) = true) (bf : Binds K fd1 ["simplex"] [])
    (F2 : Fun K "place_in_order" "place_in_order" sPlace f2 fd2) (mf2 : mg "place_in_order" = some (.ref f2)) (bf2 : Binds K fd2 ["simplex"] []) :
    FnOk P w K mg base CX0 (k + 4) f fd ["simplices"] (spWith K) := by
  refine F.ok scWith (fun vs H Q E h => ?_) (fun cdv A outer s H vs Q E hr h => ?_)
  · obtain ⟨l, ps, rfl, _⟩ := h
    rfl
  · obtain ⟨l, ps, rfl, hl, hz, hzs, q⟩ := h
    have hu := hu_of hr
    have hr3 : Room 3 (A.deeper (envOfC "with_all_faces" (defScope sWith) s.heap.objs.size f cdv)) := hr.mono (by omega)
    refine ⟨_, pss_cons (ps_set (i := 1) scWith.nd rfl (.inl rfl) pe_dnewT)
      (pss_cons (ps_for PassesOwn.never rfl (pi_list (pv 0)) (pg_name (i := 2) scWith.nd rfl (.inl rfl))
        (pss_one (ps_for PassesOwn.never rfl (pi_list (pe_call G hr rfl mf kf bf .nil pass0 (pa_cons (pv 2) pa_nil))) (pg_name (i := 3) scWith.nd rfl (.inl rfl))
          (pss_one (ps_dput hu (pv 1) (pv 3) pe_bl rfl)))))
      (pss_one (ps_ret (pe_callBK (cr_sortedPlace F2 bf2 ml hr3) (by rfl) mso (by decide +kernel) (pa_cons (pe_callTy (call_list_dT rfl) (by rfl) mli (by decide +kernel) (pa_cons (pv 1) pa_nil)) pa_nil) (pk_cons (pe_glob (v := .ref f2) rfl mf2 rfl) pk_nil))))), ?_⟩
    intro d nd
    have s1 : Same H (upd H d (.dT [])) := same_upd nd
    have esl := sizeLine_eq
    have hd0 : ∀ {H' : Hp}, Same H H' → ∀ b o, H b = some o → b ≠ d := fun _ b o hb => ne_of_none hb nd
    refine ⟨_, rfl, l, rfl, ⟨_, SqL.of (hl.same s1).lst⟩, for_list (K := K) (a := l) (xs := refs ps)
      (fun i σ H' => ∃ v3 v4, σ = [some (.ref l), some (.ref d), v3, v4] ∧ Same H H' ∧ H' d = some (.dT (dictOf (keysOf (facesAll (ps.take i))))))
      ⟨none, none, rfl, s1, upd_same⟩ (fun i σ H' _ ⟨_, _, _, e, _⟩ => SqL.of (hl.same e).lst) ?_ ?_⟩
    · rintro i v σ H' hi ⟨v3, v4, rfl, sm, hd⟩
      obtain ⟨p, hp, rfl⟩ := refs_get hi
      have hpm := mem_of_get hp
      refine ⟨_, rfl, p.1, p.2, rfl, (hl.each p hpm).same sm, hzs p hpm, fun H2 r fs s2 nr hfl hfs => ?_⟩
      have hfl15 : fs.length ≤ 15 := by
        rw [← sims_len, hfs]
        exact faces_len (hzs p hpm)
      have hrd : r ≠ d := fun e => by
        rw [e, hd] at nr
        cases nr
      refine ⟨r, rfl, ⟨_, SqL.of hfl.lst⟩, for_list (K := K) (a := r) (xs := refs fs)
        (fun j σ H3 => ∃ v4, σ = [some (.ref l), some (.ref d), some (.ref p.1), v4] ∧ Same H H3 ∧ ListAt H3 r fs ∧ H3 d = some (.dT (dictOf (keysOf (facesAll (ps.take i) ++ (sims fs).take j)))))
        ⟨v4, rfl, sm.trans s2, hfl, by rw [List.take_zero, List.append_nil]; exact s2 _ _ hd⟩ (fun j σ H3 _ ⟨_, _, _, e, _⟩ => SqL.of e.lst) ?_ ?_⟩
      · rintro j v σ H3 hj ⟨v4', rfl, sm3, hl3, hd3⟩
        obtain ⟨u, hu1, rfl⟩ := refs_get hj
        have hum := mem_of_get hu1
        have htu := hl3.each u hum
        have hlen : (dictOf (keysOf (facesAll (ps.take i) ++ (sims fs).take j))).length < sizeLine := by
          have h1 := keysOf_len (facesAll (ps.take i) ++ (sims fs).take j)
          have h2 : (facesAll (ps.take i)).length ≤ 15 * (ps.take i).length := facesAll_len fun q hq => hzs q (List.mem_of_mem_take hq)
          have h3 : (ps.take i).length ≤ ps.length := by
            rw [List.length_take]
            omega
          have h4 : ((sims fs).take j).length ≤ fs.length := by
            rw [List.length_take, sims_len]
            omega
          unfold dictOf
          rw [List.length_map]
          rw [List.length_append] at h1
          omega
        refine ⟨_, rfl, _, rfl, d, _, rfl, DPut.t (k := kk u.2) hd3 (by rw [kk_sv]; exact htu) hlen, ?_⟩
        have hne : ∀ b y, TupAt H3 b y → b ≠ d := fun b y hb e => by
          unfold TupAt at hb
          rw [e, hd3] at hb
          cases hb
        refine ⟨some (.ref u.1), rfl, fun b o hb => ?_, ⟨?_, fun z hz => ?_⟩, ?_⟩
        · rw [upd_ne (ne_of_none hb nd)]
          exact sm3 _ _ hb
        · rw [upd_ne hrd]
          exact hl3.lst
        · unfold TupAt
          rw [upd_ne (hne _ _ (hl3.each z hz))]
          exact hl3.each z hz
        · rw [upd_same, put_dict, take_more (sims_get hu1), ← List.append_assoc, keysOf_more]
      · rintro σ H3 ⟨v4', rfl, sm3, hl3, hd3⟩
        rw [refs_len, ← sims_len, List.take_length, hfs, ← facesAll_more hp] at hd3
        exact ⟨_, _, rfl, sm3, hd3⟩
    · rintro σ H' ⟨v3, v4, rfl, sm, hd⟩
      rw [refs_len, List.take_length] at hd
      refine ⟨_, rfl, d, _, rfl, .inl hd, fun r bs nr hbs => ?_⟩
      obtain ⟨z1, z2, z3⟩ := keys_zip hbs
      have sr : Same H' (upd H' r (.lst (bs.map V.ref))) := same_upd nr
      have hshort : ∀ p ∈ bs.zip (keysOf (facesAll ps)), p.2.length ≤ 1000 := by
        intro p hp
        have hm : p.2 ∈ keysOf (facesAll ps) := by
          rw [← z2]
          exact List.mem_map.mpr ⟨p, hp, rfl⟩
        have hm2 := keysOf_mem.mp hm
        unfold facesAll at hm2
        obtain ⟨x, hx, hxf⟩ := List.mem_flatMap.mp hm2
        have h1 := faces_short x.2 p.2 (List.mem_of_mem_drop hxf)
        have h2 := hzs x hx
        omega
      have hlen2 : (bs.zip (keysOf (facesAll ps))).length ≤ 100000 := by
        rw [← sims_len, z2]
        have h1 := keysOf_len (facesAll ps)
        have h2 := facesAll_len hzs
        omega
      refine ⟨r, bs.zip (keysOf (facesAll ps)), rfl, rfl, SqL.of (by rw [upd_same, z1]), z3.same sr, hlen2, hshort, fun o no => ?_⟩
      have so := same_upd (o := HO.lst (refs (sortP (bs.zip (keysOf (facesAll ps)))))) no
      refine q _ o (sortP (bs.zip (keysOf (facesAll ps)))) ((sm.trans sr).trans so) ((sm.trans sr).free no) ⟨upd_same, fun z hz => ?_⟩ ⟨?_, ?_, fun y => ?_⟩
      · exact ((z3 z ((sortP_perm _).mem_iff.mp hz)).same sr).same so
      · have := sortP_order (bs.zip (keysOf (facesAll ps)))
        unfold sims
        rw [List.pairwise_map]
        exact this
      · have h1 : (sims (sortP (bs.zip (keysOf (facesAll ps))))).Perm (sims (bs.zip (keysOf (facesAll ps)))) := (sortP_perm _).map _
        rw [h1.nodup_iff, z2]
        exact keysOf_nodup _
      · have h1 : (sims (sortP (bs.zip (keysOf (facesAll ps))))).Perm (sims (bs.zip (keysOf (facesAll ps)))) := (sortP_perm _).map _
        rw [h1.mem_iff, z2, keysOf_mem]
        unfold facesAll
        rw [List.mem_flatMap]
        constructor
        · rintro ⟨p, hp, hy⟩
          exact ⟨p.2, List.mem_map.mpr ⟨p, hp, rfl⟩, hy⟩
        · rintro ⟨x, hx, hy⟩
          obtain ⟨p, hp, rfl⟩ := List.mem_map.mp hx
          exact ⟨p, hp, hy⟩
end
end Sh

set_option maxRecDepth 100000
set_option maxHeartbeats 400000
namespace Sh
open PySem PySem.Spec PyProof.Rows L2
/-! ### objects -/
theorem lk_here {k : Str} {v : V} {r : List (Str × V)} : List.lookup k ((k, v) :: r) = some v := by
  have e : (k == k) = true := beq_self_eq_true k
  simp only [List.lookup, e]
theorem lk_past {k g : Str} {v : V} {r : List (Str × V)} (h : (k == g) = false) : List.lookup k ((g, v) :: r) = List.lookup k r := by
  simp only [List.lookup, h]
theorem put_here {f : Str} {v x : V} {r : List (Str × V)} : putF f v ((f, x) :: r) = (f, v) :: r := if_pos rfl
theorem put_past {f g : Str} {v x : V} {r : List (Str × V)} (h : ¬ g = f) : putF f v ((g, x) :: r) = (g, x) :: putF f v r := if_neg h
/-- all but the object at o is as it was -/
def KeepsBut (o : Addr) (H H' : Hp) : Prop := ∀ b ob, H b = some ob → b ≠ o → H' b = some ob
theorem KeepsBut.trans {o : Addr} {H H1 H2 : Hp} (a : KeepsBut o H H1) (b : KeepsBut o H1 H2) : KeepsBut o H H2 := fun c ob h n => b c ob (a c ob h n) n
theorem KeepsBut.of_same {o : Addr} {H H1 : Hp} (a : Same H H1) : KeepsBut o H H1 := fun c ob h _ => a c ob h
theorem KeepsBut.sql {K : PySem.W.Frag} {o a C dx : Addr} {fs : List (Str × V)} {H H' : Hp} {xs : List V} (k : KeepsBut o H H') (h : SqL K H a xs) (ho : H o = some (.ins C dx fs)) : SqL K H' a xs := by
  rcases h with (h | ⟨ob, h⟩) | h
  · exact .inl (.inl (k _ _ h (ne_of h ho (by intro z; cases z))))
  · exact .inl (.inr ⟨ob, k _ _ h (ne_of h ho (by intro z; cases z))⟩)
  · exact .inr h
theorem KeepsBut.free {o : Addr} {H H' : Hp} {C dx : Addr} {fs : List (Str × V)} (k : KeepsBut o H H') (ho : H' o = some (.ins C dx fs)) {p : Addr} (h : H' p = none) : H p = none := by
  cases q : H p with
  | none => rfl
  | some ob =>
    by_cases e : p = o
    · rw [e, ho] at h
      cases h
    · rw [k p ob q e] at h
      cases h
def rF (a : Addr) (n : Nat) : List (Str × V) := [("calls", .ref a), ("place", .int (n : Int))]
theorem rF_calls (a : Addr) (n : Nat) : (rF a n).lookup ("calls" : Str) = some (.ref a) := lk_here
theorem rF_place (a : Addr) (n : Nat) : (rF a n).lookup ("place" : Str) = some (.int (n : Int)) := (lk_past (by decide +kernel)).trans lk_here
theorem rF_not (a : Addr) (n : Nat) {m : Str} (h1 : (m == ("calls" : Str)) = false) (h2 : (m == ("place" : Str)) = false) : (rF a n).lookup m = none := (lk_past h1).trans ((lk_past h2).trans rfl)
theorem rF_put (a : Addr) (n m : Nat) : putF "place" (.int (m : Int)) (rF a n) = rF a m := (put_past (by decide +kernel)).trans (congrArg _ put_here)
def RdAt (C : Addr) (H : Hp) (o a : Addr) (n : Nat) : Prop := ∃ dx, H o = some (.ins C dx (rF a n))
structure RdTxt (K : PySem.W.Frag) (C : Addr) : Prop where
  cl : Cls K C
  nC : NoAttr K C "calls"
  nP : NoAttr K C "place"
section
variable {P : Program} {w : World} {K : PySem.W.Frag} {mg : Str → Option Value} {base : Heap} {C : Addr}
abbrev sRInit : Stmt := inClass (top 47) 0
abbrev sAtEnd : Stmt := inClass (top 47) 1
abbrev sTakeN : Stmt := inClass (top 47) 2
abbrev sTakeNs : Stmt := inClass (top 47) 3
abbrev sTakeL : Stmt := inClass (top 47) 4

def spRInit (C : Addr) : Sp := fun vs H Q _ => ∃ (p dx a : Addr), vs = [.ref p, .ref a] ∧ H p = some (.ins C dx []) ∧
  ∀ H' : Hp, RdAt C H' p a 0 → KeepsBut p H H' → Q .non H'
theorem scRInit : FnScope ["self", "calls"] ["self", "calls"] (defScope sRInit) := ⟨rfl, rfl, rfl, by decide +kernel, rfl, by decide +kernel, by decide +kernel⟩
theorem ok_rinit {f : Addr} {fd : FuncData} {k : Nat} (F : Fun K "__init__" "Reader.__init__" sRInit f fd) (T : RdTxt K C) : FnOk P w K mg base CX0 (k + 1) f fd ["self", "calls"] (spRInit C) := by
  refine F.ok scRInit (fun vs H Q E h => ?_) (fun cdv A outer s H vs Q E hr h => ?_)
  · obtain ⟨p, dx, a, rfl, _⟩ := h
    rfl
  · obtain ⟨p, dx, a, rfl, hp, q⟩ := h
    refine ⟨_, pss_cons (ps_fld (pv 0) (pv 1) rfl) (pss_one (ps_fld (pv 0) pe_int rfl)), ?_⟩
    refine ⟨_, rfl, _, rfl, p, C, dx, [], rfl, hp, T.cl, T.nC, (by show 0 < 1000; decide), ?_⟩
    refine ⟨_, rfl, p, C, dx, _, rfl, upd_same, T.cl, T.nP, (by show 1 < 1000; decide), ?_⟩
    refine q _ ⟨dx, Eq.trans upd_same ?_⟩ fun b ob e hb => ?_
    · have : putF "place" (.int 0) (putF "calls" (.ref a) []) = rF a 0 := (put_past (by decide +kernel)).trans rfl
      rw [this]
    · rw [upd_ne hb, upd_ne hb]
      exact e

def spAtEnd (K : PySem.W.Frag) (C : Addr) : Sp := fun vs H Q _ => ∃ (o a : Addr) (n : Nat) (l : List Int), vs = [.ref o] ∧ RdAt C H o a n ∧ SqL K H a (l.map V.int) ∧ Q (.bl (decide (l.length ≤ n))) H
theorem scAtEnd : FnScope ["self"] ["self"] (defScope sAtEnd) := ⟨rfl, rfl, rfl, by decide +kernel, rfl, by decide +kernel, by decide +kernel⟩
theorem ok_atEnd {f : Addr} {fd : FuncData} {k : Nat} (F : Fun K "at_end" "Reader.at_end" sAtEnd f fd) (T : RdTxt K C) (ml : mg "len" = none) : FnOk P w K mg base CX0 (k + 1) f fd ["self"] (spAtEnd K C) := by
  refine F.ok scAtEnd (fun vs H Q E h => ?_) (fun cdv A outer s H vs Q E hr h => ?_)
  · obtain ⟨o, a, n, l, rfl, _⟩ := h
    rfl
  · obtain ⟨o, a, n, l, rfl, ⟨dx, ho⟩, ha, q⟩ := h
    refine ⟨_, pss_one (ps_ret (pe_cmpR op_ge (pe_fld (pv 0) rfl) (pe_callB call_len_seq (by rfl) ml PySem.boot_len (pa_cons (pe_fld (pv 0) rfl) pa_nil)) (nomark _))), ?_⟩
    refine ⟨_, rfl, o, C, dx, _, _, rfl, ho, T.cl, T.nP, rF_place a n, _, rfl, o, C, dx, _, _, rfl, ho, T.cl, T.nC, rF_calls a n, a, _, rfl, .inl ha, ?_⟩
    refine ⟨_, _, rfl, rfl, ?_⟩
    rw [List.length_map]
    have : decide ((l.length : Int) ≤ (n : Int)) = decide (l.length ≤ n) := by
      by_cases h : l.length ≤ n
      · rw [decide_eq_true h, decide_eq_true (by omega)]
      · rw [decide_eq_false h, decide_eq_false (by omega)]
    show Q (.bl (decide ((l.length : Int) ≤ (n : Int)))) H
    rw [this]
    exact q

def spTakeN (K : PySem.W.Frag) (C : Addr) : Sp := fun vs H Q _ => ∃ (o a : Addr) (n : Nat) (l : List Int) (z : Int), vs = [.ref o] ∧ RdAt C H o a n ∧ SqL K H a (l.map V.int) ∧ l[n]? = some z ∧
  ∀ H' : Hp, RdAt C H' o a (n + 1) → KeepsBut o H H' → Q (.int z) H'
theorem scTakeN : FnScope ["self", "number"] ["self"] (defScope sTakeN) := ⟨rfl, rfl, rfl, by decide +kernel, rfl, by decide +kernel, by decide +kernel⟩
theorem ok_takeN {f : Addr} {fd : FuncData} {k : Nat} (F : Fun K "take_number" "Reader.take_number" sTakeN f fd) (T : RdTxt K C) : FnOk P w K mg base CX0 (k + 1) f fd ["self"] (spTakeN K C) := by
  refine F.ok scTakeN (fun vs H Q E h => ?_) (fun cdv A outer s H vs Q E hr h => ?_)
  · obtain ⟨o, a, n, l, z, rfl, _⟩ := h
    rfl
  · obtain ⟨o, a, n, l, z, rfl, ⟨dx, ho⟩, ha, hz, q⟩ := h
    refine ⟨_, pss_cons (ps_set (i := 1) scTakeN.nd rfl (.inl rfl) (pe_ix ix_list (pe_fld (pv 0) rfl) (pe_fld (pv 0) rfl) (fun _ _ => rfl)))
      (pss_cons (ps_fld (pv 0) (pe_op op_add (pe_fld (pv 0) rfl) pe_int) rfl) (pss_one (ps_ret (pv 1)))), ?_⟩
    refine ⟨_, rfl, o, C, dx, _, _, rfl, ho, T.cl, T.nC, rF_calls a n, _, rfl, o, C, dx, _, _, rfl, ho, T.cl, T.nP, rF_place a n, a, l.map V.int, (n : Int), .int z, rfl, rfl, ha, atI_nat (by rw [List.getElem?_map, hz]; rfl), ?_⟩
    refine ⟨_, rfl, o, C, dx, _, _, rfl, ho, T.cl, T.nP, rF_place a n, _, _, rfl, rfl, _, rfl, o, C, dx, _, rfl, ho, T.cl, T.nP, (by show 2 < 1000; decide), ?_⟩
    refine ⟨_, rfl, q _ ⟨dx, Eq.trans upd_same ?_⟩ fun b ob e hb => by rw [upd_ne hb]; exact e⟩
    have e1 : V.int ((n : Int) + 1) = V.int (((n + 1 : Nat)) : Int) := by
      congr 1
    show some (HO.ins C dx (putF "place" (V.int ((n : Int) + 1)) (rF a n))) = _
    rw [e1, rF_put]

theorem row_at {l : List Int} {n : Nat} {x t : List Int} (h : PyFlat.row (l.drop n) = some (x, t)) : ∃ k : Nat, l[n]? = some (k : Int) ∧ n + 1 + k ≤ l.length ∧ x = (l.drop (n + 1)).take k ∧ t = l.drop (n + 1 + k) := by
  cases hd : l.drop n with
  | nil => rw [hd] at h; cases h
  | cons z r =>
    rw [hd] at h
    simp only [PyFlat.row] at h
    split at h
    · rename_i hc
      have hlt : n < l.length := by
        rcases Nat.lt_or_ge n l.length with q | q
        · exact q
        · rw [List.drop_eq_nil_of_le q] at hd
          cases hd
      have hg := List.drop_eq_getElem_cons hlt
      rw [hd] at hg
      have e1 : z = l[n] := (List.cons.inj hg).1
      have e2 : r = l.drop (n + 1) := (List.cons.inj hg).2
      have hl : r.length = l.length - (n + 1) := by rw [e2, List.length_drop]
      refine ⟨z.toNat, ?_, by omega, ?_, ?_⟩
      · rw [List.getElem?_eq_getElem hlt, ← e1]
        congr 1
        omega
      · have := congrArg Prod.fst (Option.some.inj h)
        rw [← e2]
        exact this.symm
      · have := congrArg Prod.snd (Option.some.inj h)
        rw [e2, List.drop_drop] at this
        exact this.symm
    · cases h

def spTakeNs (K : PySem.W.Frag) (C : Addr) : Sp := fun vs H Q _ => ∃ (o a : Addr) (n : Nat) (l x t : List Int), vs = [.ref o] ∧ RdAt C H o a n ∧ SqL K H a (l.map V.int) ∧ l.length ≤ 100000 ∧ PyFlat.row (l.drop n) = some (x, t) ∧
  ∀ (H' : Hp) (p : Addr) (n' : Nat), n' ≤ l.length → l.drop n' = t → RdAt C H' o a n' → KeepsBut o H H' → H p = none → H' p = some (.lst (x.map V.int)) → Q (.ref p) H'
theorem scTakeNs : FnScope ["self", "count", "start"] ["self"] (defScope sTakeNs) := ⟨rfl, rfl, rfl, by decide +kernel, rfl, by decide +kernel, by decide +kernel⟩
theorem cut_map {l : List Int} {n k : Nat} (h : n + k ≤ l.length) : cutV (l.map V.int) (some (n : Int)) (some ((n + k : Nat) : Int)) = ((l.drop n).take k).map V.int := by
  unfold cutV
  rw [HT.sIx_nat, HT.sIx_nat, List.length_map, Nat.min_eq_left (by omega), Nat.min_eq_left (by omega), List.map_take, List.map_drop]
  congr 1
  omega
theorem ok_takeNs {f f1 : Addr} {fd fd1 : FuncData} {k : Nat} (F : Fun K "take_numbers" "Reader.take_numbers" sTakeNs f fd) (T : RdTxt K C)
    (G : FnOk P w K mg base CX0 k f1 fd1 ["self"] (spTakeN K C)) (m1 : Meth K C "take_number" f1) (b1 : Binds K fd1 ["self"] []) : FnOk P w K mg base CX0 (k + 1) f fd ["self"] (spTakeNs K C) := by
  refine F.ok scTakeNs (fun vs H Q E h => ?_) (fun cdv A outer s H vs Q E hr h => ?_)
  · obtain ⟨o, a, n, l, x, t, rfl, _⟩ := h
    rfl
  · obtain ⟨o, a, n, l, x, t, rfl, ⟨dx, ho⟩, ha, hll, hrow, q⟩ := h
    obtain ⟨k0, hk, hle, ex, et⟩ := row_at hrow
    refine ⟨_, pss_cons (ps_set (i := 1) scTakeNs.nd rfl (.inl rfl) (pe_meth0 (pv 0) T.cl m1 G hr b1 .nil pass0))
      (pss_cons (ps_set (i := 2) scTakeNs.nd rfl (.inl rfl) (pe_fld (pv 0) rfl))
      (pss_cons (ps_fld (pv 0) (pe_op op_add (pv 2) (pv 1)) rfl)
      (pss_one (ps_ret (pe_slice sl_list (pe_fld (pv 0) rfl) (po_some (pv 2)) (po_some (pe_fld (pv 0) rfl))))))), ?_⟩
    refine ⟨_, rfl, o, dx, _, rfl, ho, rF_not a n (by decide +kernel) (by decide +kernel), o, a, n, l, (k0 : Int), rfl, ⟨dx, ho⟩, ha, hk, fun H1 r1 kb1 => ?_⟩
    obtain ⟨dx1, ho1⟩ := r1
    have ha1 := kb1.sql ha ho
    refine ⟨_, rfl, o, C, dx1, _, _, rfl, ho1, T.cl, T.nP, rF_place a (n + 1), ?_⟩
    refine ⟨_, rfl, _, rfl, _, _, rfl, rfl, _, rfl, o, C, dx1, _, rfl, ho1, T.cl, T.nP, (by show 2 < 1000; decide), ?_⟩
    have e1 : V.int (((n + 1 : Nat) : Int) + (k0 : Int)) = V.int (((n + 1 + k0 : Nat)) : Int) := by
      congr 1
    dsimp only
    rw [e1, rF_put]
    have ho2 : (upd H1 o (.ins C dx1 (rF a (n + 1 + k0)))) o = some (.ins C dx1 (rF a (n + 1 + k0))) := upd_same
    have kb2 : KeepsBut o H1 (upd H1 o (.ins C dx1 (rF a (n + 1 + k0)))) := fun b ob e hb => by rw [upd_ne hb]; exact e
    have ha2 := kb2.sql ha1 ho1
    refine ⟨_, rfl, o, C, dx1, _, _, rfl, ho2, T.cl, T.nC, rF_calls a _, _, rfl, ((n + 1 : Nat) : Int), rfl, _, rfl, o, C, dx1, _, _, rfl, ho2, T.cl, T.nP, rF_place a _, ((n + 1 + k0 : Nat) : Int), rfl, a, l.map V.int, rfl, ha2, fun p np => ?_⟩
    have hpo : o ≠ p := ne_of_none ho2 np
    have kb := kb1.trans kb2
    refine q _ p (n + 1 + k0) hle et.symm ⟨dx1, by rw [upd_ne hpo]; exact ho2⟩ (fun b ob e hb => ?_) (kb.free ho2 np) ?_
    · have e2 := kb b ob e hb
      rw [upd_ne (ne_of_none e2 np)]
      exact e2
    · rw [upd_same, cut_map hle, ex]

/-! ### take_lists -/
abbrev RS := List (Addr × List Int)
def rrefs (rs : RS) : List V := rs.map fun r => V.ref r.1
structure RowsAt (H : Hp) (p : Addr) (rs : RS) : Prop where
  lst : H p = some (.lst (rrefs rs))
  each : ∀ r ∈ rs, H r.1 = some (.lst (r.2.map V.int))
def spTakeL (K : PySem.W.Frag) (C : Addr) : Sp := fun vs H Q _ => ∃ (o a : Addr) (n k : Nat) (l t : List Int) (xs : List (List Int)), vs = [.ref o] ∧ RdAt C H o a n ∧ SqL K H a (l.map V.int) ∧ l.length ≤ 100000 ∧ l[n]? = some (k : Int) ∧ k ≤ 100000 ∧ PyFlat.rows k (l.drop (n + 1)) = some (xs, t) ∧
  ∀ (H' : Hp) (p : Addr) (n' : Nat) (rs : RS), n' ≤ l.length → l.drop n' = t → RdAt C H' o a n' → KeepsBut o H H' → H p = none → RowsAt H' p rs → rs.map (·.2) = xs → Q (.ref p) H'
theorem scTakeL : FnScope ["self", "lists", "k"] ["self"] (defScope sTakeL) := ⟨rfl, rfl, rfl, by decide +kernel, rfl, by decide +kernel, by decide +kernel⟩
theorem rows_succ {k : Nat} {r t : List Int} {xs : List (List Int)} (h : PyFlat.rows (k + 1) r = some (xs, t)) : ∃ x s ys, PyFlat.row r = some (x, s) ∧ PyFlat.rows k s = some (ys, t) ∧ xs = x :: ys := by
  unfold PyFlat.rows at h
  split at h
  · cases h
  · rename_i x s hx
    split at h
    · cases h
    · rename_i ys t' hy
      cases h
      exact ⟨x, s, ys, hx, hy, rfl⟩
theorem rows_length : ∀ {k : Nat} {r t : List Int} {xs : List (List Int)}, PyFlat.rows k r = some (xs, t) → xs.length = k
  | 0, r, t, xs, h => by
    unfold PyFlat.rows at h
    cases h
    rfl
  | k + 1, r, t, xs, h => by
    obtain ⟨x, s, ys, _, h2, rfl⟩ := rows_succ h
    rw [List.length_cons, rows_length h2]
theorem ok_takeL {f f1 f2 : Addr} {fd fd1 fd2 : FuncData} {k : Nat} (F : Fun K "take_lists" "Reader.take_lists" sTakeL f fd) (T : RdTxt K C) (mr : mg "range" = none)
    (G : FnOk P w K mg base CX0 k f1 fd1 ["self"] (spTakeN K C)) (m1 : Meth K C "take_number" f1) (b1 : Binds K fd1 ["self"] [])
    (G2 : FnOk P w K mg base CX0 k f2 fd2 ["self"] (spTakeNs K C)) (m2 : Meth K C "take_numbers" f2) (b2 : Binds K fd2 ["self"] []) : FnOk P w K mg base CX0 (k + 1) f fd ["self"] (spTakeL K C) := by
  refine F.ok scTakeL (fun vs H Q E h => ?_) (fun cdv A outer s H vs Q E hr h => ?_)
  · obtain ⟨o, a, n, k0, l, t, xs, rfl, _⟩ := h
    rfl
  · obtain ⟨o, a, n, k0, l, t, xs, rfl, ⟨dx, ho⟩, ha, hll, hk, hk2, hrows, q⟩ := h
    have hxl := rows_length hrows
    refine ⟨_, pss_cons (ps_set (i := 1) scTakeL.nd rfl (.inl rfl) (pe_lst pa_nil))
      (pss_cons (ps_for PassesOwn.never rfl (pi_range1 rfl mr (pa_cons (pe_meth0 (pv 0) T.cl m1 G hr b1 .nil pass0) pa_nil)) (pg_name (i := 2) scTakeL.nd rfl (.inl rfl))
        (pss_one (ps_expr (pe_bm PySem.F.plainAttrs_list PySem.F.slot_list_append PySem.F.type_list_append mt_append (pv 1) (pa_cons (pe_meth0 (pv 0) T.cl m2 G2 hr b2 .nil pass0) pa_nil)))))
      (pss_one (ps_ret (pv 1)))), ?_⟩
    refine ⟨Nat.zero_le _, fun r nr => ?_⟩
    have s1 : Same H (upd H r (.lst [])) := same_upd nr
    have ho1 := s1 _ _ ho
    have esl := sizeLine_eq
    refine ⟨_, rfl, o, dx, _, rfl, ho1, rF_not a n (by decide +kernel) (by decide +kernel), o, a, n, l, (k0 : Int), rfl, ⟨dx, ho1⟩, s1.seq ha, hk, fun H1 r1 kb1 => ?_⟩
    have hro : r ≠ o := fun e => by
      rw [e, ho] at nr
      cases nr
    have hr1 := kb1 r _ upd_same hro
    have hlt : n < l.length := (List.getElem?_eq_some_iff.mp hk).1
    refine ⟨(k0 : Int), rfl, by omega, by omega, for_range (lo := 0) (n := k0)
      (fun i σ H' => ∃ v n' rs, σ = [some (.ref o), some (.ref r), v] ∧ n' ≤ l.length ∧ RdAt C H' o a n' ∧ KeepsBut o H H' ∧ RowsAt H' r rs ∧ (∀ z ∈ rs, z.1 ≠ r) ∧ rs.length = i ∧ rs.map (·.2) = xs.take i ∧ PyFlat.rows (k0 - i) (l.drop n') = some (xs.drop i, t))
      ⟨none, n + 1, [], rfl, hlt, r1, fun b ob e hb => kb1 b ob (s1 b ob e) hb, ⟨hr1, fun z hz => by cases hz⟩, (fun z hz => by cases hz), rfl, rfl, hrows⟩ ?_ ?_⟩
    · rintro i σ H' hi ⟨v, n', rs, rfl, hn', ⟨dx', ho'⟩, kb', hrs, hzr, hrl, hrm, hrest⟩
      have ha' := kb'.sql ha ho
      obtain ⟨j, hj⟩ : ∃ j, k0 - i = j + 1 := ⟨k0 - i - 1, by omega⟩
      rw [hj] at hrest
      obtain ⟨x, sx, ys, hx, hy, exs⟩ := rows_succ hrest
      refine ⟨_, rfl, .inl ⟨rfl, _, SqL.of hrs.lst⟩, _, rfl, o, dx', _, rfl, ho', rF_not a n' (by decide +kernel) (by decide +kernel), o, a, n', l, x, sx, rfl, ⟨dx', ho'⟩, ha', hll, hx, fun H2 p n2 hn2 hd2 r2 kb2 np hp => ?_⟩
      obtain ⟨dx2, ho2⟩ := r2
      have hr2 := kb2 r _ hrs.lst hro
      have hrr : ∀ z ∈ rs, z.1 ≠ o := fun z hz e => by
        have q1 := hrs.each z hz
        rw [e, ho'] at q1
        cases q1
      have hpr : p ≠ r := fun e => by
        rw [e, hrs.lst] at np
        cases np
      refine ⟨r, _, _, rfl, rfl, hr2, ?_, ?_⟩
      · unfold rrefs
        rw [List.length_map, hrl]
        omega
      · refine ⟨some (.int (0 + (i : Int))), n2, rs ++ [(p, x)], rfl, hn2, ⟨dx2, by rw [upd_ne (Ne.symm hro)]; exact ho2⟩, fun b ob e hb => ?_, ⟨?_, fun z hz => ?_⟩, fun z hz => ?_, by rw [List.length_append, hrl]; rfl, ?_, ?_⟩
        · rw [upd_ne (ne_of_none e nr)]
          exact kb2 b ob (kb' b ob e hb) hb
        · rw [upd_same]
          unfold rrefs
          rw [List.map_append]
          rfl
        · rcases List.mem_append.mp hz with hz | hz
          · rw [upd_ne (hzr z hz)]
            exact kb2 _ _ (hrs.each z hz) (hrr z hz)
          · have ez : z = (p, x) := by simpa using hz
            subst ez
            rw [upd_ne hpr]
            exact hp
        · rcases List.mem_append.mp hz with hz | hz
          · exact hzr z hz
          · have ez : z = (p, x) := by simpa using hz
            subst ez
            exact hpr
        · rw [List.map_append, hrm]
          have hg : xs[i]? = some x := by
            have := congrArg (fun q => q[0]?) exs
            simpa using this
          rw [take_more hg]
          rfl
        · have e1 : k0 - (i + 1) = j := by omega
          rw [e1, hd2, hy]
          have : xs.drop (i + 1) = ys := by
            have := congrArg (List.drop 1) exs
            rw [List.drop_drop] at this
            simpa using this
          rw [this]
    · rintro σ H' ⟨v, n', rs, rfl, hn', r', kb', hrs, hzr, hrl, hrm, hrest⟩
      rw [Nat.sub_self] at hrest
      have e1 : l.drop n' = t := by
        unfold PyFlat.rows at hrest
        exact congrArg Prod.snd (Option.some.inj hrest)
      refine ⟨_, rfl, q H' r n' rs hn' e1 r' kb' nr hrs ?_⟩
      rw [hrm, ← hxl, List.take_length]
end
end Sh

set_option maxRecDepth 100000
set_option maxHeartbeats 400000
namespace Sh
open PySem PySem.Spec PyProof.Rows L2

/-! ### from places to simplices -/
theorem sims_filter (ps : PS2) (f : Sim → Bool) : sims (ps.filter fun p => f p.2) = (sims ps).filter f := by
  unfold sims
  rw [List.filter_map]
  rfl
theorem sims_above (ps : PS2) (x : Sim) : sims (above ps x) = Sc.aboveL (sims ps) x := sims_filter ps fun y => decide (y ≠ x) && HoBase.within x y
theorem above_length (ps : PS2) (x : Sim) : (above ps x).length = (Sc.aboveL (sims ps) x).length := by
  rw [← sims_above, sims_len]
theorem sims_tops (ps : PS2) : sims (topsP ps) = Sc.topsL (sims ps) := by
  unfold topsP Sc.topsL
  rw [← sims_filter]
  congr 1
  apply List.filter_congr
  intro p _
  rw [above_length]
def prS (pr : (Addr × Sim) × (Addr × Sim)) : Sim × Sim := (pr.1.2, pr.2.2)
theorem free_aux (ps : PS2) : ∀ qs : PS2, (freeP' ps qs).map prS = (sims qs).filterMap (fun x => (match Sc.aboveL (sims ps) x with
  | [y] => some (x, y)
  | _ => none))
  | [] => rfl
  | p :: qs => by
    have ih := free_aux ps qs
    have e := sims_above ps p.2
    unfold freeP' at ih ⊢
    have e2 : sims (p :: qs) = p.2 :: sims qs := rfl
    rw [e2, List.filterMap_cons, List.filterMap_cons, ← e]
    match hm : above ps p.2 with
    | [] =>
      simp only [sims, List.map_nil]
      exact ih
    | [r] =>
      simp only [sims, List.map_cons, List.map_nil]
      exact congrArg (List.cons (p.2, r.2)) ih
    | r1 :: r2 :: rs =>
      simp only [sims, List.map_cons]
      exact ih
theorem free_spec (ps : PS2) : (freeP ps).map prS = Sc.freeL (sims ps) := free_aux ps ps
theorem freeP_eq (ps : PS2) : freeP' ps ps = freeP ps := rfl

/-! ### the shape object -/
def ShAt (C : Addr) (rest : List (Str × V)) (H : Hp) (o l : Addr) : Prop := ∃ dx, H o = some (.ins C dx (("simplices", .ref l) :: rest))
structure ShTxt (K : PySem.W.Frag) (C : Addr) : Prop where
  cl : Cls K C
  nS : NoAttr K C "simplices"
section
variable {P : Program} {w : World} {K : PySem.W.Frag} {mg : Str → Option Value} {base : Heap} {C : Addr} {rest : List (Str × V)}
abbrev sFrees : Stmt := inClass (top 46) 3
abbrev sCore : Stmt := inClass (top 46) 5
abbrev sLeaning : Stmt := inClass (top 46) 6
theorem sF_sim (l : Addr) : ((("simplices" : Str), V.ref l) :: rest).lookup ("simplices" : Str) = some (.ref l) := lk_here

/-! ### frees -/
def freesN (c : List Sim) : List Nat := (Sc.freeL c).length :: (Sc.freeL c).flatMap fun p => p.1.length :: (p.1 ++ p.2)
def prsN (prs : List ((Addr × Sim) × (Addr × Sim))) (n : Nat) : List Nat := n :: prs.flatMap fun p => p.1.2.length :: (p.1.2 ++ p.2.2)
theorem prsN_more {prs : List ((Addr × Sim) × (Addr × Sim))} {i n : Nat} {p : (Addr × Sim) × (Addr × Sim)} (h : prs[i]? = some p) : prsN (prs.take (i + 1)) n = prsN (prs.take i) n ++ [p.1.2.length] ++ p.1.2 ++ p.2.2 := by
  unfold prsN
  rw [take_more h, List.flatMap_append]
  simp
theorem prsN_len : ∀ (prs : List ((Addr × Sim) × (Addr × Sim))) (n : Nat), (∀ p ∈ prs, p.1.2.length ≤ 100 ∧ p.2.2.length ≤ 100) → (prsN prs n).length ≤ 1 + 201 * prs.length
  | [], _, _ => by simp [prsN]
  | p :: ps, n, h => by
    have ih := prsN_len ps n (fun q hq => h q (List.mem_cons_of_mem _ hq))
    have := h p (List.mem_cons_self ..)
    unfold prsN at ih ⊢
    simp only [List.flatMap_cons, List.length_cons, List.length_append] at ih ⊢
    omega
theorem prsN_spec (ps : PS2) : prsN (freeP ps) (freeP ps).length = freesN (sims ps) := by
  unfold prsN freesN
  rw [← free_spec, List.length_map, List.flatMap_map]
  rfl
def spFrees (C : Addr) (rest : List (Str × V)) : Sp := fun vs H Q _ => ∃ (o l : Addr) (ps : PS2), vs = [.ref o] ∧ ShAt C rest H o l ∧ ListAt H l ps ∧ ps.length ≤ 100 ∧ (∀ p ∈ ps, p.2.length ≤ 100) ∧
  ∀ (H' : Hp) (p : Addr), Same H H' → H p = none → H' p = some (.lst (sv (freesN (sims ps)))) → Q (.ref p) H'
theorem scFrees : FnScope ["self", "pairs", "answer", "simplex", "above"] ["self"] (defScope sFrees) := ⟨rfl, rfl, rfl, by decide +kernel, rfl, by decide +kernel, by decide +kernel⟩
theorem ok_frees {f f1 : Addr} {fd fd1 : FuncData} {k : Nat} (F : Fun K "frees" "Shape.frees" sFrees f fd) (T : ShTxt K C) (ml : mg "len" = none)
    (G : FnOk P w K mg base CX0 k f1 fd1 ["simplices"] spFree) (mf : mg "free_pairs" = some (.ref f1)) (kf : PySem.W.keepIn K (.ref f1) = true) (bf : Binds K fd1 ["simplices"] []) :
    FnOk P w K mg base CX0 (k + 1) f fd ["self"] (spFrees C rest) := by
  refine F.ok scFrees (fun vs H Q E h => ?_) (fun cdv A outer s H vs Q E hr h => ?_)
  · obtain ⟨o, l, ps, rfl, _⟩ := h
    rfl
  · obtain ⟨o, l, ps, rfl, ⟨dx, ho⟩, hl, hz, hzs, q⟩ := h
    refine ⟨_, pss_cons (ps_set (i := 1) scFrees.nd rfl (.inl rfl) (pe_call G hr rfl mf kf bf .nil pass0 (pa_cons (pe_fld (pv 0) rfl) pa_nil)))
      (pss_cons (ps_set (i := 2) scFrees.nd rfl (.inl rfl) (pe_lst (pa_cons (pe_callB call_len_seq (by rfl) ml PySem.boot_len (pa_cons (pv 1) pa_nil)) pa_nil)))
      (pss_cons (ps_for PassesOwn.never rfl (pi_list (pv 1)) (pg_tup rfl (pgs_cons (pg_name (i := 3) scFrees.nd rfl (.inl rfl)) (pgs_cons (pg_name (i := 4) scFrees.nd rfl (.inl rfl)) pgs_nil)))
        (pss_cons (ps_expr (pe_bm PySem.F.plainAttrs_list PySem.F.slot_list_append PySem.F.type_list_append mt_append (pv 2) (pa_cons (pe_callB call_len_seq (by rfl) ml PySem.boot_len (pa_cons (pv 3) pa_nil)) pa_nil)))
        (pss_cons (ps_expr (pe_bm PySem.F.plainAttrs_list PySem.F.slot_list_extend PySem.F.type_list_extend mt_extendT (pv 2) (pa_cons (pv 3) pa_nil)))
        (pss_one (ps_expr (pe_bm PySem.F.plainAttrs_list PySem.F.slot_list_extend PySem.F.type_list_extend mt_extendT (pv 2) (pa_cons (pv 4) pa_nil)))))))
      (pss_one (ps_ret (pv 2))))), ?_⟩
    refine ⟨_, rfl, o, C, dx, _, _, rfl, ho, T.cl, T.nS, sF_sim l, l, ps, rfl, hl, by omega, fun H1 r as s1 nr pa => ?_⟩
    have hfl : (freeP ps).length ≤ 100 := Nat.le_trans (freeP_len ps ps) hz
    refine ⟨_, rfl, r, _, rfl, .inl (SqL.of pa.lst), ?_⟩
    rw [List.length_map, pa.len]
    refine ⟨by show 1 ≤ sizeLine; decide, fun a na => ?_⟩
    have s2 := same_upd (o := HO.lst [V.int ((freeP ps).length : Int)]) na
    have pa2 := pa.same s2
    have sm2 := s1.trans s2
    have naH : H a = none := s1.free na
    have hra : r ≠ a := ne_of_none pa.lst na
    have esl := sizeLine_eq
    have hmem : ∀ pr ∈ freeP ps, pr.1.2.length ≤ 100 ∧ pr.2.2.length ≤ 100 := fun pr hpr => by
      have := freeP'_mem (ps := ps) (qs := ps) hpr
      exact ⟨hzs _ this.1, hzs _ this.2⟩
    refine ⟨_, rfl, r, rfl, ⟨_, SqL.of pa2.lst⟩, for_list (K := K) (a := r) (xs := as.map V.ref)
      (fun i σ H' => ∃ v3 v4, σ = [some (.ref o), some (.ref r), some (.ref a), v3, v4] ∧ Same H H' ∧ (∀ b ob, (upd H1 a (HO.lst [V.int ((freeP ps).length : Int)])) b = some ob → b ≠ a → H' b = some ob) ∧ H' a = some (.lst (sv (prsN ((freeP ps).take i) (freeP ps).length))))
      ⟨none, none, rfl, sm2, fun b ob e _ => e, upd_same⟩ (fun i σ H' _ ⟨_, _, _, _, e, _⟩ => SqL.of (e _ _ pa2.lst hra)) ?_ ?_⟩
    · rintro i v σ H' hi ⟨v3, v4, rfl, sm, kb, ha⟩
      rw [List.getElem?_map] at hi
      cases eas : as[i]? with
      | none => rw [eas] at hi; cases hi
      | some t =>
        rw [eas] at hi
        cases hi
        have hil : i < (freeP ps).length := by
          rw [← pa.len]
          exact (List.getElem?_eq_some_iff.mp eas).1
        have epr := List.getElem?_eq_getElem hil
        obtain ⟨q1, q2, q3⟩ := pa2.each i t _ eas epr
        have hm := hmem _ (List.getElem_mem hil)
        generalize hpr : (freeP ps)[i] = pr at *
        have nt : ∀ {b : Addr} {ys : List V}, (upd H1 a (HO.lst [V.int ((freeP ps).length : Int)])) b = some (.tup ys) → b ≠ a := fun {b ys} e z => by
          rw [z, upd_same] at e
          cases e
        have t1 := kb _ _ q1 (nt q1)
        have t2 : TupAt H' pr.1.1 pr.1.2 := kb _ _ q2 (nt q2)
        have t3 : TupAt H' pr.2.1 pr.2.2 := kb _ _ q3 (nt q3)
        have hlen : (prsN ((freeP ps).take i) (freeP ps).length).length ≤ 1 + 201 * 100 := by
          have h1 := prsN_len ((freeP ps).take i) (freeP ps).length (fun q hq => hmem q (List.mem_of_mem_take hq))
          have h3 : ((freeP ps).take i).length ≤ (freeP ps).length := by
            rw [List.length_take]
            omega
          omega
        refine ⟨t, [.ref pr.1.1, .ref pr.2.1], rfl, SqT.of t1, rfl, _, [.ref pr.2.1], rfl, _, [], rfl, rfl, ?_⟩
        refine ⟨_, rfl, .inl ⟨rfl, _, SqL.of ha⟩, _, rfl, pr.1.1, _, rfl, .inr t2.sq, ?_⟩
        rw [sv_len]
        refine ⟨a, _, _, rfl, rfl, ha, by rw [sv_len]; omega, ?_⟩
        have k1 : pr.1.1 ≠ a := nt q2
        have k2 : pr.2.1 ≠ a := nt q3
        refine ⟨_, rfl, .inl ⟨rfl, _, SqL.of upd_same⟩, _, rfl, a, pr.1.1, _, sv pr.1.2, rfl, rfl, upd_same, SqT.of (by rw [upd_ne k1]; exact t2), ?_, ?_⟩
        · rw [List.length_append, sv_len, sv_len]
          simp
          omega
        refine ⟨_, rfl, .inl ⟨rfl, _, SqL.of upd_same⟩, _, rfl, a, pr.2.1, _, sv pr.2.2, rfl, rfl, upd_same, SqT.of (by rw [upd_ne k2, upd_ne k2]; exact t3), ?_, ?_⟩
        · rw [List.length_append, List.length_append, sv_len, sv_len, sv_len]
          simp
          omega
        refine ⟨some (.ref pr.1.1), some (.ref pr.2.1), rfl, fun b ob hb => ?_, fun b ob hb hba => ?_, ?_⟩
        · rw [upd_ne (ne_of_none hb naH), upd_ne (ne_of_none hb naH), upd_ne (ne_of_none hb naH)]
          exact sm _ _ hb
        · rw [upd_ne hba, upd_ne hba, upd_ne hba]
          exact kb _ _ hb hba
        · rw [upd_same, prsN_more epr, sv_append, sv_append, sv_append]
          rfl
    · rintro σ H' ⟨v3, v4, rfl, sm, kb, ha⟩
      rw [List.length_map, pa.len, List.take_length, prsN_spec] at ha
      exact ⟨_, rfl, q H' a sm naH ha⟩
end
end Sh

set_option maxRecDepth 100000
set_option maxHeartbeats 400000
namespace Sh
open PySem PySem.Spec PyProof.Rows L2
section
variable {P : Program} {w : World} {K : PySem.W.Frag} {mg : Str → Option Value} {base : Heap} {C : Addr} {rest : List (Str × V)}
/-! ### core -/
def coreN (c : List Sim) : List Nat := (Ho04.coreOf c).2 :: toldL (Sc.topsL (Ho04.coreOf c).1)
theorem core_stop {f : Nat} {c : List Sim} (g : Sc.Good c) (h : Sc.freeL c = []) : Ho04.core (f + 1) c = (c, 0) := by
  unfold Ho04.core
  rw [g.frees, h]
theorem core_step {f : Nat} {c : List Sim} (g : Sc.Good c) {x y : Sim} {r : List (Sim × Sim)} (h : Sc.freeL c = (x, y) :: r) : Ho04.core (f + 1) c = ((Ho04.core f (Ho04.push c x y)).1, (Ho04.core f (Ho04.push c x y)).2 + 1) := by
  rw [Ho04.core, g.frees, h]
def spCore (C : Addr) (rest : List (Str × V)) : Sp := fun vs H Q _ => ∃ (o l : Addr) (ps : PS2), vs = [.ref o] ∧ ShAt C rest H o l ∧ ListAt H l ps ∧ ps.length ≤ 100 ∧ Sc.Good (sims ps) ∧
  ∀ (H' : Hp) (p : Addr), Same H H' → H p = none → H' p = some (.lst (sv (coreN (sims ps)))) → Q (.ref p) H'
theorem scCore : FnScope ["self", "left", "times", "pairs"] ["self"] (defScope sCore) := ⟨rfl, rfl, rfl, by decide +kernel, rfl, by decide +kernel, by decide +kernel⟩
theorem good_short {ps : PS2} (g : Sc.Good (sims ps)) {p : Addr × Sim} (hp : p ∈ ps) : p.2.length ≤ 4 := (g.len p.2 (List.mem_map.mpr ⟨p, hp, rfl⟩)).2
theorem ok_core {f f1 f2 f3 f4 : Addr} {fd fd1 fd2 fd3 fd4 : FuncData} {k : Nat} (F : Fun K "core" "Shape.core" sCore f fd) (T : ShTxt K C) (ml : mg "len" = none)
    (G1 : FnOk P w K mg base CX0 k f1 fd1 ["simplices"] spFree) (m1 : mg "free_pairs" = some (.ref f1)) (k1 : PySem.W.keepIn K (.ref f1) = true) (b1 : Binds K fd1 ["simplices"] [])
    (G2 : FnOk P w K mg base CX0 k f2 fd2 ["simplices", "gone"] (spWithout K)) (m2 : mg "without" = some (.ref f2)) (k2 : PySem.W.keepIn K (.ref f2) = true) (b2 : Binds K fd2 ["simplices", "gone"] [])
    (G3 : FnOk P w K mg base CX0 k f3 fd3 ["simplices"] spTops) (m3 : mg "tops_of" = some (.ref f3)) (k3 : PySem.W.keepIn K (.ref f3) = true) (b3 : Binds K fd3 ["simplices"] [])
    (G4 : FnOk P w K mg base CX0 k f4 fd4 ["simplices"] (spTold K)) (m4 : mg "told" = some (.ref f4)) (k4 : PySem.W.keepIn K (.ref f4) = true) (b4 : Binds K fd4 ["simplices"] []) :
    FnOk P w K mg base CX0 (k + 1) f fd ["self"] (spCore C rest) := by
  refine F.ok scCore (fun vs H Q E h => ?_) (fun cdv A outer s H vs Q E hr h => ?_)
  · obtain ⟨o, l, ps, rfl, _⟩ := h
    rfl
  · obtain ⟨o, l, ps, rfl, ⟨dx, ho⟩, hl, hz, hg, q⟩ := h
    refine ⟨_, pss_cons (ps_set (i := 1) scCore.nd rfl (.inl rfl) (pe_fld (pv 0) rfl))
      (pss_cons (ps_set (i := 2) scCore.nd rfl (.inl rfl) pe_int)
      (pss_cons (ps_set (i := 3) scCore.nd rfl (.inl rfl) (pe_call G1 hr rfl m1 k1 b1 .nil pass0 (pa_cons (pv 1) pa_nil)))
      (pss_cons (ps_while PassesOwn.never (pt_cmpR op_gt (pe_callB call_len_seq (by rfl) ml PySem.boot_len (pa_cons (pv 3) pa_nil)) pe_int (nomark _))
        (pss_cons (ps_set (i := 1) scCore.nd rfl (.inl rfl) (pe_call G2 hr rfl m2 k2 b2 .nil pass0 (pa_cons (pv 1) (pa_cons (pe_ix ix_list (pv 3) pe_int (fun _ _ => rfl)) pa_nil))))
        (pss_cons (ps_set (i := 2) scCore.nd rfl (.inl rfl) (pe_op op_add (pv 2) pe_int))
        (pss_one (ps_set (i := 3) scCore.nd rfl (.inl rfl) (pe_call G1 hr rfl m1 k1 b1 .nil pass0 (pa_cons (pv 1) pa_nil)))))))
      (pss_one (ps_ret (pe_op op_cat (pe_lst (pa_cons (pv 2) pa_nil)) (pe_call G4 hr rfl m4 k4 b4 .nil pass0 (pa_cons (pe_call G3 hr rfl m3 k3 b3 .nil pass0 (pa_cons (pv 1) pa_nil)) pa_nil)))))))), ?_⟩
    refine ⟨_, rfl, o, C, dx, _, _, rfl, ho, T.cl, T.nS, sF_sim l, ?_⟩
    refine ⟨_, rfl, l, ps, rfl, hl, by omega, fun H1 r as s1 nr pa => ?_⟩
    refine ⟨fun m σ H' => ∃ (l' pr : Addr) (times fu : Nat) (qs : PS2) (as' : List Addr), σ = [some (.ref o), some (.ref l'), some (.int (times : Int)), some (.ref pr)] ∧ Same H H' ∧ ListAt H' l' qs ∧ PairsAt H' pr as' (freeP qs) ∧ Sc.Good (sims qs) ∧ qs.length ≤ 100 ∧ m = qs.length ∧ qs.length < fu ∧
        Ho04.coreOf (sims ps) = ((Ho04.core fu (sims qs)).1, (Ho04.core fu (sims qs)).2 + times),
      ⟨ps.length, l, r, 0, (sims ps).length + 1, ps, as, rfl, s1, hl.same s1, pa, hg, hz, rfl, by rw [sims_len]; omega, rfl⟩, ?_⟩
    rintro m σ H' ⟨l', pr, times, fu, qs, as', rfl, sm, hl', pa', hg', hz', rfl, hfu, hcore⟩
    obtain ⟨fu', rfl⟩ : ∃ fu', fu = fu' + 1 := ⟨fu - 1, by omega⟩
    refine ⟨_, rfl, pr, _, rfl, .inl (SqL.of pa'.lst), ?_⟩
    rw [List.length_map, pa'.len]
    refine ⟨_, _, rfl, rfl, _, rfl, ?_⟩
    have hfs := free_spec qs
    cases hfp : freeP qs with
    | cons pr0 prs =>
      have h1 : decide ((0 : Int) < (((pr0 :: prs).length : Nat) : Int)) = true := decide_eq_true (by simp)
      rw [h1]
      refine iteT ?_
      rw [hfp] at hfs pa'
      obtain ⟨x0, y0⟩ := pr0
      have hmem : x0 ∈ qs ∧ y0 ∈ qs := by
        have : (x0, y0) ∈ freeP' qs qs := by
          rw [freeP_eq, hfp]
          exact List.mem_cons_self ..
        exact freeP'_mem this
      have hfree : Sc.freeL (sims qs) = (x0.2, y0.2) :: prs.map prS := hfs.symm
      match has : as', pa' with
      | [], pa' => exact absurd pa'.len (by simp)
      | t :: as'', pa' =>
        obtain ⟨q1, q2, q3⟩ := pa'.each 0 t (x0, y0) rfl rfl
        have hxm : x0.2 ∈ sims qs := List.mem_map.mpr ⟨x0, hmem.1, rfl⟩
        have hov : Ho04.over (sims qs) x0.2 = [y0.2] := by
          have : (x0.2, y0.2) ∈ Ho04.frees (sims qs) := by
            rw [hg'.frees, hfree]
            exact List.mem_cons_self ..
          exact (Sc.mem_frees.mp this).2
        refine ⟨fun σ' H2 => ∃ (l2 pr2 : Addr) (qs2 : PS2) (as2 : List Addr), σ' = [some (.ref o), some (.ref l2), some (.int ((times + 1 : Nat) : Int)), some (.ref pr2)] ∧ Same H H2 ∧ ListAt H2 l2 qs2 ∧ PairsAt H2 pr2 as2 (freeP qs2) ∧ sims qs2 = Ho04.push (sims qs) x0.2 y0.2, ?_, ?_⟩
        · rintro σ' H2 ⟨l2, pr2, qs2, as2, rfl, sm2, hl2, pa2, hq2⟩
          have hg2 : Sc.Good (sims qs2) := by
            rw [hq2]
            exact hg'.push hxm hov
          have hlen : qs2.length + 2 = qs.length := by
            rw [← sims_len qs2, hq2, Sc.push_length hg' hxm hov, sims_len]
          refine ⟨qs2.length, by omega, l2, pr2, times + 1, fu', qs2, as2, rfl, sm2, hl2, pa2, hg2, by omega, rfl, by omega, ?_⟩
          rw [hcore, core_step hg' hfree, hq2]
          show ((Ho04.core fu' (Ho04.push (sims qs) x0.2 y0.2)).1, (Ho04.core fu' (Ho04.push (sims qs) x0.2 y0.2)).2 + 1 + times) = _
          congr 1
          omega
        · -- left = without(left, pairs[0])
          refine ⟨_, rfl, _, rfl, pr, _, 0, .ref t, rfl, rfl, SqL.of pa'.lst, atI_nat (j := 0) rfl, ?_⟩
          refine ⟨l', t, qs, [x0, y0], rfl, hl', q1, fun z hz => ?_, by omega, fun H2 l2 s2 n2 hl2 => ?_⟩
          · rcases List.mem_cons.mp hz with rfl | hz
            · exact q2
            · have : z = y0 := by simpa using hz
              subst this
              exact q3
          refine ⟨_, rfl, _, _, rfl, rfl, ?_⟩
          have hq2 : sims (qs.filter fun p => !(sims [x0, y0]).contains p.2) = Ho04.push (sims qs) x0.2 y0.2 := by
            rw [sims_filter qs fun x => !(sims [x0, y0]).contains x, Sc.push_without]
            rfl
          have hlen : (qs.filter fun p => !(sims [x0, y0]).contains p.2).length ≤ 100 := by
            have := List.length_filter_le (fun p : Addr × Sim => !(sims [x0, y0]).contains p.2) qs
            omega
          refine ⟨_, rfl, l2, _, rfl, hl2, by omega, fun H3 pr3 as3 s3 n3 pa3 => ?_⟩
          exact ⟨l2, pr3, _, as3, rfl, (sm.trans s2).trans s3, hl2.same s3, pa3, hq2⟩
    | nil =>
      have h1 : decide ((0 : Int) < ((([] : List ((Addr × Sim) × (Addr × Sim))).length : Nat) : Int)) = false := decide_eq_false (by simp)
      rw [h1]
      refine iteF ?_
      rw [hfp] at hfs
      have hfree : Sc.freeL (sims qs) = [] := hfs.symm
      rw [core_stop hg' hfree, Nat.zero_add] at hcore
      refine ⟨_, rfl, by show 1 ≤ sizeLine; decide, fun a na => ?_⟩
      have sa := same_upd (o := HO.lst [V.int (times : Int)]) na
      refine ⟨_, rfl, l', qs, rfl, hl'.same sa, by omega, fun H2 t s2 n2 h2 => ?_⟩
      have hlt : ListAt H2 t (topsP qs) := ⟨h2, fun p hp => ((hl'.each p (List.mem_filter.mp hp).1).same sa).same s2⟩
      have htl : (topsP qs).length ≤ 100 := Nat.le_trans (List.length_filter_le _ _) hz'
      have hts : ∀ p ∈ topsP qs, p.2.length ≤ 1000 := fun p hp => by
        have := good_short hg' (List.mem_filter.mp hp).1
        omega
      refine ⟨t, topsP qs, rfl, hlt, by omega, hts, fun H3 u s3 n3 h3 => ?_⟩
      have ha3 := s3 _ _ (s2 _ _ (upd_same (H := H') (a := a) (o := HO.lst [V.int (times : Int)])))
      have hul : (toldL (sims (topsP qs))).length ≤ 1 + 1001 * 100 := by
        have h5 := toldT_len (topsP qs) (topsP qs).length hts
        have e5 : toldT (topsP qs) (topsP qs).length = toldL (sims (topsP qs)) := by
          unfold toldT toldL sims
          rw [List.length_map, List.flatMap_map]
        rw [e5] at h5
        omega
      have esl := sizeLine_eq
      refine ⟨a, u, _, _, rfl, rfl, ha3, h3, by rw [sv_len]; simp; omega, fun b nb => ?_⟩
      have smAll := ((sm.trans sa).trans s2).trans s3
      refine q _ b (smAll.trans (same_upd nb)) (smAll.free nb) ?_
      rw [upd_same]
      unfold coreN
      rw [hcore, sims_tops]
      rfl
end
end Sh

set_option maxRecDepth 100000
set_option maxHeartbeats 400000
namespace Sh
open PySem PySem.Spec PyProof.Rows L2
section
variable {P : Program} {w : World} {K : PySem.W.Frag} {mg : Str → Option Value} {base : Heap} {C : Addr} {rest : List (Str × V)}
/-! ### leaning -/
def leaningP (ts : List Sim) (cs ds : List Nat) : List (Nat × Nat) := ds.filterMap fun a => (lowest ts cs a).map fun b => (a, b)
def leaningL (c : List Sim) : List (Nat × Nat) := leaningP (Sc.topsL c) (cornersL c) (cornersL c)
def leaningN (c : List Sim) : List Nat := (leaningL c).length :: (leaningL c).flatMap fun p => [p.1, p.2]
theorem leaningP_more {ts : List Sim} {cs ds : List Nat} {i a : Nat} (h : ds[i]? = some a) : leaningP ts cs (ds.take (i + 1)) = leaningP ts cs (ds.take i) ++ (match lowest ts cs a with
  | some b => [(a, b)]
  | none => []) := by
  unfold leaningP
  rw [take_more h, List.filterMap_append]
  cases e : lowest ts cs a with
  | none => simp [e]
  | some b => simp [e]
theorem leaningP_len (ts : List Sim) (cs ds : List Nat) : (leaningP ts cs ds).length ≤ ds.length := List.length_filterMap_le _ _
/-- pairs of numbers as tuples -/
def pv2 (p : Nat × Nat) : List V := [.int (p.1 : Int), .int (p.2 : Int)]
structure NPairsAt (H : Hp) (l : Addr) (ps : List (Addr × (Nat × Nat))) : Prop where
  lst : H l = some (.lst (ps.map fun p => V.ref p.1))
  each : ∀ p ∈ ps, H p.1 = some (.tup (pv2 p.2))
theorem NPairsAt.same {H H' : Hp} {l : Addr} {ps : List (Addr × (Nat × Nat))} (h : NPairsAt H l ps) (e : Same H H') : NPairsAt H' l ps := ⟨e _ _ h.lst, fun p hp => e _ _ (h.each p hp)⟩
theorem cornersL_len (xs : List Sim) : (cornersL xs).length ≤ xs.length := by
  unfold cornersL
  rw [List.length_map]
  exact List.length_filter_le _ _

/-! ### without_corner -/
abbrev sWithoutC : Stmt := top 32
def spWithoutC (K : PySem.W.Frag) : Sp := fun vs H Q _ => ∃ (l : Addr) (a : Nat) (ps : PS2), vs = [.ref l, .int (a : Int)] ∧ ListAt H l ps ∧ ps.length ≤ 1000 ∧
  ∀ (H' : Hp) (p : Addr), Same H H' → H p = none → ListAt H' p (ps.filter fun p => !p.2.contains a) → Q (.ref p) H'
theorem scWithoutC : FnScope ["simplices", "corner", "simplex"] ["simplices", "corner"] (defScope sWithoutC) := ⟨rfl, rfl, rfl, by decide +kernel, rfl, by decide +kernel, by decide +kernel⟩
theorem ok_withoutC {f : Addr} {fd : FuncData} {k : Nat} (F : Fun K "without_corner" "without_corner" sWithoutC f fd) : FnOk P w K mg base CX0 (k + 1) f fd ["simplices", "corner"] (spWithoutC K) := by
  refine F.ok scWithoutC (fun vs H Q E h => ?_) (fun cdv A outer s H vs Q E hr h => ?_)
  · obtain ⟨l, a, ps, rfl, _⟩ := h
    rfl
  · obtain ⟨l, a, ps, rfl, hl, hz, q⟩ := h
    refine ⟨_, pss_one (ps_ret (pe_lc (own := [("simplex", 2)]) (g := gName 2) rfl scWithoutC.nd (pi_list (pv 0)) (blkOk_by (own := [("simplex", 2)]) (N := ["simplices", "corner", "simplex"]) (sc := defScope sWithoutC) (by decide +kernel))
      (fun _ _ _ _ _ => pg_name (i := 2) scWithoutC.nd rfl (Or.inl rfl))
      (fun _ _ _ _ _ => pts_one (pt_cmpR (show OpR _ _ (rIn K true) from op_notIn_seq) (pv 1) (pv 2) rfl))
      (fun _ _ _ _ _ => pv 2))), ?_⟩
    refine ⟨_, rfl, l, rfl, ⟨_, SqL.of hl.lst⟩, fun D nD => lc_fm (K := K) (a := l) (xs := ps) (v := fun p => .ref p.1) (fun p => !p.2.contains a) (fun p => .ref p.1) nD (SqL.of hl.lst) (Nat.lt_of_le_of_lt hz (by decide)) ?_ ?_⟩
    · intro p hp H2 s2 Nx yes no
      refine ⟨rfl, ?_⟩
      have tp := (hl.each p hp).same s2
      refine ⟨_, rfl, _, rfl, p.1, sv p.2, rfl, .inr tp.sq, rfl, sv_flat _, _, rfl, ?_⟩
      show if (!inV (.int (a : Int)) (sv p.2)) = true then _ else _
      rw [sv_in]
      cases hc : (!p.2.contains a) with
      | true => exact iteT ⟨_, rfl, yes hc H2 (Same.refl _)⟩
      | false => exact iteF (no hc H2 (Same.refl _))
    · intro H' sm hDl
      exact q H' D sm nD ⟨hDl, fun p hp => (hl.each p (List.mem_filter.mp hp).1).same sm⟩

/-! ### leaning_pairs -/
abbrev sLeanP : Stmt := top 36
def spLeanP : Sp := fun vs H Q _ => ∃ (l : Addr) (ps : PS2), vs = [.ref l] ∧ ListAt H l ps ∧ ps.length ≤ 100 ∧
  ∀ (H' : Hp) (p : Addr) (qs : List (Addr × (Nat × Nat))), Same H H' → H p = none → NPairsAt H' p qs → qs.map (·.2) = leaningL (sims ps) → Q (.ref p) H'
theorem scLeanP : FnScope ["simplices", "tops", "corners", "pairs", "corner", "other"] ["simplices"] (defScope sLeanP) := ⟨rfl, rfl, rfl, by decide +kernel, rfl, by decide +kernel, by decide +kernel⟩
theorem ok_leanP {f f1 f2 f3 : Addr} {fd fd1 fd2 fd3 : FuncData} {k : Nat} (F : Fun K "leaning_pairs" "leaning_pairs" sLeanP f fd)
    (G1 : FnOk P w K mg base CX0 k f1 fd1 ["simplices"] spTops) (m1 : mg "tops_of" = some (.ref f1)) (k1 : PySem.W.keepIn K (.ref f1) = true) (b1 : Binds K fd1 ["simplices"] [])
    (G2 : FnOk P w K mg base CX0 k f2 fd2 ["simplices"] spCorners) (m2 : mg "corners_of" = some (.ref f2)) (k2 : PySem.W.keepIn K (.ref f2) = true) (b2 : Binds K fd2 ["simplices"] [])
    (G3 : FnOk P w K mg base CX0 k f3 fd3 ["tops", "corners", "corner"] (spLowest K)) (m3 : mg "lowest_leaned_on" = some (.ref f3)) (k3 : PySem.W.keepIn K (.ref f3) = true) (b3 : Binds K fd3 ["tops", "corners", "corner"] []) :
    FnOk P w K mg base CX0 (k + 1) f fd ["simplices"] spLeanP := by
  refine F.ok scLeanP (fun vs H Q E h => ?_) (fun cdv A outer s H vs Q E hr h => ?_)
  · obtain ⟨l, ps, rfl, _⟩ := h
    rfl
  · obtain ⟨l, ps, rfl, hl, hz, q⟩ := h
    refine ⟨_, pss_cons (ps_set (i := 1) scLeanP.nd rfl (.inl rfl) (pe_call G1 hr rfl m1 k1 b1 .nil pass0 (pa_cons (pv 0) pa_nil)))
      (pss_cons (ps_set (i := 2) scLeanP.nd rfl (.inl rfl) (pe_call G2 hr rfl m2 k2 b2 .nil pass0 (pa_cons (pv 0) pa_nil)))
      (pss_cons (ps_set (i := 3) scLeanP.nd rfl (.inl rfl) (pe_lst pa_nil))
      (pss_cons (ps_for PassesOwn.never rfl (pi_list (pv 2)) (pg_name (i := 4) scLeanP.nd rfl (.inl rfl))
        (pss_cons (ps_set (i := 5) scLeanP.nd rfl (.inl rfl) (pe_call G3 hr rfl m3 k3 b3 .nil pass0 (pa_cons (pv 1) (pa_cons (pv 2) (pa_cons (pv 4) pa_nil)))))
        (pss_one (ps_if (pt_cmpR op_notN (pv 5) pe_non (nomark _))
          (pss_one (ps_expr (pe_bm PySem.F.plainAttrs_list PySem.F.slot_list_append PySem.F.type_list_append mt_append (pv 3) (pa_cons (pe_tup (pa_cons (pv 4) (pa_cons (pv 5) pa_nil))) pa_nil))))
          pss_nil))))
      (pss_one (ps_ret (pv 3)))))), ?_⟩
    refine ⟨_, rfl, l, ps, rfl, hl, by omega, fun H1 t s1 n1 h1 => ?_⟩
    have hlt : ListAt H1 t (topsP ps) := ⟨h1, fun p hp => (hl.each p (List.mem_filter.mp hp).1).same s1⟩
    refine ⟨_, rfl, l, ps, rfl, hl.same s1, by omega, fun H2 c s2 n2 h2 => ?_⟩
    have hclen : (cornersL (sims ps)).length ≤ 100 := by
      have := cornersL_len (sims ps)
      rw [sims_len] at this
      omega
    have esl := sizeLine_eq
    refine ⟨Nat.zero_le _, fun r nr => ?_⟩
    have s3 := same_upd (o := HO.lst []) nr
    have sm3 := (s1.trans s2).trans s3
    have nrH : H r = none := (s1.trans s2).free nr
    have hcr : c ≠ r := ne_of_none h2 nr
    have htr : t ≠ r := ne_of_none (s2 _ _ h1) nr
    have hlt3 := (hlt.same s2).same s3
    refine ⟨_, rfl, c, rfl, ⟨_, SqL.of (s3 _ _ h2)⟩, for_list (K := K) (a := c) (xs := sv (cornersL (sims ps)))
      (fun i σ H' => ∃ v4 v5 qs, σ = [some (.ref l), some (.ref t), some (.ref c), some (.ref r), v4, v5] ∧ Same H H' ∧ ListAt H' t (topsP ps) ∧ H' c = some (.lst (sv (cornersL (sims ps)))) ∧ NPairsAt H' r qs ∧
        qs.map (·.2) = leaningP (Sc.topsL (sims ps)) (cornersL (sims ps)) ((cornersL (sims ps)).take i))
      ⟨none, none, [], rfl, sm3, hlt3, s3 _ _ h2, ⟨upd_same, fun p hp => by cases hp⟩, rfl⟩ (fun i σ H' _ ⟨_, _, _, _, _, _, e, _⟩ => SqL.of e) ?_ ?_⟩
    · rintro i v σ H' hi ⟨v4, v5, qs, rfl, sm, hlt', hc', hnp, hqs⟩
      obtain ⟨a, hai, rfl⟩ := sv_get hi
      refine ⟨_, rfl, _, rfl, _, rfl, t, c, topsP ps, cornersL (sims ps), a, rfl, hlt', hc', ?_⟩
      rw [sims_tops]
      have hmore := leaningP_more (ts := Sc.topsL (sims ps)) (cs := cornersL (sims ps)) hai
      refine ⟨_, rfl, rfl, _, rfl, ?_⟩
      cases hlo : lowest (Sc.topsL (sims ps)) (cornersL (sims ps)) a with
      | none =>
        have e1 : (!decide (natV none = V.non)) = false := by decide
        rw [e1]
        refine iteF ?_
        refine ⟨_, _, qs, rfl, sm, hlt', hc', hnp, ?_⟩
        rw [hmore, hlo, hqs]
        simp
      | some b =>
        have e1 : (!decide (natV (some b) = V.non)) = true := by
          rw [decide_eq_false (by intro z; cases z)]
          rfl
        rw [e1]
        refine iteT ?_
        have hql : qs.length ≤ 100 := by
          have h5 := leaningP_len (Sc.topsL (sims ps)) (cornersL (sims ps)) ((cornersL (sims ps)).take i)
          rw [← hqs, List.length_map, List.length_take] at h5
          omega
        refine ⟨_, rfl, .inl ⟨rfl, _, SqL.of hnp.lst⟩, _, rfl, _, rfl, by show 2 ≤ sizeLine; decide, fun u nu => ?_⟩
        have su := same_upd (o := HO.tup [V.int (a : Int), natV (some b)]) nu
        have hru : r ≠ u := ne_of_none hnp.lst nu
        refine ⟨r, _, _, rfl, rfl, su _ _ hnp.lst, by rw [List.length_map]; omega, ?_⟩
        have keep : ∀ b' ob, H' b' = some ob → b' ≠ r → (upd (upd H' u (.tup [V.int (a : Int), natV (some b)])) r (.lst (qs.map (fun p => V.ref p.1) ++ [.ref u]))) b' = some ob := fun b' ob e hb => by
          rw [upd_ne hb]
          exact su _ _ e
        refine ⟨_, _, qs ++ [(u, (a, b))], rfl, fun b' ob e => keep b' ob (sm _ _ e) (ne_of_none e nrH), ⟨keep _ _ hlt'.lst htr, fun p hp => ?_⟩, keep _ _ hc' hcr, ⟨?_, fun p hp => ?_⟩, ?_⟩
        · refine keep _ _ (hlt'.each p hp) (fun e => ?_)
          have q1 := hlt'.each p hp
          unfold TupAt at q1
          rw [e, hnp.lst] at q1
          cases q1
        · rw [upd_same, List.map_append]
          rfl
        · rcases List.mem_append.mp hp with hp | hp
          · refine keep _ _ (hnp.each p hp) (fun e => ?_)
            have q1 := hnp.each p hp
            rw [e, hnp.lst] at q1
            cases q1
          · have ep : p = (u, (a, b)) := by simpa using hp
            subst ep
            rw [upd_ne (Ne.symm hru), upd_same]
            rfl
        · rw [hmore, hlo, List.map_append, hqs]
          rfl
    · rintro σ H' ⟨v4, v5, qs, rfl, sm, hlt', hc', hnp, hqs⟩
      rw [sv_len, List.take_length] at hqs
      exact ⟨_, rfl, q H' r qs sm nrH hnp hqs⟩

/-! ### Shape.leaning -/
def spLeaning (C : Addr) (rest : List (Str × V)) : Sp := fun vs H Q _ => ∃ (o l : Addr) (ps : PS2), vs = [.ref o] ∧ ShAt C rest H o l ∧ ListAt H l ps ∧ ps.length ≤ 100 ∧
  ∀ (H' : Hp) (p : Addr), Same H H' → H p = none → H' p = some (.lst (sv (leaningN (sims ps)))) → Q (.ref p) H'
theorem scLeaning : FnScope ["self", "pairs", "answer", "pair"] ["self"] (defScope sLeaning) := ⟨rfl, rfl, rfl, by decide +kernel, rfl, by decide +kernel, by decide +kernel⟩
theorem ok_leaning {f f1 : Addr} {fd fd1 : FuncData} {k : Nat} (F : Fun K "leaning" "Shape.leaning" sLeaning f fd) (T : ShTxt K C) (ml : mg "len" = none)
    (G1 : FnOk P w K mg base CX0 k f1 fd1 ["simplices"] spLeanP) (m1 : mg "leaning_pairs" = some (.ref f1)) (k1 : PySem.W.keepIn K (.ref f1) = true) (b1 : Binds K fd1 ["simplices"] []) :
    FnOk P w K mg base CX0 (k + 1) f fd ["self"] (spLeaning C rest) := by
  refine F.ok scLeaning (fun vs H Q E h => ?_) (fun cdv A outer s H vs Q E hr h => ?_)
  · obtain ⟨o, l, ps, rfl, _⟩ := h
    rfl
  · obtain ⟨o, l, ps, rfl, ⟨dx, ho⟩, hl, hz, q⟩ := h
    refine ⟨_, pss_cons (ps_set (i := 1) scLeaning.nd rfl (.inl rfl) (pe_call G1 hr rfl m1 k1 b1 .nil pass0 (pa_cons (pe_fld (pv 0) rfl) pa_nil)))
      (pss_cons (ps_set (i := 2) scLeaning.nd rfl (.inl rfl) (pe_lst (pa_cons (pe_callB call_len_seq (by rfl) ml PySem.boot_len (pa_cons (pv 1) pa_nil)) pa_nil)))
      (pss_cons (ps_for PassesOwn.never rfl (pi_list (pv 1)) (pg_name (i := 3) scLeaning.nd rfl (.inl rfl))
        (pss_one (ps_expr (pe_bm PySem.F.plainAttrs_list PySem.F.slot_list_extend PySem.F.type_list_extend mt_extendT (pv 2) (pa_cons (pv 3) pa_nil)))))
      (pss_one (ps_ret (pv 2))))), ?_⟩
    refine ⟨_, rfl, o, C, dx, _, _, rfl, ho, T.cl, T.nS, sF_sim l, l, ps, rfl, hl, hz, fun H' r qs sm nr hnp hqs => ?_⟩
    have esl := sizeLine_eq
    have hql : qs.length = (leaningL (sims ps)).length := by
      rw [← hqs, List.length_map]
    have hql2 : qs.length ≤ 100 := by
      have h5 := leaningP_len (Sc.topsL (sims ps)) (cornersL (sims ps)) (cornersL (sims ps))
      have h6 := cornersL_len (sims ps)
      rw [sims_len] at h6
      have h7 : leaningL (sims ps) = leaningP (Sc.topsL (sims ps)) (cornersL (sims ps)) (cornersL (sims ps)) := rfl
      rw [h7] at hql
      omega
    refine ⟨_, rfl, r, _, rfl, .inl (SqL.of hnp.lst), ?_⟩
    rw [List.length_map]
    refine ⟨by show 1 ≤ sizeLine; decide, fun u nu => ?_⟩
    have su := same_upd (o := HO.lst [V.int (qs.length : Int)]) nu
    have nuH : H u = none := sm.free nu
    have hru : r ≠ u := ne_of_none hnp.lst nu
    refine ⟨_, rfl, r, rfl, ⟨_, SqL.of (su _ _ hnp.lst)⟩, for_list (K := K) (a := r) (xs := qs.map fun p => V.ref p.1)
      (fun i σ H2 => ∃ v7, σ = [some (.ref o), some (.ref r), some (.ref u), v7] ∧ Same H H2 ∧ NPairsAt H2 r qs ∧ H2 u = some (.lst (sv (qs.length :: (qs.take i).flatMap fun p => [p.2.1, p.2.2]))))
      ⟨none, rfl, sm.trans su, hnp.same su, upd_same⟩ (fun i σ H2 _ ⟨_, _, _, e, _⟩ => SqL.of e.lst) ?_ ?_⟩
    · rintro i v σ H2 hi ⟨v7', rfl, sm2, hnp2, hu2⟩
      rw [List.getElem?_map] at hi
      cases eq : qs[i]? with
      | none => rw [eq] at hi; cases hi
      | some p =>
        rw [eq] at hi
        cases hi
        have hp := hnp2.each p (mem_of_get eq)
        have hlen : (qs.length :: (qs.take i).flatMap fun p => [p.2.1, p.2.2]).length ≤ 1 + 2 * 100 := by
          have h5 : ∀ zs : List (Addr × (Nat × Nat)), (zs.flatMap fun p => [p.2.1, p.2.2]).length = 2 * zs.length := by
            intro zs
            induction zs with
            | nil => rfl
            | cons z zs ih =>
              rw [List.flatMap_cons, List.length_append, ih, List.length_cons]
              simp
              omega
          rw [List.length_cons, h5, List.length_take]
          omega
        have hpu : ∀ z ∈ qs, z.1 ≠ u := fun z hz e => by
          have q1 := hnp2.each z hz
          rw [e, hu2] at q1
          cases q1
        refine ⟨_, rfl, .inl ⟨rfl, _, SqL.of hu2⟩, _, rfl, u, p.1, _, pv2 p.2, rfl, rfl, hu2, SqT.of hp, ?_, ?_⟩
        · rw [sv_len]
          show _ + 2 ≤ sizeLine
          omega
        · refine ⟨some (.ref p.1), rfl, fun b ob e => ?_, ⟨?_, fun z hz => ?_⟩, ?_⟩
          · rw [upd_ne (ne_of_none e nuH)]
            exact sm2 _ _ e
          · rw [upd_ne hru]
            exact hnp2.lst
          · rw [upd_ne (hpu z hz)]
            exact hnp2.each z hz
          · rw [upd_same, take_more eq, List.flatMap_append]
            have : sv (qs.length :: ((qs.take i).flatMap (fun p => [p.2.1, p.2.2]) ++ [p].flatMap fun p => [p.2.1, p.2.2])) = sv (qs.length :: (qs.take i).flatMap fun p => [p.2.1, p.2.2]) ++ pv2 p.2 := by
              rw [← List.cons_append, sv_append]
              rfl
            rw [this]
    · rintro σ H2 ⟨v7', rfl, sm2, hnp2, hu2⟩
      rw [List.length_map, List.take_length] at hu2
      refine ⟨_, rfl, q H2 u sm2 nuH ?_⟩
      rw [hu2]
      unfold leaningN
      rw [← hqs, List.length_map, List.flatMap_map]
end
end Sh

set_option maxRecDepth 100000
set_option maxHeartbeats 400000
namespace Sh
open PySem PySem.Spec PyProof.Rows L2
theorem shl_one (k : Nat) : (1 : Int) * 2 ^ ((k : Int)).toNat = ((2 ^ k : Nat) : Int) := by
  rw [Int.one_mul, Int.toNat_natCast, Int.natCast_pow]
  rfl
theorem or_nat (a b : Nat) : Builtin.bitOr (a : Int) (b : Int) = ((a ||| b : Nat) : Int) := by
  rw [Bits.bitOr_pp (by omega) (by omega), Int.toNat_natCast, Int.toNat_natCast]
theorem and_nat (a b : Nat) : Builtin.bitAnd (a : Int) (b : Int) = ((a &&& b : Nat) : Int) := by
  rw [bitAnd_pp (by omega) (by omega), Int.toNat_natCast, Int.toNat_natCast]
theorem vint_eq {a b : Nat} : decide (V.int (a : Int) = V.int (b : Int)) = decide (a = b) := by
  by_cases h : a = b
  · rw [decide_eq_true h, decide_eq_true (by rw [h])]
  · rw [decide_eq_false h, decide_eq_false (fun q => h (by
      have := V.int.inj q
      omega))]
theorem vint_zero {a : Nat} : decide (V.int (a : Int) = V.int 0) = decide (a = 0) := vint_eq (b := 0)
section
variable {P : Program} {w : World} {K : PySem.W.Frag} {mg : Str → Option Value} {base : Heap}
/-! ### bits_above -/
abbrev sBits : Stmt := top 37
def isOver (xs : List Sim) (x : Sim) : Nat → Bool := fun j => match xs[j]? with
  | some y => decide (y ≠ x) && HoBase.within x y
  | none => false
def spBits : Sp := fun vs H Q _ => ∃ (l : Addr) (ps : PS2), vs = [.ref l] ∧ ListAt H l ps ∧ ps.length ≤ 1000 ∧
  ∀ (H' : Hp) (p : Addr), Same H H' → H p = none → H' p = some (.lst (sv ((sims ps).map (Sc.aboveBits (sims ps))))) → Q (.ref p) H'
theorem scBits : FnScope ["simplices", "found", "simplex", "bits", "k", "other"] ["simplices"] (defScope sBits) := ⟨rfl, rfl, rfl, by decide +kernel, rfl, by decide +kernel, by decide +kernel⟩
theorem ok_bits {f f1 : Addr} {fd fd1 : FuncData} {k : Nat} (F : Fun K "bits_above" "bits_above" sBits f fd) (me : mg "enumerate" = none)
    (G : FnOk P w K mg base CX0 k f1 fd1 ["simplex", "other"] (spIsFace K)) (mf : mg "is_face" = some (.ref f1)) (kf : PySem.W.keepIn K (.ref f1) = true) (bf : Binds K fd1 ["simplex", "other"] []) :
    FnOk P w K mg base CX0 (k + 1) f fd ["simplices"] spBits := by
  refine F.ok scBits (fun vs H Q E h => ?_) (fun cdv A outer s H vs Q E hr h => ?_)
  · obtain ⟨l, ps, rfl, _⟩ := h
    rfl
  · obtain ⟨l, ps, rfl, hl, hz, q⟩ := h
    refine ⟨_, pss_cons (ps_set (i := 1) scBits.nd rfl (.inl rfl) (pe_lst pa_nil))
      (pss_cons (ps_for PassesOwn.never rfl (pi_list (pv 0)) (pg_name (i := 2) scBits.nd rfl (.inl rfl))
        (pss_cons (ps_set (i := 3) scBits.nd rfl (.inl rfl) pe_int)
        (pss_cons (ps_for PassesOwn.never rfl (pi_enum (by rfl) me (pa_cons (pv 0) pa_nil)) (pg_tup rfl (pgs_cons (pg_name (i := 4) scBits.nd rfl (.inl rfl)) (pgs_cons (pg_name (i := 5) scBits.nd rfl (.inl rfl)) pgs_nil)))
          (pss_one (ps_if (PW.pt (pw_and (pt_cmpR (show OpR _ _ (rNeD K) from op_neD hr.units) (pv 5) (pv 2) (nomark _)) (pw_and1 (pt_val (pe_call G hr rfl mf kf bf .nil pass0 (pa_cons (pv 2) (pa_cons (pv 5) pa_nil)))))))
            (pss_one (ps_set (i := 3) scBits.nd rfl (.inl rfl) (pe_op op_or (pv 3) (pe_op op_shl pe_int (pv 4))))) pss_nil)))
        (pss_one (ps_expr (pe_bm PySem.F.plainAttrs_list PySem.F.slot_list_append PySem.F.type_list_append mt_append (pv 1) (pa_cons (pv 3) pa_nil)))))))
      (pss_one (ps_ret (pv 1)))), ?_⟩
    refine ⟨Nat.zero_le _, fun o no => ?_⟩
    have s1 : Same H (upd H o (.lst [])) := same_upd no
    have esl := sizeLine_eq
    refine ⟨_, rfl, l, rfl, ⟨_, SqL.of (hl.same s1).lst⟩, for_list (K := K) (a := l) (xs := refs ps)
      (fun i σ H' => ∃ v2 v3 v4 v5, σ = [some (.ref l), some (.ref o), v2, v3, v4, v5] ∧ Same H H' ∧ H' o = some (.lst (sv (((sims ps).take i).map (Sc.aboveBits (sims ps))))))
      ⟨none, none, none, none, rfl, s1, upd_same⟩ (fun i σ H' _ ⟨_, _, _, _, _, e, _⟩ => SqL.of (hl.same e).lst) ?_ ?_⟩
    · rintro i v σ H' hi ⟨v2, v3, v4, v5, rfl, sm, ho⟩
      obtain ⟨p, hp, rfl⟩ := refs_get hi
      have hpm := mem_of_get hp
      refine ⟨_, rfl, l, refs ps, rfl, SqL.of (hl.same sm).lst, for_it (walk_enum (K := K) (a := l) (xs := refs ps))
        (fun j σ H2 => ∃ v4 v5, σ = [some (.ref l), some (.ref o), some (.ref p.1), some (.int (Sc.bitsUp (isOver (sims ps) p.2) j : Nat)), v4, v5] ∧ Same H' H2)
        ⟨v4, v5, rfl, Same.refl _⟩ (fun j σ H2 _ ⟨_, _, _, e⟩ => SqL.of ((hl.same sm).same e).lst) ?_ ?_⟩
      · rintro j v σ H2 H3 hj ⟨v4', v5', rfl, s2⟩ ⟨T, x, y, rfl, nT, rfl, hx, hy⟩
        cases hx
        obtain ⟨u, hu, rfl⟩ := refs_get hy
        have sT := same_upd (o := HO.tup [V.int ((j : Nat) : Int), V.ref u.1]) nT
        have sm3 := (sm.trans s2).trans sT
        have tu := (hl.each u (mem_of_get hu)).same sm3
        have tp := (hl.each p hpm).same sm3
        have hov : isOver (sims ps) p.2 j = (decide (u.2 ≠ p.2) && HoBase.within p.2 u.2) := by
          unfold isOver
          rw [sims_get hu]
        refine ⟨T, [.int ((j : Nat) : Int), .ref u.1], rfl, SqT.of upd_same, rfl, _, [.ref u.1], rfl, _, [], rfl, rfl, ?_⟩
        refine ⟨_, rfl, _, rfl, tD u.2, tD p.2, dp_tup tu.sq, dp_tup tp.sq, tD_shaped _, tD_shaped _, _, rfl, ?_⟩
        rw [tD_eqv]
        have noB : isOver (sims ps) p.2 j = false → Sc.bitsUp (isOver (sims ps) p.2) (j + 1) = Sc.bitsUp (isOver (sims ps) p.2) j := fun e => by
          rw [Sc.bitsUp, e]
          rfl
        by_cases e : u.2 = p.2
        · rw [decide_eq_true e]
          refine iteF ?_
          refine iteF ?_
          refine ⟨some (.int ((j : Nat) : Int)), some (.ref u.1), ?_, s2.trans sT⟩
          rw [noB (by rw [hov, decide_eq_false (fun q => q e)]; rfl)]
          rfl
        · rw [decide_eq_false e]
          refine iteT ?_
          refine ⟨_, rfl, _, rfl, p.1, u.1, p.2, u.2, rfl, tp.sq, tu.sq, _, rfl, ?_⟩
          cases hw : HoBase.within p.2 u.2 with
          | false =>
            refine iteF ?_
            refine ⟨some (.int ((j : Nat) : Int)), some (.ref u.1), ?_, s2.trans sT⟩
            rw [noB (by rw [hov, hw, Bool.and_false])]
            rfl
          | true =>
            refine iteT ?_
            have hj2 : j < ps.length := by
              rw [refs_len] at hj
              exact hj
            refine ⟨_, rfl, _, rfl, 1, (j : Int), rfl, rfl, ⟨by omega, by omega, by decide⟩, _, _, rfl, rfl, ?_⟩
            refine ⟨some (.int ((j : Nat) : Int)), some (.ref u.1), ?_, s2.trans sT⟩
            have e2 : Sc.bitsUp (isOver (sims ps) p.2) (j + 1) = Sc.bitsUp (isOver (sims ps) p.2) j ||| 2 ^ j := by
              rw [Sc.bitsUp, hov, decide_eq_true e, hw]
              rfl
            rw [e2, ← or_nat, ← shl_one]
            rfl
      · rintro σ H2 ⟨v4', v5', rfl, s2⟩
        have ho2 := s2 _ _ ho
        have hlen : (sv (((sims ps).take i).map (Sc.aboveBits (sims ps)))).length ≤ 1000 := by
          rw [sv_len, List.length_map, List.length_take, sims_len]
          omega
        refine ⟨_, rfl, .inl ⟨rfl, _, SqL.of ho2⟩, _, rfl, o, _, _, rfl, rfl, ho2, by omega, ?_⟩
        refine ⟨_, _, _, _, rfl, fun b ob e => ?_, ?_⟩
        · rw [upd_ne (ne_of_none e no)]
          exact s2 _ _ (sm _ _ e)
        · rw [upd_same, take_more (sims_get hp), List.map_append, sv_append]
          rw [refs_len, ← sims_len]
          rfl
    · rintro σ H' ⟨v2, v3, v4, v5, rfl, sm, ho⟩
      rw [refs_len, ← sims_len, List.take_length] at ho
      exact ⟨_, rfl, q H' o sm no ho⟩
end
end Sh

set_option maxRecDepth 100000
set_option maxHeartbeats 400000
namespace Sh
open PySem PySem.Spec PyProof.Rows L2
theorem over_fits {b left k : Nat} (hb : b.testBit k = false) (hk : left.testBit k = true) : (b &&& left) ≤ left - 2 ^ k := by
  have e : b &&& left = b &&& (left - 2 ^ k) := by
    apply Nat.eq_of_testBit_eq
    intro j
    rw [Nat.testBit_and, Nat.testBit_and, Sc.sub_bit hk]
    by_cases ej : j = k
    · subst ej
      rw [hb]
      rfl
    · simp [ej]
  rw [e]
  exact Nat.and_le_right
theorem zip_get {A : List Nat} {j b : Nat} (h : A[j]? = some b) : A.zipIdx[j]? = some (b, j) := by
  rw [List.getElem?_zipIdx, h]
  simp
theorem above_self (xs : List Sim) {k : Nat} {x : Sim} (h : xs[k]? = some x) : (Sc.aboveBits xs x).testBit k = false := by
  unfold Sc.aboveBits
  rw [Sc.bitsUp_test, h]
  simp
section
variable {P : Program} {w : World} {K : PySem.W.Frag} {mg : Str → Option Value} {base : Heap}
/-! ### steps_from -/
abbrev sSteps : Stmt := top 38
def stepsT (A : List Nat) (left j : Nat) : List (Nat × Nat) := (A.zipIdx.take j).filterMap fun p => Sc.stepAt left p.1 p.2
theorem stepsT_len (A : List Nat) (left j : Nat) : (stepsT A left j).length ≤ A.length := by
  have h1 := List.length_filterMap_le (fun p : Nat × Nat => Sc.stepAt left p.1 p.2) (A.zipIdx.take j)
  rw [List.length_take, List.length_zipIdx] at h1
  unfold stepsT
  omega
theorem stepsT_none {A : List Nat} {left j b : Nat} (h : A[j]? = some b) (e : Sc.stepAt left b j = none) : stepsT A left (j + 1) = stepsT A left j := by
  unfold stepsT
  rw [take_more (zip_get h), List.filterMap_append]
  simp [e]
theorem stepsT_some {A : List Nat} {left j b : Nat} {s : Nat × Nat} (h : A[j]? = some b) (e : Sc.stepAt left b j = some s) : stepsT A left (j + 1) = stepsT A left j ++ [s] := by
  unfold stepsT
  rw [take_more (zip_get h), List.filterMap_append]
  simp [e]
def spSteps : Sp := fun vs H Q _ => ∃ (a : Addr) (A : List Nat) (left : Nat), vs = [.ref a, .int (left : Int)] ∧ H a = some (.lst (sv A)) ∧ A.length ≤ 1000 ∧ (∀ (k b : Nat), A[k]? = some b → b.testBit k = false) ∧
  ∀ (H' : Hp) (p : Addr) (qs : List (Addr × (Nat × Nat))), Same H H' → H p = none → NPairsAt H' p qs → qs.map (·.2) = Sc.stepsL A left → Q (.ref p) H'
theorem scSteps : FnScope ["above", "left", "steps", "k", "bits", "over"] ["above", "left"] (defScope sSteps) := ⟨rfl, rfl, rfl, by decide +kernel, rfl, by decide +kernel, by decide +kernel⟩
theorem ok_steps {f : Addr} {fd : FuncData} {k : Nat} (F : Fun K "steps_from" "steps_from" sSteps f fd) (me : mg "enumerate" = none) :
    FnOk P w K mg base CX0 (k + 1) f fd ["above", "left"] spSteps := by
  refine F.ok scSteps (fun vs H Q E h => ?_) (fun cdv A0 outer s H vs Q E hr h => ?_)
  · obtain ⟨a, A, left, rfl, _⟩ := h
    rfl
  · obtain ⟨a, A, left, rfl, ha, hz, hself, q⟩ := h
    refine ⟨_, pss_cons (ps_set (i := 2) scSteps.nd rfl (.inl rfl) (pe_lst pa_nil))
      (pss_cons (ps_for PassesOwn.never rfl (pi_enum (by rfl) me (pa_cons (pv 0) pa_nil)) (pg_tup rfl (pgs_cons (pg_name (i := 3) scSteps.nd rfl (.inl rfl)) (pgs_cons (pg_name (i := 4) scSteps.nd rfl (.inl rfl)) pgs_nil)))
        (pss_one (ps_if (pt_cmpR op_ne (pe_op op_and (pv 1) (pe_op op_shl pe_int (pv 3))) pe_int (nomark _))
          (pss_cons (ps_set (i := 5) scSteps.nd rfl (.inl rfl) (pe_op op_and (pv 4) (pv 1)))
          (pss_one (ps_if (pt_cmpR op_eq (pv 5) pe_int (nomark _))
            (pss_one (ps_expr (pe_bm PySem.F.plainAttrs_list PySem.F.slot_list_append PySem.F.type_list_append mt_append (pv 2) (pa_cons (pe_tup (pa_cons (pe_op op_sub (pv 1) (pe_op op_shl pe_int (pv 3))) (pa_cons pe_int pa_nil))) pa_nil))))
            (pss_one (ps_if (pt_cmpR op_eq (pe_op op_and (pv 5) (pe_op op_sub (pv 5) pe_int)) pe_int (nomark _))
              (pss_one (ps_expr (pe_bm PySem.F.plainAttrs_list PySem.F.slot_list_append PySem.F.type_list_append mt_append (pv 2) (pa_cons (pe_tup (pa_cons (pe_op op_sub (pe_op op_sub (pv 1) (pe_op op_shl pe_int (pv 3))) (pv 5)) (pa_cons pe_int pa_nil))) pa_nil))))
              pss_nil)))))
          pss_nil)))
      (pss_one (ps_ret (pv 2)))), ?_⟩
    refine ⟨Nat.zero_le _, fun r nr => ?_⟩
    have s1 : Same H (upd H r (.lst [])) := same_upd nr
    have esl := sizeLine_eq
    refine ⟨_, rfl, a, sv A, rfl, SqL.of (s1 _ _ ha), for_it (walk_enum (K := K) (a := a) (xs := sv A))
      (fun j σ H' => ∃ v3 v4 v5 qs, σ = [some (.ref a), some (.int (left : Int)), some (.ref r), v3, v4, v5] ∧ Same H H' ∧ NPairsAt H' r qs ∧ qs.map (·.2) = stepsT A left j)
      ⟨none, none, none, [], rfl, s1, ⟨upd_same, fun p hp => by cases hp⟩, rfl⟩ (fun j σ H' _ ⟨_, _, _, _, _, e, _⟩ => SqL.of (e _ _ ha)) ?_ ?_⟩
    · rintro j v σ H' H3 hj ⟨v3, v4, v5, qs, rfl, sm, hnp, hqs⟩ ⟨T, x, y, rfl, nT, rfl, hx, hy⟩
      cases hx
      obtain ⟨b, hb, rfl⟩ := sv_get hy
      have hjl : j < A.length := by
        rw [sv_len] at hj
        exact hj
      have sT := same_upd (o := HO.tup [V.int ((j : Nat) : Int), V.int (b : Int)]) nT
      have hnp3 := hnp.same sT
      have sm3 := sm.trans sT
      have hql : qs.length ≤ 1000 := by
        have h5 := stepsT_len A left j
        rw [← hqs, List.length_map] at h5
        omega
      -- a step is added
      have put : ∀ (H4 : Hp) (s : Nat × Nat), H4 = upd H' T (.tup [V.int ((j : Nat) : Int), V.int (b : Int)]) → Sc.stepAt left b j = some s → ∀ u, H4 u = none → ∀ v5,
          ∃ v3 v4 v5' qs', [some (V.ref a), some (V.int (left : Int)), some (V.ref r), some (V.int (j : Int)), some (V.int (b : Int)), v5] = [some (.ref a), some (.int (left : Int)), some (.ref r), v3, v4, v5'] ∧ Same H (upd (upd H4 u (.tup (pv2 s))) r (.lst (qs.map (fun p => V.ref p.1) ++ [.ref u]))) ∧
            NPairsAt (upd (upd H4 u (.tup (pv2 s))) r (.lst (qs.map (fun p => V.ref p.1) ++ [.ref u]))) r qs' ∧ qs'.map (·.2) = stepsT A left (j + 1) := by
        rintro H4 s rfl hs u nu v5
        have su := same_upd (o := HO.tup (pv2 s)) nu
        have hru : r ≠ u := ne_of_none hnp3.lst nu
        have keep : ∀ b' ob, (upd H' T (.tup [V.int ((j : Nat) : Int), V.int (b : Int)])) b' = some ob → b' ≠ r → (upd (upd (upd H' T (.tup [V.int ((j : Nat) : Int), V.int (b : Int)])) u (.tup (pv2 s))) r (.lst (qs.map (fun p => V.ref p.1) ++ [.ref u]))) b' = some ob := fun b' ob e hb => by
          rw [upd_ne hb]
          exact su _ _ e
        refine ⟨_, _, _, qs ++ [(u, s)], rfl, fun b' ob e => keep b' ob (sm3 _ _ e) (ne_of_none e nr), ⟨?_, fun p hp => ?_⟩, ?_⟩
        · rw [upd_same, List.map_append]
          rfl
        · rcases List.mem_append.mp hp with hp | hp
          · refine keep _ _ (hnp3.each p hp) (fun e => ?_)
            have q1 := hnp3.each p hp
            rw [e, hnp3.lst] at q1
            cases q1
          · have ep : p = (u, s) := by simpa using hp
            subst ep
            rw [upd_ne (Ne.symm hru), upd_same]
        · rw [stepsT_some hb hs, List.map_append, hqs]
          rfl
      have hlen : (qs.map fun p => V.ref p.1).length < sizeLine := by
        rw [List.length_map]
        omega
      refine ⟨T, [.int ((j : Nat) : Int), .int (b : Int)], rfl, SqT.of upd_same, rfl, _, [.int (b : Int)], rfl, _, [], rfl, rfl, ?_⟩
      refine ⟨_, rfl, _, rfl, 1, (j : Int), rfl, rfl, ⟨by omega, by omega, by decide⟩, _, _, rfl, rfl, rfl, _, rfl, ?_⟩
      show if (!decide (V.int (Builtin.bitAnd (left : Int) (1 * 2 ^ ((j : Int)).toNat)) = V.int 0)) = true then _ else _
      rw [shl_one, and_nat, vint_zero]
      by_cases h1 : left &&& 2 ^ j = 0
      · rw [decide_eq_true h1]
        refine iteF ?_
        refine ⟨some (.int (j : Int)), some (.int (b : Int)), v5, qs, rfl, sm3, hnp3, ?_⟩
        rw [stepsT_none hb (by unfold Sc.stepAt; rw [if_pos h1]), hqs]
      rw [decide_eq_false h1]
      refine iteT ?_
      have hbit : left.testBit j = true := by
        cases e : left.testBit j with
        | true => rfl
        | false => exact absurd ((Sc.and_pow _ _).mpr e) h1
      have hle := Sc.pow_le_of_bit hbit
      have hov := over_fits (hself j b hb) hbit
      refine ⟨_, rfl, _, rfl, _, _, rfl, rfl, ?_⟩
      dsimp only
      rw [and_nat]
      refine ⟨_, rfl, rfl, _, rfl, ?_⟩
      show if decide (V.int ((b &&& left : Nat) : Int) = V.int 0) = true then _ else _
      rw [vint_zero]
      by_cases h2 : b &&& left = 0
      · rw [decide_eq_true h2]
        refine iteT ?_
        refine ⟨_, rfl, .inl ⟨rfl, _, SqL.of hnp3.lst⟩, _, rfl, _, rfl, 1, (j : Int), rfl, rfl, ⟨by omega, by omega, by decide⟩, _, _, rfl, rfl, by show 2 ≤ sizeLine; decide, fun u nu => ?_⟩
        have e1 : [V.int ((left : Int) - 1 * 2 ^ ((j : Int)).toNat), V.int 1] = pv2 (left - 2 ^ j, 1) := by
          rw [shl_one]
          unfold pv2
          have : (left : Int) - ((2 ^ j : Nat) : Int) = ((left - 2 ^ j : Nat) : Int) := by omega
          rw [this]
          rfl
        rw [e1] at *
        have su := same_upd (o := HO.tup (pv2 (left - 2 ^ j, 1))) nu
        refine ⟨r, _, _, rfl, rfl, su _ _ hnp3.lst, hlen, ?_⟩
        exact put _ (left - 2 ^ j, 1) rfl (by unfold Sc.stepAt; rw [if_neg h1, if_pos h2]) u nu _
      rw [decide_eq_false h2]
      refine iteF ?_
      refine ⟨_, rfl, _, rfl, _, _, rfl, rfl, _, _, rfl, rfl, rfl, _, rfl, ?_⟩
      have e3 : ((b &&& left : Nat) : Int) - 1 = ((b &&& left) - 1 : Nat) := by omega
      show if decide (V.int (Builtin.bitAnd ((b &&& left : Nat) : Int) (((b &&& left : Nat) : Int) - 1)) = V.int 0) = true then _ else _
      rw [e3, and_nat, vint_zero]
      by_cases h3 : (b &&& left) &&& ((b &&& left) - 1) = 0
      · rw [decide_eq_true h3]
        refine iteT ?_
        refine ⟨_, rfl, .inl ⟨rfl, _, SqL.of hnp3.lst⟩, _, rfl, _, rfl, 1, (j : Int), rfl, rfl, ⟨by omega, by omega, by decide⟩, _, _, rfl, rfl, _, rfl, _, _, rfl, rfl, by show 2 ≤ sizeLine; decide, fun u nu => ?_⟩
        have e1 : [V.int ((left : Int) - 1 * 2 ^ ((j : Int)).toNat - ((b &&& left : Nat) : Int)), V.int 0] = pv2 (left - 2 ^ j - (b &&& left), 0) := by
          rw [shl_one]
          unfold pv2
          have : (left : Int) - ((2 ^ j : Nat) : Int) - ((b &&& left : Nat) : Int) = ((left - 2 ^ j - (b &&& left) : Nat) : Int) := by omega
          rw [this]
          rfl
        rw [e1] at *
        have su := same_upd (o := HO.tup (pv2 (left - 2 ^ j - (b &&& left), 0))) nu
        refine ⟨r, _, _, rfl, rfl, su _ _ hnp3.lst, hlen, ?_⟩
        exact put _ (left - 2 ^ j - (b &&& left), 0) rfl (by unfold Sc.stepAt; rw [if_neg h1, if_neg h2, if_pos h3]) u nu _
      rw [decide_eq_false h3]
      refine iteF ?_
      refine ⟨some (.int (j : Int)), some (.int (b : Int)), _, qs, rfl, sm3, hnp3, ?_⟩
      rw [stepsT_none hb (by unfold Sc.stepAt; rw [if_neg h1, if_neg h2, if_neg h3]), hqs]
    · rintro σ H' ⟨v3, v4, v5, qs, rfl, sm, hnp, hqs⟩
      refine ⟨_, rfl, q H' r qs sm nr hnp ?_⟩
      rw [hqs]
      unfold stepsT Sc.stepsL
      rw [sv_len, List.take_of_length_le (by rw [List.length_zipIdx]; omega)]
end
end Sh

set_option maxRecDepth 100000
set_option maxHeartbeats 400000
namespace Sh
open PySem PySem.Spec PyProof.Rows L2
/-- a dict of numbers by numbers -/
def DictRel (kvs : List (L2.Key × V)) (d : Nat → Option Nat) : Prop := ∀ m : Nat, valV kvs (Sum.inl (m : Int)) = (d m).map fun (v : Nat) => V.int (v : Int)
theorem putK_len {kvs : List (L2.Key × V)} {k : L2.Key} {v : V} : (putK kvs k v).length ≤ kvs.length + 1 := by
  unfold putK
  split
  · rw [List.length_map]
    omega
  · rw [List.length_append]
    exact Nat.le_refl _
theorem dictRel_put {kvs : List (L2.Key × V)} {d : Nat → Option Nat} (h : DictRel kvs d) (n r v : Nat) : DictRel (putK kvs (Sum.inl (r : Int)) (.int ((min ((d r).getD n) v : Nat) : Int))) (Sc.putMin d n r v) := by
  intro m
  rw [valV_put]
  unfold Sc.putMin
  by_cases e : m = r
  · subst e
    rw [if_pos rfl, if_pos rfl]
    rfl
  · rw [if_neg (fun q => e (by
      have := Sum.inl.inj q
      omega)), if_neg e]
    exact h m
theorem min_int (a b : Nat) : (if (b : Int) < (a : Int) then (b : Int) else (a : Int)) = ((min a b : Nat) : Int) := by
  by_cases h : b < a
  · rw [if_pos (by omega), Nat.min_eq_right (by omega)]
  · rw [if_neg (by omega), Nat.min_eq_left (by omega)]
section
variable {P : Program} {w : World} {K : PySem.W.Frag} {mg : Str → Option Value} {base : Heap}
/-! ### fewest_cuts -/
abbrev sCuts : Stmt := top 39
def spCuts : Sp := fun vs H Q _ => ∃ (l : Addr) (ps : PS2), vs = [.ref l] ∧ ListAt H l ps ∧ ps.length ≤ 13 ∧ Sc.Good (sims ps) ∧
  ∀ (H' : Hp) (v : Nat), Same H H' → (v : Int) = Sc.phi (sims ps) → Q (.int (v : Int)) H'
theorem scCuts : FnScope ["simplices", "above", "whole", "cuts", "left", "rest", "cut"] ["simplices"] (defScope sCuts) := ⟨rfl, rfl, rfl, by decide +kernel, rfl, by decide +kernel, by decide +kernel⟩
theorem ok_cuts {f f1 f2 : Addr} {fd fd1 fd2 : FuncData} {k : Nat} (F : Fun K "fewest_cuts" "fewest_cuts" sCuts f fd) (ml : mg "len" = none) (mr : mg "range" = none) (mmin : mg "min" = none)
    (G1 : FnOk P w K mg base CX0 k f1 fd1 ["simplices"] spBits) (m1 : mg "bits_above" = some (.ref f1)) (k1 : PySem.W.keepIn K (.ref f1) = true) (b1 : Binds K fd1 ["simplices"] [])
    (G2 : FnOk P w K mg base CX0 k f2 fd2 ["above", "left"] spSteps) (m2 : mg "steps_from" = some (.ref f2)) (k2 : PySem.W.keepIn K (.ref f2) = true) (b2 : Binds K fd2 ["above", "left"] []) :
    FnOk P w K mg base CX0 (k + 1) f fd ["simplices"] spCuts := by
  refine F.ok scCuts (fun vs H Q E h => ?_) (fun cdv A0 outer s H vs Q E hr h => ?_)
  · obtain ⟨l, ps, rfl, _⟩ := h
    rfl
  · obtain ⟨l, ps, rfl, hl, hz, hg, q⟩ := h
    have hu := hu_of hr
    refine ⟨_, pss_cons (ps_set (i := 1) scCuts.nd rfl (.inl rfl) (pe_call G1 hr rfl m1 k1 b1 .nil pass0 (pa_cons (pv 0) pa_nil)))
      (pss_cons (ps_set (i := 2) scCuts.nd rfl (.inl rfl) (pe_op op_sub (pe_op op_shl pe_int (pe_callB call_len_seq (by rfl) ml PySem.boot_len (pa_cons (pv 0) pa_nil))) pe_int))
      (pss_cons (ps_set (i := 3) scCuts.nd rfl (.inl rfl) (pe_disp (pps_cons (pv 2) pe_int pps_nil) (by rfl) (by rfl) (fun z => by cases z) (by decide)))
      (pss_cons (ps_for PassesOwn.never rfl (pi_range3 rfl mr (pa_cons (pv 2) (pa_cons pe_int (pa_cons (pe_un un_neg pe_int) pa_nil)))) (pg_name (i := 4) scCuts.nd rfl (.inl rfl))
        (pss_one (ps_if (pt_cmp (pc_din hu (pv 4) (pv 3)))
          (pss_one (ps_for PassesOwn.never rfl (pi_list (pe_call G2 hr rfl m2 k2 b2 .nil pass0 (pa_cons (pv 1) (pa_cons (pv 4) pa_nil)))) (pg_tup rfl (pgs_cons (pg_name (i := 5) scCuts.nd rfl (.inl rfl)) (pgs_cons (pg_name (i := 6) scCuts.nd rfl (.inl rfl)) pgs_nil)))
            (pss_one (ps_dput hu (pv 3) (pv 5) (pe_callB (call_min2 rfl) (by rfl) mmin (by decide +kernel) (pa_cons (pe_dget2 hu (pv 3) (pv 5) (pe_callB call_len_seq (by rfl) ml PySem.boot_len (pa_cons (pv 0) pa_nil)) ⟨rfl, rfl, rfl, rfl⟩) (pa_cons (pe_op op_add (pe_dget hu (pv 3) (pv 4) (fun _ _ => rfl)) (pv 6)) pa_nil))) rfl))))
          pss_nil)))
      (pss_one (ps_ret (pe_dget hu (pv 3) pe_int (fun _ _ => rfl))))))), ?_⟩
    have esl := sizeLine_eq
    have hsl : (sims ps).length = ps.length := sims_len ps
    refine ⟨_, rfl, l, ps, rfl, hl, by omega, fun H1 a s1 n1 h1 => ?_⟩
    refine ⟨_, rfl, l, refs ps, rfl, .inl (SqL.of (hl.same s1).lst), 1, ((refs ps).length : Int), rfl, rfl, ⟨by omega, by rw [refs_len]; omega, by decide⟩, _, _, rfl, rfl, ?_⟩
    have hpos : 0 < 2 ^ ps.length := Nat.pow_pos (by decide)
    have hW13 : 2 ^ ps.length ≤ 2 ^ 13 := Nat.pow_le_pow_right (by decide) hz
    obtain ⟨W, hW⟩ : ∃ W, W = 2 ^ ps.length - 1 := ⟨_, rfl⟩
    have ew : (1 : Int) * 2 ^ (((refs ps).length : Nat) : Int).toNat - 1 = (W : Int) := by
      rw [shl_one, refs_len, hW]
      omega
    dsimp only
    rw [ew]
    refine fun d nd => ⟨_, rfl, upd_same, [(Sum.inl (W : Int), .int 0)], rfl, Nat.le_of_ble_eq_true rfl, ?_⟩
    have nd0 : H d = none := s1.free nd
    have sd : Same H1 (upd (upd H1 d (.dK [])) d (.dK (mergeK [] [(Sum.inl (W : Int), .int 0)]))) := fun b ob e => by
      rw [upd_ne (ne_of_none e nd), upd_ne (ne_of_none e nd)]
      exact e
    have hself : ∀ (k b : Nat), ((sims ps).map (Sc.aboveBits (sims ps)))[k]? = some b → b.testBit k = false := fun k b hb => by
      rw [List.getElem?_map] at hb
      cases e : (sims ps)[k]? with
      | none => rw [e] at hb; cases hb
      | some x =>
        rw [e] at hb
        have eb : Sc.aboveBits (sims ps) x = b := Option.some.inj hb
        subst eb
        exact above_self _ e
    generalize hA : (sims ps).map (Sc.aboveBits (sims ps)) = A at h1 hself
    have hAl : A.length = ps.length := by
      rw [← hA, List.length_map, sims_len]
    have had : a ≠ d := ne_of_none h1 nd
    have hd0 : DictRel (mergeK [] [(Sum.inl (W : Int), V.int 0)]) (fun m => if m = 2 ^ (sims ps).length - 1 then some 0 else none) := fun m => by
      have e1 : mergeK [] [((Sum.inl (W : Int) : L2.Key), V.int 0)] = putK [] (Sum.inl (W : Int)) (V.int 0) := rfl
      rw [e1, valV_put, hsl, ← hW]
      dsimp only
      by_cases e : m = W
      · subst e
        rw [if_pos rfl, if_pos rfl]
        rfl
      · rw [if_neg (fun q => e (by
          have := Sum.inl.inj q
          omega)), if_neg e]
        rfl
    refine ⟨_, rfl, 1, rfl, (W : Int), 0, -1, W, rfl, (by
      have := RgC.neg (i := (W : Int)) (j := 0) (by omega) (by omega) (by omega) (by omega)
      rwa [show ((W : Int) - 0).toNat = W by omega] at this), for_rangeC (lo := (W : Int)) (c := -1) (n := W)
      (fun i σ H' => ∃ v4 v5 v6 kvs d', σ = [some (.ref l), some (.ref a), some (.int (W : Int)), some (.ref d), v4, v5, v6] ∧ Same H H' ∧ H' a = some (.lst (sv A)) ∧ H' d = some (.dK kvs) ∧ DictRel kvs d' ∧ Sc.DInv (sims ps) (W - i) d' ∧ kvs.length ≤ 1 + 13 * i)
      ⟨none, none, none, _, _, rfl, s1.trans sd, sd _ _ h1, upd_same, hd0, (by
        have := Sc.dinv_start hg
        rw [hsl, ← hW] at this
        rw [hsl, ← hW]
        exact this), Nat.le_of_ble_eq_true rfl⟩ ?_ ?_⟩
    · rintro i σ H' hi ⟨v4, v5, v6, kvs, d', rfl, sm, ha', hd', rel, dinv, hkl⟩
      obtain ⟨t, ht⟩ : ∃ t, W - i = t + 1 := ⟨W - i - 1, by omega⟩
      have et : W - (i + 1) = t := by omega
      have el : (W : Int) + ((i : Nat) : Int) * (-1) = ((t + 1 : Nat) : Int) := by omega
      rw [el]
      rw [ht] at dinv
      refine ⟨_, rfl, _, rfl, d, _, rfl, DGet.k (k := Sum.inl ((t + 1 : Nat) : Int)) hd', _, rfl, ?_⟩
      rw [rel (t + 1)]
      cases hw : d' (t + 1) with
      | none =>
        refine iteF ?_
        refine ⟨_, v5, v6, kvs, d', rfl, sm, ha', hd', rel, ?_, by omega⟩
        rw [et]
        exact Sc.dinv_skip dinv hw
      | some w0 =>
        refine iteT ?_
        refine ⟨_, rfl, _, rfl, a, A, t + 1, rfl, ha', by omega, hself, fun H2 sp qs s2 nsp hnp hqs => ?_⟩
        have hql : qs.length ≤ 13 := by
          have h5 := List.length_filterMap_le (fun p : Nat × Nat => Sc.stepAt (t + 1) p.1 p.2) A.zipIdx
          have h6 : (Sc.stepsL A (t + 1)).length = qs.length := by rw [← hqs, List.length_map]
          rw [List.length_zipIdx] at h5
          unfold Sc.stepsL at h6
          omega
        have hspd : sp ≠ d := fun e => by
          rw [e, hd'] at nsp
          cases nsp
        refine ⟨sp, rfl, ⟨_, SqL.of hnp.lst⟩, for_list (K := K) (a := sp) (xs := qs.map fun p => V.ref p.1)
          (fun j σ H3 => ∃ v5 v6 kvs3 d3, σ = [some (.ref l), some (.ref a), some (.int (W : Int)), some (.ref d), some (.int ((t + 1 : Nat) : Int)), v5, v6] ∧ Same H H3 ∧ H3 a = some (.lst (sv A)) ∧ H3 d = some (.dK kvs3) ∧ DictRel kvs3 d3 ∧ NPairsAt H3 sp qs ∧ Sc.DIn (sims ps) (t + 1) w0 ((Sc.stepsL A (t + 1)).take j) d3 ∧ kvs3.length ≤ 1 + 13 * i + j)
          ⟨v5, v6, kvs, d', rfl, sm.trans s2, s2 _ _ ha', s2 _ _ hd', rel, hnp, Sc.din_start dinv hw, by omega⟩ (fun j σ H3 _ ⟨_, _, _, _, _, _, _, _, _, e, _⟩ => SqL.of e.lst) ?_ ?_⟩
        · rintro j v σ H3 hj ⟨v5', v6', kvs3, d3, rfl, sm3, ha3, hd3, rel3, hnp3, din, hkl3⟩
          rw [List.getElem?_map] at hj
          cases eq : qs[j]? with
          | none => rw [eq] at hj; cases hj
          | some p =>
            rw [eq] at hj
            cases hj
            obtain ⟨u, r, cut⟩ := p
            have hu3 := hnp3.each _ (mem_of_get eq)
            have hjl : j < qs.length := (List.getElem?_eq_some_iff.mp eq).1
            have hst : (Sc.stepsL A (t + 1))[j]? = some (r, cut) := by
              rw [← hqs, List.getElem?_map, eq]
              rfl
            have eo : ((d3 r).map fun (v : Nat) => V.int (v : Int)).getD (V.int (((refs ps).length : Nat) : Int)) = V.int (((d3 r).getD ps.length : Nat) : Int) := by
              cases d3 r with
              | none =>
                show V.int _ = V.int _
                rw [refs_len]
                rfl
              | some z => rfl
            have g1 : DGet H3 d (.int (r : Int)) ((d3 r).map fun (v : Nat) => V.int (v : Int)) := by
              rw [← rel3 r]
              exact DGet.k (k := Sum.inl (r : Int)) hd3
            have g2 : DGet H3 d (.int ((t + 1 : Nat) : Int)) (some (V.int (w0 : Int))) := by
              have h5 := rel3 (t + 1)
              rw [din.here] at h5
              have h6 := DGet.k (k := Sum.inl ((t + 1 : Nat) : Int)) hd3
              rw [h5] at h6
              exact h6
            refine ⟨u, [.int (r : Int), .int (cut : Int)], rfl, SqT.of hu3, rfl, _, [.int (cut : Int)], rfl, _, [], rfl, rfl, ?_⟩
            refine ⟨_, rfl, d, rfl, .inl ⟨_, .inl hd3⟩, _, rfl, _, rfl, l, _, rfl, .inl (SqL.of (hl.same sm3).lst), _, g1, _, rfl, _, rfl, d, _, rfl, g2, _, rfl, _, _, rfl, rfl, (((d3 r).getD ps.length : Nat) : Int), ((w0 + cut : Nat) : Int), ?_, ?_⟩
            · rw [eo]
              rfl
            rw [min_int]
            refine ⟨_, rfl, _, rfl, d, _, rfl, DPut.k (k := Sum.inl (r : Int)) hd3 (by omega), ?_⟩
            have keep : ∀ b ob, H3 b = some ob → b ≠ d → (upd H3 d (.dK (putK kvs3 (Sum.inl (r : Int)) (.int ((min ((d3 r).getD ps.length) (w0 + cut) : Nat) : Int))))) b = some ob := fun b ob e hb => by
              rw [upd_ne hb]
              exact e
            refine ⟨_, _, _, _, rfl, fun b ob e => keep b ob (sm3 _ _ e) (ne_of_none e nd0), keep _ _ ha3 had, upd_same, dictRel_put rel3 ps.length r (w0 + cut), ⟨keep _ _ hnp3.lst hspd, fun p hp => ?_⟩, ?_, ?_⟩
            · refine keep _ _ (hnp3.each p hp) (fun e => ?_)
              have q1 := hnp3.each p hp
              rw [e, hd3] at q1
              cases q1
            · rw [take_more hst, ← hsl]
              rw [← hA] at din hst ⊢
              exact Sc.din_step hg (by omega) din (mem_of_get hst)
            · have := putK_len (kvs := kvs3) (k := Sum.inl (r : Int)) (v := V.int ((min ((d3 r).getD ps.length) (w0 + cut) : Nat) : Int))
              omega
        · rintro σ H3 ⟨v5', v6', kvs3, d3, rfl, sm3, ha3, hd3, rel3, hnp3, din, hkl3⟩
          rw [List.length_map] at din hkl3
          have e6 : (Sc.stepsL A (t + 1)).length = qs.length := by rw [← hqs, List.length_map]
          rw [← e6, List.take_length] at din
          refine ⟨_, _, _, kvs3, d3, rfl, sm3, ha3, hd3, rel3, ?_, by omega⟩
          rw [et]
          rw [← hA] at din
          exact Sc.din_end hg (by omega) din
    · rintro σ H' ⟨v4, v5, v6, kvs, d', rfl, sm, ha', hd', rel, dinv, hkl⟩
      rw [Nat.sub_self] at dinv
      obtain ⟨v, hv, hphi⟩ := Sc.dinv_end dinv
      have g0 : DGet H' d (.int 0) (some (V.int (v : Int))) := by
        have h5 := rel 0
        rw [hv] at h5
        have h6 := DGet.k (k := Sum.inl ((0 : Nat) : Int)) hd'
        rw [h5] at h6
        exact h6
      exact ⟨_, rfl, d, _, rfl, g0, q H' v sm hphi⟩
end
end Sh

set_option maxRecDepth 100000
set_option maxHeartbeats 400000
namespace Sh
open PySem PySem.Spec PyProof.Rows L2
def iv (l : List Int) : List V := l.map V.int
theorem iv_len (l : List Int) : (iv l).length = l.length := List.length_map _
theorem iv_get {l : List Int} {i : Nat} {v : V} (h : (iv l)[i]? = some v) : ∃ n, l[i]? = some n ∧ v = .int n := by
  unfold iv at h
  rw [List.getElem?_map] at h
  cases e : l[i]? with
  | none => rw [e] at h; cases h
  | some n =>
    rw [e] at h
    exact ⟨n, rfl, (Option.some.inj h).symm⟩
theorem cut_take (xs : List V) {k : Nat} (h : k ≤ xs.length) : cutV xs none (some (k : Int)) = xs.take k := by
  unfold cutV
  rw [HT.sIx_none, HT.sIx_nat, Nat.min_eq_left h]
  rfl
theorem cut_drop (xs : List V) {k : Nat} (h : k ≤ xs.length) : cutV xs (some (k : Int)) none = xs.drop k := by
  unfold cutV
  rw [HT.sIx_none, HT.sIx_nat, Nat.min_eq_left h]
  apply List.take_of_length_le
  rw [List.length_drop]
  omega
theorem idx_before {c : List Sim} {y : Sim} : ∀ (m : Nat) (z : Sim), m < c.idxOf y → c[m]? = some z → z ≠ y := by
  intro m z hm hz e
  subst e
  obtain ⟨h1, h2⟩ := List.getElem?_eq_some_iff.mp hz
  have := List.not_of_lt_findIdx (p := (· == z)) (xs := c) (i := m) hm
  rw [h2] at this
  simp at this
theorem cat_sims {K : PySem.W.Frag} {H : Hp} {p1 p2 : Addr} {u v : Sim} (h1 : TupAt H p1 u) (h2 : TupAt H p2 v) (hz : u.length + v.length ≤ 1000) (R : VK) (h : ∀ (H5 : Hp) (e : Addr), Same H H5 → TupAt H5 e (u ++ v) → R (.ref e) H5) : rCatA K (.ref p1) (.ref p2) H R := by
  have esl := sizeLine_eq
  refine ⟨p1, p2, sv u, sv v, rfl, rfl, h1.sq, h2.sq, by rw [sv_len, sv_len]; omega, fun e0 => ?_, fun _ e0 => ?_, fun _ _ w nw => ?_⟩
  · have eu : u = [] := List.map_eq_nil_iff.mp e0
    subst eu
    exact h H p2 (Same.refl _) h2
  · have ev : v = [] := List.map_eq_nil_iff.mp e0
    subst ev
    refine h H p1 (Same.refl _) ?_
    rw [List.append_nil]
    exact h1
  · refine h _ w (same_upd nw) ?_
    unfold TupAt
    rw [upd_same, sv_append]
section
variable {P : Program} {w : World} {K : PySem.W.Frag} {mg : Str → Option Value} {base : Heap}
/-! ### boundary_row -/
abbrev sRow : Stmt := top 40
def spRow : Sp := fun vs H Q _ => ∃ (l a : Addr) (ps : PS2) (x : Sim), vs = [.ref l, .ref a] ∧ ListAt H l ps ∧ TupAt H a x ∧ ps.length ≤ 1000 ∧ Sc.Good (sims ps) ∧ x ∈ sims ps ∧
  ∀ (H' : Hp) (p : Addr), Same H H' → H p = none → H' p = some (.lst (iv ((sims ps).map (HoBase.incidence x)))) → Q (.ref p) H'
theorem scRow : FnScope ["simplices", "simplex", "row", "k", "face"] ["simplices", "simplex"] (defScope sRow) := ⟨rfl, rfl, rfl, by decide +kernel, rfl, by decide +kernel, by decide +kernel⟩
theorem ok_row {f : Addr} {fd : FuncData} {k : Nat} (F : Fun K "boundary_row" "boundary_row" sRow f fd) (ml : mg "len" = none) (mr : mg "range" = none) :
    FnOk P w K mg base CX0 (k + 1) f fd ["simplices", "simplex"] spRow := by
  refine F.ok scRow (fun vs H Q E h => ?_) (fun cdv A0 outer s H vs Q E hr h => ?_)
  · obtain ⟨l, a, ps, x, rfl, _⟩ := h
    rfl
  · obtain ⟨l, a, ps, x, rfl, hl, ha, hz, hg, hx, q⟩ := h
    refine ⟨_, pss_cons (ps_set (i := 2) scRow.nd rfl (.inl rfl) (pe_op op_rep (pe_lst (pa_cons pe_int pa_nil)) (pe_callB call_len_seq (by rfl) ml PySem.boot_len (pa_cons (pv 0) pa_nil))))
      (pss_cons (ps_if (pt_cmpR op_gt (pe_callB call_len_seq (by rfl) ml PySem.boot_len (pa_cons (pv 1) pa_nil)) pe_int (nomark _))
        (pss_one (ps_for PassesOwn.never rfl (pi_range1 rfl mr (pa_cons (pe_callB call_len_seq (by rfl) ml PySem.boot_len (pa_cons (pv 1) pa_nil)) pa_nil)) (pg_name (i := 3) scRow.nd rfl (.inl rfl))
          (pss_cons (ps_set (i := 4) scRow.nd rfl (.inl rfl) (pe_op op_catA (pe_slice sl_tup (pv 1) po_none (po_some (pv 3))) (pe_slice sl_tup (pv 1) (po_some (pe_op op_add (pv 3) pe_int)) po_none)))
          (pss_one (ps_asg (pe_ifExp (pt_cmpR op_eq (pe_op op_mod (pv 3) pe_int) pe_int (nomark _)) pe_int (pe_un un_neg pe_int))
            (pg_sub (pv 2) (pe_bm PySem.F.plainAttrs_list PySem.F.slot_list_index PySem.F.type_list_index (mt_indexD (units65 hr)) (pv 0) (pa_cons (pv 4) pa_nil)) set_list))))))
        pss_nil)
      (pss_one (ps_ret (pv 2)))), ?_⟩
    have esl := sizeLine_eq
    have hsl : (sims ps).length = ps.length := sims_len ps
    have hxl := hg.len x hx
    have hxr := hg.ris x hx
    refine ⟨by show 1 ≤ sizeLine; decide, fun z nz => ?_⟩
    have sz := same_upd (o := HO.lst [V.int 0]) nz
    refine ⟨_, rfl, l, refs ps, rfl, .inl (SqL.of (hl.same sz).lst), z, ((refs ps).length : Int), [.int 0], rfl, rfl, upd_same, by omega, by rw [refs_len]; omega, by rw [refs_len]; simp; omega, fun r nr => ?_⟩
    have e0 : (List.replicate (((refs ps).length : Nat) : Int).toNat [V.int 0]).flatten = iv (Sc.rowT (sims ps) x 0) := by
      rw [Int.toNat_natCast, refs_len, Sc.rowT_zero, hsl]
      unfold iv
      rw [List.map_replicate]
      generalize ps.length = n
      induction n with
      | zero => rfl
      | succ n ih =>
        rw [List.replicate_succ, List.replicate_succ, List.flatten_cons, ih]
        rfl
    rw [e0]
    have sr := same_upd (o := HO.lst (iv (Sc.rowT (sims ps) x 0))) nr
    have s1 := sz.trans sr
    have nr0 : H r = none := sz.free nr
    refine ⟨_, rfl, a, sv x, rfl, .inr (ha.same s1).sq, _, _, rfl, rfl, _, rfl, ?_⟩
    rw [sv_len]
    by_cases h1 : 1 < x.length
    · have d1 : decide ((1 : Int) < (x.length : Int)) = true := decide_eq_true (by omega)
      rw [d1]
      refine iteT ?_
      refine ⟨_, rfl, a, sv x, rfl, .inr (ha.same s1).sq, ?_⟩
      rw [sv_len]
      refine ⟨(x.length : Int), rfl, by omega, by omega, for_range (lo := 0) (n := x.length)
        (fun i σ H' => ∃ v3 v4, σ = [some (.ref l), some (.ref a), some (.ref r), v3, v4] ∧ Same H H' ∧ H' r = some (.lst (iv (Sc.rowT (sims ps) x i))))
        ⟨none, none, rfl, s1, upd_same⟩ ?_ ?_⟩
      · rintro i σ H' hi ⟨v3, v4, rfl, sm, hr'⟩
        rw [show (0 : Int) + ((i : Nat) : Int) = (i : Int) from Int.zero_add _]
        have ta := ha.same sm
        have hfl : (HoBase.face x i).length + 1 = x.length := Sc.face_length hi
        have hfm : HoBase.face x i ∈ sims ps := hg.clo x hx _ (fun e => by rw [e] at hfl; simp at hfl; omega) (Sc.face_sublist x i)
        obtain ⟨hj, hjx⟩ := Sc.at_idx hfm
        refine ⟨_, rfl, _, rfl, (i : Int), rfl, a, sv x, rfl, ta.sq, ?_, fun p1 np1 => ?_⟩
        · rw [HT.sIx_nat, sv_len]
          omega
        have sp1 := same_upd (o := HO.tup (cutV (sv x) none (some (i : Int)))) np1
        refine ⟨_, rfl, _, rfl, _, _, rfl, rfl, ((i + 1 : Nat) : Int), rfl, a, sv x, rfl, (ta.same sp1).sq, ?_, fun p2 np2 => ?_⟩
        · rw [HT.sIx_nat, sv_len]
          omega
        have sp2 := same_upd (o := HO.tup (cutV (sv x) (some ((i + 1 : Nat) : Int)) none)) np2
        have t1 : TupAt (upd (upd H' p1 (HO.tup (cutV (sv x) none (some (i : Int))))) p2 (HO.tup (cutV (sv x) (some ((i + 1 : Nat) : Int)) none))) p1 (x.take i) := by
          refine sp2 _ _ ?_
          rw [upd_same, cut_take _ (by rw [sv_len]; omega)]
          unfold sv
          rw [List.map_take]
        have t2 : TupAt (upd (upd H' p1 (HO.tup (cutV (sv x) none (some (i : Int))))) p2 (HO.tup (cutV (sv x) (some ((i + 1 : Nat) : Int)) none))) p2 (x.drop (i + 1)) := by
          unfold TupAt
          rw [upd_same, cut_drop _ (by rw [sv_len]; omega)]
          unfold sv
          rw [List.map_drop]
        have s3 := sp1.trans sp2
        refine cat_sims t1 t2 (by rw [List.length_take, List.length_drop]; omega) _ fun H5 e s5 te => ?_
        have te : TupAt H5 e (HoBase.face x i) := te
        have sm5 := sm.trans (s3.trans s5)
        have hr5 := (s3.trans s5) _ _ hr'
        have hidx : ∀ (m : Nat) (z' : PyData), m < (sims ps).idxOf (HoBase.face x i) → ((sims ps).map tD)[m]? = some z' → PyData.eqv z' (tD (HoBase.face x i)) = false := fun m z' hm hz' => by
          rw [List.getElem?_map] at hz'
          cases ey : (sims ps)[m]? with
          | none => rw [ey] at hz'; cases hz'
          | some y =>
            rw [ey] at hz'
            have ez : tD y = z' := Option.some.inj hz'
            rw [← ez, tD_eqv]
            exact decide_eq_false (idx_before m y hm ey)
        refine ⟨_, rfl, _, _, rfl, rfl, (by show (0 : Int) < 2; decide), rfl, _, rfl, ?_⟩
        by_cases hpar : i % 2 = 0
        show if decide (V.int ((i : Int) % 2) = V.int 0) = true then _ else _
        rw [show decide (V.int ((i : Int) % 2) = V.int 0) = true from decide_eq_true (by congr 1; omega)]
        refine iteT ?_
        have hs : (1 : Int) = HoBase.sgn i := (by rw [Sc.sgn_of, if_pos hpar])
        rotate_left
        show if decide (V.int ((i : Int) % 2) = V.int 0) = true then _ else _
        rw [show decide (V.int ((i : Int) % 2) = V.int 0) = false from decide_eq_false (fun q => hpar (by have := V.int.inj q; omega))]
        refine iteF ⟨1, rfl, ?_⟩
        have hs : (-1 : Int) = HoBase.sgn i := (by rw [Sc.sgn_of, if_neg hpar])
        all_goals
          refine ⟨_, rfl, _, rfl, .inl ⟨rfl, _, SqL.of (hl.same sm5).lst⟩, _, rfl, l, _, tD (HoBase.face x i), (sims ps).map tD, (sims ps).idxOf (HoBase.face x i), tD (HoBase.face x i), rfl, rfl, dp_list (hl.same sm5), dp_tup te.sq, tDs_shapedL _, tD_shaped _, by rw [List.getElem?_map, hjx]; rfl, by rw [tD_eqv]; exact decide_eq_true rfl, hidx, ?_⟩
          refine ⟨r, _, _, (sims ps).idxOf (HoBase.face x i), rfl, rfl, hr5, ?_, ?_⟩
          · unfold ixN
            rw [if_pos (by omega), if_pos (by rw [iv_len, Sc.rowT_len]; omega)]
            rw [Int.toNat_natCast]
          · refine ⟨_, _, rfl, fun b ob eb => ?_, ?_⟩
            · rw [upd_ne (ne_of_none eb nr0)]
              exact sm5 _ _ eb
            · rw [upd_same, ← Sc.rowT_more hg.nd hxr hi hfm]
              unfold iv
              rw [List.map_set, ← hs]
      · rintro σ H' ⟨v3, v4, rfl, sm, hr'⟩
        rw [Sc.rowT_all h1] at hr'
        exact ⟨_, rfl, q H' r sm nr0 hr'⟩
    · have d1 : decide ((1 : Int) < (x.length : Int)) = false := decide_eq_false (by omega)
      rw [d1]
      refine iteF ?_
      refine ⟨_, rfl, q _ r s1 nr0 ?_⟩
      rw [upd_same, Sc.rowT_zero, Sc.row_one (x := x) (by omega)]

/-! ### first_not_zero -/
abbrev sFirst : Stmt := top 41
def spFirst (K : PySem.W.Frag) : Sp := fun vs H Q _ => ∃ (a : Addr) (row : List Int), vs = [.ref a] ∧ H a = some (.lst (iv row)) ∧
  ∀ (H' : Hp), Same H H' → Q (natV (Sc.firstNZ row)) H'
theorem scFirst : FnScope ["row", "k", "number"] ["row"] (defScope sFirst) := ⟨rfl, rfl, rfl, by decide +kernel, rfl, by decide +kernel, by decide +kernel⟩
theorem ok_first {f : Addr} {fd : FuncData} {k : Nat} (F : Fun K "first_not_zero" "first_not_zero" sFirst f fd) (me : mg "enumerate" = none) :
    FnOk P w K mg base CX0 (k + 1) f fd ["row"] (spFirst K) := by
  refine F.ok scFirst (fun vs H Q E h => ?_) (fun cdv A0 outer s H vs Q E hr h => ?_)
  · obtain ⟨a, row, rfl, _⟩ := h
    rfl
  · obtain ⟨a, row, rfl, ha, q⟩ := h
    refine ⟨_, pss_cons (ps_for PassesOwn.never rfl (pi_enum (by rfl) me (pa_cons (pv 0) pa_nil)) (pg_tup rfl (pgs_cons (pg_name (i := 1) scFirst.nd rfl (.inl rfl)) (pgs_cons (pg_name (i := 2) scFirst.nd rfl (.inl rfl)) pgs_nil)))
        (pss_one (ps_if (pt_cmpR op_ne (pv 2) pe_int (nomark _)) (pss_one (ps_ret (pv 1))) pss_nil)))
      (pss_one (ps_ret pe_non)), ?_⟩
    refine ⟨_, rfl, a, iv row, rfl, SqL.of ha, for_it (walk_enum (K := K) (a := a) (xs := iv row))
      (fun j σ H' => ∃ v1 v2, σ = [some (.ref a), v1, v2] ∧ Same H H' ∧ ∀ z ∈ row.take j, z = 0)
      ⟨none, none, rfl, Same.refl _, fun z hz => by simp at hz⟩ (fun j σ H' _ ⟨_, _, _, e, _⟩ => SqL.of (e _ _ ha)) ?_ ?_⟩
    · rintro j v σ H' H3 hj ⟨v1, v2, rfl, sm, hzero⟩ ⟨T, x, y, rfl, nT, rfl, hx, hy⟩
      cases hx
      obtain ⟨z, hz, rfl⟩ := iv_get hy
      have sT := same_upd (o := HO.tup [V.int ((j : Nat) : Int), V.int z]) nT
      refine ⟨T, [.int ((j : Nat) : Int), .int z], rfl, SqT.of upd_same, rfl, _, [.int z], rfl, _, [], rfl, rfl, ?_⟩
      refine ⟨_, rfl, rfl, _, rfl, ?_⟩
      by_cases e : z = 0
      · have h1 : (!decide (V.int z = V.int 0)) = false := by rw [decide_eq_true (by rw [e])]; rfl
        rw [h1]
        refine iteF ?_
        refine ⟨_, _, rfl, sm.trans sT, fun z' hz' => ?_⟩
        rw [take_more hz] at hz'
        rcases List.mem_append.mp hz' with q' | q'
        · exact hzero z' q'
        · have : z' = z := by simpa using q'
          omega
      · have h1 : (!decide (V.int z = V.int 0)) = true := by
          rw [decide_eq_false (fun q => e (V.int.inj q))]
          rfl
        rw [h1]
        refine iteT ?_
        have hnz : Sc.firstNZ row = some j := by
          unfold Sc.firstNZ
          rw [List.findIdx?_eq_some_iff_getElem]
          obtain ⟨h2, h3⟩ := List.getElem?_eq_some_iff.mp hz
          refine ⟨h2, by simpa [h3] using e, fun m hm => ?_⟩
          have : row[m] ∈ row.take j := by
            rw [List.mem_iff_getElem?]
            exact ⟨m, by rw [List.getElem?_take, if_pos hm, List.getElem?_eq_getElem]⟩
          simp [hzero _ this]
        have := q _ (sm.trans sT)
        rw [hnz] at this
        exact ⟨_, rfl, this⟩
    · rintro σ H' ⟨v1, v2, rfl, sm, hzero⟩
      rw [iv_len, List.take_length] at hzero
      have hnz : Sc.firstNZ row = none := by
        unfold Sc.firstNZ
        rw [List.findIdx?_eq_none_iff]
        intro z hz
        simp [hzero z hz]
      have := q _ sm
      rw [hnz] at this
      exact this

/-! ### cleared_at -/
abbrev sClr : Stmt := top 42
def spClr (K : PySem.W.Frag) : Sp := fun vs H Q _ => ∃ (p : Nat) (a b : Addr) (row first : List Int) (e : Nat), vs = [.int (p : Int), .ref a, .ref b] ∧ H a = some (.lst (iv row)) ∧ H b = some (.lst (iv first)) ∧ first.length = row.length ∧ row.length ≤ 1000 ∧ p < row.length ∧
  0 < e ∧ e ≤ 100000 ∧ (∀ z ∈ row, z.natAbs < 2 ^ e) ∧ (∀ z ∈ first, z.natAbs < 2 ^ e) ∧
  ∀ (H' : Hp) (o : Addr), Same H H' → H o = none → H' o = some (.lst (iv (Sc.clr p row first))) → Q (.ref o) H'
theorem scClr : FnScope ["place", "row", "first", "k"] ["place", "row", "first"] (defScope sClr) := ⟨rfl, rfl, rfl, by decide +kernel, rfl, by decide +kernel, by decide +kernel⟩
theorem ok_clr {f : Addr} {fd : FuncData} {k : Nat} (F : Fun K "cleared_at" "cleared_at" sClr f fd) (ml : mg "len" = none) (mr : mg "range" = none) :
    FnOk P w K mg base CX0 (k + 1) f fd ["place", "row", "first"] (spClr K) := by
  refine F.ok scClr (fun vs H Q E h => ?_) (fun cdv A0 outer s H vs Q E hr h => ?_)
  · obtain ⟨p, a, b, row, first, e, rfl, _⟩ := h
    rfl
  · obtain ⟨p, a, b, row, first, e, rfl, ha, hb, hlen, hz, hp, he0, he, hrow, hfirst, q⟩ := h
    refine ⟨_, pss_one (ps_ret (pe_lc (own := [("k", 3)]) (g := gName 3) (tt := tYes) rfl scClr.nd (pi_range1 rfl mr (pa_cons (pe_callB call_len_seq (by rfl) ml PySem.boot_len (pa_cons (pv 1) pa_nil)) pa_nil)) (blkOk_by (own := [("k", 3)]) (N := ["place", "row", "first", "k"]) (sc := defScope sClr) (by decide +kernel))
      (fun _ _ _ _ _ => pg_name (i := 3) scClr.nd rfl (Or.inl rfl))
      (fun _ _ _ _ _ => pts_nil)
      (fun _ _ _ _ _ => pe_op op_sub
        (pe_op op_mulW (pe_ix (show IxR _ (rIxL K) from ix_list) (pv 1) (pv 3) (fun _ _ => rfl)) (pe_ix (show IxR _ (rIxL K) from ix_list) (pv 2) (pv 0) (fun _ _ => rfl)))
        (pe_op op_mulW (pe_ix (show IxR _ (rIxL K) from ix_list) (pv 2) (pv 3) (fun _ _ => rfl)) (pe_ix (show IxR _ (rIxL K) from ix_list) (pv 1) (pv 0) (fun _ _ => rfl)))))), ?_⟩
    have esl := sizeLine_eq
    have hil := iv_len row
    refine ⟨_, rfl, a, iv row, rfl, .inl (SqL.of ha), ((iv row).length : Int), rfl, by omega, by omega, fun D nD => lc_range (lo := 0) (n := (iv row).length)
      (fun i H2 => Same H H2 ∧ H2 D = some (.lst (iv ((Sc.clr p row first).take i)))) ⟨same_upd nD, upd_same⟩ ?_ ?_⟩
    · rintro i H2 hi ⟨s2, hD⟩
      have hi' : i < row.length := by omega
      obtain ⟨rk, hrk⟩ : ∃ z, row[i]? = some z := ⟨_, List.getElem?_eq_getElem hi'⟩
      obtain ⟨rp, hrp⟩ : ∃ z, row[p]? = some z := ⟨_, List.getElem?_eq_getElem hp⟩
      obtain ⟨fk, hfk⟩ : ∃ z, first[i]? = some z := ⟨_, List.getElem?_eq_getElem (by omega)⟩
      obtain ⟨fp, hfp⟩ : ∃ z, first[p]? = some z := ⟨_, List.getElem?_eq_getElem (by omega)⟩
      have g : ∀ {l : List Int} {k : Nat} {z : Int}, l[k]? = some z → atI (iv l) (k : Int) = some (V.int z) := fun {l k z} h => atI_nat (by
        unfold iv
        rw [List.getElem?_map, h]
        rfl)
      have hclr : (Sc.clr p row first)[i]? = some (rk * fp - fk * rp) := by
        unfold Sc.clr
        rw [List.getElem?_map, List.getElem?_range hi']
        simp [List.getD_eq_getElem?_getD, hrk, hrp, hfk, hfp]
      rw [show (0 : Int) + ((i : Nat) : Int) = (i : Int) from Int.zero_add _]
      refine ⟨rfl, ?_⟩
      refine tyes ?_
      refine ⟨_, rfl, _, rfl, a, iv row, (i : Int), .int rk, rfl, rfl, SqL.of (s2 _ _ ha), g hrk, _, rfl, _, rfl, b, iv first, (p : Int), .int fp, rfl, rfl, SqL.of (s2 _ _ hb), g hfp, rk, fp, rfl, rfl, wide_mul (hrow _ (mem_of_get hrk)) (hfirst _ (mem_of_get hfp)) he0 he0 (by omega), ?_⟩
      refine ⟨_, rfl, _, rfl, b, iv first, (i : Int), .int fk, rfl, rfl, SqL.of (s2 _ _ hb), g hfk, _, rfl, _, rfl, a, iv row, (p : Int), .int rp, rfl, rfl, SqL.of (s2 _ _ ha), g hrp, fk, rp, rfl, rfl, wide_mul (hfirst _ (mem_of_get hfk)) (hrow _ (mem_of_get hrp)) he0 he0 (by omega), ?_⟩
      refine ⟨_, _, rfl, rfl, _, hD, ?_, fun b' ob e' => ?_, ?_⟩
      · rw [iv_len, List.length_take]
        omega
      · rw [upd_ne (ne_of_none e' nD)]
        exact s2 _ _ e'
      · rw [upd_same, take_more hclr]
        unfold iv
        rw [List.map_append]
        rfl
    · rintro H2 ⟨s2, hD⟩
      rw [iv_len, ← Sc.clr_len p row first, List.take_length] at hD
      exact q H2 D s2 nD hD
end
end Sh

set_option maxRecDepth 100000
set_option maxHeartbeats 400000
namespace Sh
open PySem PySem.Spec PyProof.Rows L2
theorem RowsAt.same {H H' : Hp} {p : Addr} {rs : RS} (h : RowsAt H p rs) (e : Same H H') : RowsAt H' p rs := ⟨e _ _ h.lst, fun r hr => e _ _ (h.each r hr)⟩
/-- rows of one length, of small numbers -/
structure RowsOk (n : Nat) (rs : RS) : Prop where
  len : ∀ r ∈ rs, r.2.length = n
  small : ∃ e, 0 < e ∧ e + 1 ≤ 2 ^ (14 - rs.length) ∧ ∀ r ∈ rs, ∀ z ∈ r.2, z.natAbs < 2 ^ e
theorem rrefs_get {rs : RS} {i : Nat} {v : V} (h : (rrefs rs)[i]? = some v) : ∃ r, rs[i]? = some r ∧ v = .ref r.1 := by
  unfold rrefs at h
  rw [List.getElem?_map] at h
  cases e : rs[i]? with
  | none => rw [e] at h; cases h
  | some n =>
    rw [e] at h
    exact ⟨n, rfl, (Option.some.inj h).symm⟩
theorem rrefs_len (rs : RS) : (rrefs rs).length = rs.length := List.length_map _
section
variable {P : Program} {w : World} {K : PySem.W.Frag} {mg : Str → Option Value} {base : Heap}
/-! ### rank_of -/
abbrev sRank : Stmt := top 43
def spRank : Sp := fun vs H Q _ => ∃ (l : Addr) (rs : RS) (n : Nat), vs = [.ref l] ∧ RowsAt H l rs ∧ rs.length ≤ 13 ∧ n ≤ 1000 ∧ RowsOk n rs ∧
  ∀ (H' : Hp), Same H H' → Q (.int ((Sc.rankF rs.length (rs.map (·.2)) : Nat) : Int)) H'
theorem scRank : FnScope ["rows", "rank", "left", "first", "place", "row"] ["rows"] (defScope sRank) := ⟨rfl, rfl, rfl, by decide +kernel, rfl, by decide +kernel, by decide +kernel⟩
theorem ok_rank {f f1 f2 : Addr} {fd fd1 fd2 : FuncData} {k : Nat} (F : Fun K "rank_of" "rank_of" sRank f fd) (ml : mg "len" = none)
    (G1 : FnOk P w K mg base CX0 k f1 fd1 ["row"] (spFirst K)) (m1 : mg "first_not_zero" = some (.ref f1)) (k1 : PySem.W.keepIn K (.ref f1) = true) (b1 : Binds K fd1 ["row"] [])
    (G2 : FnOk P w K mg base CX0 k f2 fd2 ["place", "row", "first"] (spClr K)) (m2 : mg "cleared_at" = some (.ref f2)) (k2 : PySem.W.keepIn K (.ref f2) = true) (b2 : Binds K fd2 ["place", "row", "first"] []) :
    FnOk P w K mg base CX0 (k + 1) f fd ["rows"] spRank := by
  refine F.ok scRank (fun vs H Q E h => ?_) (fun cdv A0 outer s H vs Q E hr h => ?_)
  · obtain ⟨l, rs, n, rfl, _⟩ := h
    rfl
  · obtain ⟨l, rs, n, rfl, hl, hz, hn, hok, q⟩ := h
    refine ⟨_, pss_cons (ps_set (i := 1) scRank.nd rfl (.inl rfl) pe_int)
      (pss_cons (ps_set (i := 2) scRank.nd rfl (.inl rfl) (pv 0))
      (pss_cons (ps_while PassesOwn.never (pt_cmpR op_gt (pe_callB call_len_seq (by rfl) ml PySem.boot_len (pa_cons (pv 2) pa_nil)) pe_int (nomark _))
        (pss_cons (ps_set (i := 3) scRank.nd rfl (.inr rfl) (pe_ix ix_list (pv 2) pe_int (fun _ _ => rfl)))
        (pss_cons (ps_set (i := 2) scRank.nd rfl (.inl rfl) (pe_slice sl_list (pv 2) (po_some pe_int) po_none))
        (pss_cons (ps_set (i := 4) scRank.nd rfl (.inr rfl) (pe_call G1 hr rfl m1 k1 b1 .nil pass0 (pa_cons (pv 3) pa_nil)))
        (pss_one (ps_if (pt_cmpR op_notN (pv 4) pe_non (nomark _))
          (pss_cons (ps_set (i := 1) scRank.nd rfl (.inl rfl) (pe_op op_add (pv 1) pe_int))
          (pss_one (ps_setLc (i := 2) (own := [("row", 5)]) (g := gName 5) (tt := tYes) rfl scRank.nd rfl rfl (sw_true rfl rfl rfl (by decide +kernel)) (pi_list (pv 2)) (blkOk_by (own := [("row", 5)]) (N := ["rows", "rank", "left", "first", "place", "row"]) (sc := defScope sRank) (by decide +kernel))
            (fun _ _ _ _ _ => pg_name (i := 5) scRank.nd rfl (Or.inl rfl))
            (fun _ _ _ _ _ => pts_nil)
            (fun _ _ _ _ _ => pe_call G2 hr rfl m2 k2 b2 .nil pass0 (pa_cons (pv 4) (pa_cons (pv 5) (pa_cons (pv 3) pa_nil)))))))
          pss_nil))))))
      (pss_one (ps_ret (pv 1))))), ?_⟩
    have esl := sizeLine_eq
    refine ⟨_, rfl, ?_⟩
    refine ⟨fun m σ H' => ∃ (l' : Addr) (qs : RS) (rank : Nat) (v3 v4 v5 : Option V), σ = [some (.ref l), some (.int (rank : Int)), some (.ref l'), v3, v4, v5] ∧ Same H H' ∧ RowsAt H' l' qs ∧ qs.length ≤ 13 ∧ RowsOk n qs ∧ m = qs.length ∧ rank + Sc.rankF qs.length (qs.map (·.2)) = Sc.rankF rs.length (rs.map (·.2)),
      ⟨rs.length, l, rs, 0, none, none, none, rfl, Same.refl _, hl, hz, hok, rfl, Nat.zero_add _⟩, ?_⟩
    rintro m σ H' ⟨l', qs, rank, v3, v4, v5, rfl, sm, hl', hz', hok', rfl, hrank⟩
    refine ⟨_, rfl, l', _, rfl, .inl (SqL.of hl'.lst), ?_⟩
    rw [rrefs_len]
    refine ⟨_, _, rfl, rfl, _, rfl, ?_⟩
    match qs, hl', hz', hok', hrank with
    | [], hl', hz', hok', hrank =>
      refine iteF ?_
      have e0 : Sc.rankF ([] : RS).length (([] : RS).map (·.2)) = 0 := rfl
      rw [e0, Nat.add_zero] at hrank
      rw [← hrank] at q
      exact ⟨_, rfl, q H' sm⟩
    | r0 :: qs, hl', hz', hok', hrank =>
      have h1 : decide ((0 : Int) < (((r0 :: qs).length : Nat) : Int)) = true := decide_eq_true (by simp)
      rw [h1]
      refine iteT ?_
      obtain ⟨e, he0, he1, hes⟩ := hok'.small
      have hzl : qs.length + 1 ≤ 13 := by simpa using hz'
      have he14 : e + 1 ≤ 2 ^ 14 := Nat.le_trans he1 (Nat.pow_le_pow_right (by decide) (by omega))
      have hr0 := hl'.each r0 (List.mem_cons_self ..)
      have hr0l := hok'.len r0 (List.mem_cons_self ..)
      refine ⟨fun σ' H2 => ∃ (l2 : Addr) (qs2 : RS) (rank2 : Nat) (v3 v4 v5 : Option V), σ' = [some (.ref l), some (.int (rank2 : Int)), some (.ref l2), v3, v4, v5] ∧ Same H H2 ∧ RowsAt H2 l2 qs2 ∧ qs2.length = qs.length ∧ RowsOk n qs2 ∧ rank2 + Sc.rankF qs2.length (qs2.map (·.2)) = Sc.rankF rs.length (rs.map (·.2)), ?_, ?_⟩
      · rintro σ' H2 ⟨l2, qs2, rank2, w3, w4, w5, rfl, sm2, hl2, hq2, hok2, hrank2⟩
        exact ⟨qs2.length, by rw [hq2]; simp, l2, qs2, rank2, w3, w4, w5, rfl, sm2, hl2, by omega, hok2, rfl, hrank2⟩
      · refine ⟨_, rfl, l', _, 0, .ref r0.1, rfl, rfl, SqL.of hl'.lst, atI_nat (j := 0) rfl, ?_⟩
        refine ⟨_, rfl, 1, rfl, l', _, rfl, SqL.of hl'.lst, fun l1 n1 => ?_⟩
        rw [cut1]
        have s1 := same_upd (o := HO.lst ((rrefs (r0 :: qs)).drop 1)) n1
        have hl1 : RowsAt (upd H' l1 (HO.lst ((rrefs (r0 :: qs)).drop 1))) l1 qs := ⟨upd_same, fun r hr => s1 _ _ (hl'.each r (List.mem_cons_of_mem _ hr))⟩
        refine ⟨_, rfl, r0.1, r0.2, rfl, s1 _ _ hr0, fun H2 s2 => ?_⟩
        have sm2 := sm.trans (s1.trans s2)
        have hl2 := hl1.same s2
        have hr2 := s2 _ _ (s1 _ _ hr0)
        refine ⟨_, rfl, rfl, _, rfl, ?_⟩
        have hlen1 : (r0 :: qs).length = qs.length + 1 := rfl
        cases hf : Sc.firstNZ r0.2 with
        | none =>
          have e1 : (!decide (natV none = V.non)) = false := by decide
          rw [e1]
          refine iteF ?_
          refine ⟨l1, qs, rank, _, _, v5, rfl, sm2, hl2, rfl, ⟨fun r hr => hok'.len r (List.mem_cons_of_mem _ hr), e, he0, ?_, fun r hr => hes r (List.mem_cons_of_mem _ hr)⟩, ?_⟩
          · exact Nat.le_trans he1 (Nat.pow_le_pow_right (by decide) (by omega))
          · rw [← hrank]
            show _ = rank + Sc.rankF (qs.length + 1) (r0.2 :: qs.map (·.2))
            rw [Sc.rankF, hf]
        | some p =>
          have e1 : (!decide (natV (some p) = V.non)) = true := by
            rw [decide_eq_false (by intro z; cases z)]
            rfl
          rw [e1]
          refine iteT ?_
          have hp : p < r0.2.length := by
            have h5 := hf
            unfold Sc.firstNZ at h5
            rw [List.findIdx?_eq_some_iff_getElem] at h5
            exact h5.1
          refine ⟨_, rfl, _, _, rfl, rfl, ?_⟩
          refine ⟨_, rfl, l1, rfl, ⟨_, SqL.of hl2.lst⟩, fun D nD => lc_list (K := K) (a := l1) (xs := rrefs qs)
            (fun j H3 => Same H2 H3 ∧ ∃ qs2 : RS, RowsAt H3 D qs2 ∧ (∀ r ∈ qs2, r.1 ≠ D) ∧ qs2.map (·.2) = (qs.take j).map fun r => Sc.clr p r.2 r0.2)
            ⟨same_upd nD, [], ⟨upd_same, fun r hr => by cases hr⟩, (fun r hr => by cases hr), rfl⟩ (fun j H3 _ h => SqL.of (h.1 _ _ hl2.lst)) ?_ ?_⟩
          · rintro j y H3 hj ⟨s3, qs2, hq2, hqD, hqs2⟩
            obtain ⟨r, hrj, rfl⟩ := rrefs_get hj
            have hrm := mem_of_get hrj
            have hrl := hok'.len r (List.mem_cons_of_mem _ hrm)
            refine ⟨rfl, ?_⟩
            refine tyes ?_
            refine ⟨_, rfl, _, rfl, _, rfl, p, r.1, r0.1, r.2, r0.2, e, rfl, s3 _ _ (hl2.each r hrm), s3 _ _ hr2, by omega, by omega, by omega, he0, by omega, hes r (List.mem_cons_of_mem _ hrm), hes r0 (List.mem_cons_self ..), fun H4 u s4 nu hu => ?_⟩
            have hql : qs2.length ≤ 13 := by
              have h5 := congrArg List.length hqs2
              rw [List.length_map, List.length_map, List.length_take] at h5
              omega
            have hDu : u ≠ D := fun q => by
              rw [q, hq2.lst] at nu
              cases nu
            refine ⟨_, s4 _ _ hq2.lst, by rw [rrefs_len]; omega, fun b ob eb => ?_, qs2 ++ [(u, Sc.clr p r.2 r0.2)], ⟨?_, fun z hz => ?_⟩, fun z hz => ?_, ?_⟩
            · rw [upd_ne (ne_of_none eb nD)]
              exact s4 _ _ (s3 _ _ eb)
            · rw [upd_same]
              unfold rrefs
              rw [List.map_append]
              rfl
            · rcases List.mem_append.mp hz with hz | hz
              · rw [upd_ne (hqD z hz)]
                exact s4 _ _ (hq2.each z hz)
              · have ez : z = (u, Sc.clr p r.2 r0.2) := by simpa using hz
                subst ez
                rw [upd_ne hDu]
                exact hu
            · rcases List.mem_append.mp hz with hz | hz
              · exact hqD z hz
              · have ez : z = (u, Sc.clr p r.2 r0.2) := by simpa using hz
                subst ez
                exact hDu
            · rw [List.map_append, hqs2, take_more hrj, List.map_append]
              rfl
          · rintro H3 ⟨s3, qs2, hq2, hqD, hqs2⟩
            rw [rrefs_len, List.take_length] at hqs2
            have hql : qs2.length = qs.length := by
              have h5 := congrArg List.length hqs2
              rwa [List.length_map, List.length_map] at h5
            have hmem : ∀ r ∈ qs2, ∃ r1 ∈ qs, r.2 = Sc.clr p r1.2 r0.2 := fun r hr => by
              have : r.2 ∈ qs2.map (·.2) := List.mem_map.mpr ⟨r, hr, rfl⟩
              rw [hqs2] at this
              obtain ⟨r1, h6, h7⟩ := List.mem_map.mp this
              exact ⟨r1, h6, h7.symm⟩
            refine ⟨D, qs2, rank + 1, _, _, v5, rfl, sm2.trans s3, hq2, hql, ⟨fun r hr => ?_, 2 * e + 1, by omega, ?_, fun r hr => ?_⟩, ?_⟩
            · obtain ⟨r1, h6, h7⟩ := hmem r hr
              rw [h7, Sc.clr_len]
              exact hok'.len r1 (List.mem_cons_of_mem _ h6)
            · rw [hql]
              have : 2 ^ (14 - qs.length) = 2 * 2 ^ (14 - (r0 :: qs).length) := by
                rw [hlen1, show 14 - qs.length = (14 - (qs.length + 1)) + 1 by omega, Nat.pow_succ]
                omega
              omega
            · obtain ⟨r1, h6, h7⟩ := hmem r hr
              rw [h7]
              exact Sc.clr_small (hes r1 (List.mem_cons_of_mem _ h6)) (hes r0 (List.mem_cons_self ..))
            · rw [← hrank, hql, hqs2]
              show _ = rank + Sc.rankF (qs.length + 1) (r0.2 :: qs.map (·.2))
              rw [Sc.rankF, hf]
              dsimp only
              rw [List.map_map]
              show rank + 1 + Sc.rankF qs.length (qs.map fun r => Sc.clr p r.2 r0.2) = rank + (Sc.rankF qs.length (qs.map fun r => Sc.clr p r.2 r0.2) + 1)
              omega

/-! ### holes_in_all -/
abbrev sHoles : Stmt := top 44
def spHoles : Sp := fun vs H Q _ => ∃ (l : Addr) (ps : PS2), vs = [.ref l] ∧ ListAt H l ps ∧ ps.length ≤ 13 ∧ Sc.Good (sims ps) ∧
  ∀ (H' : Hp), Same H H' → Q (.int (Sc.phi (sims ps))) H'
theorem scHoles : FnScope ["simplices", "rows", "simplex"] ["simplices"] (defScope sHoles) := ⟨rfl, rfl, rfl, by decide +kernel, rfl, by decide +kernel, by decide +kernel⟩
theorem ok_holes {f f1 f2 : Addr} {fd fd1 fd2 : FuncData} {k : Nat} (F : Fun K "holes_in_all" "holes_in_all" sHoles f fd) (ml : mg "len" = none)
    (G1 : FnOk P w K mg base CX0 k f1 fd1 ["simplices", "simplex"] spRow) (m1 : mg "boundary_row" = some (.ref f1)) (k1 : PySem.W.keepIn K (.ref f1) = true) (b1 : Binds K fd1 ["simplices", "simplex"] [])
    (G2 : FnOk P w K mg base CX0 k f2 fd2 ["rows"] spRank) (m2 : mg "rank_of" = some (.ref f2)) (k2 : PySem.W.keepIn K (.ref f2) = true) (b2 : Binds K fd2 ["rows"] []) :
    FnOk P w K mg base CX0 (k + 1) f fd ["simplices"] spHoles := by
  refine F.ok scHoles (fun vs H Q E h => ?_) (fun cdv A0 outer s H vs Q E hr h => ?_)
  · obtain ⟨l, ps, rfl, _⟩ := h
    rfl
  · obtain ⟨l, ps, rfl, hl, hz, hg, q⟩ := h
    refine ⟨_, pss_cons (ps_setLc (i := 1) (own := [("simplex", 2)]) (g := gName 2) (tt := tYes) rfl scHoles.nd rfl rfl (sw_true rfl rfl rfl (by decide +kernel)) (pi_list (pv 0)) (blkOk_by (own := [("simplex", 2)]) (N := ["simplices", "rows", "simplex"]) (sc := defScope sHoles) (by decide +kernel))
        (fun _ _ _ _ _ => pg_name (i := 2) scHoles.nd rfl (Or.inl rfl))
        (fun _ _ _ _ _ => pts_nil)
        (fun _ _ _ _ _ => pe_call G1 hr rfl m1 k1 b1 .nil pass0 (pa_cons (pv 0) (pa_cons (pv 2) pa_nil))))
      (pss_one (ps_ret (pe_op op_sub (pe_callB call_len_seq (by rfl) ml PySem.boot_len (pa_cons (pv 0) pa_nil)) (pe_op op_mul pe_int (pe_call G2 hr rfl m2 k2 b2 .nil pass0 (pa_cons (pv 1) pa_nil)))))), ?_⟩
    have esl := sizeLine_eq
    have hsl : (sims ps).length = ps.length := sims_len ps
    refine ⟨_, rfl, l, rfl, ⟨_, SqL.of hl.lst⟩, fun D nD => lc_list (K := K) (a := l) (xs := refs ps)
      (fun j H3 => Same H H3 ∧ ∃ rs : RS, RowsAt H3 D rs ∧ (∀ r ∈ rs, r.1 ≠ D) ∧ rs.map (·.2) = ((sims ps).take j).map fun x => (sims ps).map (HoBase.incidence x))
      ⟨same_upd nD, [], ⟨upd_same, fun r hr => by cases hr⟩, (fun r hr => by cases hr), rfl⟩ (fun j H3 _ h => SqL.of (h.1 _ _ hl.lst)) ?_ ?_⟩
    · rintro j y H3 hj ⟨s3, rs, hrs, hrD, hrs2⟩
      obtain ⟨p, hp, rfl⟩ := refs_get hj
      have hpm := mem_of_get hp
      refine ⟨rfl, ?_⟩
      refine tyes ?_
      refine ⟨_, rfl, _, rfl, l, p.1, ps, p.2, rfl, hl.same s3, (hl.each p hpm).same s3, by omega, hg, List.mem_map.mpr ⟨p, hpm, rfl⟩, fun H4 u s4 nu hu => ?_⟩
      have hql : rs.length ≤ 13 := by
        have h5 := congrArg List.length hrs2
        rw [List.length_map, List.length_map, List.length_take] at h5
        omega
      have hDu : u ≠ D := fun q => by
        rw [q, hrs.lst] at nu
        cases nu
      refine ⟨_, s4 _ _ hrs.lst, by rw [rrefs_len]; omega, fun b ob eb => ?_, rs ++ [(u, (sims ps).map (HoBase.incidence p.2))], ⟨?_, fun z hz => ?_⟩, fun z hz => ?_, ?_⟩
      · rw [upd_ne (ne_of_none eb nD)]
        exact s4 _ _ (s3 _ _ eb)
      · rw [upd_same]
        unfold rrefs
        rw [List.map_append]
        rfl
      · rcases List.mem_append.mp hz with hz | hz
        · rw [upd_ne (hrD z hz)]
          exact s4 _ _ (hrs.each z hz)
        · have ez : z = (u, (sims ps).map (HoBase.incidence p.2)) := by simpa using hz
          subst ez
          rw [upd_ne hDu]
          exact hu
      · rcases List.mem_append.mp hz with hz | hz
        · exact hrD z hz
        · have ez : z = (u, (sims ps).map (HoBase.incidence p.2)) := by simpa using hz
          subst ez
          exact hDu
      · rw [List.map_append, hrs2, take_more (sims_get hp), List.map_append]
        rfl
    · rintro H3 ⟨s3, rs, hrs, hrD, hrs2⟩
      rw [refs_len, ← hsl, List.take_length] at hrs2
      have hql : rs.length = ps.length := by
        have h5 := congrArg List.length hrs2
        rw [List.length_map, List.length_map] at h5
        omega
      have hmem : ∀ r ∈ rs, ∃ x ∈ sims ps, r.2 = (sims ps).map (HoBase.incidence x) := fun r hr => by
        have : r.2 ∈ rs.map (·.2) := List.mem_map.mpr ⟨r, hr, rfl⟩
        rw [hrs2] at this
        obtain ⟨x, h6, h7⟩ := List.mem_map.mp this
        exact ⟨x, h6, h7.symm⟩
      refine ⟨_, rfl, l, refs ps, rfl, .inl (SqL.of (hl.same s3).lst), ?_⟩
      refine ⟨_, rfl, D, rs, ps.length, rfl, hrs, by omega, by omega, ⟨fun r hr => ?_, 1, by decide, ?_, fun r hr z hz => ?_⟩, fun H4 s4 => ?_⟩
      · obtain ⟨x, h6, h7⟩ := hmem r hr
        rw [h7, List.length_map, hsl]
      · have : 2 ^ 1 ≤ 2 ^ (14 - rs.length) := Nat.pow_le_pow_right (by decide) (by omega)
        omega
      · obtain ⟨x, h6, h7⟩ := hmem r hr
        rw [h7] at hz
        obtain ⟨y, _, rfl⟩ := List.mem_map.mp hz
        exact Sc.inc_small x y
      refine ⟨2, _, rfl, rfl, .inl ⟨by decide, by decide⟩, _, _, rfl, rfl, ?_⟩
      have hphi := Sc.rank_phi hg (by omega)
      have e1 : rs.map (·.2) = Sc.tab (sims ps) (sims ps) HoBase.incidence := hrs2
      have := q H4 (s3.trans s4)
      rw [← hphi, hsl] at this
      show Q (.int ((((refs ps).length : Nat) : Int) - 2 * ((Sc.rankF rs.length (rs.map (·.2)) : Nat) : Int))) H4
      rw [refs_len, hql, e1]
      exact this
end
end Sh

set_option maxRecDepth 100000
set_option maxHeartbeats 400000
namespace Sh
open PySem PySem.Spec PyProof.Rows L2

/-! ### the shape and what it was -/
structure OkCx (c : List Sim) : Prop where
  good : Sc.Good c
  len : c.length ≤ 60
def eF (e : Addr) : List (Str × V) := [("earlier", .ref e)]
structure ShSt (C : Addr) (N : Addr → Prop) (H : Hp) (o e : Addr) (s : Ho04.State) : Prop where
  ex : ∃ (l : Addr) (ps : PS2) (ls : List (Addr × PS2)), ShAt C (eF e) H o l ∧ ListAt H l ps ∧ sims ps = s.shape ∧ H e = some (.lst (ls.map fun x => V.ref x.1)) ∧ (∀ x ∈ ls, ListAt H x.1 x.2 ∧ (x.1 ≠ e ∧ N x.1)) ∧ (l ≠ e ∧ N l) ∧ ls.map (fun x => sims x.2) = s.old.reverse
  ok : OkCx s.shape
  oks : ∀ c ∈ s.old, OkCx c
theorem ShSt.same {C : Addr} {N : Addr → Prop} {H H' : Hp} {o e : Addr} {s : Ho04.State} (h : ShSt C N H o e s) (sm : Same H H') : ShSt C N H' o e s := by
  obtain ⟨l, ps, ls, ⟨dx, ho⟩, hl, hs, he, hls, hle, hold⟩ := h.ex
  exact ⟨⟨l, ps, ls, ⟨dx, sm _ _ ho⟩, hl.same sm, hs, sm _ _ he, fun x hx => ⟨(hls x hx).1.same sm, (hls x hx).2⟩, hle, hold⟩, h.ok, h.oks⟩
/-- all but the object at o and the list at e is as it was -/
def Moved (o e : Addr) (H H' : Hp) : Prop := ∀ b ob, H b = some ob → b ≠ o → b ≠ e → H' b = some ob
theorem Moved.of_same {o e : Addr} {H H' : Hp} (h : Same H H') : Moved o e H H' := fun b ob hb _ _ => h b ob hb
/-- what is new is among N -/
def FreshN (N : Addr → Prop) (H : Hp) : Prop := ∀ b, H b = none → N b
/-- what is answered, and the shape behind it -/
def Ans (C : Addr) (N : Addr → Prop) (o e : Addr) (H : Hp) (r : Ho04.State × List Int) (Q : VK) : Prop := ∀ (H' : Hp) (p e' : Addr), Moved o e H H' → (e' = e ∨ H e' = none) → ShSt C N H' o e' r.1 → H p = none → H' p = some (.lst (iv r.2)) → Q (.ref p) H'
theorem Ans.same {C o e : Addr} {N : Addr → Prop} {H H' : Hp} {s : Ho04.State} {a : List Int} {Q : VK} {p : Addr} (q : Ans C N o e H (s, a) Q) (h : ShSt C N H o e s) (sm : Same H H') (np : H p = none) (hp : H' p = some (.lst (iv a))) : Q (.ref p) H' :=
  q H' p e (Moved.of_same sm) (.inl rfl) (h.same sm) np hp
theorem sv_iv (x : Sim) : sv x = iv (x.map Ho04.nat) := by
  unfold sv iv
  rw [List.map_map]
  rfl
structure ShTx (K : PySem.W.Frag) (C : Addr) : Prop where
  t : ShTxt K C
  nE : NoAttr K C "earlier"
theorem sF_old {l e : Addr} : ((("simplices" : Str), V.ref l) :: eF e).lookup ("earlier" : Str) = some (.ref e) := (lk_past (by decide +kernel)).trans lk_here
theorem sF_not {l e : Addr} {m : Str} (h1 : (m == ("simplices" : Str)) = false) (h2 : (m == ("earlier" : Str)) = false) : ((("simplices" : Str), V.ref l) :: eF e).lookup m = none := (lk_past h1).trans ((lk_past h2).trans rfl)
theorem sF_put {l l2 e : Addr} : putF "simplices" (.ref l2) ((("simplices" : Str), V.ref l) :: eF e) = (("simplices" : Str), V.ref l2) :: eF e := put_here
theorem sF_putE {l e e2 : Addr} : putF "earlier" (.ref e2) ((("simplices" : Str), V.ref l) :: eF e) = (("simplices" : Str), V.ref l) :: eF e2 := (put_past (by decide +kernel)).trans (congrArg _ put_here)
section
variable {P : Program} {w : World} {K : PySem.W.Frag} {mg : Str → Option Value} {base : Heap} {C : Addr}
abbrev sSInit : Stmt := inClass (top 46) 0
abbrev sChange : Stmt := inClass (top 46) 1
abbrev sBecome : Stmt := inClass (top 46) 2
abbrev sPush : Stmt := inClass (top 46) 4
abbrev sLeave : Stmt := inClass (top 46) 7
abbrev sBone : Stmt := inClass (top 46) 8
abbrev sFewest : Stmt := inClass (top 46) 9
abbrev sListed : Stmt := inClass (top 46) 10
abbrev sUndo : Stmt := inClass (top 46) 11

/-! ### __init__ -/
theorem nil_good : Sc.Good [] := ⟨List.nodup_nil, (fun x hx => by cases hx), (fun x hx => by cases hx), (fun x hx => by cases hx)⟩
def spSInit (C : Addr) : Sp := fun vs H Q _ => ∃ (p dx : Addr) (N : Addr → Prop), vs = [.ref p] ∧ H p = some (.ins C dx []) ∧ FreshN N H ∧
  ∀ (H' : Hp) (e : Addr), ShSt C N H' p e Ho04.init → KeepsBut p H H' → H e = none → Q .non H'
theorem scSInit : FnScope ["self"] ["self"] (defScope sSInit) := ⟨rfl, rfl, rfl, by decide +kernel, rfl, by decide +kernel, by decide +kernel⟩
theorem ok_sinit {f : Addr} {fd : FuncData} {k : Nat} (F : Fun K "__init__" "Shape.__init__" sSInit f fd) (T : ShTx K C) : FnOk P w K mg base CX0 (k + 1) f fd ["self"] (spSInit C) := by
  refine F.ok scSInit (fun vs H Q E h => ?_) (fun cdv A outer s H vs Q E hr h => ?_)
  · obtain ⟨p, dx, N, rfl, _⟩ := h
    rfl
  · obtain ⟨p, dx, N, rfl, hp, hN, q⟩ := h
    refine ⟨_, pss_cons (ps_fld (pv 0) (pe_lst pa_nil) rfl) (pss_one (ps_fld (pv 0) (pe_lst pa_nil) rfl)), ?_⟩
    refine ⟨Nat.zero_le _, fun l nl => ?_⟩
    have hpl : p ≠ l := ne_of_none hp nl
    have s1 := same_upd (o := HO.lst []) nl
    refine ⟨_, rfl, p, C, dx, [], rfl, s1 _ _ hp, T.t.cl, T.t.nS, (by show 0 < 1000; decide), ?_⟩
    refine ⟨Nat.zero_le _, fun e ne => ?_⟩
    have hpe : p ≠ e := fun z => by
      rw [z, upd_same] at ne
      cases ne
    have hle : l ≠ e := fun z => by
      rw [z, upd_ne (fun y => hpe y.symm), upd_same] at ne
      cases ne
    have ho : (upd (upd (upd H l (.lst [])) p (.ins C dx (putF "simplices" (.ref l) []))) e (.lst [])) p = some (.ins C dx (putF "simplices" (.ref l) [])) := by
      rw [upd_ne hpe, upd_same]
    refine ⟨_, rfl, p, C, dx, _, rfl, ho, T.t.cl, T.nE, (by show 1 < 1000; decide), ?_⟩
    have hne : H e = none := by
      rw [upd_ne (Ne.symm hpe), upd_ne (Ne.symm hle)] at ne
      exact ne
    refine q _ e ⟨⟨l, [], [], ⟨dx, Eq.trans upd_same ?_⟩, ⟨?_, fun x hx => by cases hx⟩, rfl, ?_, fun x hx => (by cases hx), ⟨hle, hN l nl⟩, rfl⟩, ⟨nil_good, by decide⟩, fun c hc => by cases hc⟩ (fun b ob hb hbp => ?_) hne
    · have : putF "earlier" (.ref e) (putF "simplices" (.ref l) []) = (("simplices" : Str), V.ref l) :: eF e := (put_past (by decide +kernel)).trans rfl
      rw [this]
    · rw [upd_ne (Ne.symm hpl), upd_ne hle, upd_ne (Ne.symm hpl), upd_same]
      rfl
    · rw [upd_ne (Ne.symm hpe), upd_same]
      rfl
    · rw [upd_ne hbp, upd_ne (ne_of_none hb hne), upd_ne hbp]
      exact s1 _ _ hb

/-! ### change_to -/
def spChange (C : Addr) : Sp := fun vs H Q _ => ∃ (o e l2 : Addr) (N : Addr → Prop) (s : Ho04.State) (ps2 : PS2), vs = [.ref o, .ref l2] ∧ ShSt C N H o e s ∧ s.old.length ≤ 1000 ∧ ListAt H l2 ps2 ∧ (l2 ≠ e ∧ N l2) ∧ OkCx (sims ps2) ∧
  Ans C N o e H (Ho04.changed s (sims ps2) [Ho04.nat (sims ps2).length]) Q
theorem scChange : FnScope ["self", "simplices"] ["self", "simplices"] (defScope sChange) := ⟨rfl, rfl, rfl, by decide +kernel, rfl, by decide +kernel, by decide +kernel⟩
theorem ok_change {f : Addr} {fd : FuncData} {k : Nat} (F : Fun K "change_to" "Shape.change_to" sChange f fd) (T : ShTx K C) (ml : mg "len" = none) : FnOk P w K mg base CX0 (k + 1) f fd ["self", "simplices"] (spChange C) := by
  refine F.ok scChange (fun vs H Q E h => ?_) (fun cdv A outer s H vs Q E hr h => ?_)
  · obtain ⟨o, e, l2, N, s, ps2, rfl, _⟩ := h
    rfl
  · obtain ⟨o, e, l2, N, st, ps2, rfl, hst, hold, hl2, hl2e, hok2, q⟩ := h
    obtain ⟨l, ps, ls, ⟨dx, ho⟩, hl, hs, he, hls, hle, hlo⟩ := hst.ex
    refine ⟨_, pss_cons (ps_expr (pe_bm PySem.F.plainAttrs_list PySem.F.slot_list_append PySem.F.type_list_append mt_append (pe_fld (pv 0) rfl) (pa_cons (pe_fld (pv 0) rfl) pa_nil)))
      (pss_cons (ps_fld (pv 0) (pv 1) rfl) (pss_one (ps_ret (pe_lst (pa_cons (pe_callB call_len_seq (by rfl) ml PySem.boot_len (pa_cons (pv 1) pa_nil)) pa_nil))))), ?_⟩
    have esl := sizeLine_eq
    have hll : ls.length ≤ 1000 := by
      have h5 := congrArg List.length hlo
      rw [List.length_map, List.length_reverse] at h5
      omega
    have hoe : o ≠ e := ne_of ho he (by intro z; cases z)
    have hto : ∀ {b : Addr} {x : Sim}, TupAt H b x → b ≠ o ∧ b ≠ e := fun {b x} hb => ⟨ne_of hb ho (by intro z; cases z), ne_of hb he (by intro z; cases z)⟩
    have hlo2 : ∀ {b : Addr} {xs : List V}, H b = some (.lst xs) → b ≠ o := fun {b xs} hb => ne_of hb ho (by intro z; cases z)
    refine ⟨_, rfl, o, C, dx, _, _, rfl, ho, T.t.cl, T.nE, sF_old, .inl ⟨rfl, _, SqL.of he⟩, _, rfl, o, C, dx, _, _, rfl, ho, T.t.cl, T.t.nS, sF_sim l, e, _, _, rfl, rfl, he, by rw [List.length_map]; omega, ?_⟩
    have ho1 : (upd H e (.lst (ls.map (fun x => V.ref x.1) ++ [.ref l]))) o = some (.ins C dx ((("simplices" : Str), V.ref l) :: eF e)) := by
      rw [upd_ne hoe]
      exact ho
    refine ⟨_, rfl, _, rfl, o, C, dx, _, rfl, ho1, T.t.cl, T.t.nS, (by show 2 < 1000; decide), ?_⟩
    rw [sF_put]
    have keep : ∀ b ob, H b = some ob → b ≠ o → b ≠ e → (upd (upd H e (.lst (ls.map (fun x => V.ref x.1) ++ [.ref l]))) o (.ins C dx ((("simplices" : Str), V.ref l2) :: eF e))) b = some ob := fun b ob hb h1 h2 => by
      rw [upd_ne h1, upd_ne h2]
      exact hb
    have keepL : ∀ {b : Addr} {xs : PS2}, ListAt H b xs → b ≠ e → ListAt (upd (upd H e (.lst (ls.map (fun x => V.ref x.1) ++ [.ref l]))) o (.ins C dx ((("simplices" : Str), V.ref l2) :: eF e))) b xs := fun {b xs} hb hbe =>
      ⟨keep _ _ hb.lst (hlo2 hb.lst) hbe, fun p hp => keep _ _ (hb.each p hp) (hto (hb.each p hp)).1 (hto (hb.each p hp)).2⟩
    have hl2' := keepL hl2 hl2e.1
    refine ⟨_, rfl, l2, _, rfl, .inl (SqL.of hl2'.lst), ?_⟩
    rw [refs_len]
    refine ⟨by show 1 ≤ sizeLine; decide, fun p np => ?_⟩
    have sp := same_upd (o := HO.lst [V.int (ps2.length : Int)]) np
    have np0 : H p = none := by
      cases e5 : H p with
      | none => rfl
      | some ob =>
        by_cases h6 : p = o
        · rw [h6, upd_same] at np
          cases np
        · by_cases h7 : p = e
          · rw [h7, upd_ne (Ne.symm hoe), upd_same] at np
            cases np
          · rw [keep p ob e5 h6 h7] at np
            cases np
    refine q _ p e (fun b ob hb h1 h2 => sp _ _ (keep b ob hb h1 h2)) (.inl rfl) ⟨⟨l2, ps2, ls ++ [(l, ps)], ⟨dx, sp _ _ upd_same⟩, hl2'.same sp, rfl, ?_, fun x hx => ?_, hl2e, ?_⟩, hok2, fun c hc => ?_⟩ np0 ?_
    · refine sp _ _ ?_
      rw [upd_ne (Ne.symm hoe), upd_same, List.map_append]
      rfl
    · rcases List.mem_append.mp hx with hx | hx
      · exact ⟨(keepL (hls x hx).1 (hls x hx).2.1).same sp, (hls x hx).2⟩
      · have ex : x = (l, ps) := by simpa using hx
        subst ex
        exact ⟨(keepL hl hle.1).same sp, hle⟩
    · rw [List.map_append, hlo]
      show _ = (st.shape :: st.old).reverse
      rw [List.reverse_cons, ← hs]
      rfl
    · rcases List.mem_cons.mp hc with hc | hc
      · rw [hc]
        exact hst.ok
      · exact hst.oks c hc
    · rw [upd_same]
      show _ = some (HO.lst (iv [Ho04.nat (sims ps2).length]))
      rw [sims_len]
      rfl

/-! ### undo -/
def spUndo (C : Addr) : Sp := fun vs H Q _ => ∃ (o e : Addr) (N : Addr → Prop) (s : Ho04.State), vs = [.ref o] ∧ ShSt C N H o e s ∧ Ans C N o e H (Ho04.step s .undo) Q
theorem scUndo : FnScope ["self"] ["self"] (defScope sUndo) := ⟨rfl, rfl, rfl, by decide +kernel, rfl, by decide +kernel, by decide +kernel⟩
theorem ok_undo {f : Addr} {fd : FuncData} {k : Nat} {t7 : Tok} (F : Fun K "undo" "Shape.undo" sUndo f fd) (T : ShTx K C) (ml : mg "len" = none) (m7 : mg "NOTHING_TO_UNDO" = some (.int (-7) t7)) : FnOk P w K mg base CX0 (k + 1) f fd ["self"] (spUndo C) := by
  refine F.ok scUndo (fun vs H Q E h => ?_) (fun cdv A outer s H vs Q E hr h => ?_)
  · obtain ⟨o, e, N, s, rfl, _⟩ := h
    rfl
  · obtain ⟨o, e, N, st, rfl, hst, q⟩ := h
    obtain ⟨l, ps, ls, ⟨dx, ho⟩, hl, hs, he, hls, hle, hlo⟩ := hst.ex
    refine ⟨_, pss_cons (ps_if (pt_cmpR op_eq (pe_callB call_len_seq (by rfl) ml PySem.boot_len (pa_cons (pe_fld (pv 0) rfl) pa_nil)) pe_int (nomark _))
        (pss_one (ps_ret (pe_lst (pa_cons (pe_glob (v := .int (-7)) rfl m7 ⟨_, rfl⟩) pa_nil)))) pss_nil)
      (pss_cons (ps_fld (pv 0) (pe_bm0 PySem.F.plainAttrs_list PySem.F.slot_list_pop PySem.F.type_list_pop mt_pop (pe_fld (pv 0) rfl)) rfl)
      (pss_one (ps_ret (pe_lst (pa_cons (pe_callB call_len_seq (by rfl) ml PySem.boot_len (pa_cons (pe_fld (pv 0) rfl) pa_nil)) pa_nil))))), ?_⟩
    have hoe : o ≠ e := ne_of ho he (by intro z; cases z)
    refine ⟨_, rfl, o, C, dx, _, _, rfl, ho, T.t.cl, T.nE, sF_old, e, _, rfl, .inl (SqL.of he), ?_⟩
    rw [List.length_map]
    refine ⟨rfl, _, rfl, ?_⟩
    rw [vint_zero]
    cases hold : st.old with
    | nil =>
      have hl0 : ls = [] := by
        rw [hold] at hlo
        exact List.map_eq_nil_iff.mp hlo
      subst hl0
      refine iteT ?_
      have hstep : Ho04.step st .undo = (st, [-7]) := by
        show (match st.old with
          | [] => (st, [-7])
          | c :: l => (⟨c, l⟩, [Ho04.nat c.length])) = _
        rw [hold]
      rw [hstep] at q
      refine ⟨by show 1 ≤ sizeLine; decide, fun p np => ?_⟩
      exact q.same hst (same_upd np) np upd_same
    | cons c old' =>
      have hstep : Ho04.step st .undo = (⟨c, old'⟩, [Ho04.nat c.length]) := by
        show (match st.old with
          | [] => (st, [-7])
          | c :: l => (⟨c, l⟩, [Ho04.nat c.length])) = _
        rw [hold]
      rw [hstep] at q
      rw [hold, List.reverse_cons] at hlo
      have hne : ls ≠ [] := fun z => by
        rw [z] at hlo
        simp at hlo
      obtain ⟨ls', x, rfl⟩ : ∃ ls' x, ls = ls' ++ [x] := ⟨ls.dropLast, ls.getLast hne, (List.dropLast_concat_getLast hne).symm⟩
      rw [List.map_append] at hlo
      have hlo1 := (List.append_inj' hlo rfl).1
      have hlo2 : sims x.2 = c := by
        have := (List.append_inj' hlo rfl).2
        simpa using this
      have hlen : ¬ (ls' ++ [x]).length = 0 := by simp
      rw [decide_eq_false hlen]
      refine iteF ?_
      obtain ⟨hx1, hx2⟩ := hls x (by simp)
      refine ⟨_, rfl, o, C, dx, _, _, rfl, ho, T.t.cl, T.nE, sF_old, .inl ⟨rfl, _, SqL.of he⟩, e, _, .ref x.1, rfl, rfl, he, ?_, ?_⟩
      · rw [List.map_append]
        simp
      have edl : ((ls' ++ [x]).map fun x => V.ref x.1).dropLast = ls'.map fun x => V.ref x.1 := by
        rw [List.map_append]
        simp
      rw [edl]
      have ho1 : (upd H e (.lst (ls'.map fun x => V.ref x.1))) o = some (.ins C dx ((("simplices" : Str), V.ref l) :: eF e)) := by
        rw [upd_ne hoe]
        exact ho
      refine ⟨_, rfl, o, C, dx, _, rfl, ho1, T.t.cl, T.t.nS, (by show 2 < 1000; decide), ?_⟩
      rw [sF_put]
      have hto : ∀ {b : Addr} {x : Sim}, TupAt H b x → b ≠ o ∧ b ≠ e := fun {b x} hb => ⟨ne_of hb ho (by intro z; cases z), ne_of hb he (by intro z; cases z)⟩
      have hlo3 : ∀ {b : Addr} {xs : List V}, H b = some (.lst xs) → b ≠ o := fun {b xs} hb => ne_of hb ho (by intro z; cases z)
      have keep : ∀ b ob, H b = some ob → b ≠ o → b ≠ e → (upd (upd H e (.lst (ls'.map fun x => V.ref x.1))) o (.ins C dx ((("simplices" : Str), V.ref x.1) :: eF e))) b = some ob := fun b ob hb h1 h2 => by
        rw [upd_ne h1, upd_ne h2]
        exact hb
      have keepL : ∀ {b : Addr} {xs : PS2}, ListAt H b xs → b ≠ e → ListAt (upd (upd H e (.lst (ls'.map fun x => V.ref x.1))) o (.ins C dx ((("simplices" : Str), V.ref x.1) :: eF e))) b xs := fun {b xs} hb hbe =>
        ⟨keep _ _ hb.lst (hlo3 hb.lst) hbe, fun p hp => keep _ _ (hb.each p hp) (hto (hb.each p hp)).1 (hto (hb.each p hp)).2⟩
      have hx1' := keepL hx1 hx2.1
      refine ⟨_, rfl, o, C, dx, _, _, rfl, upd_same, T.t.cl, T.t.nS, sF_sim x.1, x.1, _, rfl, .inl (SqL.of hx1'.lst), ?_⟩
      rw [refs_len]
      refine ⟨by show 1 ≤ sizeLine; decide, fun p np => ?_⟩
      have sp := same_upd (o := HO.lst [V.int (x.2.length : Int)]) np
      have np0 : H p = none := by
        cases e5 : H p with
        | none => rfl
        | some ob =>
          by_cases h6 : p = o
          · rw [h6, upd_same] at np
            cases np
          · by_cases h7 : p = e
            · rw [h7, upd_ne (Ne.symm hoe), upd_same] at np
              cases np
            · rw [keep p ob e5 h6 h7] at np
              cases np
      refine q _ p e (fun b ob hb h1 h2 => sp _ _ (keep b ob hb h1 h2)) (.inl rfl) ⟨⟨x.1, x.2, ls', ⟨dx, sp _ _ upd_same⟩, hx1'.same sp, hlo2, ?_, fun y hy => ?_, hx2, hlo1⟩, hst.oks c (by rw [hold]; simp), fun c' hc => hst.oks c' (by rw [hold]; simp [hc])⟩ np0 ?_
      · refine sp _ _ ?_
        rw [upd_ne (Ne.symm hoe), upd_same]
      · obtain ⟨h8, h9⟩ := hls y (List.mem_append.mpr (.inl hy))
        exact ⟨(keepL h8 h9.1).same sp, h9⟩
      · rw [upd_same]
        show _ = some (HO.lst (iv [Ho04.nat c.length]))
        rw [← hlo2, sims_len]
        rfl

/-! ### listed -/
def spListed (C : Addr) : Sp := fun vs H Q _ => ∃ (o e : Addr) (N : Addr → Prop) (s : Ho04.State), vs = [.ref o] ∧ ShSt C N H o e s ∧ Ans C N o e H (Ho04.step s .list) Q
theorem told_spec (xs : List Sim) : sv (toldL xs) = iv (Ho04.toldSims xs) := by
  rw [sv_iv]
  congr 1
  unfold toldL Ho04.toldSims
  rw [List.map_cons, List.map_flatMap]
  rfl
theorem scListed : FnScope ["self"] ["self"] (defScope sListed) := ⟨rfl, rfl, rfl, by decide +kernel, rfl, by decide +kernel, by decide +kernel⟩
theorem ok_listed {f f1 : Addr} {fd fd1 : FuncData} {k : Nat} (F : Fun K "listed" "Shape.listed" sListed f fd) (T : ShTx K C)
    (G1 : FnOk P w K mg base CX0 k f1 fd1 ["simplices"] (spTold K)) (m1 : mg "told" = some (.ref f1)) (k1 : PySem.W.keepIn K (.ref f1) = true) (b1 : Binds K fd1 ["simplices"] []) :
    FnOk P w K mg base CX0 (k + 1) f fd ["self"] (spListed C) := by
  refine F.ok scListed (fun vs H Q E h => ?_) (fun cdv A outer s H vs Q E hr h => ?_)
  · obtain ⟨o, e, N, s, rfl, _⟩ := h
    rfl
  · obtain ⟨o, e, N, st, rfl, hst, q⟩ := h
    obtain ⟨l, ps, ls, ⟨dx, ho⟩, hl, hs, he, hls, hle, hlo⟩ := hst.ex
    refine ⟨_, pss_one (ps_ret (pe_call G1 hr rfl m1 k1 b1 .nil pass0 (pa_cons (pe_fld (pv 0) rfl) pa_nil))), ?_⟩
    have hlen : ps.length ≤ 60 := by
      have := hst.ok.len
      rw [← hs, sims_len] at this
      exact this
    have hg : Sc.Good (sims ps) := by
      rw [hs]
      exact hst.ok.good
    refine ⟨_, rfl, o, C, dx, _, _, rfl, ho, T.t.cl, T.t.nS, sF_sim l, l, ps, rfl, hl, by omega, fun p hp => ?_, fun H' p sm np hp => ?_⟩
    · have := good_short hg hp
      omega
    · rw [told_spec, hs] at hp
      exact q.same hst sm np hp

/-! ### fewest -/
def spFewest (C : Addr) : Sp := fun vs H Q _ => ∃ (o e : Addr) (N : Addr → Prop) (s : Ho04.State), vs = [.ref o] ∧ ShSt C N H o e s ∧ Ans C N o e H (Ho04.step s .fewest) Q
theorem scFewest : FnScope ["self"] ["self"] (defScope sFewest) := ⟨rfl, rfl, rfl, by decide +kernel, rfl, by decide +kernel, by decide +kernel⟩
theorem ok_fewest {f f1 f2 : Addr} {fd fd1 fd2 : FuncData} {k : Nat} {t13 t5 : Tok} (F : Fun K "fewest" "Shape.fewest" sFewest f fd) (T : ShTx K C) (ml : mg "len" = none) (m13 : mg "MOST_FOR_FEWEST" = some (.int 13 t13)) (m5 : mg "TOO_MANY_FOR_FEWEST" = some (.int (-5) t5))
    (G1 : FnOk P w K mg base CX0 k f1 fd1 ["simplices"] spCuts) (m1 : mg "fewest_cuts" = some (.ref f1)) (k1 : PySem.W.keepIn K (.ref f1) = true) (b1 : Binds K fd1 ["simplices"] [])
    (G2 : FnOk P w K mg base CX0 k f2 fd2 ["simplices"] spHoles) (m2 : mg "holes_in_all" = some (.ref f2)) (k2 : PySem.W.keepIn K (.ref f2) = true) (b2 : Binds K fd2 ["simplices"] []) :
    FnOk P w K mg base CX0 (k + 1) f fd ["self"] (spFewest C) := by
  refine F.ok scFewest (fun vs H Q E h => ?_) (fun cdv A outer s H vs Q E hr h => ?_)
  · obtain ⟨o, e, N, s, rfl, _⟩ := h
    rfl
  · obtain ⟨o, e, N, st, rfl, hst, q⟩ := h
    obtain ⟨l, ps, ls, ⟨dx, ho⟩, hl, hs, he, hls, hle, hlo⟩ := hst.ex
    refine ⟨_, pss_cons (ps_if (pt_cmpR op_gt (pe_callB call_len_seq (by rfl) ml PySem.boot_len (pa_cons (pe_fld (pv 0) rfl) pa_nil)) (pe_glob (v := .int 13) rfl m13 ⟨_, rfl⟩) (nomark _))
        (pss_one (ps_ret (pe_lst (pa_cons (pe_glob (v := .int (-5)) rfl m5 ⟨_, rfl⟩) pa_nil)))) pss_nil)
      (pss_one (ps_ret (pe_lst (pa_cons (pe_call G1 hr rfl m1 k1 b1 .nil pass0 (pa_cons (pe_fld (pv 0) rfl) pa_nil)) (pa_cons (pe_call G2 hr rfl m2 k2 b2 .nil pass0 (pa_cons (pe_fld (pv 0) rfl) pa_nil)) pa_nil))))), ?_⟩
    have hsl : ps.length = st.shape.length := by
      rw [← hs, sims_len]
    have hg : Sc.Good (sims ps) := by
      rw [hs]
      exact hst.ok.good
    have hstep : Ho04.step st .fewest = (st, if 13 < st.shape.length then [-5] else [Ho04.nat (Ho04.fewest st.shape), Ho04.nat (Ho04.holesInAll st.shape)]) := rfl
    refine ⟨_, rfl, o, C, dx, _, _, rfl, ho, T.t.cl, T.t.nS, sF_sim l, l, _, rfl, .inl (SqL.of hl.lst), ?_⟩
    rw [refs_len]
    refine ⟨_, _, rfl, rfl, _, rfl, ?_⟩
    by_cases h13 : 13 < ps.length
    · have d1 : decide ((13 : Int) < (ps.length : Int)) = true := decide_eq_true (by omega)
      rw [d1]
      refine iteT ?_
      rw [hstep, if_pos (by omega)] at q
      refine ⟨by show 1 ≤ sizeLine; decide, fun p np => ?_⟩
      exact q.same hst (same_upd np) np upd_same
    · have d1 : decide ((13 : Int) < (ps.length : Int)) = false := decide_eq_false (by omega)
      rw [d1]
      refine iteF ?_
      rw [hstep, if_neg (by omega)] at q
      refine ⟨_, rfl, o, C, dx, _, _, rfl, ho, T.t.cl, T.t.nS, sF_sim l, l, ps, rfl, hl, by omega, hg, fun H1 v s1 hv => ?_⟩
      refine ⟨_, rfl, o, C, dx, _, _, rfl, s1 _ _ ho, T.t.cl, T.t.nS, sF_sim l, l, ps, rfl, hl.same s1, by omega, hg, fun H2 s2 => ?_⟩
      refine ⟨by show 2 ≤ sizeLine; decide, fun p np => ?_⟩
      have e1 := Sc.fewest_phi hst.ok.good (by omega)
      have e2 := Sc.holes_phi hst.ok.good (by omega)
      rw [hs] at hv
      refine q.same hst ((s1.trans s2).trans (same_upd np)) ((s1.trans s2).free np) ?_
      rw [upd_same]
      show some (HO.lst [V.int (v : Int), V.int (Sc.phi (sims ps))]) = some (HO.lst [V.int (Ho04.nat (Ho04.fewest st.shape)), V.int (Ho04.nat (Ho04.holesInAll st.shape))])
      unfold Ho04.nat
      rw [hv, e1, e2, hs]
end
end Sh

set_option maxRecDepth 100000
set_option maxHeartbeats 400000
namespace Sh
open PySem PySem.Spec PyProof.Rows L2
theorem Ans.past {C o e : Addr} {N : Addr → Prop} {H H' : Hp} {r : Ho04.State × List Int} {Q : VK} (q : Ans C N o e H r Q) (sm : Same H H') : Ans C N o e H' r Q := fun H2 p e' mv he st np hp =>
  q H2 p e' (fun b ob hb h1 h2 => mv b ob (sm _ _ hb) h1 h2) (he.imp id sm.free) st (sm.free np) hp
theorem isSim_iff {ns : List Int} : IsSim ns ↔ Sc.IsSim ns := Iff.rfl
theorem corners_spec (c : List Sim) : Ho04.corners c = cornersL c := rfl
theorem mem_cornersL {c : List Sim} {a : Nat} : a ∈ cornersL c ↔ [a] ∈ c := by
  unfold cornersL
  rw [List.mem_map]
  constructor
  · rintro ⟨x, hx, e⟩
    obtain ⟨h1, h2⟩ := List.mem_filter.mp hx
    obtain ⟨b, rfl⟩ := List.length_eq_one_iff.mp (by simpa using h2)
    have : b = a := e
    rw [← this]
    exact h1
  · intro h
    exact ⟨[a], List.mem_filter.mpr ⟨h, rfl⟩, rfl⟩
theorem leans_spec {c : List Sim} (g : Sc.Good c) (a b : Nat) : Ho04.leans c a b = (decide (b ≠ a) && leansT (Sc.topsL c) a b) := g.leans a b
theorem lowest_spec {c : List Sim} (g : Sc.Good c) (a : Nat) : (Ho04.corners c).find? (fun b => Ho04.leans c a b) = lowest (Sc.topsL c) (cornersL c) a := by
  unfold lowest
  rw [corners_spec]
  congr 1
  funext b
  exact leans_spec g a b
theorem leaning_spec {c : List Sim} (g : Sc.Good c) : Ho04.leaning c = leaningL c := by
  unfold Ho04.leaning leaningL leaningP
  rw [corners_spec]
  congr 1
  funext a
  rw [← lowest_spec g a, corners_spec]
theorem drop_filter (ps : PS2) (a : Nat) : sims (ps.filter fun p => !p.2.contains a) = Ho04.drop (sims ps) a := sims_filter ps fun x => !x.contains a
section
variable {P : Program} {w : World} {K : PySem.W.Frag} {mg : Str → Option Value} {base : Heap} {C : Addr}
/-! ### push -/
def spPush (C : Addr) : Sp := fun vs H Q _ => ∃ (o e a : Addr) (N : Addr → Prop) (s : Ho04.State) (r : List Int), vs = [.ref o, .ref a] ∧ FreshN N H ∧ ShSt C N H o e s ∧ s.old.length ≤ 1000 ∧ H a = some (.lst (iv r)) ∧ r.length ≤ 4000 ∧ Ans C N o e H (Ho04.step s (.push r)) Q
theorem scPush : FnScope ["self", "corners", "simplex", "above"] ["self", "corners"] (defScope sPush) := ⟨rfl, rfl, rfl, by decide +kernel, rfl, by decide +kernel, by decide +kernel⟩
theorem ok_push {f f1 f2 f3 f4 f5 : Addr} {fd fd1 fd2 fd3 fd4 fd5 : FuncData} {k : Nat} {t1 t3 t6 : Tok} (F : Fun K "push" "Shape.push" sPush f fd) (T : ShTx K C) (ml : mg "len" = none)
    (c1 : mg "NOT_A_SIMPLEX" = some (.int (-1) t1)) (c3 : mg "NOT_THERE" = some (.int (-3) t3)) (c6 : mg "NOT_FREE" = some (.int (-6) t6))
    (G1 : FnOk P w K mg base CX0 k f1 fd1 ["corners"] (spIsSim K)) (m1 : mg "is_simplex" = some (.ref f1)) (k1 : PySem.W.keepIn K (.ref f1) = true) (b1 : Binds K fd1 ["corners"] [])
    (G2 : FnOk P w K mg base CX0 k f2 fd2 ["corners"] (spRising K)) (m2 : mg "rising" = some (.ref f2)) (k2 : PySem.W.keepIn K (.ref f2) = true) (b2 : Binds K fd2 ["corners"] [])
    (G3 : FnOk P w K mg base CX0 k f3 fd3 ["simplices", "simplex"] spOthers) (m3 : mg "others_above" = some (.ref f3)) (k3 : PySem.W.keepIn K (.ref f3) = true) (b3 : Binds K fd3 ["simplices", "simplex"] [])
    (G4 : FnOk P w K mg base CX0 k f4 fd4 ["simplices", "gone"] (spWithout K)) (m4 : mg "without" = some (.ref f4)) (k4 : PySem.W.keepIn K (.ref f4) = true) (b4 : Binds K fd4 ["simplices", "gone"] [])
    (G5 : FnOk P w K mg base CX0 k f5 fd5 ["self", "simplices"] (spChange C)) (m5 : Meth K C "change_to" f5) (b5 : Binds K fd5 ["self", "simplices"] []) :
    FnOk P w K mg base CX0 (k + 1) f fd ["self", "corners"] (spPush C) := by
  refine F.ok scPush (fun vs H Q E h => ?_) (fun cdv A outer s H vs Q E hr h => ?_)
  · obtain ⟨o, e, a, N, s, r, rfl, _⟩ := h
    rfl
  · obtain ⟨o, e, a, N, st, r, rfl, hN, hst, hold, ha, hrl, q⟩ := h
    obtain ⟨l, ps, ls, ⟨dx, ho⟩, hl, hs, he, hls, hle, hlo⟩ := hst.ex
    refine ⟨_, pss_cons (ps_if (pt_not (pt_val (pe_call G1 hr rfl m1 k1 b1 .nil pass0 (pa_cons (pv 1) pa_nil)))) (pss_one (ps_ret (pe_lst (pa_cons (pe_glob (v := .int (-1)) rfl c1 ⟨_, rfl⟩) pa_nil)))) pss_nil)
      (pss_cons (ps_set (i := 2) scPush.nd rfl (.inl rfl) (pe_call G2 hr rfl m2 k2 b2 .nil pass0 (pa_cons (pv 1) pa_nil)))
      (pss_cons (ps_if (pt_cmpR (op_notInD (units65 hr)) (pv 2) (pe_fld (pv 0) rfl) rfl) (pss_one (ps_ret (pe_lst (pa_cons (pe_glob (v := .int (-3)) rfl c3 ⟨_, rfl⟩) pa_nil)))) pss_nil)
      (pss_cons (ps_set (i := 3) scPush.nd rfl (.inl rfl) (pe_call G3 hr rfl m3 k3 b3 .nil pass0 (pa_cons (pe_fld (pv 0) rfl) (pa_cons (pv 2) pa_nil))))
      (pss_cons (ps_if (pt_cmpR op_ne (pe_callB call_len_seq (by rfl) ml PySem.boot_len (pa_cons (pv 3) pa_nil)) pe_int (nomark _)) (pss_one (ps_ret (pe_lst (pa_cons (pe_glob (v := .int (-6)) rfl c6 ⟨_, rfl⟩) pa_nil)))) pss_nil)
      (pss_one (ps_ret (pe_meth (pv 0) T.t.cl m5 G5 hr b5 .nil pass0 (pa_cons (pe_call G4 hr rfl m4 k4 b4 .nil pass0 (pa_cons (pe_fld (pv 0) rfl) (pa_cons (pe_tup (pa_cons (pv 2) (pa_cons (pe_ix ix_list (pv 3) pe_int (fun _ _ => rfl)) pa_nil))) pa_nil))) pa_nil)))))))), ?_⟩
    have hlen : ps.length ≤ 60 := by
      have := hst.ok.len
      rw [← hs, sims_len] at this
      exact this
    have hg : Sc.Good (sims ps) := by
      rw [hs]
      exact hst.ok.good
    have hstep : Ho04.step st (.push r) = (match Ho04.simOf r with
      | none => (st, [-1])
      | some x => if st.shape.contains x = false then (st, [-3]) else match Ho04.free st.shape x with
        | none => (st, [-6])
        | some y => Ho04.changed st (Ho04.push st.shape x y) [Ho04.nat (Ho04.push st.shape x y).length]) := rfl
    refine ⟨_, rfl, a, r, rfl, SqL.of ha, hrl, _, rfl, ?_⟩
    by_cases hsim : IsSim r
    · rw [isSimB_true hsim]
      refine iteF ?_
      refine ⟨_, rfl, a, r, rfl, SqL.of ha, fun H1 p1 ms s1 np1 hperm hsort hp1 => ?_⟩
      obtain ⟨h1, h2, h3, h4, h5, h6⟩ := Sc.simOf_some (isSim_iff.mp hsim) hperm hsort
      generalize hx : ms.map Int.toNat = x at h1 h2 h3 h4 h5 h6
      have tp1 : TupAt H1 p1 x := by
        unfold TupAt
        rw [hp1, ← h6]
        unfold sv
        rw [List.map_map]
        rfl
      rw [hstep, h1] at q
      refine ⟨_, rfl, _, rfl, o, C, dx, _, _, rfl, s1 _ _ ho, T.t.cl, T.t.nS, sF_sim l, tD x, (sims ps).map tD, dp_tup tp1.sq, dp_list (hl.same s1), tD_shaped _, tDs_shapedL _, _, rfl, ?_⟩
      rw [any_eqv, hs]
      dsimp only at q
      cases hc : st.shape.contains x with
      | false =>
        refine iteT ?_
        rw [hc, if_pos rfl] at q
        refine ⟨by show 1 ≤ sizeLine; decide, fun p np => ?_⟩
        exact q.same hst (s1.trans (same_upd np)) (s1.free np) upd_same
      | true =>
        refine iteF ?_
        rw [hc, if_neg (by decide)] at q
        have hxm : x ∈ sims ps := by
          rw [hs]
          simpa using hc
        refine ⟨_, rfl, o, C, dx, _, _, rfl, s1 _ _ ho, T.t.cl, T.t.nS, sF_sim l, _, rfl, l, p1, ps, x, rfl, hl.same s1, tp1, by omega, fun H2 ab s2 nab hab => ?_⟩
        have hfree : Ho04.free st.shape x = (match sims (above ps x) with
          | [y] => some y
          | _ => none) := by
          unfold Ho04.free
          rw [← hs, hg.above hxm, ← sims_above]
          rfl
        refine ⟨_, rfl, ab, _, rfl, .inl (SqL.of hab), ?_⟩
        rw [refs_len]
        refine ⟨rfl, _, rfl, ?_⟩
        rw [show decide (V.int ((above ps x).length : Int) = V.int 1) = decide ((above ps x).length = 1) from vint_eq (b := 1)]
        have sm2 := s1.trans s2
        by_cases h1l : (above ps x).length = 1
        · rw [decide_eq_true h1l]
          refine iteF ?_
          obtain ⟨u, hu⟩ := List.length_eq_one_iff.mp h1l
          have hum : u ∈ ps := by
            have : u ∈ above ps x := by rw [hu]; simp
            exact (List.mem_filter.mp this).1
          rw [hu] at hfree
          have hfree2 : Ho04.free st.shape x = some u.2 := hfree
          rw [hfree2] at q
          dsimp only at q
          refine ⟨_, rfl, o, dx, _, rfl, sm2 _ _ ho, sF_not (by decide +kernel) (by decide +kernel), ?_⟩
          refine ⟨_, rfl, o, C, dx, _, _, rfl, sm2 _ _ ho, T.t.cl, T.t.nS, sF_sim l, _, rfl, _, rfl, ab, refs (above ps x), 0, .ref u.1, rfl, rfl, SqL.of hab, by rw [hu]; rfl, by show 2 ≤ sizeLine; decide, fun t nt => ?_⟩
          have st3 := same_upd (o := HO.tup [V.ref p1, V.ref u.1]) nt
          have sm3 := sm2.trans st3
          refine ⟨l, t, ps, [(p1, x), u], rfl, hl.same sm3, upd_same, fun z hz => ?_, by omega, fun H4 w4 s4 nw4 hw4 => ?_⟩
          · rcases List.mem_cons.mp hz with rfl | hz
            · exact (tp1.same s2).same st3
            · have : z = u := by simpa using hz
              subst this
              exact (hl.each _ hum).same sm3
          have sm4 := sm3.trans s4
          have hq : sims (ps.filter fun p => !(sims [(p1, x), u]).contains p.2) = Ho04.push st.shape x u.2 := by
            rw [sims_filter ps fun y => !(sims [(p1, x), u]).contains y, Sc.push_without, hs]
            rfl
          have hov : Ho04.over (sims ps) x = [u.2] := by
            rw [hg.above hxm, ← sims_above, hu]
            rfl
          have hwe : w4 ≠ e := fun z => by
            rw [z, sm3 _ _ he] at nw4
            cases nw4
          refine ⟨o, e, w4, N, st, _, rfl, hst.same sm4, hold, hw4, ⟨hwe, hN w4 (sm3.free nw4)⟩, ?_, ?_⟩
          · rw [hq]
            refine ⟨?_, ?_⟩
            · rw [← hs]
              exact hg.push hxm hov
            · have := List.length_filter_le (fun z : Sim => decide (z ≠ x) && decide (z ≠ u.2)) st.shape
              have h60 := hst.ok.len
              unfold Ho04.push
              exact Nat.le_trans this h60
          · rw [hq]
            exact q.past sm4
        · rw [decide_eq_false h1l]
          refine iteT ?_
          have hfree2 : Ho04.free st.shape x = none := by
            rw [hfree]
            have h1l' : (sims (above ps x)).length ≠ 1 := by
              rw [sims_len]
              exact h1l
            match hm : sims (above ps x) with
            | [] => rfl
            | [y] =>
              rw [hm] at h1l'
              exact absurd rfl h1l'
            | _ :: _ :: _ => rfl
          rw [hfree2] at q
          refine ⟨by show 1 ≤ sizeLine; decide, fun p np => ?_⟩
          exact q.same hst (sm2.trans (same_upd np)) (sm2.free np) upd_same
    · rw [isSimB_false hsim]
      refine iteT ?_
      rw [hstep, Sc.simOf_none (fun z => hsim (isSim_iff.mpr z))] at q
      refine ⟨by show 1 ≤ sizeLine; decide, fun p np => ?_⟩
      exact q.same hst (same_upd np) np upd_same

/-! ### leave -/
def spLeave (C : Addr) : Sp := fun vs H Q _ => ∃ (o e : Addr) (N : Addr → Prop) (s : Ho04.State) (a : Nat), vs = [.ref o, .int (a : Int)] ∧ FreshN N H ∧ ShSt C N H o e s ∧ s.old.length ≤ 1000 ∧ Ans C N o e H (Ho04.step s (.leave a)) Q
theorem scLeave : FnScope ["self", "corner", "corners"] ["self", "corner"] (defScope sLeave) := ⟨rfl, rfl, rfl, by decide +kernel, rfl, by decide +kernel, by decide +kernel⟩
theorem ok_leave {f f1 f2 f3 f4 f5 : Addr} {fd fd1 fd2 fd3 fd4 fd5 : FuncData} {k : Nat} {t3 t6 : Tok} (F : Fun K "leave" "Shape.leave" sLeave f fd) (T : ShTx K C)
    (c3 : mg "NOT_THERE" = some (.int (-3) t3)) (c6 : mg "NOT_LEANING" = some (.int (-6) t6))
    (G1 : FnOk P w K mg base CX0 k f1 fd1 ["simplices"] spCorners) (m1 : mg "corners_of" = some (.ref f1)) (k1 : PySem.W.keepIn K (.ref f1) = true) (b1 : Binds K fd1 ["simplices"] [])
    (G2 : FnOk P w K mg base CX0 k f2 fd2 ["simplices"] spTops) (m2 : mg "tops_of" = some (.ref f2)) (k2 : PySem.W.keepIn K (.ref f2) = true) (b2 : Binds K fd2 ["simplices"] [])
    (G3 : FnOk P w K mg base CX0 k f3 fd3 ["tops", "corners", "corner"] (spLowest K)) (m3 : mg "lowest_leaned_on" = some (.ref f3)) (k3 : PySem.W.keepIn K (.ref f3) = true) (b3 : Binds K fd3 ["tops", "corners", "corner"] [])
    (G4 : FnOk P w K mg base CX0 k f4 fd4 ["simplices", "corner"] (spWithoutC K)) (m4 : mg "without_corner" = some (.ref f4)) (k4 : PySem.W.keepIn K (.ref f4) = true) (b4 : Binds K fd4 ["simplices", "corner"] [])
    (G5 : FnOk P w K mg base CX0 k f5 fd5 ["self", "simplices"] (spChange C)) (m5 : Meth K C "change_to" f5) (b5 : Binds K fd5 ["self", "simplices"] []) :
    FnOk P w K mg base CX0 (k + 1) f fd ["self", "corner"] (spLeave C) := by
  refine F.ok scLeave (fun vs H Q E h => ?_) (fun cdv A outer s H vs Q E hr h => ?_)
  · obtain ⟨o, e, N, s, a, rfl, _⟩ := h
    rfl
  · obtain ⟨o, e, N, st, a, rfl, hN, hst, hold, q⟩ := h
    obtain ⟨l, ps, ls, ⟨dx, ho⟩, hl, hs, he, hls, hle, hlo⟩ := hst.ex
    refine ⟨_, pss_cons (ps_set (i := 2) scLeave.nd rfl (.inl rfl) (pe_call G1 hr rfl m1 k1 b1 .nil pass0 (pa_cons (pe_fld (pv 0) rfl) pa_nil)))
      (pss_cons (ps_if (pt_cmpR op_notIn_seq (pv 1) (pv 2) rfl) (pss_one (ps_ret (pe_lst (pa_cons (pe_glob (v := .int (-3)) rfl c3 ⟨_, rfl⟩) pa_nil)))) pss_nil)
      (pss_cons (ps_if (pt_cmpR op_isN (pe_call G3 hr rfl m3 k3 b3 .nil pass0 (pa_cons (pe_call G2 hr rfl m2 k2 b2 .nil pass0 (pa_cons (pe_fld (pv 0) rfl) pa_nil)) (pa_cons (pv 2) (pa_cons (pv 1) pa_nil)))) pe_non (nomark _)) (pss_one (ps_ret (pe_lst (pa_cons (pe_glob (v := .int (-6)) rfl c6 ⟨_, rfl⟩) pa_nil)))) pss_nil)
      (pss_one (ps_ret (pe_meth (pv 0) T.t.cl m5 G5 hr b5 .nil pass0 (pa_cons (pe_call G4 hr rfl m4 k4 b4 .nil pass0 (pa_cons (pe_fld (pv 0) rfl) (pa_cons (pv 1) pa_nil))) pa_nil)))))), ?_⟩
    have hlen : ps.length ≤ 60 := by
      have := hst.ok.len
      rw [← hs, sims_len] at this
      exact this
    have hg : Sc.Good (sims ps) := by
      rw [hs]
      exact hst.ok.good
    have hstep : Ho04.step st (.leave a) = (if st.shape.contains [a] = false then (st, [-3]) else if (Ho04.corners st.shape).any (fun (b : Nat) => Ho04.leans st.shape a b) = false then (st, [-6]) else Ho04.changed st (Ho04.drop st.shape a) [Ho04.nat (Ho04.drop st.shape a).length]) := rfl
    refine ⟨_, rfl, o, C, dx, _, _, rfl, ho, T.t.cl, T.t.nS, sF_sim l, l, ps, rfl, hl, by omega, fun H1 c s1 nc hc1 => ?_⟩
    refine ⟨_, rfl, _, rfl, c, _, rfl, .inl (SqL.of hc1), rfl, sv_flat _, _, rfl, ?_⟩
    show if (!inV (.int (a : Int)) (sv (cornersL (sims ps)))) = true then _ else _
    rw [sv_in]
    have hcc : (cornersL (sims ps)).contains a = st.shape.contains [a] := by
      rw [hs]
      cases h7 : st.shape.contains [a] with
      | true =>
        have : [a] ∈ st.shape := by simpa using h7
        simpa using mem_cornersL.mpr this
      | false =>
        have : ¬ [a] ∈ st.shape := by simpa using h7
        cases h8 : (cornersL st.shape).contains a with
        | false => rfl
        | true => exact absurd (mem_cornersL.mp (by simpa using h8)) this
    rw [hcc]
    rw [hstep] at q
    cases hct : st.shape.contains [a] with
    | false =>
      refine iteT ?_
      rw [hct, if_pos rfl] at q
      refine ⟨by show 1 ≤ sizeLine; decide, fun p np => ?_⟩
      exact q.same hst (s1.trans (same_upd np)) (s1.free np) upd_same
    | true =>
      refine iteF ?_
      rw [hct, if_neg (by decide)] at q
      refine ⟨_, rfl, o, C, dx, _, _, rfl, s1 _ _ ho, T.t.cl, T.t.nS, sF_sim l, l, ps, rfl, hl.same s1, by omega, fun H2 t s2 nt ht => ?_⟩
      have sm2 := s1.trans s2
      have hlt : ListAt H2 t (topsP ps) := ⟨ht, fun p hp => (hl.each p (List.mem_filter.mp hp).1).same sm2⟩
      refine ⟨_, rfl, _, rfl, t, c, topsP ps, cornersL (sims ps), a, rfl, hlt, s2 _ _ hc1, ?_⟩
      rw [sims_tops]
      refine ⟨rfl, _, rfl, ?_⟩
      have hlow := lowest_spec hst.ok.good a
      rw [← hs] at hlow
      cases hlo2 : lowest (Sc.topsL (sims ps)) (cornersL (sims ps)) a with
      | none =>
        refine iteT ?_
        rw [hlo2, List.find?_eq_none] at hlow
        have hany : (Ho04.corners st.shape).any (fun b => Ho04.leans st.shape a b) = false := by
          rw [List.any_eq_false, ← hs]
          exact hlow
        rw [hany, if_pos rfl] at q
        refine ⟨by show 1 ≤ sizeLine; decide, fun p np => ?_⟩
        exact q.same hst (sm2.trans (same_upd np)) (sm2.free np) upd_same
      | some b =>
        refine iteF ?_
        rw [hlo2] at hlow
        have hany : (Ho04.corners st.shape).any (fun b => Ho04.leans st.shape a b) = true := by
          rw [List.any_eq_true, ← hs]
          exact ⟨b, List.mem_of_find?_eq_some hlow, List.find?_some hlow⟩
        rw [hany, if_neg (by decide)] at q
        refine ⟨_, rfl, o, dx, _, rfl, sm2 _ _ ho, sF_not (by decide +kernel) (by decide +kernel), ?_⟩
        refine ⟨_, rfl, o, C, dx, _, _, rfl, sm2 _ _ ho, T.t.cl, T.t.nS, sF_sim l, _, rfl, l, a, ps, rfl, hl.same sm2, by omega, fun H4 w4 s4 nw4 hw4 => ?_⟩
        have sm4 := sm2.trans s4
        have hwe : w4 ≠ e := fun z => by
          rw [z, sm2 _ _ he] at nw4
          cases nw4
        have hq : sims (ps.filter fun p => !p.2.contains a) = Ho04.drop st.shape a := by
          rw [drop_filter, hs]
        refine ⟨o, e, w4, N, st, _, rfl, hst.same sm4, hold, hw4, ⟨hwe, hN w4 (sm2.free nw4)⟩, ?_, ?_⟩
        · rw [hq]
          refine ⟨hst.ok.good.drop a, ?_⟩
          have := List.length_filter_le (fun x : Sim => !x.contains a) st.shape
          exact Nat.le_trans this hst.ok.len
        · rw [hq]
          exact q.past sm4
end
end Sh

set_option maxRecDepth 100000
set_option maxHeartbeats 400000
namespace Sh
open PySem PySem.Spec PyProof.Rows L2
/-! ### what does not change the shape -/
theorem frees_spec {c : List Sim} (g : Sc.Good c) (s : Ho04.State) (hs : s.shape = c) : Ho04.step s .frees = (s, (freesN c).map Ho04.nat) := by
  show (s, Ho04.nat (Ho04.frees s.shape).length :: (Ho04.frees s.shape).flatMap fun (x : Sim × Sim) => Ho04.nat x.1.length :: (x.1.map Ho04.nat ++ x.2.map Ho04.nat)) = _
  rw [hs, g.frees]
  unfold freesN
  rw [List.map_cons, List.map_flatMap]
  congr 2
  congr 1
  funext x
  rw [List.map_cons, List.map_append]
theorem toldL_spec (xs : List Sim) : (toldL xs).map Ho04.nat = Ho04.toldSims xs := by
  unfold toldL Ho04.toldSims
  rw [List.map_cons, List.map_flatMap]
  rfl
theorem core_good : ∀ (f : Nat) {c : List Sim}, Sc.Good c → Sc.Good (Ho04.core f c).1
  | 0, c, g => g
  | f + 1, c, g => by
    cases h : Sc.freeL c with
    | nil =>
      rw [core_stop g h]
      exact g
    | cons p r =>
      obtain ⟨x, y⟩ := p
      rw [core_step g h]
      have hm : (x, y) ∈ Ho04.frees c := by
        rw [g.frees, h]
        simp
      obtain ⟨h1, h2⟩ := Sc.mem_frees.mp hm
      exact core_good f (g.push h1 h2)
theorem core_spec {c : List Sim} (g : Sc.Good c) (s : Ho04.State) (hs : s.shape = c) : Ho04.step s .core = (s, (coreN c).map Ho04.nat) := by
  show (s, Ho04.nat (Ho04.coreOf s.shape).2 :: Ho04.toldSims (HoBase.tops (Ho04.coreOf s.shape).1)) = _
  have hg : Sc.Good (Ho04.coreOf c).1 := core_good _ g
  rw [hs, hg.tops]
  unfold coreN
  rw [List.map_cons, toldL_spec]
theorem leaningN_spec {c : List Sim} (g : Sc.Good c) (s : Ho04.State) (hs : s.shape = c) : Ho04.step s .leaning = (s, (leaningN c).map Ho04.nat) := by
  show (s, Ho04.nat (Ho04.leaning s.shape).length :: (Ho04.leaning s.shape).flatMap fun (x : Nat × Nat) => [Ho04.nat x.1, Ho04.nat x.2]) = _
  rw [hs, leaning_spec g]
  unfold leaningN
  rw [List.map_cons, List.map_flatMap]
  rfl
section
variable {P : Program} {w : World} {K : PySem.W.Frag} {mg : Str → Option Value} {base : Heap} {C : Addr}
def spCall0 (C : Addr) (c : Ho04.Call) : Sp := fun vs H Q _ => ∃ (o e : Addr) (N : Addr → Prop) (s : Ho04.State), vs = [.ref o] ∧ ShSt C N H o e s ∧ Ans C N o e H (Ho04.step s c) Q
/-- the field beside it may be anything -/
theorem ok_frees' {f : Addr} {fd : FuncData} {k : Nat} (h : ∀ rest, FnOk P w K mg base CX0 k f fd ["self"] (spFrees C rest)) : FnOk P w K mg base CX0 k f fd ["self"] (spCall0 C .frees) := by
  refine ⟨fun vs H Q E q => ?_, fun A outer s H args us vs Q E hr he hb hv hs => ?_⟩
  · obtain ⟨o, e, N, s, rfl, _⟩ := q
    rfl
  · obtain ⟨o, e, N, st, rfl, hst, q⟩ := hs
    refine (h (eF e)).run A outer s H args us [.ref o] Q E hr he hb hv ?_
    obtain ⟨l, ps, ls, ho, hl, hs, hee, hls, hle, hlo⟩ := hst.ex
    have hlen : ps.length ≤ 60 := by
      have := hst.ok.len
      rw [← hs, sims_len] at this
      exact this
    have hg : Sc.Good (sims ps) := by
      rw [hs]
      exact hst.ok.good
    refine ⟨o, l, ps, rfl, ho, hl, by omega, fun p hp => by have := good_short hg hp; omega, fun H' p sm np hp => ?_⟩
    rw [frees_spec hg st hs.symm] at q
    rw [sv_iv] at hp
    exact q.same hst sm np hp
theorem ok_core' {f : Addr} {fd : FuncData} {k : Nat} (h : ∀ rest, FnOk P w K mg base CX0 k f fd ["self"] (spCore C rest)) : FnOk P w K mg base CX0 k f fd ["self"] (spCall0 C .core) := by
  refine ⟨fun vs H Q E q => ?_, fun A outer s H args us vs Q E hr he hb hv hs => ?_⟩
  · obtain ⟨o, e, N, s, rfl, _⟩ := q
    rfl
  · obtain ⟨o, e, N, st, rfl, hst, q⟩ := hs
    refine (h (eF e)).run A outer s H args us [.ref o] Q E hr he hb hv ?_
    obtain ⟨l, ps, ls, ho, hl, hs, hee, hls, hle, hlo⟩ := hst.ex
    have hlen : ps.length ≤ 60 := by
      have := hst.ok.len
      rw [← hs, sims_len] at this
      exact this
    have hg : Sc.Good (sims ps) := by
      rw [hs]
      exact hst.ok.good
    refine ⟨o, l, ps, rfl, ho, hl, by omega, hg, fun H' p sm np hp => ?_⟩
    rw [core_spec hg st hs.symm] at q
    rw [sv_iv] at hp
    exact q.same hst sm np hp
theorem ok_leaning' {f : Addr} {fd : FuncData} {k : Nat} (h : ∀ rest, FnOk P w K mg base CX0 k f fd ["self"] (spLeaning C rest)) : FnOk P w K mg base CX0 k f fd ["self"] (spCall0 C .leaning) := by
  refine ⟨fun vs H Q E q => ?_, fun A outer s H args us vs Q E hr he hb hv hs => ?_⟩
  · obtain ⟨o, e, N, s, rfl, _⟩ := q
    rfl
  · obtain ⟨o, e, N, st, rfl, hst, q⟩ := hs
    refine (h (eF e)).run A outer s H args us [.ref o] Q E hr he hb hv ?_
    obtain ⟨l, ps, ls, ho, hl, hs, hee, hls, hle, hlo⟩ := hst.ex
    have hlen : ps.length ≤ 60 := by
      have := hst.ok.len
      rw [← hs, sims_len] at this
      exact this
    have hg : Sc.Good (sims ps) := by
      rw [hs]
      exact hst.ok.good
    refine ⟨o, l, ps, rfl, ho, hl, by omega, fun H' p sm np hp => ?_⟩
    rw [leaningN_spec hg st hs.symm] at q
    rw [sv_iv] at hp
    exact q.same hst sm np hp

/-! ### bone -/
theorem bone_stop {f : Nat} {c : List Sim} (g : Sc.Good c) (h : leaningL c = []) : Ho04.bone (f + 1) c = c := by
  unfold Ho04.bone
  rw [leaning_spec g, h]
theorem bone_step {f : Nat} {c : List Sim} (g : Sc.Good c) {x : Nat × Nat} {r : List (Nat × Nat)} (h : leaningL c = x :: r) : Ho04.bone (f + 1) c = Ho04.bone f (Ho04.drop c x.1) := by
  rw [Ho04.bone, leaning_spec g, h]
theorem leaningL_mem {c : List Sim} {p : Nat × Nat} (h : p ∈ leaningL c) : [p.1] ∈ c := by
  unfold leaningL leaningP at h
  obtain ⟨a, ha, e⟩ := List.mem_filterMap.mp h
  cases e2 : lowest (Sc.topsL c) (cornersL c) a with
  | none => rw [e2] at e; cases e
  | some b =>
    rw [e2] at e
    have : (a, b) = p := Option.some.inj e
    rw [← this]
    exact mem_cornersL.mp ha
theorem drop_less {c : List Sim} {a : Nat} (h : [a] ∈ c) : (Ho04.drop c a).length < c.length := by
  unfold Ho04.drop
  refine List.length_filter_lt_length_iff_exists.mpr ⟨[a], h, ?_⟩
  simp
theorem scBone : FnScope ["self", "left", "pairs"] ["self"] (defScope sBone) := ⟨rfl, rfl, rfl, by decide +kernel, rfl, by decide +kernel, by decide +kernel⟩
theorem ok_bone {f f1 f2 f3 f4 f5 : Addr} {fd fd1 fd2 fd3 fd4 fd5 : FuncData} {k : Nat} (F : Fun K "bone" "Shape.bone" sBone f fd) (T : ShTx K C) (ml : mg "len" = none)
    (G1 : FnOk P w K mg base CX0 k f1 fd1 ["simplices"] spLeanP) (m1 : mg "leaning_pairs" = some (.ref f1)) (k1 : PySem.W.keepIn K (.ref f1) = true) (b1 : Binds K fd1 ["simplices"] [])
    (G2 : FnOk P w K mg base CX0 k f2 fd2 ["simplices", "corner"] (spWithoutC K)) (m2 : mg "without_corner" = some (.ref f2)) (k2 : PySem.W.keepIn K (.ref f2) = true) (b2 : Binds K fd2 ["simplices", "corner"] [])
    (G3 : FnOk P w K mg base CX0 k f3 fd3 ["simplices"] spTops) (m3 : mg "tops_of" = some (.ref f3)) (k3 : PySem.W.keepIn K (.ref f3) = true) (b3 : Binds K fd3 ["simplices"] [])
    (G4 : FnOk P w K mg base CX0 k f4 fd4 ["simplices"] (spTold K)) (m4 : mg "told" = some (.ref f4)) (k4 : PySem.W.keepIn K (.ref f4) = true) (b4 : Binds K fd4 ["simplices"] [])
    (G5 : FnOk P w K mg base CX0 k f5 fd5 ["simplices"] spCorners) (m5 : mg "corners_of" = some (.ref f5)) (k5 : PySem.W.keepIn K (.ref f5) = true) (b5 : Binds K fd5 ["simplices"] []) :
    FnOk P w K mg base CX0 (k + 1) f fd ["self"] (spCall0 C .bone) := by
  refine F.ok scBone (fun vs H Q E h => ?_) (fun cdv A outer s H vs Q E hr h => ?_)
  · obtain ⟨o, e, N, s, rfl, _⟩ := h
    rfl
  · obtain ⟨o, e, N, st, rfl, hst, q⟩ := h
    obtain ⟨l, ps, ls, ⟨dx, ho⟩, hl, hs, he, hls, hle, hlo⟩ := hst.ex
    refine ⟨_, pss_cons (ps_set (i := 1) scBone.nd rfl (.inl rfl) (pe_fld (pv 0) rfl))
      (pss_cons (ps_set (i := 2) scBone.nd rfl (.inl rfl) (pe_call G1 hr rfl m1 k1 b1 .nil pass0 (pa_cons (pv 1) pa_nil)))
      (pss_cons (ps_while PassesOwn.never (pt_cmpR op_gt (pe_callB call_len_seq (by rfl) ml PySem.boot_len (pa_cons (pv 2) pa_nil)) pe_int (nomark _))
        (pss_cons (ps_set (i := 1) scBone.nd rfl (.inl rfl) (pe_call G2 hr rfl m2 k2 b2 .nil pass0 (pa_cons (pv 1) (pa_cons (pe_ix ix_tup (pe_ix ix_list (pv 2) pe_int (fun _ _ => rfl)) pe_int (fun _ _ => rfl)) pa_nil))))
        (pss_one (ps_set (i := 2) scBone.nd rfl (.inl rfl) (pe_call G1 hr rfl m1 k1 b1 .nil pass0 (pa_cons (pv 1) pa_nil))))))
      (pss_one (ps_ret (pe_op op_cat (pe_lst (pa_cons (pe_callB call_len_seq (by rfl) ml PySem.boot_len (pa_cons (pe_call G5 hr rfl m5 k5 b5 .nil pass0 (pa_cons (pv 1) pa_nil)) pa_nil)) pa_nil)) (pe_call G4 hr rfl m4 k4 b4 .nil pass0 (pa_cons (pe_call G3 hr rfl m3 k3 b3 .nil pass0 (pa_cons (pv 1) pa_nil)) pa_nil))))))), ?_⟩
    have hlen : ps.length ≤ 60 := by
      have := hst.ok.len
      rw [← hs, sims_len] at this
      exact this
    have hg : Sc.Good (sims ps) := by
      rw [hs]
      exact hst.ok.good
    have hstep : Ho04.step st .bone = (st, Ho04.nat (Ho04.corners (Ho04.boneOf st.shape)).length :: Ho04.toldSims (HoBase.tops (Ho04.boneOf st.shape))) := rfl
    rw [hstep, ← hs] at q
    refine ⟨_, rfl, o, C, dx, _, _, rfl, ho, T.t.cl, T.t.nS, sF_sim l, ?_⟩
    refine ⟨_, rfl, l, ps, rfl, hl, by omega, fun H1 r qs s1 nr hnp hqs => ?_⟩
    refine ⟨fun m σ H' => ∃ (l' pr : Addr) (fu : Nat) (ps' : PS2) (qs' : List (Addr × (Nat × Nat))), σ = [some (.ref o), some (.ref l'), some (.ref pr)] ∧ Same H H' ∧ ListAt H' l' ps' ∧ NPairsAt H' pr qs' ∧ qs'.map (·.2) = leaningL (sims ps') ∧ Sc.Good (sims ps') ∧ ps'.length ≤ 60 ∧ m = ps'.length ∧ ps'.length < fu ∧
        Ho04.boneOf (sims ps) = Ho04.bone fu (sims ps'),
      ⟨ps.length, l, r, (sims ps).length + 1, ps, qs, rfl, s1, hl.same s1, hnp, hqs, hg, hlen, rfl, by rw [sims_len]; omega, rfl⟩, ?_⟩
    rintro m σ H' ⟨l', pr, fu, ps', qs', rfl, sm, hl', hnp', hqs', hg', hz', rfl, hfu, hbone⟩
    obtain ⟨fu', rfl⟩ : ∃ fu', fu = fu' + 1 := ⟨fu - 1, by omega⟩
    refine ⟨_, rfl, pr, _, rfl, .inl (SqL.of hnp'.lst), ?_⟩
    rw [List.length_map]
    refine ⟨_, _, rfl, rfl, _, rfl, ?_⟩
    match qs', hnp', hqs' with
    | q0 :: qs', hnp', hqs' =>
      have h1 : decide ((0 : Int) < (((q0 :: qs').length : Nat) : Int)) = true := decide_eq_true (by simp)
      rw [h1]
      refine iteT ?_
      obtain ⟨u, a, b⟩ := q0
      have hu := hnp'.each _ (List.mem_cons_self ..)
      have hlean : leaningL (sims ps') = (a, b) :: qs'.map (·.2) := hqs'.symm
      have ham : [a] ∈ sims ps' := leaningL_mem (p := (a, b)) (by rw [hlean]; simp)
      refine ⟨fun σ' H2 => ∃ (l2 pr2 : Addr) (ps2 : PS2) (qs2 : List (Addr × (Nat × Nat))), σ' = [some (.ref o), some (.ref l2), some (.ref pr2)] ∧ Same H H2 ∧ ListAt H2 l2 ps2 ∧ NPairsAt H2 pr2 qs2 ∧ qs2.map (·.2) = leaningL (sims ps2) ∧ sims ps2 = Ho04.drop (sims ps') a, ?_, ?_⟩
      · rintro σ' H2 ⟨l2, pr2, ps2, qs2, rfl, sm2, hl2, hnp2, hqs2, hp2⟩
        have hg2 : Sc.Good (sims ps2) := by
          rw [hp2]
          exact hg'.drop a
        have hless : ps2.length < ps'.length := by
          have := drop_less ham
          rw [← hp2, sims_len, sims_len] at this
          exact this
        refine ⟨ps2.length, hless, l2, pr2, fu', ps2, qs2, rfl, sm2, hl2, hnp2, hqs2, hg2, by omega, rfl, by omega, ?_⟩
        rw [hbone, bone_step hg' hlean, hp2]
      · refine ⟨_, rfl, _, rfl, pr, _, 0, .ref u, rfl, rfl, SqL.of hnp'.lst, atI_nat (j := 0) rfl, u, pv2 (a, b), 0, .int (a : Int), rfl, rfl, SqT.of hu, atI_nat (j := 0) rfl, ?_⟩
        refine ⟨l', a, ps', rfl, hl', by omega, fun H2 l2 s2 n2 hl2 => ?_⟩
        have hfl := List.length_filter_le (fun p : Addr × Sim => !p.2.contains a) ps'
        refine ⟨_, rfl, l2, _, rfl, hl2, by omega, fun H3 pr3 qs3 s3 n3 hnp3 hqs3 => ?_⟩
        exact ⟨l2, pr3, _, qs3, rfl, (sm.trans s2).trans s3, hl2.same s3, hnp3, hqs3, drop_filter ps' a⟩
    | [], hnp', hqs' =>
      refine iteF ?_
      have hlean : leaningL (sims ps') = [] := hqs'.symm
      rw [bone_stop hg' hlean] at hbone
      rw [hbone, hg'.tops] at q
      refine ⟨_, rfl, l', ps', rfl, hl', by omega, fun H2 c s2 nc hc => ?_⟩
      refine ⟨c, _, rfl, .inl (SqL.of hc), ?_⟩
      rw [sv_len]
      refine ⟨by show 1 ≤ sizeLine; decide, fun a na => ?_⟩
      have sa := same_upd (o := HO.lst [V.int ((cornersL (sims ps')).length : Int)]) na
      refine ⟨_, rfl, l', ps', rfl, (hl'.same s2).same sa, by omega, fun H3 t s3 n3 h3 => ?_⟩
      have hlt : ListAt H3 t (topsP ps') := ⟨h3, fun p hp => (((hl'.each p (List.mem_filter.mp hp).1).same s2).same sa).same s3⟩
      have htl : (topsP ps').length ≤ 100 := Nat.le_trans (List.length_filter_le _ _) (by omega)
      have hts : ∀ p ∈ topsP ps', p.2.length ≤ 1000 := fun p hp => by
        have := good_short hg' (List.mem_filter.mp hp).1
        omega
      refine ⟨t, topsP ps', rfl, hlt, by omega, hts, fun H4 u s4 n4 h4 => ?_⟩
      have ha4 := s4 _ _ (s3 _ _ (upd_same (H := H2) (a := a) (o := HO.lst [V.int ((cornersL (sims ps')).length : Int)])))
      have hul : (toldL (sims (topsP ps'))).length ≤ 1 + 1001 * 100 := by
        have h5 := toldT_len (topsP ps') (topsP ps').length hts
        have e5 : toldT (topsP ps') (topsP ps').length = toldL (sims (topsP ps')) := by
          unfold toldT toldL sims
          rw [List.length_map, List.flatMap_map]
        rw [e5] at h5
        omega
      have esl := sizeLine_eq
      refine ⟨a, u, _, _, rfl, rfl, ha4, h4, by rw [sv_len]; simp; omega, fun b nb => ?_⟩
      have smAll := (((sm.trans s2).trans sa).trans s3).trans s4
      refine q.same hst (smAll.trans (same_upd nb)) (smAll.free nb) ?_
      rw [upd_same, told_spec, sims_tops]
      rfl
end
end Sh

set_option maxRecDepth 100000
set_option maxHeartbeats 400000
namespace Sh
open PySem PySem.Spec PyProof.Rows L2
theorem mapM_some {α β : Type} {f : α → Option β} : ∀ {l : List α} {xs : List β}, l.map f = xs.map some → l.mapM f = some xs
  | [], [], _ => by simp
  | [], _ :: _, h => by simp at h
  | _ :: _, [], h => by simp at h
  | a :: l, x :: xs, h => by
    have h1 : f a = some x := (List.cons.inj h).1
    have h2 := mapM_some (f := f) (l := l) (xs := xs) (List.cons.inj h).2
    rw [List.mapM_cons, h1, h2]
    rfl
theorem mapM_none {α β : Type} {f : α → Option β} : ∀ {l : List α} {a : α}, a ∈ l → f a = none → l.mapM f = none
  | [], _, h, _ => by cases h
  | b :: l, a, h, e => by
    rw [List.mapM_cons]
    rcases List.mem_cons.mp h with rfl | h
    · rw [e]
      rfl
    · cases f b with
      | none => rfl
      | some y =>
        rw [mapM_none h e]
        rfl
section
variable {P : Program} {w : World} {K : PySem.W.Frag} {mg : Str → Option Value} {base : Heap} {C : Addr}
/-! ### become -/
def spBecome (C : Addr) : Sp := fun vs H Q _ => ∃ (o e a : Addr) (N : Addr → Prop) (s : Ho04.State) (rs : RS), vs = [.ref o, .ref a] ∧ FreshN N H ∧ ShSt C N H o e s ∧ RowsAt H a rs ∧ rs.length ≤ 100 ∧ (∀ r ∈ rs, r.2.length ≤ 4000) ∧ Ans C N o e H (Ho04.step s (.shape (rs.map (·.2)))) Q
theorem scBecome : FnScope ["self", "lists", "corners", "simplices"] ["self", "lists"] (defScope sBecome) := ⟨rfl, rfl, rfl, by decide +kernel, rfl, by decide +kernel, by decide +kernel⟩
theorem ok_become {f f1 f2 f3 : Addr} {fd fd1 fd2 fd3 : FuncData} {k : Nat} {t1 t2 t60 : Tok} (F : Fun K "become" "Shape.become" sBecome f fd) (T : ShTx K C) (ml : mg "len" = none)
    (c1 : mg "NOT_A_SIMPLEX" = some (.int (-1) t1)) (c2 : mg "TOO_MANY" = some (.int (-2) t2)) (c60 : mg "MOST_SIMPLICES" = some (.int 60 t60))
    (G1 : FnOk P w K mg base CX0 k f1 fd1 ["corners"] (spIsSim K)) (m1 : mg "is_simplex" = some (.ref f1)) (k1 : PySem.W.keepIn K (.ref f1) = true) (b1 : Binds K fd1 ["corners"] [])
    (G2 : FnOk P w K mg base CX0 k f2 fd2 ["corners"] (spRising K)) (m2 : mg "rising" = some (.ref f2)) (k2 : PySem.W.keepIn K (.ref f2) = true) (b2 : Binds K fd2 ["corners"] [])
    (G3 : FnOk P w K mg base CX0 k f3 fd3 ["simplices"] (spWith K)) (m3 : mg "with_all_faces" = some (.ref f3)) (k3 : PySem.W.keepIn K (.ref f3) = true) (b3 : Binds K fd3 ["simplices"] []) :
    FnOk P w K mg base CX0 (k + 1) f fd ["self", "lists"] (spBecome C) := by
  refine F.ok scBecome (fun vs H Q E h => ?_) (fun cdv A outer s H vs Q E hr h => ?_)
  · obtain ⟨o, e, a, N, s, rs, rfl, _⟩ := h
    rfl
  · obtain ⟨o, e, a, N, st, rs, rfl, hN, hst, hrs, hrl, hrz, q⟩ := h
    obtain ⟨l, ps, ls, ⟨dx, ho⟩, hl, hs, he, hls, hle, hlo⟩ := hst.ex
    refine ⟨_, pss_cons (ps_for PassesOwn.never rfl (pi_list (pv 1)) (pg_name (i := 2) scBecome.nd rfl (.inl rfl))
        (pss_one (ps_if (pt_not (pt_val (pe_call G1 hr rfl m1 k1 b1 .nil pass0 (pa_cons (pv 2) pa_nil)))) (pss_one (ps_ret (pe_lst (pa_cons (pe_glob (v := .int (-1)) rfl c1 ⟨_, rfl⟩) pa_nil)))) pss_nil)))
      (pss_cons (ps_set (i := 3) scBecome.nd rfl (.inl rfl) (pe_call G3 hr rfl m3 k3 b3 .nil pass0 (pa_cons (pe_lc (own := [("corners", 2)]) (g := gName 2) (tt := tYes) rfl scBecome.nd (pi_list (pv 1)) (blkOk_by (own := [("corners", 2)]) (N := ["self", "lists", "corners", "simplices"]) (sc := defScope sBecome) (by decide +kernel))
          (fun _ _ _ _ _ => pg_name (i := 2) scBecome.nd rfl (Or.inl rfl))
          (fun _ _ _ _ _ => pts_nil)
          (fun _ _ _ _ _ => pe_call G2 hr rfl m2 k2 b2 .nil pass0 (pa_cons (pv 2) pa_nil))) pa_nil)))
      (pss_cons (ps_if (pt_cmpR op_gt (pe_callB call_len_seq (by rfl) ml PySem.boot_len (pa_cons (pv 3) pa_nil)) (pe_glob (v := .int 60) rfl c60 ⟨_, rfl⟩) (nomark _)) (pss_one (ps_ret (pe_lst (pa_cons (pe_glob (v := .int (-2)) rfl c2 ⟨_, rfl⟩) pa_nil)))) pss_nil)
      (pss_cons (ps_fld (pv 0) (pv 3) rfl)
      (pss_cons (ps_fld (pv 0) (pe_lst pa_nil) rfl)
      (pss_one (ps_ret (pe_lst (pa_cons (pe_callB call_len_seq (by rfl) ml PySem.boot_len (pa_cons (pv 3) pa_nil)) pa_nil)))))))), ?_⟩
    have esl := sizeLine_eq
    have hstep : Ho04.step st (.shape (rs.map (·.2))) = (match (rs.map (·.2)).mapM Ho04.simOf with
      | none => (st, [-1])
      | some x => if 60 < (HoBase.closed x).length then (st, [-2]) else (⟨HoBase.closed x, []⟩, [Ho04.nat (HoBase.closed x).length])) := rfl
    refine ⟨_, rfl, a, rfl, ⟨_, SqL.of hrs.lst⟩, for_list (K := K) (a := a) (xs := rrefs rs)
      (fun i σ H' => ∃ v2, σ = [some (.ref o), some (.ref a), v2, none] ∧ H' = H ∧ ∀ r ∈ rs.take i, IsSim r.2)
      ⟨none, rfl, rfl, fun r hr => by simp at hr⟩ (fun i σ H' _ ⟨_, _, h5, _⟩ => h5 ▸ SqL.of hrs.lst) ?_ ?_⟩
    · rintro i v σ H' hi ⟨v2, rfl, rfl, hall⟩
      obtain ⟨r, hri, rfl⟩ := rrefs_get hi
      have hrm := mem_of_get hri
      refine ⟨_, rfl, r.1, r.2, rfl, SqL.of (hrs.each r hrm), hrz r hrm, _, rfl, ?_⟩
      by_cases hsim : IsSim r.2
      · rw [isSimB_true hsim]
        refine iteF ?_
        refine ⟨_, rfl, rfl, fun r' hr' => ?_⟩
        rw [take_more hri] at hr'
        rcases List.mem_append.mp hr' with h6 | h6
        · exact hall r' h6
        · have : r' = r := by simpa using h6
          rw [this]
          exact hsim
      · rw [isSimB_false hsim]
        refine iteT ?_
        rw [hstep, mapM_none (List.mem_map.mpr ⟨r, hrm, rfl⟩) (Sc.simOf_none (fun z => hsim (isSim_iff.mpr z)))] at q
        refine ⟨by show 1 ≤ sizeLine; decide, fun p np => ?_⟩
        exact q.same hst (same_upd np) np upd_same
    · rintro σ H' ⟨v2, rfl, rfl, hall⟩
      rw [rrefs_len, List.take_length] at hall
      refine ⟨_, rfl, a, rfl, ⟨_, SqL.of hrs.lst⟩, fun D nD => lc_list (K := K) (a := a) (xs := rrefs rs)
        (fun j H2 => Same H' H2 ∧ ∃ qs : PS2, ListAt H2 D qs ∧ (rs.take j).map (fun r => Ho04.simOf r.2) = (sims qs).map some ∧ ∀ x ∈ sims qs, Sc.Rises x ∧ x.length ≤ 4)
        ⟨same_upd nD, [], ⟨upd_same, fun p hp => by cases hp⟩, rfl, fun x hx => by cases hx⟩ (fun j H2 _ h => SqL.of (h.1 _ _ hrs.lst)) ?_ ?_⟩
      · rintro j y H2 hj ⟨s2, qs, hq, hqs, hqx⟩
        obtain ⟨r, hrj, rfl⟩ := rrefs_get hj
        have hrm := mem_of_get hrj
        refine ⟨rfl, ?_⟩
        refine tyes ?_
        refine ⟨_, rfl, r.1, r.2, rfl, SqL.of (s2 _ _ (hrs.each r hrm)), fun H3 p ms s3 np hperm hsort hp => ?_⟩
        obtain ⟨h1, h2, h3, h4, h5, h6⟩ := Sc.simOf_some (isSim_iff.mp (hall r hrm)) hperm hsort
        generalize hx : ms.map Int.toNat = x at h1 h2 h3 h4 h5 h6
        have tp : TupAt H3 p x := by
          unfold TupAt
          rw [hp, ← h6]
          unfold sv
          rw [List.map_map]
          rfl
        have hql : qs.length ≤ 100 := by
          have h7 := congrArg List.length hqs
          rw [List.length_map, List.length_map, List.length_take, sims_len] at h7
          omega
        have hDt : ∀ {b : Addr} {z : Sim}, TupAt H3 b z → b ≠ D := fun {b z} hb => ne_of hb (s3 _ _ hq.lst) (by intro z; cases z)
        refine ⟨_, s3 _ _ hq.lst, by rw [refs_len]; omega, fun b ob hb => ?_, qs ++ [(p, x)], ⟨?_, fun z hz => ?_⟩, ?_, fun z hz => ?_⟩
        · rw [upd_ne (ne_of_none hb nD)]
          exact s3 _ _ (s2 _ _ hb)
        · rw [upd_same]
          unfold refs
          rw [List.map_append]
          rfl
        · rcases List.mem_append.mp hz with hz | hz
          · have t1 := (hq.each z hz).same s3
            unfold TupAt
            rw [upd_ne (hDt t1)]
            exact t1
          · have ez : z = (p, x) := by simpa using hz
            subst ez
            unfold TupAt
            rw [upd_ne (hDt tp)]
            exact tp
        · rw [take_more hrj, List.map_append, hqs, sims_append, List.map_append]
          show _ ++ [Ho04.simOf r.2] = _
          rw [h1]
          rfl
        · rw [sims_append] at hz
          rcases List.mem_append.mp hz with hz | hz
          · exact hqx z hz
          · have ez : z = x := by simpa [sims] using hz
            subst ez
            exact ⟨h2, h3⟩
      · rintro H2 ⟨s2, qs, hq, hqs, hqx⟩
        rw [rrefs_len, List.take_length] at hqs
        have hmap : (rs.map (·.2)).mapM Ho04.simOf = some (sims qs) := mapM_some (by
          rw [List.map_map]
          exact hqs)
        rw [hstep, hmap] at q
        dsimp only at q
        have hql : qs.length ≤ 100 := by
          have h7 := congrArg List.length hqs
          rw [List.length_map, List.length_map, sims_len] at h7
          omega
        refine ⟨D, qs, rfl, hq, hql, fun p hp => (hqx p.2 (List.mem_map.mpr ⟨p, hp, rfl⟩)).2, fun H3 l3 ps3 s3 n3 hl3 haf => ?_⟩
        have hcl : sims ps3 = HoBase.closed (sims qs) := Sc.closed_of haf.order haf.nd haf.mem
        have hgood : Sc.Good (sims ps3) := by
          rw [hcl]
          exact Sc.closed_good hqx
        have sm3 := s2.trans s3
        have ho3 := sm3 _ _ ho
        have he3 := sm3 _ _ he
        refine ⟨_, rfl, l3, _, rfl, .inl (SqL.of hl3.lst), ?_⟩
        rw [refs_len]
        refine ⟨_, _, rfl, rfl, _, rfl, ?_⟩
        rw [← hcl, sims_len] at q
        by_cases h60 : 60 < ps3.length
        · have d1 : decide ((60 : Int) < (ps3.length : Int)) = true := decide_eq_true (by omega)
          rw [d1]
          refine iteT ?_
          rw [if_pos h60] at q
          refine ⟨by show 1 ≤ sizeLine; decide, fun p np => ?_⟩
          exact q.same hst (sm3.trans (same_upd np)) (sm3.free np) upd_same
        · have d1 : decide ((60 : Int) < (ps3.length : Int)) = false := decide_eq_false (by omega)
          rw [d1]
          refine iteF ?_
          rw [if_neg h60] at q
          refine ⟨_, rfl, _, rfl, o, C, dx, _, rfl, ho3, T.t.cl, T.t.nS, (by show 2 < 1000; decide), ?_⟩
          rw [sF_put]
          refine ⟨Nat.zero_le _, fun e2 ne2 => ?_⟩
          have hoe2 : o ≠ e2 := fun z => by
            rw [z, upd_same] at ne2
            cases ne2
          have ho4 : (upd (upd H3 o (.ins C dx ((("simplices" : Str), V.ref l3) :: eF e))) e2 (.lst [])) o = some (.ins C dx ((("simplices" : Str), V.ref l3) :: eF e)) := by
            rw [upd_ne hoe2, upd_same]
          refine ⟨_, rfl, o, C, dx, _, rfl, ho4, T.t.cl, T.nE, (by show 2 < 1000; decide), ?_⟩
          rw [sF_putE]
          have ne23 : H3 e2 = none := by
            rw [upd_ne (Ne.symm hoe2)] at ne2
            exact ne2
          have keep : ∀ b ob, H3 b = some ob → b ≠ o → (upd (upd (upd H3 o (.ins C dx ((("simplices" : Str), V.ref l3) :: eF e))) e2 (.lst [])) o (.ins C dx ((("simplices" : Str), V.ref l3) :: eF e2))) b = some ob := fun b ob hb h1 => by
            rw [upd_ne h1, upd_ne (ne_of_none hb ne23), upd_ne h1]
            exact hb
          have hl4 : ListAt (upd (upd (upd H3 o (.ins C dx ((("simplices" : Str), V.ref l3) :: eF e))) e2 (.lst [])) o (.ins C dx ((("simplices" : Str), V.ref l3) :: eF e2))) l3 ps3 :=
            ⟨keep _ _ hl3.lst (ne_of hl3.lst ho3 (by intro z; cases z)), fun p hp => keep _ _ (hl3.each p hp) (ne_of (hl3.each p hp) ho3 (by intro z; cases z))⟩
          refine ⟨_, rfl, l3, _, rfl, .inl (SqL.of hl4.lst), ?_⟩
          rw [refs_len]
          refine ⟨by show 1 ≤ sizeLine; decide, fun p np => ?_⟩
          have sp := same_upd (o := HO.lst [V.int (ps3.length : Int)]) np
          have np3 : H3 p = none := by
            cases e5 : H3 p with
            | none => rfl
            | some ob =>
              by_cases h6 : p = o
              · rw [h6, upd_same] at np
                cases np
              · rw [keep p ob e5 h6] at np
                cases np
          refine q _ p e2 (fun b ob hb h1 h2 => sp _ _ (keep b ob (sm3 _ _ hb) h1)) (.inr (sm3.free ne23)) ⟨⟨l3, ps3, [], ⟨dx, sp _ _ upd_same⟩, hl4.same sp, rfl, ?_, fun x hx => (by cases hx), ?_, rfl⟩, ⟨hgood, by rw [sims_len]; omega⟩, fun c hc => (by cases hc)⟩ (sm3.free np3) ?_
          · refine sp _ _ ?_
            rw [upd_ne (Ne.symm hoe2), upd_same]
            rfl
          · exact ⟨ne_of_none hl3.lst ne23, hN l3 (s2.free n3)⟩
          · rw [upd_same]
            rfl
end
end Sh

set_option maxRecDepth 100000
set_option maxHeartbeats 400000
namespace Sh
open PySem PySem.Spec PyProof.Rows L2
theorem callOf_cases {p : Int} {ns : List Int} {rows : List (List Int)} {x : Ho04.Call} (h : Ho04.callOf ((p :: ns) :: rows) = some x) :
    (p = 0 ∧ ns = [] ∧ x = .shape rows) ∨ (p = 1 ∧ x = .frees) ∨ (p = 2 ∧ x = .push ns) ∨ (p = 3 ∧ x = .core) ∨ (p = 4 ∧ x = .leaning) ∨ (p = 5 ∧ ∃ a, ns = [a] ∧ x = .leave a.toNat) ∨ (p = 6 ∧ x = .bone) ∨ (p = 7 ∧ x = .fewest) ∨ (p = 8 ∧ x = .list) ∨ (p = 9 ∧ x = .undo) := by
  unfold Ho04.callOf at h
  split at h <;> simp_all
section
variable {P : Program} {w : World} {K : PySem.W.Frag} {mg : Str → Option Value} {base : Heap} {C : Addr}
/-! ### answer_of -/
abbrev sAnsOf : Stmt := top 49
def spAnsOf (C : Addr) : Sp := fun vs H Q _ => ∃ (o e nb la : Addr) (N : Addr → Prop) (s : Ho04.State) (p : Int) (ns : List Int) (rs : RS) (x : Ho04.Call), vs = [.ref o, .int p, .ref nb, .ref la] ∧ FreshN N H ∧ ShSt C N H o e s ∧ s.old.length ≤ 1000 ∧ H nb = some (.lst (iv ns)) ∧ RowsAt H la rs ∧
  Ho04.callOf ((p :: ns) :: rs.map (·.2)) = some x ∧ (p = 0 → rs.length ≤ 100 ∧ ∀ r ∈ rs, r.2.length ≤ 4000) ∧ (p = 2 → ns.length ≤ 4000) ∧ (p = 5 → ∀ z ∈ ns, 0 ≤ z) ∧ Ans C N o e H (Ho04.step s x) Q
theorem scAnsOf : FnScope ["shape", "call", "numbers", "lists"] ["shape", "call", "numbers", "lists"] (defScope sAnsOf) := ⟨rfl, rfl, rfl, by decide +kernel, rfl, by decide +kernel, by decide +kernel⟩
/-- a method of the class: where it stands and what it promises -/
structure MOk (P : Program) (w : World) (K : PySem.W.Frag) (mg : Str → Option Value) (base : Heap) (C : Addr) (k : Nat) (name : Str) (ps : List Str) (sp : Sp) (f : Addr) (fd : FuncData) : Prop where
  ok : FnOk P w K mg base CX0 k f fd ps sp
  me : Meth K C name f
  bi : Binds K fd ps []
theorem ok_ansOf {f f0 f1 f2 f3 f4 f5 f6 f7 f8 f9 : Addr} {fd fd0 fd1 fd2 fd3 fd4 fd5 fd6 fd7 fd8 fd9 : FuncData} {k : Nat} {t0 t1 t2 t3 t4 t5 t6 t7 t8 t9 : Tok} (F : Fun K "answer_of" "answer_of" sAnsOf f fd) (T : ShTx K C)
    (c0 : mg "SHAPE" = some (.int 0 t0)) (c1 : mg "FREES" = some (.int 1 t1)) (c2 : mg "PUSH" = some (.int 2 t2)) (c3 : mg "CORE" = some (.int 3 t3)) (c4 : mg "LEANING" = some (.int 4 t4))
    (c5 : mg "LEAVE" = some (.int 5 t5)) (c6 : mg "BONE" = some (.int 6 t6)) (c7 : mg "FEWEST" = some (.int 7 t7)) (c8 : mg "LISTED" = some (.int 8 t8)) (c9 : mg "UNDO" = some (.int 9 t9))
    (M0 : MOk P w K mg base C k "become" ["self", "lists"] (spBecome C) f0 fd0)
    (M1 : MOk P w K mg base C k "frees" ["self"] (spCall0 C .frees) f1 fd1)
    (M2 : MOk P w K mg base C k "push" ["self", "corners"] (spPush C) f2 fd2)
    (M3 : MOk P w K mg base C k "core" ["self"] (spCall0 C .core) f3 fd3)
    (M4 : MOk P w K mg base C k "leaning" ["self"] (spCall0 C .leaning) f4 fd4)
    (M5 : MOk P w K mg base C k "leave" ["self", "corner"] (spLeave C) f5 fd5)
    (M6 : MOk P w K mg base C k "bone" ["self"] (spCall0 C .bone) f6 fd6)
    (M7 : MOk P w K mg base C k "fewest" ["self"] (spCall0 C .fewest) f7 fd7)
    (M8 : MOk P w K mg base C k "listed" ["self"] (spCall0 C .list) f8 fd8)
    (M9 : MOk P w K mg base C k "undo" ["self"] (spCall0 C .undo) f9 fd9) :
    FnOk P w K mg base CX0 (k + 1) f fd ["shape", "call", "numbers", "lists"] (spAnsOf C) := by
  refine F.ok scAnsOf (fun vs H Q E h => ?_) (fun cdv A outer s H vs Q E hr h => ?_)
  · obtain ⟨o, e, nb, la, N, s, p, ns, rs, x, rfl, _⟩ := h
    rfl
  · obtain ⟨o, e, nb, la, N, st, p, ns, rs, x, rfl, hN, hst, hold, hnb, hla, hcall, hb0, hb2, hb5, q⟩ := h
    obtain ⟨l, ps, ls, ⟨dx, ho⟩, hl, hs, he, hls, hle, hlo⟩ := hst.ex
    refine ⟨_, pss_cons (ps_if (pt_cmpR op_eq (pv 1) (pe_glob (v := .int 0) rfl c0 ⟨_, rfl⟩) (nomark _)) (pss_one (ps_ret (pe_meth (pv 0) T.t.cl M0.me M0.ok hr M0.bi .nil pass0 (pa_cons (pv 3) pa_nil)))) pss_nil)
      (pss_cons (ps_if (pt_cmpR op_eq (pv 1) (pe_glob (v := .int 1) rfl c1 ⟨_, rfl⟩) (nomark _)) (pss_one (ps_ret (pe_meth0 (pv 0) T.t.cl M1.me M1.ok hr M1.bi .nil pass0))) pss_nil)
      (pss_cons (ps_if (pt_cmpR op_eq (pv 1) (pe_glob (v := .int 2) rfl c2 ⟨_, rfl⟩) (nomark _)) (pss_one (ps_ret (pe_meth (pv 0) T.t.cl M2.me M2.ok hr M2.bi .nil pass0 (pa_cons (pv 2) pa_nil)))) pss_nil)
      (pss_cons (ps_if (pt_cmpR op_eq (pv 1) (pe_glob (v := .int 3) rfl c3 ⟨_, rfl⟩) (nomark _)) (pss_one (ps_ret (pe_meth0 (pv 0) T.t.cl M3.me M3.ok hr M3.bi .nil pass0))) pss_nil)
      (pss_cons (ps_if (pt_cmpR op_eq (pv 1) (pe_glob (v := .int 4) rfl c4 ⟨_, rfl⟩) (nomark _)) (pss_one (ps_ret (pe_meth0 (pv 0) T.t.cl M4.me M4.ok hr M4.bi .nil pass0))) pss_nil)
      (pss_cons (ps_if (pt_cmpR op_eq (pv 1) (pe_glob (v := .int 5) rfl c5 ⟨_, rfl⟩) (nomark _)) (pss_one (ps_ret (pe_meth (pv 0) T.t.cl M5.me M5.ok hr M5.bi .nil pass0 (pa_cons (pe_ix ix_list (pv 2) pe_int (fun _ _ => rfl)) pa_nil)))) pss_nil)
      (pss_cons (ps_if (pt_cmpR op_eq (pv 1) (pe_glob (v := .int 6) rfl c6 ⟨_, rfl⟩) (nomark _)) (pss_one (ps_ret (pe_meth0 (pv 0) T.t.cl M6.me M6.ok hr M6.bi .nil pass0))) pss_nil)
      (pss_cons (ps_if (pt_cmpR op_eq (pv 1) (pe_glob (v := .int 7) rfl c7 ⟨_, rfl⟩) (nomark _)) (pss_one (ps_ret (pe_meth0 (pv 0) T.t.cl M7.me M7.ok hr M7.bi .nil pass0))) pss_nil)
      (pss_cons (ps_if (pt_cmpR op_eq (pv 1) (pe_glob (v := .int 8) rfl c8 ⟨_, rfl⟩) (nomark _)) (pss_one (ps_ret (pe_meth0 (pv 0) T.t.cl M8.me M8.ok hr M8.bi .nil pass0))) pss_nil)
      (pss_cons (ps_if (pt_cmpR op_eq (pv 1) (pe_glob (v := .int 9) rfl c9 ⟨_, rfl⟩) (nomark _)) (pss_one (ps_ret (pe_meth0 (pv 0) T.t.cl M9.me M9.ok hr M9.bi .nil pass0))) pss_nil)
      (pss_one ps_never)))))))))), ?_⟩
    have not : ∀ {m : Str}, (m == ("simplices" : Str)) = false → (m == ("earlier" : Str)) = false → ((("simplices" : Str), V.ref l) :: eF e).lookup m = none := fun h1 h2 => sF_not h1 h2
    rcases callOf_cases hcall with ⟨rfl, rfl, rfl⟩ | ⟨rfl, rfl⟩ | ⟨rfl, rfl⟩ | ⟨rfl, rfl⟩ | ⟨rfl, rfl⟩ | ⟨rfl, a, rfl, rfl⟩ | ⟨rfl, rfl⟩ | ⟨rfl, rfl⟩ | ⟨rfl, rfl⟩ | ⟨rfl, rfl⟩
    · refine ⟨_, rfl, rfl, _, rfl, ?_⟩
      refine iteT ?_
      exact ⟨_, rfl, o, dx, _, rfl, ho, not (by decide +kernel) (by decide +kernel), _, rfl, o, e, la, N, st, rs, rfl, hN, hst, hla, (hb0 rfl).1, (hb0 rfl).2, q⟩
    · iterate 1 (refine ⟨_, rfl, rfl, _, rfl, ?_⟩; refine iteF ?_)
      refine ⟨_, rfl, rfl, _, rfl, ?_⟩
      refine iteT ?_
      exact ⟨_, rfl, o, dx, _, rfl, ho, not (by decide +kernel) (by decide +kernel), o, e, N, st, rfl, hst, q⟩
    · iterate 2 (refine ⟨_, rfl, rfl, _, rfl, ?_⟩; refine iteF ?_)
      refine ⟨_, rfl, rfl, _, rfl, ?_⟩
      refine iteT ?_
      exact ⟨_, rfl, o, dx, _, rfl, ho, not (by decide +kernel) (by decide +kernel), _, rfl, o, e, nb, N, st, ns, rfl, hN, hst, hold, hnb, hb2 rfl, q⟩
    · iterate 3 (refine ⟨_, rfl, rfl, _, rfl, ?_⟩; refine iteF ?_)
      refine ⟨_, rfl, rfl, _, rfl, ?_⟩
      refine iteT ?_
      exact ⟨_, rfl, o, dx, _, rfl, ho, not (by decide +kernel) (by decide +kernel), o, e, N, st, rfl, hst, q⟩
    · iterate 4 (refine ⟨_, rfl, rfl, _, rfl, ?_⟩; refine iteF ?_)
      refine ⟨_, rfl, rfl, _, rfl, ?_⟩
      refine iteT ?_
      exact ⟨_, rfl, o, dx, _, rfl, ho, not (by decide +kernel) (by decide +kernel), o, e, N, st, rfl, hst, q⟩
    · iterate 5 (refine ⟨_, rfl, rfl, _, rfl, ?_⟩; refine iteF ?_)
      refine ⟨_, rfl, rfl, _, rfl, ?_⟩
      refine iteT ?_
      have ha0 : 0 ≤ a := hb5 rfl a (by simp)
      have ea : a = ((a.toNat : Nat) : Int) := by omega
      refine ⟨_, rfl, o, dx, _, rfl, ho, not (by decide +kernel) (by decide +kernel), _, rfl, nb, _, 0, .int a, rfl, rfl, SqL.of hnb, atI_nat (j := 0) rfl, o, e, N, st, a.toNat, ?_, hN, hst, hold, q⟩
      rw [← ea]
      rfl
    · iterate 6 (refine ⟨_, rfl, rfl, _, rfl, ?_⟩; refine iteF ?_)
      refine ⟨_, rfl, rfl, _, rfl, ?_⟩
      refine iteT ?_
      exact ⟨_, rfl, o, dx, _, rfl, ho, not (by decide +kernel) (by decide +kernel), o, e, N, st, rfl, hst, q⟩
    · iterate 7 (refine ⟨_, rfl, rfl, _, rfl, ?_⟩; refine iteF ?_)
      refine ⟨_, rfl, rfl, _, rfl, ?_⟩
      refine iteT ?_
      exact ⟨_, rfl, o, dx, _, rfl, ho, not (by decide +kernel) (by decide +kernel), o, e, N, st, rfl, hst, q⟩
    · iterate 8 (refine ⟨_, rfl, rfl, _, rfl, ?_⟩; refine iteF ?_)
      refine ⟨_, rfl, rfl, _, rfl, ?_⟩
      refine iteT ?_
      exact ⟨_, rfl, o, dx, _, rfl, ho, not (by decide +kernel) (by decide +kernel), o, e, N, st, rfl, hst, q⟩
    · iterate 9 (refine ⟨_, rfl, rfl, _, rfl, ?_⟩; refine iteF ?_)
      refine ⟨_, rfl, rfl, _, rfl, ?_⟩
      refine iteT ?_
      exact ⟨_, rfl, o, dx, _, rfl, ho, not (by decide +kernel) (by decide +kernel), o, e, N, st, rfl, hst, q⟩
end
end Sh

set_option maxRecDepth 100000
set_option maxHeartbeats 400000
namespace Sh
open PySem PySem.Spec PyProof.Rows L2
theorem row_less {r x t : List Int} (h : PyFlat.row r = some (x, t)) : t.length < r.length := by
  cases r with
  | nil => cases h
  | cons n r =>
    simp only [PyFlat.row] at h
    split at h
    · have := congrArg Prod.snd (Option.some.inj h)
      have e : r.drop n.toNat = t := this
      rw [← e, List.length_drop, List.length_cons]
      omega
    · cases h
theorem rows_le : ∀ {k : Nat} {r t : List Int} {xs : List (List Int)}, PyFlat.rows k r = some (xs, t) → k ≤ r.length
  | 0, r, t, xs, _ => Nat.zero_le _
  | k + 1, r, t, xs, h => by
    obtain ⟨x, s, ys, h1, h2, _⟩ := rows_succ h
    have := row_less h1
    have := rows_le h2
    omega
theorem ShSt.but {C : Addr} {N : Addr → Prop} {H H' : Hp} {o e g : Addr} {s : Ho04.State} (h : ShSt C N H o e s) (kb : KeepsBut g H H') (ho : o ≠ g) (he : e ≠ g)
    (hl : ∀ b xs, H b = some (.lst xs) → N b → b ≠ g) (ht : ∀ b xs, H b = some (.tup xs) → b ≠ g) : ShSt C N H' o e s := by
  obtain ⟨l, ps, ls, ⟨dx, hoo⟩, hll, hs, hee, hls, hle, hold⟩ := h.ex
  have keepL : ∀ {b : Addr} {xs : PS2}, ListAt H b xs → N b → ListAt H' b xs := fun {b xs} hb hn => ⟨kb _ _ hb.lst (hl _ _ hb.lst hn), fun p hp => kb _ _ (hb.each p hp) (ht _ _ (hb.each p hp))⟩
  exact ⟨⟨l, ps, ls, ⟨dx, kb _ _ hoo ho⟩, keepL hll hle.2, hs, kb _ _ hee he, fun x hx => ⟨keepL (hls x hx).1 (hls x hx).2.2, (hls x hx).2⟩, hle, hold⟩, h.ok, h.oks⟩
theorem ShSt.newN {C : Addr} {N : Addr → Prop} {H : Hp} {o e g : Addr} {s : Ho04.State} (h : ShSt C N H o e s) (hg : H g = none) : ShSt C (fun b => b ≠ g) H o e s := by
  obtain ⟨l, ps, ls, ho, hll, hs, hee, hls, hle, hold⟩ := h.ex
  exact ⟨⟨l, ps, ls, ho, hll, hs, hee, fun x hx => ⟨(hls x hx).1, (hls x hx).2.1, ne_of_none (hls x hx).1.lst hg⟩, ⟨hle.1, ne_of_none hll.lst hg⟩, hold⟩, h.ok, h.oks⟩
theorem ShSt.eAt {C : Addr} {N : Addr → Prop} {H : Hp} {o e : Addr} {s : Ho04.State} (h : ShSt C N H o e s) : ∃ xs, H e = some (.lst xs) := by
  obtain ⟨l, ps, ls, ho, hll, hs, hee, _⟩ := h.ex
  exact ⟨_, hee⟩
theorem ShSt.oAt {C : Addr} {N : Addr → Prop} {H : Hp} {o e : Addr} {s : Ho04.State} (h : ShSt C N H o e s) : ∃ dx fs, H o = some (.ins C dx fs) := by
  obtain ⟨l, ps, ls, ⟨dx, ho⟩, _⟩ := h.ex
  exact ⟨dx, _, ho⟩
theorem drop_cons {l : List Int} {n : Nat} {p : Int} {r : List Int} (h : l.drop n = p :: r) : l[n]? = some p ∧ l.drop (n + 1) = r ∧ n < l.length := by
  have hlt : n < l.length := by
    rcases Nat.lt_or_ge n l.length with q | q
    · exact q
    · rw [List.drop_eq_nil_of_le q] at h
      cases h
  have hg := List.drop_eq_getElem_cons hlt
  rw [h] at hg
  exact ⟨by rw [List.getElem?_eq_getElem hlt, ← (List.cons.inj hg).1], (List.cons.inj hg).2.symm, hlt⟩
section
variable {P : Program} {w : World} {K : PySem.W.Frag} {mg : Str → Option Value} {base : Heap} {C R : Addr}
/-! ### answers -/
abbrev sAnswers : Stmt := top 50
def spAnswers (K : PySem.W.Frag) : Sp := fun vs H Q _ => ∃ (a : Addr) (l : List Int), vs = [.ref a] ∧ SqL K H a (iv l) ∧ l.length ≤ 30000 ∧ PyHo04.answers_asked l = true ∧
  ∀ (H' : Hp) (p : Addr), Same H H' → H p = none → H' p = some (.lst (iv (PyHo04.answers l))) → Q (.ref p) H'
theorem scAnswers : FnScope ["calls", "reader", "shape", "given", "call", "numbers", "lists", "answer"] ["calls"] (defScope sAnswers) := ⟨rfl, rfl, rfl, by decide +kernel, rfl, by decide +kernel, by decide +kernel⟩
theorem ok_answers {f f0 f1 f2 f3 f4 f5 fA : Addr} {fd fd0 fd1 fd2 fd3 fd4 fd5 fdA : FuncData} {k : Nat} (F : Fun K "answers" "answers" sAnswers f fd) (TR : RdTxt K R) (ml : mg "len" = none)
    (MkR : Mk K R f0) (G0 : FnOk P w K mg base CX0 k f0 fd0 ["self", "calls"] (spRInit R)) (mR : mg "Reader" = some (.ref R)) (b0 : Binds K fd0 ["self", "calls"] [])
    (MkS : Mk K C f1) (G1 : FnOk P w K mg base CX0 k f1 fd1 ["self"] (spSInit C)) (mS : mg "Shape" = some (.ref C)) (b1 : Binds K fd1 ["self"] [])
    (M2 : MOk P w K mg base R (k + 1) "at_end" ["self"] (spAtEnd K R) f2 fd2)
    (M3 : MOk P w K mg base R (k + 1) "take_number" ["self"] (spTakeN K R) f3 fd3)
    (M4 : MOk P w K mg base R (k + 1) "take_numbers" ["self"] (spTakeNs K R) f4 fd4)
    (M5 : MOk P w K mg base R (k + 1) "take_lists" ["self"] (spTakeL K R) f5 fd5)
    (GA : FnOk P w K mg base CX0 (k + 1) fA fdA ["shape", "call", "numbers", "lists"] (spAnsOf C)) (mA : mg "answer_of" = some (.ref fA)) (kA : PySem.W.keepIn K (.ref fA) = true) (bA : Binds K fdA ["shape", "call", "numbers", "lists"] []) :
    FnOk P w K mg base CX0 (k + 2) f fd ["calls"] (spAnswers K) := by
  refine F.ok scAnswers (fun vs H Q E h => ?_) (fun cdv A outer s H vs Q E hr h => ?_)
  · obtain ⟨a, l, rfl, _⟩ := h
    rfl
  · obtain ⟨a, l, rfl, ha, hll, hask, q⟩ := h
    refine ⟨_, pss_cons (ps_set (i := 1) scAnswers.nd rfl (.inl rfl) (pe_make MkR G0 hr rfl mR b0 .nil pass0 (pa_cons (pv 0) pa_nil)))
      (pss_cons (ps_set (i := 2) scAnswers.nd rfl (.inl rfl) (pe_make0 MkS G1 hr rfl mS b1 .nil pass0))
      (pss_cons (ps_set (i := 3) scAnswers.nd rfl (.inl rfl) (pe_lst pa_nil))
      (pss_cons (ps_while PassesOwn.never (pt_not (pt_val (pe_meth0 (pv 1) TR.cl M2.me M2.ok hr M2.bi .nil pass0)))
        (pss_cons (ps_set (i := 4) scAnswers.nd rfl (.inl rfl) (pe_meth0 (pv 1) TR.cl M3.me M3.ok hr M3.bi .nil pass0))
        (pss_cons (ps_set (i := 5) scAnswers.nd rfl (.inl rfl) (pe_meth0 (pv 1) TR.cl M4.me M4.ok hr M4.bi .nil pass0))
        (pss_cons (ps_set (i := 6) scAnswers.nd rfl (.inl rfl) (pe_meth0 (pv 1) TR.cl M5.me M5.ok hr M5.bi .nil pass0))
        (pss_cons (ps_set (i := 7) scAnswers.nd rfl (.inl rfl) (pe_call GA hr rfl mA kA bA .nil pass0 (pa_cons (pv 2) (pa_cons (pv 4) (pa_cons (pv 5) (pa_cons (pv 6) pa_nil))))))
        (pss_cons (ps_expr (pe_bm PySem.F.plainAttrs_list PySem.F.slot_list_append PySem.F.type_list_append mt_append (pv 3) (pa_cons (pe_callB call_len_seq (by rfl) ml PySem.boot_len (pa_cons (pv 7) pa_nil)) pa_nil)))
        (pss_one (ps_expr (pe_bm PySem.F.plainAttrs_list PySem.F.slot_list_extend PySem.F.type_list_extend mt_extend (pv 3) (pa_cons (pv 7) pa_nil))))))))))
      (pss_one (ps_ret (pv 3)))))), ?_⟩
    have esl := sizeLine_eq
    obtain ⟨cs, hcs, hc40, hcok, hshort, hans⟩ := Sc.asked_of hask
    rw [hans] at q
    -- the reader
    refine ⟨_, rfl, fun rd dr nrd ndr hdr => ?_⟩
    have hrd0 : (upd (upd H dr (.own rd)) rd (.ins R dr [])) rd = some (.ins R dr []) := upd_same
    refine ⟨rd, dr, a, rfl, hrd0, fun H1 r1 kb1 => ⟨rfl, ?_⟩⟩
    have sm1 : Same H H1 := fun b ob hb => kb1 b ob (by rw [upd_ne (ne_of_none hb nrd), upd_ne (ne_of_none hb ndr)]; exact hb) (ne_of_none hb nrd)
    obtain ⟨dr1, hrd1⟩ := r1
    -- the shape
    refine fun o dx no ndx hdo => ?_
    have hso : Same H1 (upd (upd H1 dx (.own o)) o (.ins C dx [])) := fun b ob hb => by
      rw [upd_ne (ne_of_none hb no), upd_ne (ne_of_none hb ndx)]
      exact hb
    have hrdo : rd ≠ o := ne_of_none hrd1 no
    have noH : H o = none := sm1.free no
    refine ⟨o, dx, fun _ => True, rfl, upd_same, fun _ _ => trivial, fun H2 e0 st0 kb2 ne0 => ⟨rfl, ?_⟩⟩
    have sm2 : Same H H2 := fun b ob hb => kb2 b ob (hso _ _ (sm1 _ _ hb)) (ne_of_none hb noH)
    have hrd2 : H2 rd = some (.ins R dr1 (rF a 0)) := kb2 _ _ (hso _ _ hrd1) hrdo
    have ne0H : H e0 = none := by
      rw [upd_ne (fun z => by rw [z, upd_same] at ne0; cases ne0)] at ne0
      have h6 : H1 e0 = none := by
        by_cases h7 : e0 = dx
        · rw [h7, upd_same] at ne0
          cases ne0
        · rw [upd_ne h7] at ne0
          exact ne0
      exact sm1.free h6
    -- what is given
    refine ⟨Nat.zero_le _, fun g ng => ?_⟩
    have s3 := same_upd (o := HO.lst []) ng
    have ngH : H g = none := sm2.free ng
    have st3 := (st0.newN ng).same s3
    obtain ⟨xs0, he0⟩ := st0.eAt
    have hge0 : g ≠ e0 := fun z => by
      rw [z, he0] at ng
      cases ng
    refine ⟨fun m σ H' => ∃ (n fu : Nat) (rest : List (List (List Int))) (st : Ho04.State) (gs : List Int) (e : Addr) (v4 v5 v6 v7 : Option V), σ = [some (.ref a), some (.ref rd), some (.ref o), some (.ref g), v4, v5, v6, v7] ∧ Same H H' ∧ RdAt R H' rd a n ∧ PyWide.calls fu (l.drop n) = some rest ∧ (∀ c ∈ rest, Sc.CallOk c) ∧
        ShSt C (fun b => b ≠ g) H' o e st ∧ st.old.length + rest.length ≤ 40 ∧ H' g = some (.lst (iv gs)) ∧ g ≠ e ∧ H e = none ∧ m = rest.length ∧
        PyFlat.told (PyFlat.played Ho04Neutral.step Ho04Neutral.start cs) = gs ++ PyFlat.told (PyFlat.played Ho04Neutral.step st rest),
      ⟨cs.length, 0, l.length, cs, Ho04.init, [], e0, none, none, none, none, rfl, sm2.trans s3, ⟨dr1, s3 _ _ hrd2⟩, hcs, hcok, st3, by show 0 + cs.length ≤ 40; omega, upd_same, hge0, ne0H, rfl, rfl⟩, ?_⟩
    rintro m σ H' ⟨n, fu, rest, st, gs, e, v4, v5, v6, v7, rfl, sm, ⟨drn, hrd⟩, hcalls, hok, hst, hold, hg, hge, neH, rfl, htold⟩
    have ha' := sm.seq ha
    refine ⟨_, rfl, rd, drn, _, rfl, hrd, rF_not a n (by decide +kernel) (by decide +kernel), rd, a, n, l, rfl, ⟨drn, hrd⟩, ha', _, rfl, ?_⟩
    cases hd : l.drop n with
    | nil =>
      have hle : l.length ≤ n := by
        have := congrArg List.length hd
        rw [List.length_drop] at this
        simp at this
        omega
      rw [decide_eq_true hle]
      refine iteF ?_
      have hrest : rest = [] := by
        rw [hd] at hcalls
        cases fu <;> (unfold PyWide.calls at hcalls; exact (Option.some.inj hcalls).symm)
      subst hrest
      have e1 : PyFlat.told (PyFlat.played Ho04Neutral.step st []) = [] := rfl
      rw [e1, List.append_nil] at htold
      rw [← htold] at hg
      exact ⟨_, rfl, q H' g sm ngH hg⟩
    | cons p r =>
      obtain ⟨hnp, hdr1, hnl⟩ := drop_cons hd
      rw [decide_eq_false (by omega)]
      refine iteT ?_
      rw [hd] at hcalls
      obtain ⟨fu', c, t, rest', rfl, hcall, hcalls', rfl⟩ := Sc.calls_split hcalls
      obtain ⟨ns, k0, u, xs, hrow, hk0, hrows, hc⟩ := Sc.call_split hcall
      have cok := hok c (List.mem_cons_self ..)
      obtain ⟨x, hx⟩ := cok.some
      rw [← hdr1] at hrow
      rw [Sc.told_cons, Sc.step_of hx] at htold
      refine ⟨fun σ' H6 => ∃ (n2 : Nat) (e2 : Addr) (w4 w5 w6 w7 : Option V), σ' = [some (.ref a), some (.ref rd), some (.ref o), some (.ref g), w4, w5, w6, w7] ∧ Same H H6 ∧ RdAt R H6 rd a n2 ∧ l.drop n2 = t ∧
        ShSt C (fun b => b ≠ g) H6 o e2 (Ho04.step st x).1 ∧ H6 g = some (.lst (iv (gs ++ (((Ho04.step st x).2.length : Int) :: (Ho04.step st x).2)))) ∧ g ≠ e2 ∧ H e2 = none, ?_, ?_⟩
      · rintro σ' H6 ⟨n2, e2, w4, w5, w6, w7, rfl, sm6, rd6, hd6, st6, hg6, hge6, ne6⟩
        have hos := Sc.old_step st x
        refine ⟨rest'.length, by simp, n2, fu', rest', _, _, e2, w4, w5, w6, w7, rfl, sm6, rd6, by rw [hd6]; exact hcalls', fun c' hc' => hok c' (List.mem_cons_of_mem _ hc'), st6, ?_, hg6, hge6, ne6, rfl, ?_⟩
        · rw [List.length_cons] at hold
          omega
        · rw [htold, List.append_assoc]
          rfl
      · have hto : ∀ {Hx : Hp} {fs : List (Str × V)} {dd : Addr}, Hx rd = some (.ins R dd fs) → (∀ b ys, Hx b = some (.tup ys) → b ≠ rd) ∧ (∀ b ys, Hx b = some (.lst ys) → b ≠ rd) := fun {Hx fs dd} h => ⟨fun b ys hb => ne_of hb h (by intro z; cases z), fun b ys hb => ne_of hb h (by intro z; cases z)⟩
        have nrdH : H rd = none := nrd
        -- call = reader.take_number()
        refine ⟨_, rfl, rd, drn, _, rfl, hrd, rF_not a n (by decide +kernel) (by decide +kernel), rd, a, n, l, p, rfl, ⟨drn, hrd⟩, ha', hnp, fun H1' r1' kb1' => ?_⟩
        obtain ⟨d1, hrdA⟩ := r1'
        have smA : Same H H1' := fun b ob hb => kb1' b ob (sm _ _ hb) (ne_of_none hb nrdH)
        -- numbers = reader.take_numbers()
        refine ⟨_, rfl, rd, d1, _, rfl, hrdA, rF_not a (n + 1) (by decide +kernel) (by decide +kernel), rd, a, n + 1, l, ns, k0 :: u, rfl, ⟨d1, hrdA⟩, smA.seq ha, by omega, hrow, fun H2' nb n2 hn2 hd2 r2 kb2' nnb hnb => ?_⟩
        obtain ⟨d2, hrdB⟩ := r2
        have smB : Same H H2' := fun b ob hb => kb2' b ob (smA _ _ hb) (ne_of_none hb nrdH)
        obtain ⟨hn2k, hd2u, hn2l⟩ := drop_cons hd2
        have hk0n : l[n2]? = some ((k0.toNat : Nat) : Int) := by
          rw [hn2k]
          congr 1
          omega
        rw [← hd2u] at hrows
        have hkle : k0.toNat ≤ 100000 := by
          have h6 := rows_le hrows
          rw [List.length_drop] at h6
          omega
        -- lists = reader.take_lists()
        refine ⟨_, rfl, rd, d2, _, rfl, hrdB, rF_not a n2 (by decide +kernel) (by decide +kernel), rd, a, n2, k0.toNat, l, t, xs, rfl, ⟨d2, hrdB⟩, smB.seq ha, by omega, hk0n, hkle, hrows, fun H3' la n3 rs hn3 hd3 r3 kb3' nla hrs hrs2 => ?_⟩
        obtain ⟨d3, hrdC⟩ := r3
        have smC : Same H H3' := fun b ob hb => kb3' b ob (smB _ _ hb) (ne_of_none hb nrdH)
        have hnbrd : nb ≠ rd := (hto hrdB).2 _ _ hnb
        have hnb3 := kb3' _ _ hnb hnbrd
        obtain ⟨dxo, fso, hoo⟩ := hst.oAt
        have hord : o ≠ rd := Ne.symm hrdo
        obtain ⟨xse, hee⟩ := hst.eAt
        have herd : e ≠ rd := (hto hrd).2 _ _ hee
        have stA := hst.but kb1' hord herd (fun b ys hb _ => (hto hrd).2 b ys hb) (hto hrd).1
        have stB := stA.but kb2' hord herd (fun b ys hb _ => (hto hrdA).2 b ys hb) (hto hrdA).1
        have stC := stB.but kb3' hord herd (fun b ys hb _ => (hto hrdB).2 b ys hb) (hto hrdB).1
        have hgrd : g ≠ rd := (hto hrd).2 _ _ hg
        have hgC : H3' g = some (.lst (iv gs)) := kb3' _ _ (kb2' _ _ (kb1' _ _ hg hgrd) hgrd) hgrd
        have hcx : Ho04.callOf ((p :: ns) :: rs.map (·.2)) = some x := by
          rw [hrs2, ← hc]
          exact hx
        have b0' : p = 0 → rs.length ≤ 100 ∧ ∀ r' ∈ rs, r'.2.length ≤ 4000 := fun hp => by
          obtain ⟨h6, h7⟩ := cok.shape ns xs (by rw [hc, hp])
          rw [← hrs2] at h6 h7
          rw [List.length_map] at h6
          refine ⟨by omega, fun r' hr' => ?_⟩
          have := h7 r'.2 (List.mem_map.mpr ⟨r', hr', rfl⟩)
          omega
        have b2' : p = 2 → ns.length ≤ 4000 := fun hp => by
          have := cok.push ns xs (by rw [hc, hp])
          omega
        have b5' : p = 5 → ∀ z ∈ ns, 0 ≤ z := fun hp => cok.leave ns xs (by rw [hc, hp])
        have hfresh : FreshN (fun b => b ≠ g) H3' := fun b hb (z : b = g) => by
          rw [z, hgC] at hb
          cases hb
        -- answer = answer_of(shape, call, numbers, lists)
        refine ⟨_, rfl, _, rfl, _, rfl, _, rfl, o, e, nb, la, (fun b => b ≠ g), st, p, ns, rs, x, rfl, hfresh, stC, by omega, hnb3, hrs, hcx, b0', b2', b5', fun H4 an e2 mv he2 st4 nan han => ?_⟩
        have noH' : H o = none := noH
        have sm4 : Same H H4 := fun b ob hb => mv b ob (smC _ _ hb) (ne_of_none hb noH) (ne_of_none hb neH)
        have hrd4 : H4 rd = some (.ins R d3 (rF a n3)) := mv _ _ hrdC hrdo (Ne.symm herd)
        have hgo : g ≠ o := by
          obtain ⟨dd, ff, h6⟩ := stC.oAt
          exact ne_of hgC h6 (by intro z; cases z)
        have hg4 : H4 g = some (.lst (iv gs)) := mv _ _ hgC hgo hge
        have hge2 : g ≠ e2 := by
          rcases he2 with rfl | h6
          · exact hge
          · exact ne_of_none hgC h6
        have ne2H : H e2 = none := by
          rcases he2 with rfl | h6
          · exact neH
          · exact smC.free h6
        have hgan : g ≠ an := ne_of_none hgC nan
        have hlen : gs.length + 1 + (Ho04.step st x).2.length ≤ 10000000 := by
          have h6 := congrArg List.length htold
          rw [List.length_append, List.length_cons, List.length_append] at h6
          omega
        -- given.append(len(answer))
        refine ⟨_, rfl, .inl ⟨rfl, _, SqL.of hg4⟩, _, rfl, an, _, rfl, .inl (SqL.of han), ?_⟩
        rw [iv_len]
        refine ⟨g, _, _, rfl, rfl, hg4, by rw [iv_len]; omega, ?_⟩
        -- given.extend(answer)
        refine ⟨_, rfl, .inl ⟨rfl, _, SqL.of upd_same⟩, _, rfl, g, an, _, _, rfl, rfl, upd_same, by rw [upd_ne (Ne.symm hgan)]; exact han, ?_, ?_⟩
        · rw [List.length_append, iv_len, iv_len]
          simp
          omega
        have kbg : ∀ (o1 o2 : HO), KeepsBut g H4 (upd (upd H4 g o1) g o2) := fun o1 o2 b ob hb hbg => by
          rw [upd_ne hbg, upd_ne hbg]
          exact hb
        have hgrd4 : rd ≠ g := Ne.symm hgrd
        refine ⟨n3, e2, _, _, _, _, rfl, fun b ob hb => kbg _ _ b ob (sm4 _ _ hb) (ne_of_none hb ngH), ⟨d3, kbg _ _ _ _ hrd4 hgrd4⟩, hd3, ?_, ?_, hge2, ne2H⟩
        · exact st4.but (kbg _ _) (Ne.symm hgo) (Ne.symm hge2) (fun b ys hb hn => hn) (fun b ys hb => ne_of hb hg4 (by intro z; cases z))
        · rw [upd_same]
          unfold iv
          rw [List.map_append, List.append_assoc]
          rfl
end
end Sh

set_option maxRecDepth 100000
set_option maxHeartbeats 400000
namespace Sh
open PySem PySem.Spec PyProof.Rows L2
/-- a def of the program's top -/
def DefIn (K : PySem.W.Frag) (x : Str) (st : Stmt) (f : Addr) : Prop := PySem.W.nsIn K mainGlobals x = some (some (.ref f)) ∧ ∃ fd, Fun K x x st f fd
/-- a method of a class -/
def MetIn (K : PySem.W.Frag) (C : Addr) (x y : Str) (st : Stmt) (f : Addr) : Prop := PySem.W.findIn K (.ref C) x = some (some (.ref f)) ∧ PySem.W.isFn K (.ref f) = true ∧ ∃ fd, Fun K x y st f fd
/-- a class with its attributes in a dict -/
structure ClsIn (K : PySem.W.Frag) (x : Str) (C : Addr) : Prop where
  ns : PySem.W.nsIn K mainGlobals x = some (some (.ref C))
  cl : Cls K C
  mks : PySem.W.makesIn K C = true
  kept : PySem.W.keepIn K (.ref C) = true
theorem b_answers_of {K : PySem.W.Frag} {f : Addr} {fd : FuncData} (F : Fun K "answers" "answers" sAnswers f fd) (s : Shared) (us : List Value) (hu : us.length = (["calls"] : List Str).length) : BindsTo s fd ⟨us, []⟩ ((["calls"] : List Str).zip us) := by
  obtain ⟨_, _, _, _, _, _, _, _, _, rfl, _, _⟩ := F.ex
  match us, hu with
  | [_], _ => exact .of_eq rfl
theorem all_mk {P : Program} {w : World} {K : PySem.W.Frag} {h : Heap} {mg : Str → Option Value} {fa : Addr} (X : K.In h) (G : h.Ns mainGlobals mg) (hfa : mg "answers" = some (.ref fa))
    {C R f_is_simplex f_rising f_place_in_order f_faces_of f_with_all_faces f_is_face f_others_above f_tops_of f_free_pairs f_without f_without_corner f_corners_of f_leans f_lowest_leaned_on f_leaning_pairs f_bits_above f_steps_from f_fewest_cuts f_boundary_row f_first_not_zero f_cleared_at f_rank_of f_holes_in_all f_told f_answer_of f_answers s_init s_change_to s_become s_frees s_push s_core s_leaning s_leave s_bone s_fewest s_listed s_undo r_init r_at_end r_take_number r_take_numbers r_take_lists : Addr}
    {t_SHAPE t_FREES t_PUSH t_CORE t_LEANING t_LEAVE t_BONE t_FEWEST t_LISTED t_UNDO t_MOST_CORNERS t_LAST_CORNER t_MOST_SIMPLICES t_MOST_FOR_FEWEST t_NOT_A_SIMPLEX t_TOO_MANY t_NOT_THERE t_TOO_MANY_FOR_FEWEST t_NOT_FREE t_NOT_LEANING t_NOTHING_TO_UNDO : Tok}
    (hC : ClsIn K "Shape" C) (hR : ClsIn K "Reader" R)
    (h_is_simplex : DefIn K "is_simplex" sIsSim f_is_simplex)
    (h_rising : DefIn K "rising" sRising f_rising)
    (h_place_in_order : DefIn K "place_in_order" sPlace f_place_in_order)
    (h_faces_of : DefIn K "faces_of" sFaces f_faces_of)
    (h_with_all_faces : DefIn K "with_all_faces" sWith f_with_all_faces)
    (h_is_face : DefIn K "is_face" sIsFace f_is_face)
    (h_others_above : DefIn K "others_above" sOthers f_others_above)
    (h_tops_of : DefIn K "tops_of" sTops f_tops_of)
    (h_free_pairs : DefIn K "free_pairs" sFree f_free_pairs)
    (h_without : DefIn K "without" sWithout f_without)
    (h_without_corner : DefIn K "without_corner" sWithoutC f_without_corner)
    (h_corners_of : DefIn K "corners_of" sCorners f_corners_of)
    (h_leans : DefIn K "leans" sLeans f_leans)
    (h_lowest_leaned_on : DefIn K "lowest_leaned_on" sLowest f_lowest_leaned_on)
    (h_leaning_pairs : DefIn K "leaning_pairs" sLeanP f_leaning_pairs)
    (h_bits_above : DefIn K "bits_above" sBits f_bits_above)
    (h_steps_from : DefIn K "steps_from" sSteps f_steps_from)
    (h_fewest_cuts : DefIn K "fewest_cuts" sCuts f_fewest_cuts)
    (h_boundary_row : DefIn K "boundary_row" sRow f_boundary_row)
    (h_first_not_zero : DefIn K "first_not_zero" sFirst f_first_not_zero)
    (h_cleared_at : DefIn K "cleared_at" sClr f_cleared_at)
    (h_rank_of : DefIn K "rank_of" sRank f_rank_of)
    (h_holes_in_all : DefIn K "holes_in_all" sHoles f_holes_in_all)
    (h_told : DefIn K "told" sTold f_told)
    (h_answer_of : DefIn K "answer_of" sAnsOf f_answer_of)
    (h_answers : DefIn K "answers" sAnswers f_answers)
    (hs_init : MetIn K C "__init__" "Shape.__init__" sSInit s_init)
    (hs_change_to : MetIn K C "change_to" "Shape.change_to" sChange s_change_to)
    (hs_become : MetIn K C "become" "Shape.become" sBecome s_become)
    (hs_frees : MetIn K C "frees" "Shape.frees" sFrees s_frees)
    (hs_push : MetIn K C "push" "Shape.push" sPush s_push)
    (hs_core : MetIn K C "core" "Shape.core" sCore s_core)
    (hs_leaning : MetIn K C "leaning" "Shape.leaning" sLeaning s_leaning)
    (hs_leave : MetIn K C "leave" "Shape.leave" sLeave s_leave)
    (hs_bone : MetIn K C "bone" "Shape.bone" sBone s_bone)
    (hs_fewest : MetIn K C "fewest" "Shape.fewest" sFewest s_fewest)
    (hs_listed : MetIn K C "listed" "Shape.listed" sListed s_listed)
    (hs_undo : MetIn K C "undo" "Shape.undo" sUndo s_undo)
    (hr_init : MetIn K R "__init__" "Reader.__init__" sRInit r_init)
    (hr_at_end : MetIn K R "at_end" "Reader.at_end" sAtEnd r_at_end)
    (hr_take_number : MetIn K R "take_number" "Reader.take_number" sTakeN r_take_number)
    (hr_take_numbers : MetIn K R "take_numbers" "Reader.take_numbers" sTakeNs r_take_numbers)
    (hr_take_lists : MetIn K R "take_lists" "Reader.take_lists" sTakeL r_take_lists)
    (c_SHAPE : PySem.W.nsIn K mainGlobals "SHAPE" = some (some (.int 0 t_SHAPE)))
    (c_FREES : PySem.W.nsIn K mainGlobals "FREES" = some (some (.int 1 t_FREES)))
    (c_PUSH : PySem.W.nsIn K mainGlobals "PUSH" = some (some (.int 2 t_PUSH)))
    (c_CORE : PySem.W.nsIn K mainGlobals "CORE" = some (some (.int 3 t_CORE)))
    (c_LEANING : PySem.W.nsIn K mainGlobals "LEANING" = some (some (.int 4 t_LEANING)))
    (c_LEAVE : PySem.W.nsIn K mainGlobals "LEAVE" = some (some (.int 5 t_LEAVE)))
    (c_BONE : PySem.W.nsIn K mainGlobals "BONE" = some (some (.int 6 t_BONE)))
    (c_FEWEST : PySem.W.nsIn K mainGlobals "FEWEST" = some (some (.int 7 t_FEWEST)))
    (c_LISTED : PySem.W.nsIn K mainGlobals "LISTED" = some (some (.int 8 t_LISTED)))
    (c_UNDO : PySem.W.nsIn K mainGlobals "UNDO" = some (some (.int 9 t_UNDO)))
    (c_MOST_CORNERS : PySem.W.nsIn K mainGlobals "MOST_CORNERS" = some (some (.int 4 t_MOST_CORNERS)))
    (c_LAST_CORNER : PySem.W.nsIn K mainGlobals "LAST_CORNER" = some (some (.int 9 t_LAST_CORNER)))
    (c_MOST_SIMPLICES : PySem.W.nsIn K mainGlobals "MOST_SIMPLICES" = some (some (.int 60 t_MOST_SIMPLICES)))
    (c_MOST_FOR_FEWEST : PySem.W.nsIn K mainGlobals "MOST_FOR_FEWEST" = some (some (.int 13 t_MOST_FOR_FEWEST)))
    (c_NOT_A_SIMPLEX : PySem.W.nsIn K mainGlobals "NOT_A_SIMPLEX" = some (some (.int (-1) t_NOT_A_SIMPLEX)))
    (c_TOO_MANY : PySem.W.nsIn K mainGlobals "TOO_MANY" = some (some (.int (-2) t_TOO_MANY)))
    (c_NOT_THERE : PySem.W.nsIn K mainGlobals "NOT_THERE" = some (some (.int (-3) t_NOT_THERE)))
    (c_TOO_MANY_FOR_FEWEST : PySem.W.nsIn K mainGlobals "TOO_MANY_FOR_FEWEST" = some (some (.int (-5) t_TOO_MANY_FOR_FEWEST)))
    (c_NOT_FREE : PySem.W.nsIn K mainGlobals "NOT_FREE" = some (some (.int (-6) t_NOT_FREE)))
    (c_NOT_LEANING : PySem.W.nsIn K mainGlobals "NOT_LEANING" = some (some (.int (-6) t_NOT_LEANING)))
    (c_NOTHING_TO_UNDO : PySem.W.nsIn K mainGlobals "NOTHING_TO_UNDO" = some (some (.int (-7) t_NOTHING_TO_UNDO)))
    (z_len : PySem.W.nsIn K mainGlobals "len" = some none)
    (z_set : PySem.W.nsIn K mainGlobals "set" = some none)
    (z_min : PySem.W.nsIn K mainGlobals "min" = some none)
    (z_max : PySem.W.nsIn K mainGlobals "max" = some none)
    (z_tuple : PySem.W.nsIn K mainGlobals "tuple" = some none)
    (z_sorted : PySem.W.nsIn K mainGlobals "sorted" = some none)
    (z_list : PySem.W.nsIn K mainGlobals "list" = some none)
    (z_range : PySem.W.nsIn K mainGlobals "range" = some none)
    (z_enumerate : PySem.W.nsIn K mainGlobals "enumerate" = some none)
    (a1 : NoAttr K C "simplices") (a2 : NoAttr K C "earlier") (a3 : NoAttr K R "calls") (a4 : NoAttr K R "place") :
    ∃ fd : FuncData, (∀ (s : Shared) (us : List Value), us.length = (["calls"] : List Str).length → BindsTo s fd ⟨us, []⟩ ((["calls"] : List Str).zip us)) ∧ ∀ base : Heap, K.In base → base.Ns mainGlobals mg → FnOk P w K mg base CX0 7 fa fd ["calls"] (spAnswers K) := by
  obtain ⟨n_is_simplex, d_is_simplex, F_is_simplex⟩ := h_is_simplex
  have m_is_simplex := PySem.W.mg_of X G n_is_simplex
  have b_is_simplex := F_is_simplex.binds (ps := ["corners"]) fun _ _ _ _ _ _ us hl => match us, hl with | [_], _ => rfl
  obtain ⟨n_rising, d_rising, F_rising⟩ := h_rising
  have m_rising := PySem.W.mg_of X G n_rising
  have b_rising := F_rising.binds (ps := ["corners"]) fun _ _ _ _ _ _ us hl => match us, hl with | [_], _ => rfl
  obtain ⟨n_place_in_order, d_place_in_order, F_place_in_order⟩ := h_place_in_order
  have m_place_in_order := PySem.W.mg_of X G n_place_in_order
  have b_place_in_order := F_place_in_order.binds (ps := ["simplex"]) fun _ _ _ _ _ _ us hl => match us, hl with | [_], _ => rfl
  obtain ⟨n_faces_of, d_faces_of, F_faces_of⟩ := h_faces_of
  have m_faces_of := PySem.W.mg_of X G n_faces_of
  have b_faces_of := F_faces_of.binds (ps := ["simplex"]) fun _ _ _ _ _ _ us hl => match us, hl with | [_], _ => rfl
  obtain ⟨n_with_all_faces, d_with_all_faces, F_with_all_faces⟩ := h_with_all_faces
  have m_with_all_faces := PySem.W.mg_of X G n_with_all_faces
  have b_with_all_faces := F_with_all_faces.binds (ps := ["simplices"]) fun _ _ _ _ _ _ us hl => match us, hl with | [_], _ => rfl
  obtain ⟨n_is_face, d_is_face, F_is_face⟩ := h_is_face
  have m_is_face := PySem.W.mg_of X G n_is_face
  have b_is_face := F_is_face.binds (ps := ["simplex", "other"]) fun _ _ _ _ _ _ us hl => match us, hl with | [_, _], _ => rfl
  obtain ⟨n_others_above, d_others_above, F_others_above⟩ := h_others_above
  have m_others_above := PySem.W.mg_of X G n_others_above
  have b_others_above := F_others_above.binds (ps := ["simplices", "simplex"]) fun _ _ _ _ _ _ us hl => match us, hl with | [_, _], _ => rfl
  obtain ⟨n_tops_of, d_tops_of, F_tops_of⟩ := h_tops_of
  have m_tops_of := PySem.W.mg_of X G n_tops_of
  have b_tops_of := F_tops_of.binds (ps := ["simplices"]) fun _ _ _ _ _ _ us hl => match us, hl with | [_], _ => rfl
  obtain ⟨n_free_pairs, d_free_pairs, F_free_pairs⟩ := h_free_pairs
  have m_free_pairs := PySem.W.mg_of X G n_free_pairs
  have b_free_pairs := F_free_pairs.binds (ps := ["simplices"]) fun _ _ _ _ _ _ us hl => match us, hl with | [_], _ => rfl
  obtain ⟨n_without, d_without, F_without⟩ := h_without
  have m_without := PySem.W.mg_of X G n_without
  have b_without := F_without.binds (ps := ["simplices", "gone"]) fun _ _ _ _ _ _ us hl => match us, hl with | [_, _], _ => rfl
  obtain ⟨n_without_corner, d_without_corner, F_without_corner⟩ := h_without_corner
  have m_without_corner := PySem.W.mg_of X G n_without_corner
  have b_without_corner := F_without_corner.binds (ps := ["simplices", "corner"]) fun _ _ _ _ _ _ us hl => match us, hl with | [_, _], _ => rfl
  obtain ⟨n_corners_of, d_corners_of, F_corners_of⟩ := h_corners_of
  have m_corners_of := PySem.W.mg_of X G n_corners_of
  have b_corners_of := F_corners_of.binds (ps := ["simplices"]) fun _ _ _ _ _ _ us hl => match us, hl with | [_], _ => rfl
  obtain ⟨n_leans, d_leans, F_leans⟩ := h_leans
  have m_leans := PySem.W.mg_of X G n_leans
  have b_leans := F_leans.binds (ps := ["tops", "corner", "other"]) fun _ _ _ _ _ _ us hl => match us, hl with | [_, _, _], _ => rfl
  obtain ⟨n_lowest_leaned_on, d_lowest_leaned_on, F_lowest_leaned_on⟩ := h_lowest_leaned_on
  have m_lowest_leaned_on := PySem.W.mg_of X G n_lowest_leaned_on
  have b_lowest_leaned_on := F_lowest_leaned_on.binds (ps := ["tops", "corners", "corner"]) fun _ _ _ _ _ _ us hl => match us, hl with | [_, _, _], _ => rfl
  obtain ⟨n_leaning_pairs, d_leaning_pairs, F_leaning_pairs⟩ := h_leaning_pairs
  have m_leaning_pairs := PySem.W.mg_of X G n_leaning_pairs
  have b_leaning_pairs := F_leaning_pairs.binds (ps := ["simplices"]) fun _ _ _ _ _ _ us hl => match us, hl with | [_], _ => rfl
  obtain ⟨n_bits_above, d_bits_above, F_bits_above⟩ := h_bits_above
  have m_bits_above := PySem.W.mg_of X G n_bits_above
  have b_bits_above := F_bits_above.binds (ps := ["simplices"]) fun _ _ _ _ _ _ us hl => match us, hl with | [_], _ => rfl
  obtain ⟨n_steps_from, d_steps_from, F_steps_from⟩ := h_steps_from
  have m_steps_from := PySem.W.mg_of X G n_steps_from
  have b_steps_from := F_steps_from.binds (ps := ["above", "left"]) fun _ _ _ _ _ _ us hl => match us, hl with | [_, _], _ => rfl
  obtain ⟨n_fewest_cuts, d_fewest_cuts, F_fewest_cuts⟩ := h_fewest_cuts
  have m_fewest_cuts := PySem.W.mg_of X G n_fewest_cuts
  have b_fewest_cuts := F_fewest_cuts.binds (ps := ["simplices"]) fun _ _ _ _ _ _ us hl => match us, hl with | [_], _ => rfl
  obtain ⟨n_boundary_row, d_boundary_row, F_boundary_row⟩ := h_boundary_row
  have m_boundary_row := PySem.W.mg_of X G n_boundary_row
  have b_boundary_row := F_boundary_row.binds (ps := ["simplices", "simplex"]) fun _ _ _ _ _ _ us hl => match us, hl with | [_, _], _ => rfl
  obtain ⟨n_first_not_zero, d_first_not_zero, F_first_not_zero⟩ := h_first_not_zero
  have m_first_not_zero := PySem.W.mg_of X G n_first_not_zero
  have b_first_not_zero := F_first_not_zero.binds (ps := ["row"]) fun _ _ _ _ _ _ us hl => match us, hl with | [_], _ => rfl
  obtain ⟨n_cleared_at, d_cleared_at, F_cleared_at⟩ := h_cleared_at
  have m_cleared_at := PySem.W.mg_of X G n_cleared_at
  have b_cleared_at := F_cleared_at.binds (ps := ["place", "row", "first"]) fun _ _ _ _ _ _ us hl => match us, hl with | [_, _, _], _ => rfl
  obtain ⟨n_rank_of, d_rank_of, F_rank_of⟩ := h_rank_of
  have m_rank_of := PySem.W.mg_of X G n_rank_of
  have b_rank_of := F_rank_of.binds (ps := ["rows"]) fun _ _ _ _ _ _ us hl => match us, hl with | [_], _ => rfl
  obtain ⟨n_holes_in_all, d_holes_in_all, F_holes_in_all⟩ := h_holes_in_all
  have m_holes_in_all := PySem.W.mg_of X G n_holes_in_all
  have b_holes_in_all := F_holes_in_all.binds (ps := ["simplices"]) fun _ _ _ _ _ _ us hl => match us, hl with | [_], _ => rfl
  obtain ⟨n_told, d_told, F_told⟩ := h_told
  have m_told := PySem.W.mg_of X G n_told
  have b_told := F_told.binds (ps := ["simplices"]) fun _ _ _ _ _ _ us hl => match us, hl with | [_], _ => rfl
  obtain ⟨n_answer_of, d_answer_of, F_answer_of⟩ := h_answer_of
  have m_answer_of := PySem.W.mg_of X G n_answer_of
  have b_answer_of := F_answer_of.binds (ps := ["shape", "call", "numbers", "lists"]) fun _ _ _ _ _ _ us hl => match us, hl with | [_, _, _, _], _ => rfl
  obtain ⟨n_answers, d_answers, F_answers⟩ := h_answers
  have m_answers := PySem.W.mg_of X G n_answers
  have b_answers := F_answers.binds (ps := ["calls"]) fun _ _ _ _ _ _ us hl => match us, hl with | [_], _ => rfl
  obtain ⟨ns_init, is_init, ds_init, Fs_init⟩ := hs_init
  have bs_init := Fs_init.binds (ps := ["self"]) fun _ _ _ _ _ _ us hl => match us, hl with | [_], _ => rfl
  obtain ⟨ns_change_to, is_change_to, ds_change_to, Fs_change_to⟩ := hs_change_to
  have bs_change_to := Fs_change_to.binds (ps := ["self", "simplices"]) fun _ _ _ _ _ _ us hl => match us, hl with | [_, _], _ => rfl
  obtain ⟨ns_become, is_become, ds_become, Fs_become⟩ := hs_become
  have bs_become := Fs_become.binds (ps := ["self", "lists"]) fun _ _ _ _ _ _ us hl => match us, hl with | [_, _], _ => rfl
  obtain ⟨ns_frees, is_frees, ds_frees, Fs_frees⟩ := hs_frees
  have bs_frees := Fs_frees.binds (ps := ["self"]) fun _ _ _ _ _ _ us hl => match us, hl with | [_], _ => rfl
  obtain ⟨ns_push, is_push, ds_push, Fs_push⟩ := hs_push
  have bs_push := Fs_push.binds (ps := ["self", "corners"]) fun _ _ _ _ _ _ us hl => match us, hl with | [_, _], _ => rfl
  obtain ⟨ns_core, is_core, ds_core, Fs_core⟩ := hs_core
  have bs_core := Fs_core.binds (ps := ["self"]) fun _ _ _ _ _ _ us hl => match us, hl with | [_], _ => rfl
  obtain ⟨ns_leaning, is_leaning, ds_leaning, Fs_leaning⟩ := hs_leaning
  have bs_leaning := Fs_leaning.binds (ps := ["self"]) fun _ _ _ _ _ _ us hl => match us, hl with | [_], _ => rfl
  obtain ⟨ns_leave, is_leave, ds_leave, Fs_leave⟩ := hs_leave
  have bs_leave := Fs_leave.binds (ps := ["self", "corner"]) fun _ _ _ _ _ _ us hl => match us, hl with | [_, _], _ => rfl
  obtain ⟨ns_bone, is_bone, ds_bone, Fs_bone⟩ := hs_bone
  have bs_bone := Fs_bone.binds (ps := ["self"]) fun _ _ _ _ _ _ us hl => match us, hl with | [_], _ => rfl
  obtain ⟨ns_fewest, is_fewest, ds_fewest, Fs_fewest⟩ := hs_fewest
  have bs_fewest := Fs_fewest.binds (ps := ["self"]) fun _ _ _ _ _ _ us hl => match us, hl with | [_], _ => rfl
  obtain ⟨ns_listed, is_listed, ds_listed, Fs_listed⟩ := hs_listed
  have bs_listed := Fs_listed.binds (ps := ["self"]) fun _ _ _ _ _ _ us hl => match us, hl with | [_], _ => rfl
  obtain ⟨ns_undo, is_undo, ds_undo, Fs_undo⟩ := hs_undo
  have bs_undo := Fs_undo.binds (ps := ["self"]) fun _ _ _ _ _ _ us hl => match us, hl with | [_], _ => rfl
  obtain ⟨nr_init, ir_init, dr_init, Fr_init⟩ := hr_init
  have br_init := Fr_init.binds (ps := ["self", "calls"]) fun _ _ _ _ _ _ us hl => match us, hl with | [_, _], _ => rfl
  obtain ⟨nr_at_end, ir_at_end, dr_at_end, Fr_at_end⟩ := hr_at_end
  have br_at_end := Fr_at_end.binds (ps := ["self"]) fun _ _ _ _ _ _ us hl => match us, hl with | [_], _ => rfl
  obtain ⟨nr_take_number, ir_take_number, dr_take_number, Fr_take_number⟩ := hr_take_number
  have br_take_number := Fr_take_number.binds (ps := ["self"]) fun _ _ _ _ _ _ us hl => match us, hl with | [_], _ => rfl
  obtain ⟨nr_take_numbers, ir_take_numbers, dr_take_numbers, Fr_take_numbers⟩ := hr_take_numbers
  have br_take_numbers := Fr_take_numbers.binds (ps := ["self"]) fun _ _ _ _ _ _ us hl => match us, hl with | [_], _ => rfl
  obtain ⟨nr_take_lists, ir_take_lists, dr_take_lists, Fr_take_lists⟩ := hr_take_lists
  have br_take_lists := Fr_take_lists.binds (ps := ["self"]) fun _ _ _ _ _ _ us hl => match us, hl with | [_], _ => rfl
  have k_SHAPE := PySem.W.mg_of X G c_SHAPE
  have k_FREES := PySem.W.mg_of X G c_FREES
  have k_PUSH := PySem.W.mg_of X G c_PUSH
  have k_CORE := PySem.W.mg_of X G c_CORE
  have k_LEANING := PySem.W.mg_of X G c_LEANING
  have k_LEAVE := PySem.W.mg_of X G c_LEAVE
  have k_BONE := PySem.W.mg_of X G c_BONE
  have k_FEWEST := PySem.W.mg_of X G c_FEWEST
  have k_LISTED := PySem.W.mg_of X G c_LISTED
  have k_UNDO := PySem.W.mg_of X G c_UNDO
  have k_MOST_CORNERS := PySem.W.mg_of X G c_MOST_CORNERS
  have k_LAST_CORNER := PySem.W.mg_of X G c_LAST_CORNER
  have k_MOST_SIMPLICES := PySem.W.mg_of X G c_MOST_SIMPLICES
  have k_MOST_FOR_FEWEST := PySem.W.mg_of X G c_MOST_FOR_FEWEST
  have k_NOT_A_SIMPLEX := PySem.W.mg_of X G c_NOT_A_SIMPLEX
  have k_TOO_MANY := PySem.W.mg_of X G c_TOO_MANY
  have k_NOT_THERE := PySem.W.mg_of X G c_NOT_THERE
  have k_TOO_MANY_FOR_FEWEST := PySem.W.mg_of X G c_TOO_MANY_FOR_FEWEST
  have k_NOT_FREE := PySem.W.mg_of X G c_NOT_FREE
  have k_NOT_LEANING := PySem.W.mg_of X G c_NOT_LEANING
  have k_NOTHING_TO_UNDO := PySem.W.mg_of X G c_NOTHING_TO_UNDO
  have y_len := PySem.W.mg_none_of X G z_len
  have y_set := PySem.W.mg_none_of X G z_set
  have y_min := PySem.W.mg_none_of X G z_min
  have y_max := PySem.W.mg_none_of X G z_max
  have y_tuple := PySem.W.mg_none_of X G z_tuple
  have y_sorted := PySem.W.mg_none_of X G z_sorted
  have y_list := PySem.W.mg_none_of X G z_list
  have y_range := PySem.W.mg_none_of X G z_range
  have y_enumerate := PySem.W.mg_none_of X G z_enumerate
  have e := hfa.symm.trans m_answers
  cases e
  have T : ShTx K C := ⟨⟨hC.cl, a1⟩, a2⟩
  have TR : RdTxt K R := ⟨hR.cl, a3, a4⟩
  refine ⟨d_answers, fun s us hu => b_answers_of F_answers s us hu, fun base _ _ => ?_⟩
  have g_is_face : FnOk P w K mg base CX0 1 f_is_face d_is_face _ (spIsFace K) := ok_isFace F_is_face
  have g_others : FnOk P w K mg base CX0 2 f_others_above d_others_above _ spOthers := ok_others F_others_above g_is_face m_is_face F_is_face.kp b_is_face
  have g_tops : FnOk P w K mg base CX0 3 f_tops_of d_tops_of _ spTops := ok_tops F_tops_of y_len g_others m_others_above F_others_above.kp b_others_above
  have g_free : FnOk P w K mg base CX0 3 f_free_pairs d_free_pairs _ spFree := ok_free F_free_pairs y_len g_others m_others_above F_others_above.kp b_others_above
  have g_without : FnOk P w K mg base CX0 4 f_without d_without _ (spWithout K) := ok_without F_without
  have g_withoutC : FnOk P w K mg base CX0 4 f_without_corner d_without_corner _ (spWithoutC K) := ok_withoutC F_without_corner
  have g_corners : FnOk P w K mg base CX0 3 f_corners_of d_corners_of _ spCorners := ok_corners F_corners_of y_len
  have g_leans : FnOk P w K mg base CX0 1 f_leans d_leans _ (spLeans K) := ok_leans F_leans
  have g_lowest : FnOk P w K mg base CX0 2 f_lowest_leaned_on d_lowest_leaned_on _ (spLowest K) := ok_lowest F_lowest_leaned_on g_leans m_leans F_leans.kp b_leans
  have g_leanP : FnOk P w K mg base CX0 4 f_leaning_pairs d_leaning_pairs _ spLeanP := ok_leanP F_leaning_pairs g_tops m_tops_of F_tops_of.kp b_tops_of g_corners m_corners_of F_corners_of.kp b_corners_of (g_lowest.mono (by decide)) m_lowest_leaned_on F_lowest_leaned_on.kp b_lowest_leaned_on
  have g_bits : FnOk P w K mg base CX0 2 f_bits_above d_bits_above _ spBits := ok_bits F_bits_above y_enumerate g_is_face m_is_face F_is_face.kp b_is_face
  have g_steps : FnOk P w K mg base CX0 2 f_steps_from d_steps_from _ spSteps := ok_steps F_steps_from y_enumerate
  have g_cuts : FnOk P w K mg base CX0 3 f_fewest_cuts d_fewest_cuts _ spCuts := ok_cuts F_fewest_cuts y_len y_range y_min g_bits m_bits_above F_bits_above.kp b_bits_above g_steps m_steps_from F_steps_from.kp b_steps_from
  have g_row : FnOk P w K mg base CX0 2 f_boundary_row d_boundary_row _ spRow := ok_row F_boundary_row y_len y_range
  have g_first : FnOk P w K mg base CX0 1 f_first_not_zero d_first_not_zero _ (spFirst K) := ok_first F_first_not_zero y_enumerate
  have g_clr : FnOk P w K mg base CX0 1 f_cleared_at d_cleared_at _ (spClr K) := ok_clr F_cleared_at y_len y_range
  have g_rank : FnOk P w K mg base CX0 2 f_rank_of d_rank_of _ spRank := ok_rank F_rank_of y_len g_first m_first_not_zero F_first_not_zero.kp b_first_not_zero g_clr m_cleared_at F_cleared_at.kp b_cleared_at
  have g_holes : FnOk P w K mg base CX0 3 f_holes_in_all d_holes_in_all _ spHoles := ok_holes F_holes_in_all y_len g_row m_boundary_row F_boundary_row.kp b_boundary_row g_rank m_rank_of F_rank_of.kp b_rank_of
  have g_told : FnOk P w K mg base CX0 4 f_told d_told _ (spTold K) := ok_told F_told y_len
  have g_isSim : FnOk P w K mg base CX0 4 f_is_simplex d_is_simplex _ (spIsSim K) := ok_isSim F_is_simplex y_len y_set y_min y_max k_MOST_CORNERS k_LAST_CORNER
  have g_rising : FnOk P w K mg base CX0 4 f_rising d_rising _ (spRising K) := ok_rising F_rising y_tuple y_sorted
  have g_faces : FnOk P w K mg base CX0 3 f_faces_of d_faces_of _ (spFaces K) := ok_faces F_faces_of
  have g_with : FnOk P w K mg base CX0 4 f_with_all_faces d_with_all_faces _ (spWith K) := ok_with (k := 0) F_with_all_faces y_len y_list y_sorted g_faces m_faces_of F_faces_of.kp b_faces_of F_place_in_order m_place_in_order b_place_in_order
  have g_change : FnOk P w K mg base CX0 4 s_change_to ds_change_to _ (spChange C) := ok_change Fs_change_to T y_len
  have me_change : Meth K C "change_to" s_change_to := ⟨ns_change_to, is_change_to, Fs_change_to.kp⟩
  have M0 : MOk P w K mg base C 5 "become" ["self", "lists"] (spBecome C) s_become ds_become := ⟨ok_become Fs_become T y_len k_NOT_A_SIMPLEX k_TOO_MANY k_MOST_SIMPLICES g_isSim m_is_simplex F_is_simplex.kp b_is_simplex g_rising m_rising F_rising.kp b_rising g_with m_with_all_faces F_with_all_faces.kp b_with_all_faces, ⟨ns_become, is_become, Fs_become.kp⟩, bs_become⟩
  have M1 : MOk P w K mg base C 5 "frees" ["self"] (spCall0 C .frees) s_frees ds_frees := ⟨ok_frees' fun rest => ok_frees Fs_frees T.t y_len (g_free.mono (by decide)) m_free_pairs F_free_pairs.kp b_free_pairs, ⟨ns_frees, is_frees, Fs_frees.kp⟩, bs_frees⟩
  have M2 : MOk P w K mg base C 5 "push" ["self", "corners"] (spPush C) s_push ds_push := ⟨ok_push Fs_push T y_len k_NOT_A_SIMPLEX k_NOT_THERE k_NOT_FREE g_isSim m_is_simplex F_is_simplex.kp b_is_simplex g_rising m_rising F_rising.kp b_rising (g_others.mono (by decide)) m_others_above F_others_above.kp b_others_above g_without m_without F_without.kp b_without g_change me_change bs_change_to, ⟨ns_push, is_push, Fs_push.kp⟩, bs_push⟩
  have M3 : MOk P w K mg base C 5 "core" ["self"] (spCall0 C .core) s_core ds_core := ⟨ok_core' fun rest => ok_core Fs_core T.t y_len (g_free.mono (by decide)) m_free_pairs F_free_pairs.kp b_free_pairs g_without m_without F_without.kp b_without (g_tops.mono (by decide)) m_tops_of F_tops_of.kp b_tops_of g_told m_told F_told.kp b_told, ⟨ns_core, is_core, Fs_core.kp⟩, bs_core⟩
  have M4 : MOk P w K mg base C 5 "leaning" ["self"] (spCall0 C .leaning) s_leaning ds_leaning := ⟨ok_leaning' fun rest => ok_leaning Fs_leaning T.t y_len g_leanP m_leaning_pairs F_leaning_pairs.kp b_leaning_pairs, ⟨ns_leaning, is_leaning, Fs_leaning.kp⟩, bs_leaning⟩
  have M5 : MOk P w K mg base C 5 "leave" ["self", "corner"] (spLeave C) s_leave ds_leave := ⟨ok_leave Fs_leave T k_NOT_THERE k_NOT_LEANING (g_corners.mono (by decide)) m_corners_of F_corners_of.kp b_corners_of (g_tops.mono (by decide)) m_tops_of F_tops_of.kp b_tops_of (g_lowest.mono (by decide)) m_lowest_leaned_on F_lowest_leaned_on.kp b_lowest_leaned_on g_withoutC m_without_corner F_without_corner.kp b_without_corner g_change me_change bs_change_to, ⟨ns_leave, is_leave, Fs_leave.kp⟩, bs_leave⟩
  have M6 : MOk P w K mg base C 5 "bone" ["self"] (spCall0 C .bone) s_bone ds_bone := ⟨ok_bone Fs_bone T y_len g_leanP m_leaning_pairs F_leaning_pairs.kp b_leaning_pairs g_withoutC m_without_corner F_without_corner.kp b_without_corner (g_tops.mono (by decide)) m_tops_of F_tops_of.kp b_tops_of g_told m_told F_told.kp b_told (g_corners.mono (by decide)) m_corners_of F_corners_of.kp b_corners_of, ⟨ns_bone, is_bone, Fs_bone.kp⟩, bs_bone⟩
  have M7 : MOk P w K mg base C 5 "fewest" ["self"] (spCall0 C .fewest) s_fewest ds_fewest := ⟨ok_fewest Fs_fewest T y_len k_MOST_FOR_FEWEST k_TOO_MANY_FOR_FEWEST (g_cuts.mono (by decide)) m_fewest_cuts F_fewest_cuts.kp b_fewest_cuts (g_holes.mono (by decide)) m_holes_in_all F_holes_in_all.kp b_holes_in_all, ⟨ns_fewest, is_fewest, Fs_fewest.kp⟩, bs_fewest⟩
  have M8 : MOk P w K mg base C 5 "listed" ["self"] (spCall0 C .list) s_listed ds_listed := ⟨ok_listed Fs_listed T g_told m_told F_told.kp b_told, ⟨ns_listed, is_listed, Fs_listed.kp⟩, bs_listed⟩
  have M9 : MOk P w K mg base C 5 "undo" ["self"] (spCall0 C .undo) s_undo ds_undo := ⟨ok_undo Fs_undo T y_len k_NOTHING_TO_UNDO, ⟨ns_undo, is_undo, Fs_undo.kp⟩, bs_undo⟩
  have g_ansOf : FnOk P w K mg base CX0 6 f_answer_of d_answer_of _ (spAnsOf C) := ok_ansOf F_answer_of T k_SHAPE k_FREES k_PUSH k_CORE k_LEANING k_LEAVE k_BONE k_FEWEST k_LISTED k_UNDO M0 M1 M2 M3 M4 M5 M6 M7 M8 M9
  have me_takeN : Meth K R "take_number" r_take_number := ⟨nr_take_number, ir_take_number, Fr_take_number.kp⟩
  have me_takeNs : Meth K R "take_numbers" r_take_numbers := ⟨nr_take_numbers, ir_take_numbers, Fr_take_numbers.kp⟩
  have g_takeN : FnOk P w K mg base CX0 1 r_take_number dr_take_number _ (spTakeN K R) := ok_takeN Fr_take_number TR
  have g_takeNs : FnOk P w K mg base CX0 2 r_take_numbers dr_take_numbers _ (spTakeNs K R) := ok_takeNs Fr_take_numbers TR g_takeN me_takeN br_take_number
  have g_takeL : FnOk P w K mg base CX0 3 r_take_lists dr_take_lists _ (spTakeL K R) := ok_takeL Fr_take_lists TR y_range (g_takeN.mono (by decide)) me_takeN br_take_number g_takeNs me_takeNs br_take_numbers
  exact ok_answers (k := 5) F_answers TR y_len ⟨hR.mks, nr_init, ir_init, hR.kept⟩ (ok_rinit Fr_init TR) (PySem.W.mg_of X G hR.ns) br_init ⟨hC.mks, ns_init, is_init, hC.kept⟩ (ok_sinit Fs_init T) (PySem.W.mg_of X G hC.ns) bs_init
    ⟨ok_atEnd Fr_at_end TR y_len, ⟨nr_at_end, ir_at_end, Fr_at_end.kp⟩, br_at_end⟩ ⟨g_takeN.mono (by decide), me_takeN, br_take_number⟩ ⟨g_takeNs.mono (by decide), me_takeNs, br_take_numbers⟩ ⟨g_takeL.mono (by decide), ⟨nr_take_lists, ir_take_lists, Fr_take_lists.kp⟩, br_take_lists⟩
    g_ansOf m_answer_of F_answer_of.kp b_answer_of
theorem len_of {a : PySem.W.Codec.denoteAll PySem.Challenge.fa_shapecores_s01_answers} (h : PySem.W.Codec.withinAll PySem.Challenge.fa_shapecores_s01_answers a = true) : List.length (α := Int) a.1 ≤ 30000 := by
  obtain ⟨l, u⟩ := a
  have h0 : (PySem.W.Codec.inList 0 30000 (PySem.W.Codec.within (.int (Int.negSucc 4294967294) (Int.ofNat 4294967295))) l && true) = true := h
  rw [Bool.and_true] at h0
  have h1 := (Bool.and_eq_true _ _).mp (show (PySem.W.Codec.inNat 0 30000 (List.length l) && _) = true from h0)
  have h2 : (decide (0 ≤ List.length l) && decide (List.length l ≤ 30000)) = true := h1.1
  have h3 := (Bool.and_eq_true _ _).mp h2
  exact of_decide_eq_true h3.2
end Sh

open PySem PySem.W PyProof.Rows
set_option maxRecDepth 100000 in
set_option maxHeartbeats 8000000 in
theorem PySem.Challenge.cw_shapecores_s01_answers_holds : PySem.Challenge.rw_shapecores_s01_answers.Holds := by
  w_on; k_headS; (case hw => exact ⟨[.list [.int 1, .int 0, .int 0]], by decide +kernel, by decide +kernel⟩)
  k_fillS
  refine L2.walk_specK (r := PySem.Challenge.rw_shapecores_s01_answers) (k := 7) (CX := L2.CX0) (ps := ["calls"]) (sp := Sh.spAnswers) (by decide +kernel) rfl rfl ⟨rfl, by decide, by decide⟩ (fun w h Y => PySem.W.kIn_of Y) ?F ?S (fun _ _ _ _ z => z)
  case F =>
    intro w mg fa h Y KX G hmg
    refine' Sh.all_mk KX G hmg ?hC ?hR ?h_is_simplex ?h_rising ?h_place_in_order ?h_faces_of ?h_with_all_faces ?h_is_face ?h_others_above ?h_tops_of ?h_free_pairs ?h_without ?h_without_corner ?h_corners_of ?h_leans ?h_lowest_leaned_on ?h_leaning_pairs ?h_bits_above ?h_steps_from ?h_fewest_cuts ?h_boundary_row ?h_first_not_zero ?h_cleared_at ?h_rank_of ?h_holes_in_all ?h_told ?h_answer_of ?h_answers ?hs_init ?hs_change_to ?hs_become ?hs_frees ?hs_push ?hs_core ?hs_leaning ?hs_leave ?hs_bone ?hs_fewest ?hs_listed ?hs_undo ?hr_init ?hr_at_end ?hr_take_number ?hr_take_numbers ?hr_take_lists ?c_SHAPE ?c_FREES ?c_PUSH ?c_CORE ?c_LEANING ?c_LEAVE ?c_BONE ?c_FEWEST ?c_LISTED ?c_UNDO ?c_MOST_CORNERS ?c_LAST_CORNER ?c_MOST_SIMPLICES ?c_MOST_FOR_FEWEST ?c_NOT_A_SIMPLEX ?c_TOO_MANY ?c_NOT_THERE ?c_TOO_MANY_FOR_FEWEST ?c_NOT_FREE ?c_NOT_LEANING ?c_NOTHING_TO_UNDO ?z_len ?z_set ?z_min ?z_max ?z_tuple ?z_sorted ?z_list ?z_range ?z_enumerate ?a1 ?a2 ?a3 ?a4
    case hC => exact ⟨by k_is, ⟨by k_is, by k_is, by k_is, by k_is⟩, by k_is, by k_is⟩
    case hR => exact ⟨by k_is, ⟨by k_is, by k_is, by k_is, by k_is⟩, by k_is, by k_is⟩
    case h_is_simplex => exact ⟨by k_is, _, L2.fun_mk (st := Sh.sIsSim) (by k_is) (by k_is) (by k_is)⟩
    case h_rising => exact ⟨by k_is, _, L2.fun_mk (st := Sh.sRising) (by k_is) (by k_is) (by k_is)⟩
    case h_place_in_order => exact ⟨by k_is, _, L2.fun_mk (st := Sh.sPlace) (by k_is) (by k_is) (by k_is)⟩
    case h_faces_of => exact ⟨by k_is, _, L2.fun_mk (st := Sh.sFaces) (by k_is) (by k_is) (by k_is)⟩
    case h_with_all_faces => exact ⟨by k_is, _, L2.fun_mk (st := Sh.sWith) (by k_is) (by k_is) (by k_is)⟩
    case h_is_face => exact ⟨by k_is, _, L2.fun_mk (st := Sh.sIsFace) (by k_is) (by k_is) (by k_is)⟩
    case h_others_above => exact ⟨by k_is, _, L2.fun_mk (st := Sh.sOthers) (by k_is) (by k_is) (by k_is)⟩
    case h_tops_of => exact ⟨by k_is, _, L2.fun_mk (st := Sh.sTops) (by k_is) (by k_is) (by k_is)⟩
    case h_free_pairs => exact ⟨by k_is, _, L2.fun_mk (st := Sh.sFree) (by k_is) (by k_is) (by k_is)⟩
    case h_without => exact ⟨by k_is, _, L2.fun_mk (st := Sh.sWithout) (by k_is) (by k_is) (by k_is)⟩
    case h_without_corner => exact ⟨by k_is, _, L2.fun_mk (st := Sh.sWithoutC) (by k_is) (by k_is) (by k_is)⟩
    case h_corners_of => exact ⟨by k_is, _, L2.fun_mk (st := Sh.sCorners) (by k_is) (by k_is) (by k_is)⟩
    case h_leans => exact ⟨by k_is, _, L2.fun_mk (st := Sh.sLeans) (by k_is) (by k_is) (by k_is)⟩
    case h_lowest_leaned_on => exact ⟨by k_is, _, L2.fun_mk (st := Sh.sLowest) (by k_is) (by k_is) (by k_is)⟩
    case h_leaning_pairs => exact ⟨by k_is, _, L2.fun_mk (st := Sh.sLeanP) (by k_is) (by k_is) (by k_is)⟩
    case h_bits_above => exact ⟨by k_is, _, L2.fun_mk (st := Sh.sBits) (by k_is) (by k_is) (by k_is)⟩
    case h_steps_from => exact ⟨by k_is, _, L2.fun_mk (st := Sh.sSteps) (by k_is) (by k_is) (by k_is)⟩
    case h_fewest_cuts => exact ⟨by k_is, _, L2.fun_mk (st := Sh.sCuts) (by k_is) (by k_is) (by k_is)⟩
    case h_boundary_row => exact ⟨by k_is, _, L2.fun_mk (st := Sh.sRow) (by k_is) (by k_is) (by k_is)⟩
    case h_first_not_zero => exact ⟨by k_is, _, L2.fun_mk (st := Sh.sFirst) (by k_is) (by k_is) (by k_is)⟩
    case h_cleared_at => exact ⟨by k_is, _, L2.fun_mk (st := Sh.sClr) (by k_is) (by k_is) (by k_is)⟩
    case h_rank_of => exact ⟨by k_is, _, L2.fun_mk (st := Sh.sRank) (by k_is) (by k_is) (by k_is)⟩
    case h_holes_in_all => exact ⟨by k_is, _, L2.fun_mk (st := Sh.sHoles) (by k_is) (by k_is) (by k_is)⟩
    case h_told => exact ⟨by k_is, _, L2.fun_mk (st := Sh.sTold) (by k_is) (by k_is) (by k_is)⟩
    case h_answer_of => exact ⟨by k_is, _, L2.fun_mk (st := Sh.sAnsOf) (by k_is) (by k_is) (by k_is)⟩
    case h_answers => exact ⟨by k_is, _, L2.fun_mk (st := Sh.sAnswers) (by k_is) (by k_is) (by k_is)⟩
    case hs_init => exact ⟨by k_is, by k_is, _, L2.fun_mk (st := Sh.sSInit) (by k_is) (by k_is) (by k_is)⟩
    case hs_change_to => exact ⟨by k_is, by k_is, _, L2.fun_mk (st := Sh.sChange) (by k_is) (by k_is) (by k_is)⟩
    case hs_become => exact ⟨by k_is, by k_is, _, L2.fun_mk (st := Sh.sBecome) (by k_is) (by k_is) (by k_is)⟩
    case hs_frees => exact ⟨by k_is, by k_is, _, L2.fun_mk (st := Sh.sFrees) (by k_is) (by k_is) (by k_is)⟩
    case hs_push => exact ⟨by k_is, by k_is, _, L2.fun_mk (st := Sh.sPush) (by k_is) (by k_is) (by k_is)⟩
    case hs_core => exact ⟨by k_is, by k_is, _, L2.fun_mk (st := Sh.sCore) (by k_is) (by k_is) (by k_is)⟩
    case hs_leaning => exact ⟨by k_is, by k_is, _, L2.fun_mk (st := Sh.sLeaning) (by k_is) (by k_is) (by k_is)⟩
    case hs_leave => exact ⟨by k_is, by k_is, _, L2.fun_mk (st := Sh.sLeave) (by k_is) (by k_is) (by k_is)⟩
    case hs_bone => exact ⟨by k_is, by k_is, _, L2.fun_mk (st := Sh.sBone) (by k_is) (by k_is) (by k_is)⟩
    case hs_fewest => exact ⟨by k_is, by k_is, _, L2.fun_mk (st := Sh.sFewest) (by k_is) (by k_is) (by k_is)⟩
    case hs_listed => exact ⟨by k_is, by k_is, _, L2.fun_mk (st := Sh.sListed) (by k_is) (by k_is) (by k_is)⟩
    case hs_undo => exact ⟨by k_is, by k_is, _, L2.fun_mk (st := Sh.sUndo) (by k_is) (by k_is) (by k_is)⟩
    case hr_init => exact ⟨by k_is, by k_is, _, L2.fun_mk (st := Sh.sRInit) (by k_is) (by k_is) (by k_is)⟩
    case hr_at_end => exact ⟨by k_is, by k_is, _, L2.fun_mk (st := Sh.sAtEnd) (by k_is) (by k_is) (by k_is)⟩
    case hr_take_number => exact ⟨by k_is, by k_is, _, L2.fun_mk (st := Sh.sTakeN) (by k_is) (by k_is) (by k_is)⟩
    case hr_take_numbers => exact ⟨by k_is, by k_is, _, L2.fun_mk (st := Sh.sTakeNs) (by k_is) (by k_is) (by k_is)⟩
    case hr_take_lists => exact ⟨by k_is, by k_is, _, L2.fun_mk (st := Sh.sTakeL) (by k_is) (by k_is) (by k_is)⟩
    case c_SHAPE => k_is
    case c_FREES => k_is
    case c_PUSH => k_is
    case c_CORE => k_is
    case c_LEANING => k_is
    case c_LEAVE => k_is
    case c_BONE => k_is
    case c_FEWEST => k_is
    case c_LISTED => k_is
    case c_UNDO => k_is
    case c_MOST_CORNERS => k_is
    case c_LAST_CORNER => k_is
    case c_MOST_SIMPLICES => k_is
    case c_MOST_FOR_FEWEST => k_is
    case c_NOT_A_SIMPLEX => k_is
    case c_TOO_MANY => k_is
    case c_NOT_THERE => k_is
    case c_TOO_MANY_FOR_FEWEST => k_is
    case c_NOT_FREE => k_is
    case c_NOT_LEANING => k_is
    case c_NOTHING_TO_UNDO => k_is
    case z_len => k_is
    case z_set => k_is
    case z_min => k_is
    case z_max => k_is
    case z_tuple => k_is
    case z_sorted => k_is
    case z_list => k_is
    case z_range => k_is
    case z_enumerate => k_is
    case a1 => show PySem.W.findIn _ _ _ = _; k_is
    case a2 => show PySem.W.findIn _ _ _ = _; k_is
    case a3 => show PySem.W.findIn _ _ _ = _; k_is
    case a4 => show PySem.W.findIn _ _ _ = _; k_is
  case S =>
    intro K H xs a hO hwi hask hx
    cases hx with
    | cons h1 h2 =>
      cases h2
      cases h1 with
      | lst hs ha =>
        have e := L2.ints_dw a.1 _ ha
        subst e
        exact ⟨_, a.1, rfl, hs, Sh.len_of hwi, hask, fun H' p _ _ hp => .lst (L2.SqL.of hp) (L2.dw_ints _)⟩
