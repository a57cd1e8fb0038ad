import PyProof.Rows.All
import Wide.All
import OpenK.AllK
import Wide.FinOn
import Open.SpecLaws
import KE.OsGo
import HandS.ForSpec
import HandS.ForMost
import HandS.Wide
import HandS.Evl
import HandS.SortInts
import HandS.Conv
import HandS.More
import HandS.Deep
import KE.KDictList
import HandS.Walk
import KE.DatumOrd
import PySem.Challenge.RW_nearestsites_s01_answers
set_option Elab.async false
set_option linter.all false
namespace NS
open GkBase

/-! Lists: triples in order, neighbours in order. -/
def Trip {A : Type} (T : A → A → A → Prop) : List A → Prop
  | [] => True
  | a :: l => l.Pairwise (T a) ∧ Trip T l

theorem trip_append {A : Type} {T : A → A → A → Prop} : ∀ {l m : List A},
    Trip T (l ++ m) ↔ Trip T l ∧ Trip T m ∧ (∀ a ∈ l, m.Pairwise (T a)) ∧ l.Pairwise (fun a b => ∀ c ∈ m, T a b c)
  | [], m => by simp [Trip]
  | x :: l, m => by
    simp only [List.cons_append, Trip, List.pairwise_append, trip_append (l := l) (m := m), List.pairwise_cons, List.mem_cons]
    constructor
    · rintro ⟨⟨h1, h2, h3⟩, h4, h5, h6, h7⟩
      refine ⟨⟨h1, h4⟩, h5, ?_, h3, h7⟩
      rintro a (rfl | ha)
      · exact h2
      · exact h6 a ha
    · rintro ⟨⟨h1, h4⟩, h5, h6, h3, h7⟩
      exact ⟨⟨h1, h6 x (Or.inl rfl), h3⟩, h4, h5, fun a ha => h6 a (Or.inr ha), h7⟩

theorem trip_rot {A : Type} {T : A → A → A → Prop} (hc : ∀ a b c, T a b c → T b c a) {l m : List A}
    (h : Trip T (l ++ m)) : Trip T (m ++ l) := by
  rw [trip_append] at h ⊢
  obtain ⟨h1, h2, h3, h4⟩ := h
  refine ⟨h2, h1, ?_, ?_⟩
  · intro b hb
    rw [List.pairwise_iff_forall_sublist] at h4 ⊢
    intro x y hs
    have := h4 hs b hb
    exact hc _ _ _ (hc _ _ _ this)
  · rw [List.pairwise_iff_forall_sublist]
    intro x y hs a ha
    have := (List.pairwise_iff_forall_sublist.mp (h3 a ha)) hs
    exact hc _ _ _ this

theorem trip_map {A B : Type} {T : B → B → B → Prop} {f : A → B} : ∀ {l : List A},
    Trip T (l.map f) ↔ Trip (fun a b c => T (f a) (f b) (f c)) l
  | [] => by simp [Trip]
  | x :: l => by simp [Trip, List.pairwise_map, trip_map (l := l)]

theorem trip_imp {A : Type} {T U : A → A → A → Prop} (h : ∀ a b c, T a b c → U a b c) : ∀ {l : List A}, Trip T l → Trip U l
  | [], _ => trivial
  | x :: l, p => ⟨p.1.imp (fun {a b} => h x a b), trip_imp h p.2⟩

theorem trip_and {A : Type} {T U : A → A → A → Prop} : ∀ {l : List A}, Trip T l → Trip U l → Trip (fun a b c => T a b c ∧ U a b c) l
  | [], _, _ => trivial
  | x :: l, p, q => ⟨p.1.and q.1, trip_and p.2 q.2⟩

theorem trip_flatMap {A B : Type} {T : B → B → B → Prop} {g : A → List B} : ∀ {l : List A},
    (∀ e ∈ l, Trip T (g e)) →
    l.Pairwise (fun e f => (∀ w ∈ g f, (g e).Pairwise (fun u v => T u v w)) ∧ (∀ u ∈ g e, (g f).Pairwise (T u))) →
    Trip (fun e f k => ∀ u ∈ g e, ∀ v ∈ g f, ∀ w ∈ g k, T u v w) l → Trip T (l.flatMap g)
  | [], _, _, _ => trivial
  | x :: l, h1, h2, h3 => by
    rw [List.flatMap_cons, trip_append]
    rw [List.pairwise_cons] at h2
    refine ⟨h1 x (List.mem_cons_self ..), trip_flatMap (fun e he => h1 e (List.mem_cons_of_mem _ he)) h2.2 h3.2, ?_, ?_⟩
    · intro a ha
      rw [List.pairwise_flatMap]
      refine ⟨fun e he => (h2.1 e he).2 a ha, ?_⟩
      exact h3.1.imp fun {e f} h v hv w hw => h a ha v hv w hw
    · have key : ∀ (m : List B), (∀ w ∈ m, (g x).Pairwise (fun u v => T u v w)) → (g x).Pairwise (fun a b => ∀ c ∈ m, T a b c) := by
        intro m hm
        rw [List.pairwise_iff_forall_sublist]
        intro a b hs c hc
        exact (List.pairwise_iff_forall_sublist.mp (hm c hc)) hs
      apply key
      intro w hw
      rw [List.mem_flatMap] at hw
      obtain ⟨f, hf, hw⟩ := hw
      exact (h2.1 f hf).1 w hw

/-- neighbours -/
def pairs {A : Type} : List A → List (A × A)
  | a :: b :: r => (a, b) :: pairs (b :: r)
  | _ => []

theorem pairs_mem {A : Type} : ∀ {m : List A} {e : A × A}, e ∈ pairs m → e.1 ∈ m ∧ e.2 ∈ m.tail
  | [], e, h => by simp [pairs] at h
  | [a], e, h => by simp [pairs] at h
  | a :: b :: r, e, h => by
    simp only [pairs, List.mem_cons] at h
    rcases h with rfl | h
    · simp
    · have := pairs_mem (m := b :: r) h
      simp only [List.tail_cons] at this ⊢
      exact ⟨List.mem_cons_of_mem _ this.1, List.mem_cons_of_mem _ this.2⟩

theorem pairs_pw {A : Type} {S : A → A → Prop} : ∀ {m : List A}, (∀ x ∈ m, S x x) → m.Pairwise S →
    (pairs m).Pairwise (fun e f => S e.1 f.1 ∧ S e.1 f.2 ∧ S e.2 f.1 ∧ S e.2 f.2)
  | [], _, _ => by simp [pairs]
  | [a], _, _ => by simp [pairs]
  | a :: b :: r, hr, h => by
    rw [List.pairwise_cons] at h
    have hb := (List.pairwise_cons.mp h.2).1
    simp only [pairs, List.pairwise_cons]
    refine ⟨fun f hf => ?_, pairs_pw (fun x hx => hr x (List.mem_cons_of_mem _ hx)) h.2⟩
    have m1 := pairs_mem hf
    simp only [List.tail_cons] at m1
    refine ⟨h.1 _ m1.1, h.1 _ (List.mem_cons_of_mem _ m1.2), ?_, hb _ m1.2⟩
    rcases List.mem_cons.mp m1.1 with e | e
    · rw [e]; exact hr b (by simp)
    · exact hb _ e

theorem pairs_trip {A : Type} {W : A → A → A → Prop} (h1 : ∀ x y, W x x y) (h2 : ∀ x y, W x y y) : ∀ {m : List A}, Trip W m →
    Trip (fun e f k => (W e.1 f.1 k.1 ∧ W e.1 f.1 k.2 ∧ W e.1 f.2 k.1 ∧ W e.1 f.2 k.2) ∧
      (W e.2 f.1 k.1 ∧ W e.2 f.1 k.2 ∧ W e.2 f.2 k.1 ∧ W e.2 f.2 k.2)) (pairs m)
  | [], _ => trivial
  | [a], _ => trivial
  | a :: b :: r, h => by
    refine ⟨?_, pairs_trip h1 h2 h.2⟩
    have p1 := pairs_pw (m := b :: r) (S := W a) (fun x _ => h2 a x) h.1
    have p2 := pairs_pw (m := b :: r) (S := W b) (fun x _ => h2 b x) (List.pairwise_cons.mpr ⟨fun y _ => h1 b y, h.2.1⟩)
    exact (p1.and p2).imp fun {e f} q => ⟨⟨q.1.1, q.1.2.1, q.1.2.2.1, q.1.2.2.2⟩, ⟨q.2.1, q.2.2.1, q.2.2.2.1, q.2.2.2.2⟩⟩

theorem pairs_append {A : Type} (x : A) : ∀ (l m : List A), pairs (l ++ x :: m) = pairs (l ++ [x]) ++ pairs (x :: m)
  | [], m => by simp [pairs]
  | [a], m => by simp [pairs]
  | a :: b :: r, m => by
    have := pairs_append x (b :: r) m
    simp only [List.cons_append, pairs] at this ⊢
    rw [this]

theorem pairs_fst {A : Type} (y : A) : ∀ (l : List A), (pairs (l ++ [y])).map Prod.fst = l
  | [] => rfl
  | [a] => rfl
  | a :: b :: r => by
    have := pairs_fst y (b :: r)
    simp only [List.cons_append, pairs, List.map_cons] at this ⊢
    rw [this]

theorem sides_eq (o : Pt) (l : List Pt) : sides (o :: l) = pairs (o :: l ++ [o]) := by
  have key : ∀ (l : List Pt) (a o : Pt), (a :: l).zip (l ++ [o]) = pairs (a :: l ++ [o]) := by
    intro l
    induction l with
    | nil => intro a o; rfl
    | cons b r ih =>
      intro a o
      have := ih b o
      simp only [List.cons_append, List.zip_cons_cons, pairs] at this ⊢
      rw [this]
  exact key l o o

/-! Rotation. -/
def Rot {A : Type} (c d : List A) : Prop := ∃ l m, c = l ++ m ∧ d = m ++ l

theorem Rot.refl {A : Type} (c : List A) : Rot c c := ⟨[], c, rfl, by simp⟩
theorem Rot.symm {A : Type} {c d : List A} (h : Rot c d) : Rot d c := by
  obtain ⟨l, m, h1, h2⟩ := h
  exact ⟨m, l, h2, h1⟩
theorem Rot.trans {A : Type} {c d e : List A} (h : Rot c d) (k : Rot d e) : Rot c e := by
  obtain ⟨l, m, h1, h2⟩ := h
  obtain ⟨p, q, h3, h4⟩ := k
  rw [h2] at h3
  rcases List.append_eq_append_iff.mp h3 with ⟨x, e1, e2⟩ | ⟨x, e1, e2⟩
  · subst e1 e2 h1 h4
    exact ⟨x, q ++ m, by simp, by simp⟩
  · subst e1 e2 h1 h4
    exact ⟨l ++ p, x, by simp, by simp⟩
theorem Rot.length {A : Type} {c d : List A} (h : Rot c d) : c.length = d.length := by
  obtain ⟨l, m, h1, h2⟩ := h
  simp [h1, h2, Nat.add_comm]
theorem Rot.mem {A : Type} {c d : List A} (h : Rot c d) (x : A) : x ∈ c ↔ x ∈ d := by
  obtain ⟨l, m, h1, h2⟩ := h
  simp [h1, h2, or_comm]
theorem Rot.map {A B : Type} {c d : List A} (f : A → B) (h : Rot c d) : Rot (c.map f) (d.map f) := by
  obtain ⟨l, m, h1, h2⟩ := h
  exact ⟨l.map f, m.map f, by simp [h1], by simp [h2]⟩
theorem Rot.flatMap {A B : Type} {c d : List A} (f : A → List B) (h : Rot c d) : Rot (c.flatMap f) (d.flatMap f) := by
  obtain ⟨l, m, h1, h2⟩ := h
  exact ⟨l.flatMap f, m.flatMap f, by simp [h1], by simp [h2]⟩
theorem Rot.trip {A : Type} {T : A → A → A → Prop} (hc : ∀ a b c, T a b c → T b c a) {c d : List A} (h : Rot c d)
    (t : Trip T c) : Trip T d := by
  obtain ⟨l, m, h1, h2⟩ := h
  subst h1 h2
  exact trip_rot hc t
theorem rot_sides {c d : List Pt} (h : Rot c d) : Rot (sides c) (sides d) := by
  obtain ⟨l, m, h1, h2⟩ := h
  cases l with
  | nil => simp at h1 h2; subst h1 h2; exact Rot.refl _
  | cons a l =>
    cases m with
    | nil => simp at h1 h2; subst h1 h2; exact Rot.refl _
    | cons b m =>
      subst h1 h2
      refine ⟨pairs (a :: l ++ [b]), pairs (b :: m ++ [a]), ?_, ?_⟩
      · rw [List.cons_append, sides_eq]
        have := pairs_append b (a :: l) (m ++ [a])
        simpa using this
      · rw [List.cons_append, sides_eq]
        have := pairs_append a (b :: m) (l ++ [b])
        simpa using this
theorem rot_to {A : Type} {c : List A} {x : A} (h : x ∈ c) : ∃ l, Rot c (x :: l) := by
  obtain ⟨l, m, e⟩ := List.append_of_mem h
  exact ⟨m ++ l, l, x :: m, e, by simp⟩
end NS

set_option Elab.async false
set_option linter.all false
namespace NS
open GkBase Gk04

/-! Lines: (a, b, c) stands for a x + b y + c. -/
abbrev Ln := Rat × Rat × Rat
def ev (l : Ln) (p : Pt) : Rat := l.1 * p.1 + l.2.1 * p.2 + l.2.2
def mix (u : Rat) (p q : Pt) : Pt := (p.1 + u * (q.1 - p.1), p.2 + u * (q.2 - p.2))
/-- where the line comes to 0 between the side's ends -/
def xpt (l : Ln) (e : Seg) : Pt := mix (ev l e.1 / (ev l e.1 - ev l e.2)) e.1 e.2
def crosses (l : Ln) (e : Seg) : Prop := (ev l e.1 < 0 ∧ 0 < ev l e.2) ∨ (ev l e.2 < 0 ∧ 0 < ev l e.1)
instance (l : Ln) (e : Seg) : Decidable (crosses l e) := by unfold crosses; infer_instance
def clip1 (l : Ln) (e : Seg) : List Pt :=
  (if ev l e.1 ≤ 0 then [e.1] else []) ++ (if crosses l e then [xpt l e] else [])
def clip (l : Ln) (c : List Pt) : List Pt := (sides c).flatMap (clip1 l)

def bis (s t : Pt) : Ln := (2 * (t.1 - s.1), 2 * (t.2 - s.2), s.1 * s.1 + s.2 * s.2 - t.1 * t.1 - t.2 * t.2)
theorem ev_bis (s t p : Pt) : ev (bis s t) p = nearer s t p := by
  unfold ev bis nearer far2; grind
theorem clip1_eq (s t : Pt) (e : Seg) : cutSide s t e = clip1 (bis s t) e := by
  unfold cutSide clip1 crosses xpt mix
  simp only [ev_bis]
theorem cut_eq (s t : Pt) (c : List Pt) : cut s c t = bare (once (clip (bis s t) c)) := by
  unfold cut clip
  have : cutSide s t = clip1 (bis s t) := funext (clip1_eq s t)
  rw [this]

theorem cross_cyc (a b c : Pt) : cross a b c = cross b c a := by unfold cross; grind
theorem cross_aab (a b : Pt) : cross a a b = 0 := by unfold cross; grind
theorem cross_abb (a b : Pt) : cross a b b = 0 := by unfold cross; grind
theorem cross_aba (a b : Pt) : cross a b a = 0 := by unfold cross; grind
theorem cross_mix1 (u : Rat) (p q b c : Pt) : cross (mix u p q) b c = (1 - u) * cross p b c + u * cross q b c := by
  unfold cross mix; grind
theorem cross_mix2 (u : Rat) (p q a c : Pt) : cross a (mix u p q) c = (1 - u) * cross a p c + u * cross a q c := by
  unfold cross mix; grind
theorem cross_mix3 (u : Rat) (p q a b : Pt) : cross a b (mix u p q) = (1 - u) * cross a b p + u * cross a b q := by
  unfold cross mix; grind
theorem ev_mix (l : Ln) (u : Rat) (p q : Pt) : ev l (mix u p q) = (1 - u) * ev l p + u * ev l q := by
  unfold ev mix; grind
theorem mix_zero (p q : Pt) : mix 0 p q = p := by
  unfold mix; ext <;> grind

def T (a b c : Pt) : Prop := 0 < cross a b c
def W (a b c : Pt) : Prop := 0 ≤ cross a b c
theorem T_cyc (a b c : Pt) (h : T a b c) : T b c a := by unfold T at *; rw [← cross_cyc]; exact h
theorem W1 (x y : Pt) : W x x y := by unfold W; rw [cross_aab]; exact Rat.le_refl
theorem W2 (x y : Pt) : W x y y := by unfold W; rw [cross_abb]; exact Rat.le_refl
theorem T_W (a b c : Pt) (h : T a b c) : W a b c := Rat.le_of_lt h

/-- the crossing's share -/
theorem cross_share {l : Ln} {e : Seg} (h : crosses l e) :
    0 < ev l e.1 / (ev l e.1 - ev l e.2) ∧ ev l e.1 / (ev l e.1 - ev l e.2) < 1 := by
  unfold crosses at h
  generalize ev l e.1 = a at *
  generalize ev l e.2 = b at *
  rcases h with ⟨h1, h2⟩ | ⟨h1, h2⟩
  · have e : a / (a - b) = (-a) / (b - a) := by
      have : a - b ≠ 0 := by grind
      have : b - a ≠ 0 := by grind
      grind
    rw [e, Rat.lt_div_iff (by grind), Rat.div_lt_iff (by grind)]
    constructor <;> grind
  · rw [Rat.lt_div_iff (by grind), Rat.div_lt_iff (by grind)]
    constructor <;> grind
theorem ev_xpt {l : Ln} {e : Seg} (h : crosses l e) : ev l (xpt l e) = 0 := by
  unfold xpt
  rw [ev_mix]
  unfold crosses at h
  generalize ev l e.1 = a at *
  generalize ev l e.2 = b at *
  have : a - b ≠ 0 := by grind
  grind

def Sh (l : Ln) (e : Seg) (u : Pt) : Prop := ∃ k : Rat, 0 ≤ k ∧ k < 1 ∧ u = mix k e.1 e.2 ∧ ((k = 0 ∧ ev l e.1 ≤ 0) ∨ (0 < k ∧ crosses l e))
theorem sh_of {l : Ln} {e : Seg} {u : Pt} (h : u ∈ clip1 l e) : Sh l e u := by
  unfold clip1 at h
  rw [List.mem_append] at h
  rcases h with h | h
  · split at h
    · rename_i h0
      rw [List.mem_singleton] at h
      subst h
      exact ⟨0, Rat.le_refl, by decide, (mix_zero _ _).symm, .inl ⟨rfl, h0⟩⟩
    · simp at h
  · split at h
    · rename_i h0
      rw [List.mem_singleton] at h
      subst h
      have := cross_share h0
      exact ⟨_, Rat.le_of_lt this.1, this.2, rfl, .inr ⟨this.1, h0⟩⟩
    · simp at h

theorem pos_mix {k A B : Rat} (h0 : 0 ≤ k) (h1 : k < 1) (ha : 0 < A) (hb : 0 ≤ B) : 0 < (1 - k) * A + k * B := by
  have := Rat.mul_pos (show 0 < 1 - k by grind) ha
  have := Rat.mul_nonneg h0 hb
  grind
theorem nn_mix {k A B : Rat} (h0 : 0 ≤ k) (h1 : k < 1) (ha : 0 ≤ A) (hb : 0 ≤ B) : 0 ≤ (1 - k) * A + k * B := by
  have := Rat.mul_nonneg (show 0 ≤ 1 - k by grind) ha
  have := Rat.mul_nonneg h0 hb
  grind
theorem pos_mix' {k A B : Rat} (h0 : 0 < k) (h1 : k < 1) (ha : 0 ≤ A) (hb : 0 < B) : 0 < (1 - k) * A + k * B := by
  have := Rat.mul_nonneg (show 0 ≤ 1 - k by grind) ha
  have := Rat.mul_pos h0 hb
  grind

theorem T_three {e f k : Seg} {a b c : Rat} (a0 : 0 ≤ a) (a1 : a < 1) (b0 : 0 ≤ b) (b1 : b < 1) (c0 : 0 ≤ c) (c1 : c < 1)
    (h : T e.1 f.1 k.1)
    (w : (W e.1 f.1 k.1 ∧ W e.1 f.1 k.2 ∧ W e.1 f.2 k.1 ∧ W e.1 f.2 k.2) ∧
      (W e.2 f.1 k.1 ∧ W e.2 f.1 k.2 ∧ W e.2 f.2 k.1 ∧ W e.2 f.2 k.2)) :
    T (mix a e.1 e.2) (mix b f.1 f.2) (mix c k.1 k.2) := by
  unfold T W at *
  obtain ⟨⟨w1, w2, w3, w4⟩, w5, w6, w7, w8⟩ := w
  rw [cross_mix1, cross_mix2, cross_mix2, cross_mix3, cross_mix3, cross_mix3, cross_mix3]
  exact pos_mix a0 a1 (pos_mix b0 b1 (pos_mix c0 c1 h w2) (nn_mix c0 c1 w3 w4))
    (nn_mix b0 b1 (nn_mix c0 c1 w5 w6) (nn_mix c0 c1 w7 w8))

/-- what two sides in order have -/
def PA (e f : Seg) : Prop := (f.1 = e.2 ∧ T e.1 e.2 f.2) ∨ (T e.1 e.2 f.1 ∧ W e.1 e.2 f.2)
def PB (e f : Seg) : Prop := (f.2 = e.1 ∧ T e.2 f.1 f.2) ∨ (T e.1 f.1 f.2 ∧ W e.2 f.1 f.2)

theorem clip1_cases (l : Ln) (e : Seg) : (clip1 l e = [e.1, xpt l e] ∧ ev l e.1 ≤ 0 ∧ crosses l e) ∨ (clip1 l e).length ≤ 1 := by
  unfold clip1
  split <;> split <;> simp_all
theorem pw_short {A : Type} {R : A → A → Prop} {l : List A} (h : l.length ≤ 1) : l.Pairwise R := by
  match l, h with
  | [], _ => simp
  | [a], _ => simp
theorem trip_short {l : List Pt} (h : l.length ≤ 2) : Trip T l := by
  match l, h with
  | [], _ => trivial
  | [a], _ => simp [Trip]
  | [a, b], _ => simp [Trip]
theorem clip1_short (l : Ln) (e : Seg) : (clip1 l e).length ≤ 2 := by
  unfold clip1
  split <;> split <;> simp_all

theorem pair1 {l : Ln} {e f : Seg} (h : PA e f) {w : Pt} (hw : w ∈ clip1 l f) : (clip1 l e).Pairwise (fun u v => T u v w) := by
  rcases clip1_cases l e with ⟨h1, h2, h3⟩ | h1
  · rw [h1]
    simp only [List.pairwise_cons, List.mem_singleton, List.not_mem_nil, false_implies, implies_true, List.Pairwise.nil, and_true, forall_eq]
    obtain ⟨s0, s1⟩ := cross_share h3
    obtain ⟨k, k0, k1, rfl, hk⟩ := sh_of hw
    unfold xpt T
    rw [cross_mix2, cross_aab]
    refine pos_mix' s0 s1 Rat.le_refl ?_
    rw [cross_mix3]
    rcases h with ⟨h, g⟩ | ⟨h, g⟩
    · rw [h, cross_abb]
      rcases hk with ⟨_, hk⟩ | ⟨hk, _⟩
      · rw [h] at hk
        unfold crosses at h3
        grind
      · exact pos_mix' hk k1 Rat.le_refl g
    · exact pos_mix k0 k1 h g
  · exact pw_short h1
theorem pair2 {l : Ln} {e f : Seg} (h : PB e f) {u : Pt} (hu : u ∈ clip1 l e) : (clip1 l f).Pairwise (T u) := by
  rcases clip1_cases l f with ⟨h1, h2, h3⟩ | h1
  · rw [h1]
    simp only [List.pairwise_cons, List.mem_singleton, List.not_mem_nil, false_implies, implies_true, List.Pairwise.nil, and_true, forall_eq]
    obtain ⟨s0, s1⟩ := cross_share h3
    obtain ⟨k, k0, k1, rfl, hk⟩ := sh_of hu
    unfold xpt T
    rw [cross_mix3, cross_abb]
    refine pos_mix' s0 s1 Rat.le_refl ?_
    rw [cross_mix1]
    rcases h with ⟨h, g⟩ | ⟨h, g⟩
    · rw [← h, cross_aba]
      rcases hk with ⟨_, hk⟩ | ⟨hk, _⟩
      · rw [← h] at hk
        unfold crosses at h3
        grind
      · exact pos_mix' hk k1 Rat.le_refl g
    · exact pos_mix k0 k1 h g
  · exact pw_short h1

theorem pairs_rel {A : Type} {S : A → A → Prop} : ∀ {m : List A}, m.Pairwise S → ∀ f ∈ pairs m, S f.1 f.2
  | [], _, f, hf => by simp [pairs] at hf
  | [a], _, f, hf => by simp [pairs] at hf
  | a :: b :: r, h, f, hf => by
    rw [List.pairwise_cons] at h
    simp only [pairs, List.mem_cons] at hf
    rcases hf with rfl | hf
    · exact h.1 b (by simp)
    · exact pairs_rel h.2 f hf
theorem pairs_snoc {A : Type} (y : A) : ∀ (m : List A) (f : A × A), f ∈ pairs (m ++ [y]) → f ∈ pairs m ∨ (f.2 = y ∧ f.1 ∈ m)
  | [], f, hf => by simp [pairs] at hf
  | [a], f, hf => by simp [pairs] at hf; subst hf; simp
  | a :: b :: r, f, hf => by
    simp only [List.cons_append, pairs, List.mem_cons] at hf
    rcases hf with rfl | hf
    · simp [pairs]
    · rcases pairs_snoc y (b :: r) f hf with h | h
      · left; simp only [pairs, List.mem_cons]; exact .inr h
      · right; exact ⟨h.1, List.mem_cons_of_mem _ h.2⟩
theorem strictAB : ∀ {m : List Pt}, Trip T m → (pairs m).Pairwise (fun e f => PA e f ∧ PB e f)
  | [], _ => by simp [pairs]
  | [a], _ => by simp [pairs]
  | [a, b], _ => by simp [pairs]
  | x :: y :: z :: r, h => by
    have ih := strictAB (m := y :: z :: r) h.2
    simp only [pairs, List.pairwise_cons] at ih ⊢
    refine ⟨?_, ih⟩
    intro f hf
    have hx := h.1
    have hy := h.2.1
    rw [List.pairwise_cons] at hx
    rcases List.mem_cons.mp hf with rfl | hf
    · have t1 : T x y z := hx.1 z (by simp)
      exact ⟨.inl ⟨rfl, t1⟩, .inr ⟨t1, W1 _ _⟩⟩
    · have mm := pairs_mem hf
      simp only [List.tail_cons] at mm
      refine ⟨.inr ⟨hx.1 _ mm.1, T_W _ _ _ (hx.1 _ (List.mem_cons_of_mem _ mm.2))⟩, .inr ⟨pairs_rel hx.2 f hf, T_W _ _ _ (pairs_rel hy f hf)⟩⟩

theorem sidesAB {c : List Pt} (h3 : 3 ≤ c.length) (h : Trip T c) : (sides c).Pairwise (fun e f => PA e f ∧ PB e f) := by
  match c, h3 with
  | o :: a :: b :: l, _ =>
    have h' : Trip T ((a :: b :: l) ++ [o]) := trip_rot T_cyc (l := [o]) h
    have ih := strictAB h'
    rw [sides_eq]
    simp only [List.cons_append, pairs, List.pairwise_cons] at ih ⊢
    refine ⟨?_, ih⟩
    have ho := h.1
    rw [List.pairwise_cons] at ho
    have ha := h.2.1
    intro f hf
    rcases List.mem_cons.mp hf with rfl | hf
    · have t1 : T o a b := ho.1 b (by simp)
      exact ⟨.inl ⟨rfl, t1⟩, .inr ⟨t1, W1 _ _⟩⟩
    · rcases pairs_snoc o (b :: l) f hf with hf | hf
      · have mm := pairs_mem hf
        simp only [List.tail_cons] at mm
        exact ⟨.inr ⟨ho.1 _ mm.1, T_W _ _ _ (ho.1 _ (List.mem_cons_of_mem _ mm.2))⟩, .inr ⟨pairs_rel ho.2 f hf, T_W _ _ _ (pairs_rel ha f hf)⟩⟩
      · have t1 : T o a f.1 := ho.1 _ hf.2
        refine ⟨.inr ⟨t1, ?_⟩, .inl ⟨hf.1, ?_⟩⟩
        · rw [hf.1]; unfold W; rw [cross_aba]; exact Rat.le_refl
        · rw [hf.1]; exact T_cyc _ _ _ t1

theorem trip_clip {l : Ln} {c : List Pt} (h3 : 3 ≤ c.length) (h : Trip T c) : Trip T (clip l c) := by
  unfold clip
  refine trip_flatMap (fun e _ => trip_short (clip1_short l e)) ?_ ?_
  · exact (sidesAB h3 h).imp fun {e f} p => ⟨fun w hw => pair1 p.1 hw, fun u hu => pair2 p.2 hu⟩
  · match c, h3 with
    | o :: r, _ =>
      rw [sides_eq]
      have w : Trip W ((o :: r) ++ [o]) := by
        rw [trip_append]
        refine ⟨trip_imp T_W h, by simp [Trip], fun a _ => by simp, ?_⟩
        rw [List.pairwise_cons]
        constructor
        · intro b _ x hx
          rw [List.mem_singleton] at hx
          subst hx
          unfold W; rw [cross_aba]; exact Rat.le_refl
        · refine h.1.imp fun {a b} t x hx => ?_
          rw [List.mem_singleton] at hx
          subst hx
          exact T_W _ _ _ (T_cyc _ _ _ t)
      have w8 := pairs_trip W1 W2 w
      have t1 : Trip T ((pairs ((o :: r) ++ [o])).map Prod.fst) := by rw [pairs_fst]; exact h
      rw [trip_map] at t1
      refine trip_imp ?_ (trip_and t1 w8)
      intro e f k p u hu v hv w hw
      obtain ⟨a, a0, a1, rfl, _⟩ := sh_of hu
      obtain ⟨b, b0, b1, rfl, _⟩ := sh_of hv
      obtain ⟨c, c0, c1, rfl, _⟩ := sh_of hw
      exact T_three a0 a1 b0 b1 c0 c1 p.1 p.2
end NS

set_option Elab.async false
set_option linter.all false
namespace NS
open GkBase Gk04

theorem gl {A : Type} (p q : A) (r : List A) (h : p :: (r ++ [q]) ≠ []) : (p :: (r ++ [q])).getLast h = q := by
  have h2 : (p :: r) ++ [q] ≠ [] := h
  have : ((p :: r) ++ [q]).getLast h2 = q := List.getLast_concat
  exact this

theorem path_adj {l : Ln} {P : Pt → Pt → Prop} (h0 : ∀ u v, ev l u = 0 → ev l v = 0 → P u v) (q : Pt) (hq : ev l q ≤ 0) :
    ∀ (r : List Pt) (p u : Pt), (p :: r).getLast (by simp) = q →
      (∀ e ∈ pairs (p :: r), P e.1 e.2 ∧ (crosses l e → P e.1 (xpt l e) ∧ P (xpt l e) e.2)) →
      (ev l p ≤ 0 → P u p) → (0 < ev l p → ev l u = 0) →
      ∀ e ∈ pairs (u :: ((pairs (p :: r)).flatMap (clip1 l) ++ [q])), P e.1 e.2
  | [], p, u, hl, hs, h1, h2 => by
    simp only [List.getLast_singleton] at hl
    subst hl
    simp only [pairs, List.flatMap_nil, List.nil_append, List.mem_singleton]
    rintro e rfl
    exact h1 hq
  | b :: r, p, u, hl, hs, h1, h2 => by
    have hl' : (b :: r).getLast (by simp) = q := by rw [List.getLast_cons (by simp)] at hl; exact hl
    have hs' : ∀ e ∈ pairs (b :: r), P e.1 e.2 ∧ (crosses l e → P e.1 (xpt l e) ∧ P (xpt l e) e.2) :=
      fun e he => hs e (by simp only [pairs, List.mem_cons]; exact .inr he)
    have hpb := hs (p, b) (by simp [pairs])
    have ih := fun u => path_adj h0 q hq r b u hl' hs'
    simp only [pairs, List.flatMap_cons]
    by_cases hp : ev l p ≤ 0
    · by_cases hc : crosses l (p, b)
      · have e1 : clip1 l (p, b) = [p, xpt l (p, b)] := by
          unfold clip1; rw [if_pos hp, if_pos hc]; rfl
        rw [e1]
        have i1 := ih (xpt l (p, b)) (fun hb => (hpb.2 hc).2) (fun _ => ev_xpt hc)
        intro e he
        simp only [List.cons_append, List.nil_append, pairs, List.mem_cons] at he
        rcases he with rfl | rfl | he
        · exact h1 hp
        · exact (hpb.2 hc).1
        · exact i1 e he
      · have e1 : clip1 l (p, b) = [p] := by
          unfold clip1; rw [if_pos hp, if_neg hc]; rfl
        rw [e1]
        have i1 := ih p (fun hb => hpb.1) (fun hb => by unfold crosses at hc; grind)
        intro e he
        simp only [List.cons_append, List.nil_append, pairs, List.mem_cons] at he
        rcases he with rfl | he
        · exact h1 hp
        · exact i1 e he
    · have hu := h2 (by grind)
      by_cases hc : crosses l (p, b)
      · have e1 : clip1 l (p, b) = [xpt l (p, b)] := by
          unfold clip1; rw [if_neg hp, if_pos hc]; rfl
        rw [e1]
        have i1 := ih (xpt l (p, b)) (fun hb => (hpb.2 hc).2) (fun _ => ev_xpt hc)
        intro e he
        simp only [List.cons_append, List.nil_append, pairs, List.mem_cons] at he
        rcases he with rfl | he
        · exact h0 _ _ hu (ev_xpt hc)
        · exact i1 e he
      · have e1 : clip1 l (p, b) = [] := by
          unfold clip1; rw [if_neg hp, if_neg hc]; rfl
        rw [e1]
        exact ih u (fun hb => h0 _ _ hu (by unfold crosses at hc; grind)) (fun _ => hu)

theorem path_zero {l : Ln} (q : Pt) : ∀ (r : List Pt) (p : Pt), (p :: r).getLast (by simp) = q →
    ((ev l p < 0 ∧ 0 < ev l q) ∨ (0 < ev l p ∧ ev l q < 0)) → ∃ u ∈ (pairs (p :: r)).flatMap (clip1 l), ev l u = 0
  | [], p, hl, h => by
    simp only [List.getLast_singleton] at hl
    subst hl
    grind
  | b :: r, p, hl, h => by
    have hl' : (b :: r).getLast (by simp) = q := by rw [List.getLast_cons (by simp)] at hl; exact hl
    simp only [pairs, List.flatMap_cons, List.mem_append]
    by_cases hb : ev l b = 0
    · match r, hl' with
      | [], hl' =>
        simp only [List.getLast_singleton] at hl'
        subst hl'
        grind
      | d :: r', _ =>
        refine ⟨b, .inr ?_, hb⟩
        simp only [pairs, List.flatMap_cons, List.mem_append]
        left
        unfold clip1
        simp [hb]
    · by_cases hc : crosses l (p, b)
      · exact ⟨xpt l (p, b), .inl (by unfold clip1; simp [hc]), ev_xpt hc⟩
      · have : (ev l b < 0 ∧ 0 < ev l q) ∨ (0 < ev l b ∧ ev l q < 0) := by
          unfold crosses at hc
          grind
        obtain ⟨u, hu, hz⟩ := path_zero q r b hl' this
        exact ⟨u, .inr hu, hz⟩

/-! A ring that turns left, with a site within. -/
def OnL (K : Ln → Prop) (s : Pt) (c : List Pt) (u v : Pt) : Prop :=
  ∃ m, K m ∧ (m.1 ≠ 0 ∨ m.2.1 ≠ 0) ∧ ev m u = 0 ∧ ev m v = 0 ∧ (∀ p ∈ c, ev m p ≤ 0) ∧ ev m s ≤ 0
structure Good (K : Ln → Prop) (s : Pt) (c : List Pt) : Prop where
  len : 3 ≤ c.length
  tri : Trip T c
  sid : ∀ e ∈ sides c, OnL K s c e.1 e.2

theorem Good.rot {K : Ln → Prop} {s : Pt} {c d : List Pt} (h : Good K s c) (r : Rot c d) : Good K s d := by
  refine ⟨by rw [← r.length]; exact h.len, r.trip T_cyc h.tri, ?_⟩
  intro e he
  obtain ⟨m, m1, m2, m3, m4, m5, m6⟩ := h.sid e (((rot_sides r).mem e).mpr he)
  exact ⟨m, m1, m2, m3, m4, fun p hp => m5 p ((r.mem p).mpr hp), m6⟩

theorem sq_pos {x : Rat} (h : x ≠ 0) : 0 < x * x := by
  rcases (show x < 0 ∨ 0 < x by grind) with h | h
  · have := Rat.mul_pos (show 0 < -x by grind) (show 0 < -x by grind)
    grind
  · exact Rat.mul_pos h h
theorem sq_nn (x : Rat) : 0 ≤ x * x := by
  by_cases h : x = 0
  · subst h; grind
  · exact Rat.le_of_lt (sq_pos h)
theorem nn_of_mul {a x : Rat} (ha : 0 < a) (h : 0 ≤ a * x) : 0 ≤ x := by
  by_cases hx : 0 ≤ x
  · exact hx
  · have := Rat.mul_pos ha (show 0 < -x by grind)
    grind

theorem left_of {m : Ln} {u v w s : Pt} (hm : m.1 ≠ 0 ∨ m.2.1 ≠ 0) (hu : ev m u = 0) (hv : ev m v = 0) (hw : ev m w ≤ 0) (hs : ev m s ≤ 0)
    (t : T u v w) : 0 ≤ cross u v s := by
  obtain ⟨A, B, C⟩ := m
  have idn : ∀ x : Pt, (A * A + B * B) * cross u v x = -((v.2 - u.2) * A - (v.1 - u.1) * B) * ev (A, B, C) x := by
    intro x
    unfold ev cross at *
    simp only at *
    grind
  have hp : 0 < A * A + B * B := by
    have := sq_nn A
    have := sq_nn B
    rcases hm with h | h
    · have := sq_pos h; grind
    · have := sq_pos h; grind
  have hk : 0 < (v.2 - u.2) * A - (v.1 - u.1) * B := by
    have e := idn w
    have := Rat.mul_pos hp t
    generalize (v.2 - u.2) * A - (v.1 - u.1) * B = k at *
    by_cases hk : 0 < k
    · exact hk
    · have := Rat.mul_nonneg (show 0 ≤ -k by grind) (show 0 ≤ - ev (A, B, C) w by grind)
      grind
  have e := idn s
  refine nn_of_mul hp ?_
  rw [e]
  have := Rat.mul_nonneg (Rat.le_of_lt hk) (show 0 ≤ - ev (A, B, C) s by grind)
  grind

theorem wedge {l : Ln} {o p q s : Pt} (t : T o p q) (h1 : 0 ≤ cross p q s) (h2 : 0 ≤ cross o p s) (hq : ev l p ≤ ev l q) (ho : ev l p ≤ ev l o) :
    ev l p ≤ ev l s := by
  have idn : cross o p q * (ev l s - ev l p) = cross o p s * (ev l q - ev l p) + cross p q s * (ev l o - ev l p) := by
    unfold cross ev; grind
  have a1 := Rat.mul_nonneg h2 (show 0 ≤ ev l q - ev l p by grind)
  have a2 := Rat.mul_nonneg h1 (show 0 ≤ ev l o - ev l p by grind)
  have := nn_of_mul t (show 0 ≤ cross o p q * (ev l s - ev l p) by rw [idn]; grind)
  grind

theorem exists_min {A : Type} (f : A → Rat) : ∀ (c : List A), c ≠ [] → ∃ p ∈ c, ∀ q ∈ c, f p ≤ f q
  | [], h => absurd rfl h
  | [a], _ => ⟨a, by simp, by simp⟩
  | a :: b :: r, _ => by
    obtain ⟨p, hp, h⟩ := exists_min f (b :: r) (by simp)
    by_cases g : f a ≤ f p
    · refine ⟨a, by simp, ?_⟩
      intro q hq
      rcases List.mem_cons.mp hq with rfl | hq
      · exact Rat.le_refl
      · have := h q hq; grind
    · refine ⟨p, by simp only [List.mem_cons] at hp ⊢; exact .inr hp, ?_⟩
      intro q hq
      rcases List.mem_cons.mp hq with rfl | hq
      · grind
      · exact h q hq

/-- the wedge at a ring's first corner -/
theorem Good.first {K : Ln → Prop} {s p : Pt} {r : List Pt} (h : Good K s (p :: r)) :
    ∃ o q, o ∈ p :: r ∧ q ∈ p :: r ∧ T o p q ∧ (o, p) ∈ sides (p :: r) ∧ (p, q) ∈ sides (p :: r) := by
  have h3 := h.len
  match r, h with
  | q :: r, h =>
    have hr : r ≠ [] := by rintro rfl; simp at h3
    obtain ⟨r', o, e⟩ : ∃ r' o, r = r' ++ [o] := ⟨r.dropLast, r.getLast hr, (List.dropLast_concat_getLast hr).symm⟩
    subst e
    refine ⟨o, q, by simp, by simp, ?_, ?_, ?_⟩
    · have := h.tri.1
      rw [List.pairwise_cons] at this
      have := this.1 o (by simp)
      exact T_cyc _ _ _ (T_cyc _ _ _ this)
    · rw [sides_eq]
      have := pairs_append o (p :: q :: r') [p]
      simp only [List.cons_append, List.append_assoc, List.nil_append] at this ⊢
      rw [this]
      simp [pairs]
    · rw [sides_eq]
      simp [pairs]

theorem Good.neg {K : Ln → Prop} {s : Pt} {c : List Pt} (h : Good K s c) {l : Ln} (hs : ev l s < 0) : ∃ p ∈ c, ev l p < 0 := by
  obtain ⟨p, hp, hm⟩ := exists_min (ev l) c (by intro e; have := h.len; simp [e] at this)
  refine ⟨p, hp, ?_⟩
  obtain ⟨r, hr⟩ := rot_to hp
  have g := h.rot hr
  obtain ⟨o, q, ho, hq, t, s1, s2⟩ := g.first
  obtain ⟨m, m1, m2, m3, m4, m5, m6⟩ := g.sid _ s1
  obtain ⟨n, n1, n2, n3, n4, n5, n6⟩ := g.sid _ s2
  have a1 := left_of m2 m3 m4 (m5 q hq) m6 t
  have a2 := left_of n2 n3 n4 (n5 o ho) n6 (T_cyc _ _ _ t)
  have := wedge (l := l) t a2 a1 (hm q ((hr.mem q).mpr hq)) (hm o ((hr.mem o).mpr ho))
  grind

theorem clip_pos {l : Ln} {c : List Pt} (h : ∀ p ∈ c, ev l p ≤ 0) : clip l c = c := by
  match c, h with
  | [], _ => rfl
  | o :: r, h =>
    unfold clip
    rw [sides_eq]
    have key : ∀ e ∈ pairs ((o :: r) ++ [o]), clip1 l e = [e.1] := by
      intro e he
      have m := pairs_mem he
      have h1 : ev l e.1 ≤ 0 := h _ (by have := m.1; simp only [List.cons_append, List.mem_cons, List.mem_append, List.not_mem_nil, or_false] at this ⊢; grind)
      have h2 : ev l e.2 ≤ 0 := h _ (by have := m.2; simp only [List.cons_append, List.tail_cons, List.mem_append, List.mem_singleton] at this; simp only [List.mem_cons]; exact this.symm)
      unfold clip1
      rw [if_pos h1, if_neg (by unfold crosses; grind)]
      rfl
    have e1 : (pairs ((o :: r) ++ [o])).flatMap (clip1 l) = (pairs ((o :: r) ++ [o])).map Prod.fst := by
      rw [List.map_eq_flatMap]
      have : ∀ (L : List (Pt × Pt)), (∀ e ∈ L, clip1 l e = [e.1]) → L.flatMap (clip1 l) = L.flatMap (fun e => [e.1]) := by
        intro L
        induction L with
        | nil => intro _; rfl
        | cons a L ih =>
          intro hL
          rw [List.flatMap_cons, List.flatMap_cons, hL a (by simp), ih (fun e he => hL e (by simp [he]))]
      exact this _ key
    rw [e1, pairs_fst]

theorem mem_clip {l m : Ln} {c : List Pt} (h : ∀ p ∈ c, ev m p ≤ 0) : ∀ u ∈ clip l c, ev m u ≤ 0 := by
  intro u hu
  unfold clip at hu
  rw [List.mem_flatMap] at hu
  obtain ⟨e, he, hu⟩ := hu
  match c, h, he with
  | o :: r, h, he =>
    rw [sides_eq] at he
    have mm := pairs_mem he
    have h1 : ev m e.1 ≤ 0 := h _ (by have := mm.1; simp only [List.cons_append, List.mem_cons, List.mem_append, List.not_mem_nil, or_false] at this ⊢; grind)
    have h2 : ev m e.2 ≤ 0 := h _ (by have := mm.2; simp only [List.cons_append, List.tail_cons, List.mem_append, List.mem_singleton] at this; simp only [List.mem_cons]; exact this.symm)
    obtain ⟨k, k0, k1, rfl, _⟩ := sh_of hu
    rw [ev_mix]
    have := nn_mix k0 k1 (show 0 ≤ -ev m e.1 by grind) (show 0 ≤ -ev m e.2 by grind)
    grind
theorem mem_clip_self {l : Ln} {c : List Pt} : ∀ u ∈ clip l c, ev l u ≤ 0 := by
  intro u hu
  unfold clip at hu
  rw [List.mem_flatMap] at hu
  obtain ⟨e, he, hu⟩ := hu
  unfold clip1 at hu
  rw [List.mem_append] at hu
  rcases hu with hu | hu
  · split at hu
    · rw [List.mem_singleton] at hu; subst hu; assumption
    · simp at hu
  · split at hu
    · rw [List.mem_singleton] at hu; subst hu; rename_i h; rw [ev_xpt h]; exact Rat.le_refl
    · simp at hu

theorem rot_clip (l : Ln) {c d : List Pt} (h : Rot c d) : Rot (clip l c) (clip l d) := (rot_sides h).flatMap _

theorem Good.clip {K : Ln → Prop} {s : Pt} {c : List Pt} (h : Good K s c) {l : Ln} (hK : K l) (hl : l.1 ≠ 0 ∨ l.2.1 ≠ 0) (hs : ev l s < 0) :
    Good K s (clip l c) := by
  obtain ⟨p, hp, hn⟩ := h.neg hs
  obtain ⟨r, hr⟩ := rot_to hp
  refine Good.rot (c := NS.clip l (p :: r)) ?_ (rot_clip l hr.symm)
  have g := h.rot hr
  clear h hr hp
  have hsid : ∀ e ∈ pairs ((p :: r) ++ [p]), OnL K s (NS.clip l (p :: r)) e.1 e.2 ∧
      (crosses l e → OnL K s (NS.clip l (p :: r)) e.1 (xpt l e) ∧ OnL K s (NS.clip l (p :: r)) (xpt l e) e.2) := by
    intro e he
    obtain ⟨m, m1, m2, m3, m4, m5, m6⟩ := g.sid e (by rw [sides_eq]; exact he)
    have m7 := mem_clip (l := l) m5
    have mx : ev m (xpt l e) = 0 := by unfold xpt; rw [ev_mix, m3, m4]; grind
    exact ⟨⟨m, m1, m2, m3, m4, m7, m6⟩, fun _ => ⟨⟨m, m1, m2, m3, mx, m7, m6⟩, ⟨m, m1, m2, mx, m4, m7, m6⟩⟩⟩
  have hz : ∀ u v, ev l u = 0 → ev l v = 0 → OnL K s (NS.clip l (p :: r)) u v := fun u v hu hv =>
    ⟨l, hK, hl, hu, hv, mem_clip_self, Rat.le_of_lt hs⟩
  refine ⟨?_, trip_clip g.len g.tri, ?_⟩
  · by_cases ha : ∀ q ∈ p :: r, ev l q ≤ 0
    · rw [clip_pos ha]; exact g.len
    · simp only [Classical.not_forall] at ha
      obtain ⟨q, hq, hqp⟩ := ha
      have hqp : 0 < ev l q := by grind
      have hq' : q ∈ r := by
        rcases List.mem_cons.mp hq with rfl | hq
        · grind
        · exact hq
      obtain ⟨r1, r2, rfl⟩ := List.append_of_mem hq'
      unfold NS.clip
      rw [sides_eq]
      have e1 : p :: (r1 ++ q :: r2) ++ [p] = (p :: r1) ++ q :: (r2 ++ [p]) := by simp
      rw [e1, pairs_append, List.flatMap_append, List.length_append]
      obtain ⟨u, hu, hu0⟩ := path_zero (l := l) q (r1 ++ [q]) p (gl _ _ _ _) (.inl ⟨hn, hqp⟩)
      obtain ⟨v, hv, hv0⟩ := path_zero (l := l) p (r2 ++ [p]) q (gl _ _ _ _) (.inr ⟨hqp, hn⟩)
      have l2 := List.length_pos_of_mem hv
      have l1 : 2 ≤ ((pairs (p :: r1 ++ [q])).flatMap (clip1 l)).length := by
        have hpm : p ∈ (pairs (p :: r1 ++ [q])).flatMap (clip1 l) := by
          rw [List.mem_flatMap]
          cases r1 with
          | nil => exact ⟨(p, q), by simp [pairs], by unfold clip1; simp [Rat.le_of_lt hn]⟩
          | cons b r1 => exact ⟨(p, b), by simp [pairs], by unfold clip1; simp [Rat.le_of_lt hn]⟩
        have hu' : u ∈ (pairs (p :: r1 ++ [q])).flatMap (clip1 l) := by simpa using hu
        generalize (pairs (p :: r1 ++ [q])).flatMap (clip1 l) = L at *
        match L with
        | [] => simp at hpm
        | [a] => simp at hpm hu'; subst hpm hu'; grind
        | a :: b :: L => simp
      have l1' : 2 ≤ ((pairs ((p :: r1) ++ [q])).flatMap (clip1 l)).length := l1
      omega
  · intro e he
    have key := path_adj hz p (Rat.le_of_lt hn) (r ++ [p]) p p (gl _ _ _ _) hsid
      (fun _ => by
        obtain ⟨m, m1, m2, m3, m4, m5, m6⟩ := g.sid _ (Classical.choose_spec (Classical.choose_spec g.first)).2.2.2.2
        exact ⟨m, m1, m2, m3, m3, mem_clip m5, m6⟩) (fun h => by grind)
    have e1 : (pairs (p :: (r ++ [p]))).flatMap (clip1 l) = NS.clip l (p :: r) := by
      unfold NS.clip; rw [sides_eq]; rfl
    rw [e1] at key
    obtain ⟨o', ho'⟩ : ∃ o', NS.clip l (p :: r) = p :: o' := by
      rw [← e1]
      cases r with
      | nil => exact ⟨_, by simp only [List.nil_append, pairs, List.flatMap_cons]; unfold clip1; rw [if_pos (Rat.le_of_lt hn)]; rfl⟩
      | cons b r => exact ⟨_, by simp only [List.cons_append, pairs, List.flatMap_cons]; unfold clip1; rw [if_pos (Rat.le_of_lt hn)]; rfl⟩
    rw [ho'] at he key ⊢
    rw [sides_eq] at he
    exact key e (by simp only [List.cons_append, pairs, List.mem_cons] at he ⊢; exact .inr he)
end NS

set_option Elab.async false
set_option linter.all false
namespace NS
open GkBase Gk04

theorem trip_get {A : Type} {R : A → A → A → Prop} : ∀ {l : List A}, Trip R l → ∀ (i j k : Nat) (hk : k < l.length) (hij : i < j) (hjk : j < k),
    R (l[i]'(by omega)) (l[j]'(by omega)) (l[k]'hk)
  | [], _, i, j, k, hk, _, _ => by simp at hk
  | a :: l, h, 0, j + 1, k + 1, hk, _, hjk => by
    have := (List.pairwise_iff_getElem.mp h.1) j k (by simp at hk; omega) (by simp at hk; omega) (by omega)
    simpa using this
  | a :: l, h, i + 1, j + 1, k + 1, hk, hij, hjk => by
    have := trip_get h.2 i j k (by simp at hk; omega) (by omega) (by omega)
    simpa using this
  | a :: l, h, 0, 0, k, hk, hij, hjk => by omega
  | a :: l, h, i, j + 1, 0, hk, hij, hjk => by omega
  | a :: l, h, i + 1, 0, k, hk, hij, hjk => by omega

theorem T_ne {a b c : Pt} (h : T a b c) : a ≠ b ∧ b ≠ c ∧ a ≠ c := by
  unfold T at h
  refine ⟨?_, ?_, ?_⟩ <;> rintro rfl
  · rw [cross_aab] at h; grind
  · rw [cross_abb] at h; grind
  · rw [cross_aba] at h; grind

theorem tri_nodup {c : List Pt} (h3 : 3 ≤ c.length) (h : Trip T c) : c.Nodup := by
  unfold List.Nodup
  rw [List.pairwise_iff_getElem]
  intro i j hi hj hij
  by_cases h1 : j + 1 < c.length
  · exact (T_ne (trip_get h i j (j + 1) h1 hij (by omega))).1
  · by_cases h2 : i + 1 < j
    · exact (T_ne (trip_get h i (i + 1) j hj (by omega) h2)).2.2
    · exact (T_ne (trip_get h (i - 1) i j hj (by omega) hij)).2.1

theorem once_id {c : List Pt} (h : c.Nodup) : once c = c := by
  have key : ∀ (l acc : List Pt), (acc ++ l).Nodup →
      l.foldl (fun (l : List Pt) (p : Pt) => if l.contains p = true then l else l ++ [p]) acc = acc ++ l := by
    intro l
    induction l with
    | nil => intro acc _; simp
    | cons a l ih =>
      intro acc hn
      have ha : a ∉ acc := by
        rw [List.nodup_append] at hn
        intro hm
        exact hn.2.2 a hm a (by simp) rfl
      rw [List.foldl_cons, if_neg (by simpa using ha), ih (acc ++ [a]) (by simpa using hn)]
      simp
  have := key c [] (by simpa using h)
  simpa [once] using this

theorem bare_id {c : List Pt} (h3 : 3 ≤ c.length) (h : Trip T c) : bare c = c := by
  match c, h3 with
  | o :: r, h3 =>
    unfold bare
    simp only
    have hz : (o :: r).getLastD o = (o :: r)[r.length]'(by simp) := by
      rw [List.getLastD_cons, List.getLastD_eq_getLast?, List.getLast?_eq_getElem?]
      cases r with
      | nil => simp
      | cons b r => simp
    rw [hz]
    have key : ∀ x ∈ ((o :: r)[r.length]'(by simp) :: o :: r).zip ((o :: r).zip ((o :: r).tail ++ [o])), cross x.1 x.2.1 x.2.2 ≠ 0 := by
      intro x hx
      obtain ⟨i, hi, rfl⟩ := List.getElem_of_mem hx
      simp only [List.length_zip, List.length_cons, List.length_append, List.tail_cons, List.length_nil] at hi h3
      simp only [List.getElem_zip]
      by_cases h0 : i = 0
      · subst h0
        have t := trip_get h 0 1 r.length (by simp) (by omega) (by omega)
        have t2 := T_cyc _ _ _ (T_cyc _ _ _ t)
        have e : ((o :: r).tail ++ [o])[0]'(by simp) = (o :: r)[1]'(by simp; omega) := by
          simp only [List.tail_cons]
          rw [List.getElem_append_left (by omega)]
          simp
        rw [e]
        unfold T at t2
        simp only [List.getElem_cons_zero] at t2 ⊢
        grind
      · by_cases h1 : i = r.length
        · have t := trip_get h 0 (i - 1) i (by simp; omega) (by omega) (by omega)
          have t2 := T_cyc _ _ _ t
          have e : ((o :: r).tail ++ [o])[i]'(by simp; omega) = (o :: r)[0]'(by simp) := by
            simp only [List.tail_cons]
            rw [List.getElem_append_right (by omega)]
            simp
          rw [e]
          have e2 : ((o :: r)[r.length]'(by simp) :: o :: r)[i]'(by simp; omega) = (o :: r)[i - 1]'(by simp; omega) := by
            rw [List.getElem_cons]; simp [h0]
          rw [e2]
          unfold T at t2
          grind
        · have t := trip_get h (i - 1) i (i + 1) (by simp; omega) (by omega) (by omega)
          have e : ((o :: r).tail ++ [o])[i]'(by simp; omega) = (o :: r)[i + 1]'(by simp; omega) := by
            simp only [List.tail_cons]
            rw [List.getElem_append_left (by omega)]
            simp
          rw [e]
          have e2 : ((o :: r)[r.length]'(by simp) :: o :: r)[i]'(by simp; omega) = (o :: r)[i - 1]'(by simp; omega) := by
            rw [List.getElem_cons]; simp [h0]
          rw [e2]
          unfold T at t
          grind
    rw [List.filter_eq_self.mpr (fun x hx => by simpa using key x hx)]
    apply List.ext_getElem
    · simp
    · intro i h1 h2
      simp [List.getElem_zip]

theorem Good.cut {K : Ln → Prop} {s t : Pt} {c : List Pt} (h : Good K s c) (hK : K (bis s t)) (hst : s ≠ t) :
    Good K s (cut s c t) ∧ Gk04.cut s c t = NS.clip (bis s t) c := by
  have hne : (bis s t).1 ≠ 0 ∨ (bis s t).2.1 ≠ 0 := by
    unfold bis
    simp only
    by_cases h1 : s.1 = t.1
    · right
      intro h2
      apply hst
      ext
      · exact h1
      · grind
    · left; grind
  have hs : ev (bis s t) s < 0 := by
    rw [ev_bis]
    unfold nearer far2
    have : (s.1 - t.1) ≠ 0 ∨ (s.2 - t.2) ≠ 0 := by
      by_cases h1 : s.1 = t.1
      · right
        intro h2
        apply hst
        ext
        · exact h1
        · grind
      · left; grind
    have n1 := sq_nn (s.1 - t.1)
    have n2 := sq_nn (s.2 - t.2)
    rcases this with h | h
    · have := sq_pos h; grind
    · have := sq_pos h; grind
  have g := h.clip hK hne hs
  have e : Gk04.cut s c t = NS.clip (bis s t) c := by
    rw [cut_eq, once_id (tri_nodup g.len g.tri), bare_id g.len g.tri]
  rw [e]
  exact ⟨g, rfl⟩
end NS

set_option Elab.async false
set_option linter.all false
namespace NS
open GkBase Gk04

/-! The first point. -/
theorem before_iff (p q : Pt) : before p q = true ↔ p.1 < q.1 ∨ (p.1 = q.1 ∧ p.2 < q.2) := by
  unfold before; simp
theorem before_trans {p q r : Pt} (h : before p q = true) (k : before q r = true) : before p r = true := by
  rw [before_iff] at *; grind
theorem before_tot (p q : Pt) : before p q = true ∨ p = q ∨ before q p = true := by
  rw [before_iff, before_iff]
  by_cases h : p = q
  · exact .inr (.inl h)
  · have : p.1 ≠ q.1 ∨ p.2 ≠ q.2 := by
      by_cases h1 : p.1 = q.1
      · right; intro h2; exact h (by ext <;> assumption)
      · exact .inl h1
    grind
theorem before_irr (p : Pt) : before p p = false := by
  have := before_iff p p
  cases h : before p p
  · rfl
  · rw [this] at h; grind

/-- q is the first of c -/
def Fst (c : List Pt) (q : Pt) : Prop := q ∈ c ∧ ∀ p ∈ c, p = q ∨ before q p = true
theorem Fst.uniq {c : List Pt} {q q' : Pt} (h : Fst c q) (h' : Fst c q') : q = q' := by
  rcases h.2 q' h'.1 with e | e
  · exact e.symm
  · rcases h'.2 q h.1 with e' | e'
    · exact e'
    · have := before_trans e e'
      rw [before_irr] at this
      cases this
theorem Fst.rot {c d : List Pt} {q : Pt} (h : Fst c q) (r : Rot c d) : Fst d q :=
  ⟨(r.mem q).mp h.1, fun p hp => h.2 p ((r.mem p).mpr hp)⟩

def fstep (b : Option Pt) (p : Pt) : Option Pt := match b with
  | none => some p
  | some q => if before p q = true then some p else some q
theorem turned_of {c : List Pt} {q : Pt} (h : c.foldl fstep none = some q) :
    turned c = c.dropWhile (fun (p : Pt) => decide (p ≠ q)) ++ c.takeWhile fun (p : Pt) => decide (p ≠ q) := by
  have e : turned c = (match c.foldl fstep none with
    | none => []
    | some q => c.dropWhile (fun (p : Pt) => decide (p ≠ q)) ++ c.takeWhile fun (p : Pt) => decide (p ≠ q)) := rfl
  rw [e, h]
theorem fold_first : ∀ (l : List Pt) (b : Pt), ∃ q, l.foldl fstep (some b) = some q ∧ Fst (b :: l) q
  | [], b => ⟨b, rfl, by simp, by simp⟩
  | a :: l, b => by
    rw [List.foldl_cons]
    show ∃ q, l.foldl fstep (if before a b = true then some a else some b) = some q ∧ _
    by_cases h : before a b = true
    · rw [if_pos h]
      obtain ⟨q, h1, h2, h3⟩ := fold_first l a
      refine ⟨q, h1, by simp only [List.mem_cons] at h2 ⊢; exact .inr h2, ?_⟩
      intro p hp
      rcases List.mem_cons.mp hp with rfl | hp
      · rcases h3 a (by simp) with e | e
        · subst e; exact .inr h
        · exact .inr (before_trans e h)
      · exact h3 p hp
    · rw [if_neg h]
      obtain ⟨q, h1, h2, h3⟩ := fold_first l b
      refine ⟨q, h1, by simp only [List.mem_cons] at h2 ⊢; rcases h2 with h2 | h2 <;> simp [h2], ?_⟩
      intro p hp
      simp only [List.mem_cons] at hp
      rcases hp with rfl | rfl | hp
      · exact h3 _ (by simp)
      · rcases before_tot p b with e | e | e
        · exact absurd e h
        · subst e; exact h3 _ (by simp)
        · rcases h3 b (by simp) with e2 | e2
          · subst e2; exact .inr e
          · exact .inr (before_trans e2 e)
      · exact h3 _ (by simp [hp])

theorem drop_take (q : Pt) : ∀ (l m : List Pt), q ∉ l →
    (l ++ q :: m).dropWhile (fun (p : Pt) => decide (p ≠ q)) = q :: m ∧ (l ++ q :: m).takeWhile (fun (p : Pt) => decide (p ≠ q)) = l
  | [], m, _ => by simp
  | a :: l, m, h => by
    have ha : a ≠ q := by rintro rfl; simp at h
    have := drop_take q l m (by intro h2; exact h (by simp [h2]))
    simp only [ne_eq, decide_not] at this
    simp [ha, this]

theorem turned_spec {c : List Pt} (hc : c ≠ []) : ∃ q r, turned c = q :: r ∧ Rot c (q :: r) ∧ Fst c q := by
  match c, hc with
  | b :: l, _ =>
    obtain ⟨q, h1, h2⟩ := fold_first l b
    obtain ⟨x, y, e, hx⟩ : ∃ x y, b :: l = x ++ q :: y ∧ q ∉ x := List.eq_append_cons_of_mem h2.1
    refine ⟨q, y ++ x, ?_, ⟨x, q :: y, e, by simp⟩, h2⟩
    rw [turned_of (c := b :: l) (q := q) h1]
    rw [e, (drop_take q x y hx).1, (drop_take q x y hx).2]
    simp

theorem rot_head {A : Type} {q : A} {x y : List A} (hn : (q :: x).Nodup) (h : Rot (q :: x) (q :: y)) : x = y := by
  obtain ⟨l, m, h1, h2⟩ := h
  cases l with
  | nil => simp at h1 h2; subst h1; exact (List.cons.inj h2).2.symm
  | cons a l =>
    cases m with
    | nil => simp at h1 h2; rw [h1.2, h2.2]
    | cons b m =>
      simp only [List.cons_append, List.cons.injEq] at h1 h2
      obtain ⟨rfl, rfl⟩ := h1
      obtain ⟨rfl, rfl⟩ := h2
      simp at hn

theorem turned_uniq {c : List Pt} {q : Pt} {r : List Pt} (hn : c.Nodup) (hr : Rot c (q :: r)) (hq : Fst c q) : turned c = q :: r := by
  have hc : c ≠ [] := by rintro rfl; have := hr.length; simp at this
  obtain ⟨q', r', h1, h2, h3⟩ := turned_spec hc
  have e := hq.uniq h3
  subst e
  rw [h1]
  have : (q :: r').Nodup := by
    obtain ⟨l, m, e1, e2⟩ := h2
    rw [e2]
    rw [e1] at hn
    rw [List.nodup_append] at hn ⊢
    exact ⟨hn.2.1, hn.1, fun a ha b hb => (hn.2.2 b hb a ha).symm⟩
  rw [rot_head this (h2.symm.trans hr)]

theorem turned_rot {c d : List Pt} (hn : c.Nodup) (h : Rot c d) (hc : c ≠ []) : turned c = turned d := by
  have hd : d ≠ [] := by
    rintro rfl
    have := h.length
    simp at this
    exact hc this
  obtain ⟨q, r, h1, h2, h3⟩ := turned_spec hd
  rw [h1]
  exact turned_uniq hn (h.trans h2) (h3.rot h.symm)

/-! The square, lines in whole numbers. -/
def KI (l : Ln) : Prop := ∃ a b c : Int, l = ((a : Rat), (b : Rat), (c : Rat)) ∧ a.natAbs ≤ 400 ∧ b.natAbs ≤ 400 ∧ c.natAbs ≤ 20000
def inSq (x y : Int) : Prop := x.natAbs ≤ 100 ∧ y.natAbs ≤ 100

theorem bis_KI {x y z w : Int} (h : inSq x y) (k : inSq z w) : KI (bis (ofInts x y) (ofInts z w)) := by
  refine ⟨2 * (z - x), 2 * (w - y), x * x + y * y - z * z - w * w, ?_, ?_, ?_, ?_⟩
  · unfold bis ofInts
    simp only [Rat.intCast_mul, Rat.intCast_sub, Rat.intCast_add]
    rfl
  · unfold inSq at *; omega
  · unfold inSq at *; omega
  · have sq : ∀ x : Int, x.natAbs ≤ 100 → 0 ≤ x * x ∧ x * x ≤ 10000 := by
      intro x hx
      have h1 : x * x = (x.natAbs : Int) * (x.natAbs : Int) := by rw [Int.natAbs_mul_self']
      rw [h1]
      have := Nat.mul_le_mul hx hx
      constructor
      · exact Int.mul_nonneg (Int.natCast_nonneg _) (Int.natCast_nonneg _)
      · have h2 : ((x.natAbs * x.natAbs : Nat) : Int) ≤ ((100 * 100 : Nat) : Int) := Int.ofNat_le.mpr this
        simpa using h2
    have a1 := sq x h.1
    have a2 := sq y h.2
    have a3 := sq z k.1
    have a4 := sq w k.2
    omega

theorem corners_good {x y : Int} (h : inSq x y) : Good KI (ofInts x y) corners := by
  have hx : (-100 : Rat) ≤ (x : Rat) ∧ (x : Rat) ≤ 100 := by
    have h1 : (-100 : Int) ≤ x ∧ x ≤ 100 := by unfold inSq at h; omega
    exact ⟨by have := (Rat.intCast_le_intCast).mpr h1.1; simpa using this, by have := (Rat.intCast_le_intCast).mpr h1.2; simpa using this⟩
  have hy : (-100 : Rat) ≤ (y : Rat) ∧ (y : Rat) ≤ 100 := by
    have h1 : (-100 : Int) ≤ y ∧ y ≤ 100 := by unfold inSq at h; omega
    exact ⟨by have := (Rat.intCast_le_intCast).mpr h1.1; simpa using this, by have := (Rat.intCast_le_intCast).mpr h1.2; simpa using this⟩
  refine ⟨by decide, ?_, ?_⟩
  · unfold corners SIDE
    simp only [Trip, List.pairwise_cons, List.mem_cons, List.not_mem_nil, or_false, forall_eq_or_imp, forall_eq, T, cross, false_implies, implies_true, List.Pairwise.nil, and_true]
    grind
  · intro e he
    unfold corners SIDE at he
    simp only [sides, List.tail_cons, List.cons_append, List.nil_append, List.zip_cons_cons, List.zip_nil_right, List.mem_cons, List.not_mem_nil, or_false] at he
    unfold OnL
    have hs : ofInts x y = ((x : Rat), (y : Rat)) := rfl
    rcases he with rfl | rfl | rfl | rfl
    · refine ⟨(0, -1, -100), ⟨0, -1, -100, by simp, by decide, by decide, by decide⟩, .inr (show (-1 : Rat) ≠ 0 by grind), ?_, ?_, ?_, ?_⟩ <;>
        simp [ev, corners, SIDE, hs] <;> grind
    · refine ⟨(1, 0, -100), ⟨1, 0, -100, by simp, by decide, by decide, by decide⟩, by simp, ?_, ?_, ?_, ?_⟩ <;>
        simp [ev, corners, SIDE, hs] <;> grind
    · refine ⟨(0, 1, -100), ⟨0, 1, -100, by simp, by decide, by decide, by decide⟩, by simp, ?_, ?_, ?_, ?_⟩ <;>
        simp [ev, corners, SIDE, hs] <;> grind
    · refine ⟨(-1, 0, -100), ⟨-1, 0, -100, by simp, by decide, by decide, by decide⟩, .inl (show (-1 : Rat) ≠ 0 by grind), ?_, ?_, ?_, ?_⟩ <;>
        simp [ev, corners, SIDE, hs] <;> grind
end NS

set_option Elab.async false
set_option linter.all false
namespace NS
open GkBase Gk04

def ring (s : Pt) (others : List Pt) : List Pt := others.foldl (fun c t => NS.clip (bis s t) c) corners

theorem fold_good {s : Pt} : ∀ (others : List Pt) (c : List Pt), Good KI s c → (∀ t ∈ others, KI (bis s t) ∧ s ≠ t) →
    Good KI s (others.foldl (fun c t => NS.clip (bis s t) c) c) ∧ others.foldl (Gk04.cut s) c = others.foldl (fun c t => NS.clip (bis s t) c) c
  | [], c, h, _ => ⟨h, rfl⟩
  | t :: l, c, h, ht => by
    have h1 := h.cut (ht t (by simp)).1 (ht t (by simp)).2
    rw [List.foldl_cons, List.foldl_cons, h1.2]
    exact fold_good l _ (by rw [← h1.2]; exact h1.1) (fun t' ht' => ht t' (by simp [ht']))

/-- sites as whole numbers -/
def IntPt (p : Pt) : Prop := ∃ x y : Int, inSq x y ∧ p = ofInts x y
theorem IntPt.KI {s t : Pt} (h : IntPt s) (k : IntPt t) : KI (bis s t) := by
  obtain ⟨x, y, h1, rfl⟩ := h
  obtain ⟨z, w, h2, rfl⟩ := k
  exact bis_KI h1 h2
theorem ring_good {s : Pt} {others : List Pt} (hs : IntPt s) (ho : ∀ t ∈ others, IntPt t ∧ s ≠ t) :
    Good KI s (ring s others) ∧ others.foldl (Gk04.cut s) corners = ring s others := by
  have hc : Good KI s corners := by
    obtain ⟨x, y, h, rfl⟩ := hs
    exact corners_good h
  exact fold_good others corners hc (fun t ht => ⟨hs.KI (ho t ht).1, (ho t ht).2⟩)
theorem cell_ring {s : Pt} {others : List Pt} (hs : IntPt s) (ho : ∀ t ∈ others, IntPt t ∧ s ≠ t) :
    cell s others = turned (ring s others) := by
  unfold cell
  rw [(ring_good hs ho).2]

theorem Good.nodup {K : Ln → Prop} {s : Pt} {c : List Pt} (h : Good K s c) : c.Nodup := tri_nodup h.len h.tri
theorem Good.ne {K : Ln → Prop} {s : Pt} {c : List Pt} (h : Good K s c) : c ≠ [] := by
  rintro rfl
  have := h.len
  simp at this

/-! Corners are fractions with small numbers below. -/
theorem det_ne {A B C A' B' C' : Rat} {o p q : Pt} (t : T o p q) (h : A ≠ 0 ∨ B ≠ 0) (h' : A' ≠ 0 ∨ B' ≠ 0)
    (ho : ev (A, B, C) o = 0) (hp : ev (A, B, C) p = 0) (hp' : ev (A', B', C') p = 0) (hq' : ev (A', B', C') q = 0) : A * B' - A' * B ≠ 0 := by
  intro hd
  unfold ev at *
  simp only at *
  have n1 : 0 < A * A + B * B := by
    have := sq_nn A
    have := sq_nn B
    rcases h with h | h
    · have := sq_pos h; grind
    · have := sq_pos h; grind
  have n2 : 0 < A' * A' + B' * B' := by
    have := sq_nn A'
    have := sq_nn B'
    rcases h' with h | h
    · have := sq_pos h; grind
    · have := sq_pos h; grind
  have u : A * (o.1 - p.1) + B * (o.2 - p.2) = 0 := by grind
  have v : A' * (q.1 - p.1) + B' * (q.2 - p.2) = 0 := by grind
  have e : cross o p q = (o.2 - p.2) * (q.1 - p.1) - (o.1 - p.1) * (q.2 - p.2) := by unfold cross; grind
  unfold T at t
  rw [e] at t
  generalize o.1 - p.1 = u1 at *
  generalize o.2 - p.2 = u2 at *
  generalize q.1 - p.1 = v1 at *
  generalize q.2 - p.2 = v2 at *
  have e1 : (A * A + B * B) * u1 = -(u2 * A - u1 * B) * B := by grind
  have e2 : (A * A + B * B) * u2 = (u2 * A - u1 * B) * A := by grind
  have e3 : (A' * A' + B' * B') * v1 = -(v2 * A' - v1 * B') * B' := by grind
  have e4 : (A' * A' + B' * B') * v2 = (v2 * A' - v1 * B') * A' := by grind
  have e5 : (A * A + B * B) * (A' * A' + B' * B') * (u2 * v1 - u1 * v2) = 0 := by
    have : (A * A + B * B) * (A' * A' + B' * B') * (u2 * v1 - u1 * v2) =
      ((A * A + B * B) * u2) * ((A' * A' + B' * B') * v1) - ((A * A + B * B) * u1) * ((A' * A' + B' * B') * v2) := by grind
    rw [this, e1, e2, e3, e4]
    grind
  have := Rat.mul_pos (Rat.mul_pos n1 n2) t
  rw [e5] at this
  grind

theorem Good.den {s : Pt} {c : List Pt} (h : Good KI s c) {p : Pt} (hp : p ∈ c) :
    ∃ D X Y : Int, 0 < D ∧ D ≤ 320000 ∧ (D : Rat) * p.1 = X ∧ (D : Rat) * p.2 = Y := by
  obtain ⟨r, hr⟩ := rot_to hp
  have g := h.rot hr
  obtain ⟨o, q, ho, hq, t, s1, s2⟩ := g.first
  obtain ⟨m, ⟨A, B, C, rfl, a1, b1, c1⟩, m2, m3, m4, _⟩ := g.sid _ s1
  obtain ⟨n, ⟨A', B', C', rfl, a2, b2, c2⟩, n2, n3, n4, _⟩ := g.sid _ s2
  have hd := det_ne t m2 n2 m3 m4 n3 n4
  have hd' : A * B' - A' * B ≠ 0 := by
    intro h0
    apply hd
    rw [← Rat.intCast_mul, ← Rat.intCast_mul, ← Rat.intCast_sub, h0]
    rfl
  have bd : ∀ a b : Int, a.natAbs ≤ 400 → b.natAbs ≤ 400 → (a * b).natAbs ≤ 160000 := by
    intro a b ha hb
    rw [Int.natAbs_mul]
    exact Nat.mul_le_mul ha hb
  have x1 := bd A B' a1 b2
  have x2 := bd A' B a2 b1
  have f1 : ((A * B' - A' * B : Int) : Rat) * p.1 = ((B * C' - B' * C : Int) : Rat) := by
    simp only [Rat.intCast_mul, Rat.intCast_sub]
    unfold ev at m4 n3
    simp only at m4 n3
    grind
  have f2 : ((A * B' - A' * B : Int) : Rat) * p.2 = ((A' * C - A * C' : Int) : Rat) := by
    simp only [Rat.intCast_mul, Rat.intCast_sub]
    unfold ev at m4 n3
    simp only at m4 n3
    grind
  have xb : (A * B' - A' * B).natAbs ≤ 320000 := by omega
  generalize A * B' - A' * B = D at *
  by_cases h0 : 0 < D
  · exact ⟨D, _, _, h0, by omega, f1, f2⟩
  · refine ⟨-D, -(B * C' - B' * C), -(A' * C - A * C'), by omega, by omega, ?_, ?_⟩
    · rw [Rat.intCast_neg, Rat.intCast_neg, ← f1]; grind
    · rw [Rat.intCast_neg, Rat.intCast_neg, ← f2]; grind

theorem fold_in {s : Pt} {m : Ln} : ∀ (others : List Pt) (c : List Pt), (∀ p ∈ c, ev m p ≤ 0) →
    ∀ p ∈ others.foldl (fun c t => NS.clip (bis s t) c) c, ev m p ≤ 0
  | [], c, h => h
  | t :: l, c, h => by
    rw [List.foldl_cons]
    exact fold_in l _ (mem_clip h)
theorem ring_in (s : Pt) (others : List Pt) : ∀ p ∈ ring s others, (-100 ≤ p.1 ∧ p.1 ≤ 100) ∧ (-100 ≤ p.2 ∧ p.2 ≤ 100) := by
  intro p hp
  have h1 := fold_in (s := s) (m := (1, 0, -100)) others corners (by simp [ev, corners, SIDE]; grind) p hp
  have h2 := fold_in (s := s) (m := (-1, 0, -100)) others corners (by simp [ev, corners, SIDE]; grind) p hp
  have h3 := fold_in (s := s) (m := (0, 1, -100)) others corners (by simp [ev, corners, SIDE]; grind) p hp
  have h4 := fold_in (s := s) (m := (0, -1, -100)) others corners (by simp [ev, corners, SIDE]; grind) p hp
  unfold ev at *
  simp only at *
  grind

/-! How many corners: at most one more. -/
theorem on_line {l : Ln} (hl : l.1 ≠ 0 ∨ l.2.1 ≠ 0) {u v w : Pt} (hu : ev l u = 0) (hv : ev l v = 0) (hw : ev l w = 0) : ¬ T u v w := by
  intro t
  obtain ⟨A, B, C⟩ := l
  exact det_ne (A := A) (B := B) (C := C) (A' := A) (B' := B) (C' := C) t hl hl hu hv hv hw (by grind)
theorem few_zero {l : Ln} (hl : l.1 ≠ 0 ∨ l.2.1 ≠ 0) {c : List Pt} (h : Trip T c) : c.countP (fun p => decide (ev l p = 0)) ≤ 2 := by
  rw [List.countP_eq_length_filter]
  have hsub : Trip T (c.filter fun p => decide (ev l p = 0)) := by
    clear hl
    induction c with
    | nil => trivial
    | cons a c ih =>
      rw [List.filter_cons]
      split
      · exact ⟨h.1.filter _, ih h.2⟩
      · exact ih h.2
  have hz : ∀ p ∈ c.filter (fun p => decide (ev l p = 0)), ev l p = 0 := by
    intro p hp
    simpa using (List.mem_filter.mp hp).2
  generalize c.filter (fun p => decide (ev l p = 0)) = d at *
  match d with
  | [] => simp
  | [a] => simp
  | [a, b] => simp
  | a :: b :: e :: d =>
    exfalso
    have := hsub.1
    rw [List.pairwise_cons] at this
    exact on_line hl (hz a (by simp)) (hz b (by simp)) (hz e (by simp)) (this.1 e (by simp))
theorem flat_len (l : Ln) : ∀ (L : List Seg), (L.flatMap (clip1 l)).length = L.countP (fun e => decide (ev l e.1 ≤ 0)) + L.countP (fun e => decide (crosses l e))
  | [] => rfl
  | e :: L => by
    rw [List.flatMap_cons, List.length_append, flat_len l L, List.countP_cons, List.countP_cons]
    unfold clip1
    by_cases h1 : ev l e.1 ≤ 0 <;> by_cases h2 : crosses l e <;> simp [h1, h2] <;> omega
theorem flat_zero (l : Ln) : ∀ (L : List Seg), L.countP (fun e => decide (crosses l e)) ≤ (L.flatMap (clip1 l)).countP (fun p => decide (ev l p = 0))
  | [] => by simp
  | e :: L => by
    have ih := flat_zero l L
    rw [List.flatMap_cons, List.countP_append, List.countP_cons]
    have e1 : clip1 l e = (if ev l e.1 ≤ 0 then [e.1] else []) ++ (if crosses l e then [xpt l e] else []) := rfl
    rw [e1, List.countP_append]
    by_cases h2 : crosses l e
    · have := ev_xpt h2
      simp [h2, this]
      omega
    · simp [h2]
      omega
theorem Good.clip_len {K : Ln → Prop} {s : Pt} {c : List Pt} (h : Good K s c) {l : Ln} (hl : l.1 ≠ 0 ∨ l.2.1 ≠ 0) :
    (NS.clip l c).length ≤ c.length + 1 := by
  have t := trip_clip (l := l) h.len h.tri
  have z := few_zero hl t
  match c, h with
  | o :: r, h =>
    unfold NS.clip at *
    rw [sides_eq] at *
    have f1 := flat_len l (pairs ((o :: r) ++ [o]))
    have f2 := flat_zero l (pairs ((o :: r) ++ [o]))
    have f3 : List.countP (α := Seg) (fun e => decide (ev l e.1 ≤ 0)) (pairs ((o :: r) ++ [o])) = (o :: r).countP (fun p => decide (ev l p ≤ 0)) := by
      have := congrArg (List.countP (fun p => decide (ev l p ≤ 0))) (pairs_fst o (o :: r))
      rw [List.countP_map] at this
      exact this
    have f4 := List.countP_le_length (l := o :: r) (p := fun p => decide (ev l p ≤ 0))
    by_cases h0 : (pairs ((o :: r) ++ [o])).countP (fun e => decide (crosses l e)) = 0
    · omega
    · have : ∃ e ∈ pairs ((o :: r) ++ [o]), crosses l e := by
        have := List.countP_pos_iff.mp (Nat.pos_of_ne_zero h0)
        simpa using this
      obtain ⟨e, he, hc⟩ := this
      have mm := pairs_mem he
      have hq : ∃ q ∈ o :: r, 0 < ev l q := by
        have m1 : e.1 ∈ o :: r := by have := mm.1; simp only [List.cons_append, List.mem_cons, List.mem_append, List.not_mem_nil, or_false] at this ⊢; grind
        have m2 : e.2 ∈ o :: r := by have := mm.2; simp only [List.cons_append, List.tail_cons, List.mem_append, List.mem_singleton] at this; simp only [List.mem_cons]; exact this.symm
        rcases hc with hc | hc
        · exact ⟨_, m2, hc.2⟩
        · exact ⟨_, m1, hc.2⟩
      obtain ⟨q, hq, hpos⟩ := hq
      have : (o :: r).countP (fun p => decide (ev l p ≤ 0)) ≠ (o :: r).length := by
        intro hall
        rw [List.countP_eq_length] at hall
        have := hall q hq
        simp at this
        grind
      omega
theorem bis_ne {s t : Pt} (hst : s ≠ t) : (bis s t).1 ≠ 0 ∨ (bis s t).2.1 ≠ 0 := by
  unfold bis
  simp only
  by_cases h1 : s.1 = t.1
  · right
    intro h2
    apply hst
    ext
    · exact h1
    · grind
  · left; grind
theorem fold_len {s : Pt} : ∀ (others : List Pt) (c : List Pt), Good KI s c → (∀ t ∈ others, KI (bis s t) ∧ s ≠ t) →
    (others.foldl (fun c t => NS.clip (bis s t) c) c).length ≤ c.length + others.length
  | [], c, h, _ => by simp
  | t :: l, c, h, ht => by
    have h1 := h.cut (ht t (by simp)).1 (ht t (by simp)).2
    have h2 := h.clip_len (bis_ne (ht t (by simp)).2)
    have h3 := fold_len l (NS.clip (bis s t) c) (by rw [← h1.2]; exact h1.1) (fun t' ht' => ht t' (by simp [ht']))
    rw [List.foldl_cons, List.length_cons]
    omega
end NS

set_option Elab.async false
set_option linter.all false
namespace NS
open GkBase Gk04

/-! The program's own reckoning: places as x, y, w in whole numbers. -/
def mlowest (a b : Int) : List Int := [a / (Int.gcd a b : Int), b / (Int.gcd a b : Int)]
theorem mlowest_told {a b : Int} (h : 0 < b) : mlowest a b = told ((a : Rat) / (b : Rat)) := by
  unfold mlowest told
  rw [← Rat.divInt_eq_div, Rat.num_divInt, Rat.den_divInt, if_neg (by omega), Int.sign_eq_one_of_pos h, Int.one_mul, Int.gcd_comm]
  congr 2
  rw [Int.natCast_ediv]
  congr 1
  omega

abbrev Pl := Int × Int × Int
def pt (c : Pl) : Pt := ((c.1 : Rat) / (c.2.2 : Rat), (c.2.1 : Rat) / (c.2.2 : Rat))
abbrev IP := Int × Int
def ip (s : IP) : Pt := ofInts s.1 s.2
def mlead (c : Pl) (s t : IP) : Int :=
  (t.1 * t.1 + t.2 * t.2 - s.1 * s.1 - s.2 * s.2) * c.2.2 - 2 * ((t.1 - s.1) * c.1 + (t.2 - s.2) * c.2.1)
theorem cast_pos {w : Int} (h : 0 < w) : (0 : Rat) < (w : Rat) := by
  have := Rat.intCast_lt_intCast.mpr h
  simpa using this
theorem mlead_eq {c : Pl} (s t : IP) (h : 0 < c.2.2) : (mlead c s t : Rat) = -((c.2.2 : Rat) * ev (bis (ip s) (ip t)) (pt c)) := by
  have hw : (c.2.2 : Rat) ≠ 0 := by have := cast_pos h; grind
  unfold mlead ev bis ip ofInts pt
  simp only [Rat.intCast_mul, Rat.intCast_sub, Rat.intCast_add]
  have e2 : ((2 : Int) : Rat) = 2 := rfl
  rw [e2]
  grind
theorem mlead_nn {c : Pl} (s t : IP) (h : 0 < c.2.2) : 0 ≤ mlead c s t ↔ ev (bis (ip s) (ip t)) (pt c) ≤ 0 := by
  have e := mlead_eq s t h
  have hw := cast_pos h
  have : 0 ≤ mlead c s t ↔ (0 : Rat) ≤ (mlead c s t : Rat) := by
    have := Rat.intCast_le_intCast (a := 0) (b := mlead c s t)
    simpa using this.symm
  rw [this, e]
  generalize ev (bis (ip s) (ip t)) (pt c) = v at *
  constructor
  · intro h1
    have := nn_of_mul hw (x := -v) (by grind)
    grind
  · intro h1
    have := Rat.mul_nonneg (Rat.le_of_lt hw) (show 0 ≤ -v by grind)
    grind
theorem mlead_pos {c : Pl} (s t : IP) (h : 0 < c.2.2) : 0 < mlead c s t ↔ ev (bis (ip s) (ip t)) (pt c) < 0 := by
  have e := mlead_eq s t h
  have hw := cast_pos h
  have : 0 < mlead c s t ↔ (0 : Rat) < (mlead c s t : Rat) := by
    have := Rat.intCast_lt_intCast (a := 0) (b := mlead c s t)
    simpa using this.symm
  rw [this, e]
  generalize ev (bis (ip s) (ip t)) (pt c) = v at *
  constructor
  · intro h1
    by_cases h2 : v < 0
    · exact h2
    · have := Rat.mul_nonneg (Rat.le_of_lt hw) (show 0 ≤ v by grind)
      grind
  · intro h1
    have := Rat.mul_pos hw (show 0 < -v by grind)
    grind
def mcrosses (b c : Pl) (s t : IP) : Prop := mlead b s t * mlead c s t < 0
theorem mul_neg_iff (a b : Int) : a * b < 0 ↔ (0 < a ∧ b < 0) ∨ (a < 0 ∧ 0 < b) := by
  constructor
  · intro h
    rcases Int.lt_trichotomy a 0 with ha | ha | ha
    · right
      refine ⟨ha, ?_⟩
      rcases Int.lt_trichotomy b 0 with hb | hb | hb
      · have := Int.mul_pos_of_neg_of_neg ha hb; omega
      · subst hb; simp at h
      · exact hb
    · subst ha; simp at h
    · left
      refine ⟨ha, ?_⟩
      rcases Int.lt_trichotomy b 0 with hb | hb | hb
      · exact hb
      · subst hb; simp at h
      · have := Int.mul_pos ha hb; omega
  · rintro (⟨h1, h2⟩ | ⟨h1, h2⟩)
    · exact Int.mul_neg_of_pos_of_neg h1 h2
    · exact Int.mul_neg_of_neg_of_pos h1 h2
theorem mcrosses_iff {b c : Pl} (s t : IP) (hb : 0 < b.2.2) (hc : 0 < c.2.2) :
    mlead b s t * mlead c s t < 0 ↔ crosses (bis (ip s) (ip t)) (pt b, pt c) := by
  rw [mul_neg_iff]
  unfold crosses
  simp only
  have b1 := mlead_pos s t hb
  have b2 := mlead_nn s t hb
  have c1 := mlead_pos s t hc
  have c2 := mlead_nn s t hc
  constructor
  · rintro (⟨h1, h2⟩ | ⟨h1, h2⟩)
    · left
      refine ⟨b1.mp h1, ?_⟩
      have : ¬ (0 ≤ mlead c s t) := by omega
      rw [c2] at this
      grind
    · right
      refine ⟨c1.mp h2, ?_⟩
      have : ¬ (0 ≤ mlead b s t) := by omega
      rw [b2] at this
      grind
  · rintro (⟨h1, h2⟩ | ⟨h1, h2⟩)
    · left
      refine ⟨b1.mpr h1, ?_⟩
      have : ¬ (ev (bis (ip s) (ip t)) (pt c) ≤ 0) := by grind
      rw [← c2] at this
      omega
    · right
      refine ⟨?_, c1.mpr h1⟩
      have : ¬ (ev (bis (ip s) (ip t)) (pt b) ≤ 0) := by grind
      rw [← b2] at this
      omega

def mgcd3 (x y w : Int) : Int := (Int.gcd ((Int.gcd x y : Nat) : Int) w : Int)
def mbetween (a : Pl) (wa : Int) (b : Pl) (wb : Int) : Pl :=
  let x := a.1 * wa + b.1 * wb
  let y := a.2.1 * wa + b.2.1 * wb
  let w := a.2.2 * wa + b.2.2 * wb
  (x / mgcd3 x y w, y / mgcd3 x y w, w / mgcd3 x y w)
def Prim (c : Pl) : Prop := 0 < c.2.2 ∧ mgcd3 c.1 c.2.1 c.2.2 = 1

theorem gcd3_dvd (x y w : Int) : mgcd3 x y w ∣ x ∧ mgcd3 x y w ∣ y ∧ mgcd3 x y w ∣ w := by
  unfold mgcd3
  have h1 : (Int.gcd ((Int.gcd x y : Nat) : Int) w : Int) ∣ ((Int.gcd x y : Nat) : Int) := Int.gcd_dvd_left ..
  exact ⟨Int.dvd_trans h1 (Int.gcd_dvd_left ..), Int.dvd_trans h1 (Int.gcd_dvd_right ..), Int.gcd_dvd_right ..⟩
theorem gcd3_pos {x y w : Int} (h : 0 < w) : 0 < mgcd3 x y w := by
  unfold mgcd3
  have : 0 < Int.gcd ((Int.gcd x y : Nat) : Int) w := Int.gcd_pos_of_ne_zero_right _ (by omega)
  omega
theorem red_prim {x y w : Int} (h : 0 < w) : Prim (x / mgcd3 x y w, y / mgcd3 x y w, w / mgcd3 x y w) ∧
    pt (x / mgcd3 x y w, y / mgcd3 x y w, w / mgcd3 x y w) = pt (x, y, w) := by
  have hg := gcd3_pos (x := x) (y := y) h
  obtain ⟨⟨x', ex⟩, ⟨y', ey⟩, ⟨w', ew⟩⟩ := gcd3_dvd x y w
  generalize hG : mgcd3 x y w = g at *
  have dx : x / g = x' := by rw [ex]; exact Int.mul_ediv_cancel_left _ (by omega)
  have dy : y / g = y' := by rw [ey]; exact Int.mul_ediv_cancel_left _ (by omega)
  have dw : w / g = w' := by rw [ew]; exact Int.mul_ediv_cancel_left _ (by omega)
  rw [dx, dy, dw]
  have hw' : 0 < w' := by
    rw [ew] at h
    exact Int.pos_of_mul_pos_right h (by omega)
  refine ⟨⟨hw', ?_⟩, ?_⟩
  · show mgcd3 x' y' w' = 1
    have : g * mgcd3 x' y' w' = g * 1 := by
      have e : mgcd3 (g * x') (g * y') (g * w') = g * mgcd3 x' y' w' := by
        unfold mgcd3
        rw [Int.gcd_mul_left, Int.natCast_mul]
        have e1 : ((g.natAbs : Nat) : Int) = g := by omega
        rw [e1]
        have e2 : Int.gcd (g * ((Int.gcd x' y' : Nat) : Int)) (g * w') = g.natAbs * Int.gcd ((Int.gcd x' y' : Nat) : Int) w' := Int.gcd_mul_left ..
        rw [e2, Int.natCast_mul, e1]
      rw [← e, ← ex, ← ey, ← ew, hG]
      omega
    exact Int.eq_of_mul_eq_mul_left (by omega) this
  · unfold pt
    simp only
    have hgr : (g : Rat) ≠ 0 := by have := cast_pos hg; grind
    have hwr : (w' : Rat) ≠ 0 := by have := cast_pos hw'; grind
    rw [ex, ey, ew]
    simp only [Rat.intCast_mul]
    ext <;> grind

theorem mixw {x1 w1 x2 w2 u v k : Rat} (hk : k ≠ 0) (h1 : w1 ≠ 0) (h2 : w2 ≠ 0) (h : u - v ≠ 0) :
    (x1 * (k * (w2 * v)) + x2 * (-(k * (w1 * u)))) / (w1 * (k * (w2 * v)) + w2 * (-(k * (w1 * u)))) = x1 / w1 + u / (u - v) * (x2 / w2 - x1 / w1) := by
  have e : w1 * (k * (w2 * v)) + w2 * (-(k * (w1 * u))) = -(k * w1 * w2 * (u - v)) := by grind
  rw [e]
  grind
theorem between_eq {b c : Pl} (s t : IP) (hb : 0 < b.2.2) (hc : 0 < c.2.2) (h : crosses (bis (ip s) (ip t)) (pt b, pt c)) :
    Prim (mbetween b (mlead c s t).natAbs c (mlead b s t).natAbs) ∧
    pt (mbetween b (mlead c s t).natAbs c (mlead b s t).natAbs) = xpt (bis (ip s) (ip t)) (pt b, pt c) := by
  have hm := (mcrosses_iff s t hb hc).mpr h
  rw [mul_neg_iff] at hm
  have hw : 0 < b.2.2 * ((mlead c s t).natAbs : Int) + c.2.2 * ((mlead b s t).natAbs : Int) := by
    have h1 : 0 < ((mlead c s t).natAbs : Int) := by omega
    have h2 : 0 < ((mlead b s t).natAbs : Int) := by omega
    have := Int.mul_pos hb h1
    have := Int.mul_pos hc h2
    omega
  unfold mbetween
  simp only
  obtain ⟨r1, r2⟩ := red_prim (x := b.1 * ((mlead c s t).natAbs : Int) + c.1 * ((mlead b s t).natAbs : Int))
    (y := b.2.1 * ((mlead c s t).natAbs : Int) + c.2.1 * ((mlead b s t).natAbs : Int)) hw
  refine ⟨r1, ?_⟩
  rw [r2]
  have eb := mlead_eq s t hb
  have ec := mlead_eq s t hc
  have pb := cast_pos hb
  have pc := cast_pos hc
  have pw := cast_pos hw
  have huv : ev (bis (ip s) (ip t)) (pt b) - ev (bis (ip s) (ip t)) (pt c) ≠ 0 := by
    unfold crosses at h
    simp only at h
    grind
  have hw1 : (b.2.2 : Rat) ≠ 0 := by grind
  have hw2 : (c.2.2 : Rat) ≠ 0 := by grind
  unfold xpt mix
  simp only
  generalize ev (bis (ip s) (ip t)) (pt b) = u at *
  generalize ev (bis (ip s) (ip t)) (pt c) = v at *
  have key : ∃ k : Rat, k ≠ 0 ∧ (((mlead c s t).natAbs : Int) : Rat) = k * ((c.2.2 : Rat) * v) ∧ (((mlead b s t).natAbs : Int) : Rat) = -(k * ((b.2.2 : Rat) * u)) := by
    rcases hm with ⟨h1, h2⟩ | ⟨h1, h2⟩
    · have a1 : ((mlead b s t).natAbs : Int) = mlead b s t := by omega
      have a2 : ((mlead c s t).natAbs : Int) = -mlead c s t := by omega
      rw [a1, a2, Rat.intCast_neg, eb, ec]
      exact ⟨1, by grind, by grind, by grind⟩
    · have a1 : ((mlead b s t).natAbs : Int) = -mlead b s t := by omega
      have a2 : ((mlead c s t).natAbs : Int) = mlead c s t := by omega
      rw [a1, a2, Rat.intCast_neg, eb, ec]
      exact ⟨-1, by grind, by grind, by grind⟩
  obtain ⟨k, k0, k1, k2⟩ := key
  unfold pt
  simp only [Rat.intCast_add, Rat.intCast_mul]
  rw [k1, k2]
  ext
  · exact mixw k0 hw1 hw2 huv
  · exact mixw k0 hw1 hw2 huv
end NS

set_option Elab.async false
set_option linter.all false
namespace NS
open GkBase Gk04

/-- one turn of the cut -/
def mcut1 (s t : IP) (b c : Pl) : List Pl :=
  (if mlead b s t * mlead c s t < 0 then [mbetween b (mlead c s t).natAbs c (mlead b s t).natAbs] else []) ++
  (if 0 ≤ mlead c s t then [c] else [])
def mcutL (s t : IP) : Pl → List Pl → List Pl
  | _, [] => []
  | b, c :: r => mcut1 s t b c ++ mcutL s t c r
def mcut (s t : IP) (c : List Pl) : List Pl := mcutL s t (c.getLastD (0, 0, 1)) c

def kpt (l : Ln) (p : Pt) : List Pt := if ev l p ≤ 0 then [p] else []
def xps (l : Ln) (e : Seg) : List Pt := if crosses l e then [xpt l e] else []
theorem clip1_kx (l : Ln) (e : Seg) : clip1 l e = kpt l e.1 ++ xps l e := rfl
theorem shift (l : Ln) (q : Pt) : ∀ (r : List Pt) (p : Pt), (p :: r).getLast (by simp) = q →
    kpt l p ++ (pairs (p :: r)).flatMap (fun e => xps l e ++ kpt l e.2) = (pairs (p :: r)).flatMap (clip1 l) ++ kpt l q
  | [], p, h => by
    simp only [List.getLast_singleton] at h
    subst h
    simp [pairs]
  | b :: r, p, h => by
    have h' : (b :: r).getLast (by simp) = q := by rw [List.getLast_cons (by simp)] at h; exact h
    have ih := shift l q r b h'
    simp only [pairs, List.flatMap_cons]
    rw [clip1_kx]
    simp only [List.append_assoc]
    rw [← ih]

def mcut1_map {s t : IP} {b c : Pl} (hb : 0 < b.2.2) (hc : 0 < c.2.2) :
    (mcut1 s t b c).map pt = xps (bis (ip s) (ip t)) (pt b, pt c) ++ kpt (bis (ip s) (ip t)) (pt c) := by
  unfold mcut1 xps kpt
  rw [List.map_append]
  congr 1
  · by_cases h : crosses (bis (ip s) (ip t)) (pt b, pt c)
    · rw [if_pos h, if_pos ((mcrosses_iff s t hb hc).mpr h)]
      simp [(between_eq s t hb hc h).2]
    · rw [if_neg h, if_neg (fun h' => h ((mcrosses_iff s t hb hc).mp h'))]
      rfl
  · by_cases h : ev (bis (ip s) (ip t)) (pt c) ≤ 0
    · rw [if_pos h, if_pos ((mlead_nn s t hc).mpr h)]
      rfl
    · rw [if_neg h, if_neg (fun h' => h ((mlead_nn s t hc).mp h'))]
      rfl
theorem mcutL_map {s t : IP} : ∀ (r : List Pl) (b : Pl), 0 < b.2.2 → (∀ c ∈ r, 0 < c.2.2) →
    (mcutL s t b r).map pt = (pairs (pt b :: r.map pt)).flatMap (fun e => xps (bis (ip s) (ip t)) e ++ kpt (bis (ip s) (ip t)) e.2)
  | [], b, _, _ => rfl
  | c :: r, b, hb, h => by
    have hc := h c (by simp)
    rw [mcutL, List.map_append, mcut1_map hb hc, mcutL_map r c hc (fun d hd => h d (by simp [hd]))]
    rfl
theorem mcutL_prim {s t : IP} : ∀ (r : List Pl) (b : Pl), Prim b → (∀ c ∈ r, Prim c) → ∀ c ∈ mcutL s t b r, Prim c
  | [], b, _, _, c, hc => by simp [mcutL] at hc
  | c :: r, b, hb, h, d, hd => by
    rw [mcutL, List.mem_append] at hd
    have hc := h c (by simp)
    rcases hd with hd | hd
    · unfold mcut1 at hd
      rw [List.mem_append] at hd
      rcases hd with hd | hd
      · split at hd
        · rename_i hx
          rw [List.mem_singleton] at hd
          subst hd
          exact (between_eq s t hb.1 hc.1 ((mcrosses_iff s t hb.1 hc.1).mp hx)).1
        · simp at hd
      · split at hd
        · rw [List.mem_singleton] at hd
          subst hd
          exact hc
        · simp at hd
    · exact mcutL_prim r c hc (fun e he => h e (by simp [he])) d hd

theorem mcut_rot {s t : IP} {c : List Pl} (h : ∀ p ∈ c, Prim p) (hne : c ≠ []) :
    Rot ((mcut s t c).map pt) (NS.clip (bis (ip s) (ip t)) (c.map pt)) ∧ ∀ p ∈ mcut s t c, Prim p := by
  match c, hne with
  | o :: r, _ =>
    have hlast : (o :: r).getLastD (0, 0, 1) = (o :: r).getLast (by simp) := by
      rw [List.getLastD_eq_getLast?, List.getLast?_eq_some_getLast (by simp)]; rfl
    have hm : (o :: r).getLast (by simp) ∈ o :: r := List.getLast_mem _
    unfold mcut
    rw [hlast]
    generalize hz : (o :: r).getLast (by simp) = z at *
    have hzp := h z hm
    refine ⟨?_, mcutL_prim _ _ hzp h⟩
    rw [mcutL_map _ _ hzp.1 (fun c hc => (h c hc).1)]
    generalize bis (ip s) (ip t) = l
    unfold NS.clip
    rw [List.map_cons, sides_eq]
    have hz' : (pt o :: r.map pt).getLast (by simp) = pt z := by
      rw [← hz]
      have : (pt o :: r.map pt) = (o :: r).map pt := rfl
      simp only [this, List.getLast_map]
    have sh := shift l (pt z) (r.map pt) (pt o) hz'
    have e1 : pairs (pt z :: pt o :: r.map pt) = (pt z, pt o) :: pairs (pt o :: r.map pt) := rfl
    rw [e1, List.flatMap_cons]
    simp only
    rw [List.append_assoc, sh]
    have e2 : pairs (pt o :: r.map pt ++ [pt o]) = pairs (pt o :: r.map pt) ++ [(pt z, pt o)] := by
      obtain ⟨x, hx⟩ : ∃ x, pt o :: r.map pt = x ++ [pt z] := ⟨(pt o :: r.map pt).dropLast, by rw [← hz']; exact (List.dropLast_concat_getLast _).symm⟩
      rw [hx, List.append_assoc]
      have := pairs_append (pt z) x [pt o]
      rw [show x ++ ([pt z] ++ [pt o]) = x ++ pt z :: [pt o] from rfl, this]
      rfl
    rw [e2, List.flatMap_append]
    refine ⟨xps l (pt z, pt o), (pairs (pt o :: r.map pt)).flatMap (clip1 l) ++ kpt l (pt z), rfl, ?_⟩
    rw [List.append_assoc]
    congr 1
    rw [List.flatMap_cons, List.flatMap_nil, List.append_nil, clip1_kx]

/-! The whole ring. -/
def msquare : List Pl := [(-100, -100, 1), (100, -100, 1), (100, 100, 1), (-100, 100, 1)]
def mring (s : IP) (others : List IP) : List Pl := others.foldl (fun c t => mcut s t c) msquare
def InSq (s : IP) : Prop := inSq s.1 s.2
theorem ip_inj {s t : IP} (h : ip s = ip t) : s = t := by
  unfold ip ofInts at h
  have h1 := congrArg Prod.fst h
  have h2 := congrArg Prod.snd h
  simp only [Rat.intCast_inj] at h1 h2
  ext
  · exact h1
  · exact h2
theorem InSq.pt {s : IP} (h : InSq s) : IntPt (ip s) := ⟨s.1, s.2, h, rfl⟩

theorem fold_rot {s : IP} (hs : InSq s) : ∀ (others : List IP) (c : List Pl) (d : List Pt), (∀ p ∈ c, Prim p) → Rot (c.map NS.pt) d → Good KI (ip s) d →
    (∀ t ∈ others, InSq t ∧ s ≠ t) →
    Rot ((others.foldl (fun c t => mcut s t c) c).map NS.pt) ((others.map ip).foldl (fun c t => NS.clip (bis (ip s) t) c) d) ∧
      ∀ p ∈ others.foldl (fun c t => mcut s t c) c, Prim p
  | [], c, d, hp, hr, hg, ho => ⟨hr, hp⟩
  | t :: l, c, d, hp, hr, hg, ho => by
    have hc : c ≠ [] := by
      rintro rfl
      have h1 := hr.length
      have h2 := hg.len
      simp at h1
      omega
    obtain ⟨r1, r2⟩ := mcut_rot (s := s) (t := t) hp hc
    have ht := ho t (by simp)
    have hne : ip s ≠ ip t := fun e => ht.2 (ip_inj e)
    have hcut := hg.cut (hs.pt.KI ht.1.pt) hne
    rw [List.map_cons, List.foldl_cons, List.foldl_cons]
    exact fold_rot hs l _ _ r2 (r1.trans (rot_clip _ hr)) (by rw [← hcut.2]; exact hcut.1) (fun t' ht' => ho t' (by simp [ht']))

theorem msquare_pt : msquare.map pt = corners := by
  unfold msquare corners SIDE pt
  simp only [List.map_cons, List.map_nil]
  have e1 : ((-100 : Int) : Rat) / ((1 : Int) : Rat) = -100 := by
    have a : ((1 : Int) : Rat) = 1 := rfl
    have b : ((-100 : Int) : Rat) = -100 := by simp
    rw [a, b]; grind
  have e2 : ((100 : Int) : Rat) / ((1 : Int) : Rat) = 100 := by
    have a : ((1 : Int) : Rat) = 1 := rfl
    have b : ((100 : Int) : Rat) = 100 := rfl
    rw [a, b]; grind
  rw [e1, e2]
theorem mring_spec {s : IP} {others : List IP} (hs : InSq s) (ho : ∀ t ∈ others, InSq t ∧ s ≠ t) :
    Rot ((mring s others).map pt) (ring (ip s) (others.map ip)) ∧ (∀ p ∈ mring s others, Prim p) ∧
    Good KI (ip s) (ring (ip s) (others.map ip)) ∧ cell (ip s) (others.map ip) = turned ((mring s others).map pt) := by
  have ho' : ∀ t ∈ others.map ip, IntPt t ∧ ip s ≠ t := by
    intro t ht
    obtain ⟨t', h', rfl⟩ := List.mem_map.mp ht
    exact ⟨(ho t' h').1.pt, fun e => (ho t' h').2 (ip_inj e)⟩
  have g := ring_good hs.pt ho'
  have hsq : ∀ p ∈ msquare, Prim p := by
    intro p hp
    simp only [msquare, List.mem_cons, List.not_mem_nil, or_false] at hp
    rcases hp with rfl | rfl | rfl | rfl <;> exact ⟨by decide, by decide⟩
  have r := fold_rot hs others msquare corners hsq (by rw [msquare_pt]; exact Rot.refl _) (corners_good hs) ho
  refine ⟨r.1, r.2, g.1, ?_⟩
  rw [cell_ring hs.pt ho']
  exact turned_rot g.1.nodup r.1.symm g.1.ne

/-! How large a corner's numbers are. -/
theorem prim_le {c : Pl} (h : Prim c) {D X Y : Int} (hD : 0 < D) (hx : (D : Rat) * (pt c).1 = X) (hy : (D : Rat) * (pt c).2 = Y) : c.2.2 ≤ D := by
  obtain ⟨x, y, w⟩ := c
  have hw : 0 < w := h.1
  have hwr := cast_pos hw
  have e1 : D * x = X * w := by
    have : ((D * x : Int) : Rat) = ((X * w : Int) : Rat) := by
      simp only [Rat.intCast_mul]
      unfold pt at hx
      simp only at hx
      grind
    exact Rat.intCast_inj.mp this
  have e2 : D * y = Y * w := by
    have : ((D * y : Int) : Rat) = ((Y * w : Int) : Rat) := by
      simp only [Rat.intCast_mul]
      unfold pt at hy
      simp only at hy
      grind
    exact Rat.intCast_inj.mp this
  have h1 : w ∣ D * (Int.gcd x y : Int) := by
    have d1 : w ∣ D * x := ⟨X, by rw [e1, Int.mul_comm]⟩
    have d2 : w ∣ D * y := ⟨Y, by rw [e2, Int.mul_comm]⟩
    have : w ∣ ((Int.gcd (D * x) (D * y) : Nat) : Int) := Int.dvd_coe_gcd d1 d2
    rw [Int.gcd_mul_left, Int.natCast_mul] at this
    have e3 : ((D.natAbs : Nat) : Int) = D := by omega
    rw [e3] at this
    exact this
  have h2 : w ∣ D * w := ⟨D, Int.mul_comm _ _⟩
  have h3 : w ∣ ((Int.gcd (D * (Int.gcd x y : Int)) (D * w) : Nat) : Int) := Int.dvd_coe_gcd h1 h2
  rw [Int.gcd_mul_left, Int.natCast_mul] at h3
  have e3 : ((D.natAbs : Nat) : Int) = D := by omega
  have e4 : (Int.gcd ((Int.gcd x y : Nat) : Int) w : Int) = 1 := h.2
  rw [e3, e4, Int.mul_one] at h3
  exact Int.le_of_dvd hD h3

structure Small (c : Pl) : Prop where
  w0 : 0 < c.2.2
  w1 : c.2.2 ≤ 320000
  x : c.1.natAbs ≤ 32000000
  y : c.2.1.natAbs ≤ 32000000
theorem abs_le_of {x w : Int} (hw : 0 < w) (h1 : (-100 : Rat) ≤ (x : Rat) / (w : Rat)) (h2 : (x : Rat) / (w : Rat) ≤ 100) : -(100 * w) ≤ x ∧ x ≤ 100 * w := by
  have hwr := cast_pos hw
  have e : (x : Rat) / (w : Rat) * w = x := by grind
  constructor
  · have : ((-(100 * w) : Int) : Rat) ≤ (x : Rat) := by
      have := Rat.mul_le_mul_of_nonneg_right h1 (Rat.le_of_lt hwr)
      rw [e] at this
      rw [Rat.intCast_neg, Rat.intCast_mul]
      have e2 : ((100 : Int) : Rat) = 100 := rfl
      rw [e2]
      grind
    exact Rat.intCast_le_intCast.mp this
  · have : (x : Rat) ≤ ((100 * w : Int) : Rat) := by
      have := Rat.mul_le_mul_of_nonneg_right h2 (Rat.le_of_lt hwr)
      rw [e] at this
      rw [Rat.intCast_mul]
      have e2 : ((100 : Int) : Rat) = 100 := rfl
      rw [e2]
      grind
    exact Rat.intCast_le_intCast.mp this
theorem mring_small {s : IP} {others : List IP} (hs : InSq s) (ho : ∀ t ∈ others, InSq t ∧ s ≠ t) : ∀ p ∈ mring s others, Small p := by
  intro p hp
  obtain ⟨r, hpr, hg, _⟩ := mring_spec hs ho
  have hm : pt p ∈ ring (ip s) (others.map ip) := (r.mem _).mp (List.mem_map_of_mem hp)
  have pr := hpr p hp
  obtain ⟨D, X, Y, d0, d1, dx, dy⟩ := hg.den hm
  have hw := prim_le pr d0 dx dy
  obtain ⟨⟨a1, a2⟩, b1, b2⟩ := ring_in _ _ _ hm
  have hx := abs_le_of pr.1 a1 a2
  have hy := abs_le_of pr.1 b1 b2
  have := pr.1
  exact ⟨pr.1, by omega, by omega, by omega⟩
theorem mring_len {s : IP} {others : List IP} (hs : InSq s) (ho : ∀ t ∈ others, InSq t ∧ s ≠ t) :
    3 ≤ (mring s others).length ∧ (mring s others).length ≤ 4 + others.length := by
  obtain ⟨r, hpr, hg, _⟩ := mring_spec hs ho
  have e := r.length
  rw [List.length_map] at e
  rw [e]
  refine ⟨hg.len, ?_⟩
  have ho' : ∀ t ∈ others.map ip, KI (bis (ip s) t) ∧ ip s ≠ t := by
    intro t ht
    obtain ⟨t', h', rfl⟩ := List.mem_map.mp ht
    exact ⟨hs.pt.KI (ho t' h').1.pt, fun e => (ho t' h').2 (ip_inj e)⟩
  have := fold_len (others.map ip) corners (corners_good hs) ho'
  rw [List.length_map] at this
  exact this
end NS

set_option Elab.async false
set_option linter.all false
namespace NS
open GkBase Gk04

/-! The area. -/
def mstepA (b c : Pl) : Int := b.1 * c.2.1 - c.1 * b.2.1
def mareaL : Int → Int → Pl → List Pl → Int × Int
  | a, d, _, [] => (a, d)
  | a, d, b, c :: r => mareaL (a * (b.2.2 * c.2.2) + mstepA b c * d) (d * (b.2.2 * c.2.2)) c r
def marea (c : List Pl) : List Int :=
  let z := mareaL 0 1 (c.getLastD (0, 0, 1)) c
  mlowest z.1 (2 * z.2)

def fA (e : Seg) : Rat := e.1.1 * e.2.2 - e.1.2 * e.2.1
def rsum (l : List Rat) : Rat := l.foldl (fun s y => s + y) 0
theorem rsum_acc : ∀ (l : List Rat) (a : Rat), l.foldl (fun s y => s + y) a = a + rsum l
  | [], a => by simp only [rsum, List.foldl_nil]; grind
  | x :: l, a => by
    unfold rsum
    rw [List.foldl_cons, List.foldl_cons, rsum_acc l (a + x), rsum_acc l (0 + x)]
    grind
theorem rsum_cons (x : Rat) (l : List Rat) : rsum (x :: l) = x + rsum l := by
  unfold rsum
  rw [List.foldl_cons, rsum_acc]
  unfold rsum
  grind
theorem rsum_append : ∀ (l m : List Rat), rsum (l ++ m) = rsum l + rsum m
  | [], m => by simp only [List.nil_append]; unfold rsum; simp only [List.foldl_nil]; grind
  | x :: l, m => by rw [List.cons_append, rsum_cons, rsum_cons, rsum_append l m]; grind

theorem area2_eq (o : Pt) (l : List Pt) : area2 (o :: l) = rsum ((pairs (o :: l ++ [o])).map fA) := by
  have : area2 (o :: l) = rsum ((sides (o :: l)).map fA) := rfl
  rw [this, sides_eq]

theorem fracadd {a d x1 y1 w1 x2 y2 w2 : Rat} (h1 : d ≠ 0) (h2 : w1 ≠ 0) (h3 : w2 ≠ 0) :
    (a * (w1 * w2) + (x1 * y2 - x2 * y1) * d) / (d * (w1 * w2)) = a / d + (x1 / w1 * (y2 / w2) - y1 / w1 * (x2 / w2)) := by
  grind
theorem mareaL_eq : ∀ (r : List Pl) (a d : Int) (b : Pl), 0 < d → 0 < b.2.2 → (∀ c ∈ r, 0 < c.2.2) →
    0 < (mareaL a d b r).2 ∧ ((mareaL a d b r).1 : Rat) / ((mareaL a d b r).2 : Rat) = (a : Rat) / (d : Rat) + rsum ((pairs (pt b :: r.map pt)).map fA)
  | [], a, d, b, hd, hb, _ => by
    refine ⟨hd, ?_⟩
    simp only [mareaL, pairs, List.map_nil, rsum, List.foldl_nil]
    grind
  | c :: r, a, d, b, hd, hb, h => by
    have hc := h c (by simp)
    have hbc := Int.mul_pos hb hc
    have ih := mareaL_eq r (a * (b.2.2 * c.2.2) + mstepA b c * d) (d * (b.2.2 * c.2.2)) c (Int.mul_pos hd hbc) hc (fun e he => h e (by simp [he]))
    rw [mareaL]
    refine ⟨ih.1, ?_⟩
    rw [ih.2]
    simp only [List.map_cons, pairs]
    rw [rsum_cons]
    have e : ((a * (b.2.2 * c.2.2) + mstepA b c * d : Int) : Rat) / ((d * (b.2.2 * c.2.2) : Int) : Rat) = (a : Rat) / (d : Rat) + fA (pt b, pt c) := by
      unfold mstepA fA pt
      simp only [Rat.intCast_add, Rat.intCast_sub, Rat.intCast_mul]
      have h1 : (d : Rat) ≠ 0 := by have := cast_pos hd; grind
      have h2 : (b.2.2 : Rat) ≠ 0 := by have := cast_pos hb; grind
      have h3 : (c.2.2 : Rat) ≠ 0 := by have := cast_pos hc; grind
      exact fracadd h1 h2 h3
    rw [e]
    grind

theorem marea_eq {c : List Pl} (h : ∀ p ∈ c, 0 < p.2.2) (hne : c ≠ []) : marea c = told (area2 (c.map pt) / 2) := by
  match c, hne with
  | o :: r, _ =>
    have hlast : (o :: r).getLastD (0, 0, 1) = (o :: r).getLast (by simp) := by
      rw [List.getLastD_eq_getLast?, List.getLast?_eq_some_getLast (by simp)]; rfl
    have hm : (o :: r).getLast (by simp) ∈ o :: r := List.getLast_mem _
    unfold marea
    simp only
    rw [hlast]
    generalize hz : (o :: r).getLast (by simp) = z at *
    have k := mareaL_eq (o :: r) 0 1 z (by decide) (h z hm) h
    rw [mlowest_told (by omega)]
    congr 1
    rw [List.map_cons, area2_eq]
    have hz' : (pt o :: r.map pt).getLast (by simp) = pt z := by
      rw [← hz]
      have : (pt o :: r.map pt) = (o :: r).map pt := rfl
      simp only [this, List.getLast_map]
    have e2 : pairs (pt o :: r.map pt ++ [pt o]) = pairs (pt o :: r.map pt) ++ [(pt z, pt o)] := by
      obtain ⟨x, hx⟩ : ∃ x, pt o :: r.map pt = x ++ [pt z] := ⟨(pt o :: r.map pt).dropLast, by rw [← hz']; exact (List.dropLast_concat_getLast _).symm⟩
      rw [hx, List.append_assoc]
      have := pairs_append (pt z) x [pt o]
      rw [show x ++ ([pt z] ++ [pt o]) = x ++ pt z :: [pt o] from rfl, this]
      rfl
    rw [e2, List.map_append, rsum_append]
    have k2 := k.2
    rw [List.map_cons] at k2
    have e3 : pairs (pt z :: pt o :: r.map pt) = (pt z, pt o) :: pairs (pt o :: r.map pt) := rfl
    rw [e3, List.map_cons, rsum_cons] at k2
    have e4 : rsum (List.map fA [(pt z, pt o)]) = fA (pt z, pt o) := by
      rw [List.map_cons, List.map_nil, rsum_cons]
      unfold rsum
      simp only [List.foldl_nil]
      grind
    rw [e4, Rat.intCast_mul]
    have e5 : ((2 : Int) : Rat) = 2 := rfl
    have e6 : ((0 : Int) : Rat) / ((1 : Int) : Rat) = 0 := by
      have a : ((1 : Int) : Rat) = 1 := rfl
      have b : ((0 : Int) : Rat) = 0 := rfl
      rw [a, b]; grind
    rw [e6] at k2
    rw [e5]
    have h1 := cast_pos k.1
    generalize ((mareaL 0 1 z (o :: r)).1 : Rat) = A at *
    generalize ((mareaL 0 1 z (o :: r)).2 : Rat) = B at *
    have : A / (2 * B) = A / B / 2 := by grind
    rw [this, k2]
    grind

/-! The first corner. -/
def mahead (c d : Pl) : Bool := decide (c.1 * d.2.2 - d.1 * c.2.2 < 0) || (decide (c.1 * d.2.2 - d.1 * c.2.2 = 0) && decide (c.2.1 * d.2.2 - d.2.1 * c.2.2 < 0))
theorem cast_lt0 (x : Int) : x < 0 ↔ (x : Rat) < 0 := by
  have := Rat.intCast_lt_intCast (a := x) (b := 0)
  simpa using this.symm
theorem cast_eq0 (x : Int) : x = 0 ↔ (x : Rat) = 0 := by
  have := Rat.intCast_inj (a := x) (b := 0)
  simpa using this.symm
theorem neg_mul_iff {k x : Rat} (h : 0 < k) : k * x < 0 ↔ x < 0 := by
  constructor
  · intro h1
    by_cases h2 : x < 0
    · exact h2
    · have := Rat.mul_nonneg (Rat.le_of_lt h) (show 0 ≤ x by grind)
      grind
  · intro h1
    have := Rat.mul_pos h (show 0 < -x by grind)
    grind
theorem mahead_eq {c d : Pl} (hc : 0 < c.2.2) (hd : 0 < d.2.2) : mahead c d = before (pt c) (pt d) := by
  have hc' := cast_pos hc
  have hd' := cast_pos hd
  have hcd := Rat.mul_pos hc' hd'
  have e1 : ((c.1 * d.2.2 - d.1 * c.2.2 : Int) : Rat) = ((c.2.2 : Rat) * (d.2.2 : Rat)) * ((pt c).1 - (pt d).1) := by
    unfold pt
    simp only [Rat.intCast_sub, Rat.intCast_mul]
    grind
  have e2 : ((c.2.1 * d.2.2 - d.2.1 * c.2.2 : Int) : Rat) = ((c.2.2 : Rat) * (d.2.2 : Rat)) * ((pt c).2 - (pt d).2) := by
    unfold pt
    simp only [Rat.intCast_sub, Rat.intCast_mul]
    grind
  have a1 : c.1 * d.2.2 - d.1 * c.2.2 < 0 ↔ (pt c).1 < (pt d).1 := by
    rw [cast_lt0, e1, neg_mul_iff hcd]; grind
  have a2 : c.1 * d.2.2 - d.1 * c.2.2 = 0 ↔ (pt c).1 = (pt d).1 := by
    rw [cast_eq0, e1]
    have : ∀ (k x y : Rat), 0 < k → (k * (x - y) = 0 ↔ x = y) := by intro k x y h; constructor <;> grind
    exact this _ _ _ hcd
  have a3 : c.2.1 * d.2.2 - d.2.1 * c.2.2 < 0 ↔ (pt c).2 < (pt d).2 := by
    rw [cast_lt0, e2, neg_mul_iff hcd]; grind
  unfold mahead before
  rw [decide_eq_decide.mpr a1, decide_eq_decide.mpr a2, decide_eq_decide.mpr a3]

/-- one look -/
def mbest (c : List Pl) (f a : Nat) : Nat := if mahead (c.getD a (0, 0, 1)) (c.getD f (0, 0, 1)) = true then a else f
def mfirst (c : List Pl) : Nat := (List.range' 1 (c.length - 1)).foldl (mbest c) 0
def mturned (c : List Pl) : List Pl := c.drop (mfirst c) ++ c.take (mfirst c)

theorem mfirst_spec {c : List Pl} (h : ∀ p ∈ c, 0 < p.2.2) : ∀ (k n f : Nat), f < k → k + n = c.length →
    (∀ i, i < k → (c.map pt).getD i (0, 0) = (c.map pt).getD f (0, 0) ∨ before ((c.map pt).getD f (0, 0)) ((c.map pt).getD i (0, 0)) = true) →
    ((List.range' k n).foldl (mbest c) f) < c.length ∧
    ∀ i, i < c.length → (c.map pt).getD i (0, 0) = (c.map pt).getD ((List.range' k n).foldl (mbest c) f) (0, 0) ∨
      before ((c.map pt).getD ((List.range' k n).foldl (mbest c) f) (0, 0)) ((c.map pt).getD i (0, 0)) = true := by
  have gd : ∀ i, i < c.length → (c.map pt).getD i (0, 0) = pt (c.getD i (0, 0, 1)) ∧ 0 < (c.getD i (0, 0, 1)).2.2 := by
    intro i hi
    have e : c.getD i (0, 0, 1) = c[i] := by simp [List.getD, hi]
    rw [e]
    refine ⟨by simp [List.getD, hi], h _ (List.getElem_mem hi)⟩
  intro k n
  induction n generalizing k with
  | zero =>
    intro f hf hk hall
    simp only [List.range'_zero, List.foldl_nil]
    exact ⟨by omega, fun i hi => hall i (by omega)⟩
  | succ n ih =>
    intro f hf hk hall
    rw [List.range'_succ, List.foldl_cons]
    have gk := gd k (by omega)
    have gf := gd f (by omega)
    have e : mahead (c.getD k (0, 0, 1)) (c.getD f (0, 0, 1)) = before ((c.map pt).getD k (0, 0)) ((c.map pt).getD f (0, 0)) := by
      rw [mahead_eq gk.2 gf.2, gk.1, gf.1]
    unfold mbest
    rw [e]
    split
    · rename_i hb
      refine ih (k + 1) k (by omega) (by omega) ?_
      intro i hi
      by_cases hik : i = k
      · left; rw [hik]
      · rcases hall i (by omega) with e2 | e2
        · right; rw [e2]; exact hb
        · right; exact before_trans hb e2
    · rename_i hb
      refine ih (k + 1) f (by omega) (by omega) ?_
      intro i hi
      by_cases hik : i = k
      · subst hik
        rcases before_tot ((c.map pt).getD i (0, 0)) ((c.map pt).getD f (0, 0)) with e2 | e2 | e2
        · exact absurd e2 hb
        · exact .inl e2
        · exact .inr e2
      · exact hall i (by omega)

theorem mturned_eq {c : List Pl} (h : ∀ p ∈ c, 0 < p.2.2) (hne : c ≠ []) (hn : (c.map pt).Nodup) :
    (mturned c).map pt = turned (c.map pt) ∧ mfirst c < c.length := by
  have hlen : 0 < c.length := List.length_pos_iff.mpr hne
  have k := mfirst_spec h 1 (c.length - 1) 0 (by omega) (by omega) (by intro i hi; left; congr 1; omega)
  have hf : mfirst c < c.length := k.1
  refine ⟨?_, hf⟩
  have hfm : mfirst c < (c.map pt).length := by simpa using hf
  have e1 : (mturned c).map pt = (c.map pt)[mfirst c] :: ((c.map pt).drop (mfirst c + 1) ++ (c.map pt).take (mfirst c)) := by
    unfold mturned
    rw [List.map_append, List.map_drop, List.map_take, List.drop_eq_getElem_cons hfm]
    rfl
  have hg : (c.map pt).getD (mfirst c) (0, 0) = (c.map pt)[mfirst c] := by simp [List.getD, hf]
  rw [e1]
  symm
  refine turned_uniq hn ?_ ?_
  · refine ⟨(c.map pt).take (mfirst c), (c.map pt).drop (mfirst c), by simp, ?_⟩
    rw [List.drop_eq_getElem_cons hfm]
    rfl
  · refine ⟨List.getElem_mem hfm, ?_⟩
    intro p hp
    obtain ⟨i, hi, rfl⟩ := List.getElem_of_mem hp
    have := k.2 i (by simpa using hi)
    have hi' : (c.map pt).getD i (0, 0) = (c.map pt)[i] := by simp [List.getD, show i < c.length by simpa using hi]
    rw [hi'] at this
    have e3 : (List.range' 1 (c.length - 1)).foldl (mbest c) 0 = mfirst c := rfl
    rw [e3, hg] at this
    exact this

/-! The cell as it is told. -/
def mfracs (c : Pl) : List Int := mlowest c.1 c.2.2 ++ mlowest c.2.1 c.2.2
theorem mfracs_eq {c : Pl} (h : 0 < c.2.2) : mfracs c = toldPt (pt c) := by
  unfold mfracs toldPt pt
  rw [mlowest_told h, mlowest_told h]
def mcell (s : IP) (others : List IP) : List Int :=
  let c := mturned (mring s others)
  (c.length : Int) :: (marea c ++ c.flatMap mfracs)
theorem mcell_eq {s : IP} {others : List IP} (hs : InSq s) (ho : ∀ t ∈ others, InSq t ∧ s ≠ t) :
    mcell s others = ((cell (ip s) (others.map ip)).length : Int) :: told (area2 (cell (ip s) (others.map ip)) / 2) ++ (cell (ip s) (others.map ip)).flatMap toldPt := by
  obtain ⟨r, hpr, hg, hcell⟩ := mring_spec hs ho
  have hw : ∀ p ∈ mring s others, 0 < p.2.2 := fun p hp => (hpr p hp).1
  have hlen := mring_len hs ho
  have hne : mring s others ≠ [] := by intro e; rw [e] at hlen; simp at hlen
  have hn : ((mring s others).map pt).Nodup := by
    obtain ⟨l, m, e1, e2⟩ := r
    have h1 := hg.nodup
    rw [e2] at h1
    rw [e1]
    rw [List.nodup_append] at h1 ⊢
    exact ⟨h1.2.1, h1.1, fun a ha b hb => (h1.2.2 b hb a ha).symm⟩
  have ht := mturned_eq hw hne hn
  have hmem : ∀ p ∈ mturned (mring s others), p ∈ mring s others := by
    intro p hp
    unfold mturned at hp
    rw [List.mem_append] at hp
    rcases hp with hp | hp
    · exact List.mem_of_mem_drop hp
    · exact List.mem_of_mem_take hp
  have hne2 : mturned (mring s others) ≠ [] := by
    intro e
    have : (mturned (mring s others)).length = (mring s others).length := by
      unfold mturned
      simp only [List.length_append, List.length_drop, List.length_take]
      omega
    rw [e] at this
    simp at this
    omega
  unfold mcell
  simp only
  rw [marea_eq (fun p hp => hw p (hmem p hp)) hne2, ht.1, ← hcell]
  rw [List.cons_append]
  have e1 : (mturned (mring s others)).length = (cell (ip s) (others.map ip)).length := by
    rw [hcell, ← ht.1, List.length_map]
  rw [e1]
  congr 2
  rw [hcell, ← ht.1, List.flatMap_map]
  have : ∀ (L : List Pl), (∀ p ∈ L, 0 < p.2.2) → L.flatMap mfracs = L.flatMap (fun p => toldPt (pt p)) := by
    intro L
    induction L with
    | nil => intro _; rfl
    | cons a L ih =>
      intro h
      rw [List.flatMap_cons, List.flatMap_cons, mfracs_eq (h a (by simp)), ih (fun p hp => h p (by simp [hp]))]
  exact this _ (fun p hp => hw p (hmem p hp))
end NS

set_option Elab.async false
set_option linter.all false
namespace NS
open GkBase Gk04
/-! The land: its sites with their names, rising; the next name. -/
structure Ld where
  sites : List (Nat × IP)
  given : Nat
structure Wf (m : Ld) : Prop where
  rise : (m.sites.map Prod.fst).Pairwise (· < ·)
  low : ∀ z ∈ m.sites, z.1 < m.given
  sq : ∀ z ∈ m.sites, InSq z.2
  nd : (m.sites.map Prod.snd).Nodup
  few : m.sites.length ≤ 8
  gv : m.given ≤ 1000
def mfresh : Ld := ⟨[], 0⟩
def mHas (m : Ld) (k : Nat) : Bool := m.sites.any fun z => decide (z.1 = k)
def mgone (m : Ld) (k : Nat) : Ld × List Int :=
  if mHas m k = true then (⟨m.sites.filter fun z => decide (z.1 ≠ k), m.given⟩, [((m.sites.filter fun z => decide (z.1 ≠ k)).length : Int)]) else (m, [-3])
def madd (m : Ld) (x y : Int) : Ld × List Int :=
  if 100 < x.natAbs ∨ 100 < y.natAbs then (m, [-1]) else
  if (m.sites.any fun z => decide (z.2 = (x, y))) = true then (m, [-4]) else
  if 8 ≤ m.sites.length then (m, [-2]) else (⟨m.sites ++ [(m.given, (x, y))], m.given + 1⟩, [(m.given : Int)])
/-! what the calls answer -/
def mfar (c : Pl) (s : IP) : Int := (c.1 - s.1 * c.2.2) * (c.1 - s.1 * c.2.2) + (c.2.1 - s.2 * c.2.2) * (c.2.1 - s.2 * c.2.2)
def mfraction (a b : Int) : Bool := decide ((a.natAbs : Int) ≤ 100000) && (decide (1 ≤ b) && decide (b ≤ 1000))
def mplace (a b c d : Int) : Bool := mfraction a b && mfraction c d
def mplaceOf (a b c d : Int) : Pl := (a * d, c * b, b * d)
def mupto (m : Ld) (most : Int) (c : Pl) : List Nat := (m.sites.filter fun z => decide (mfar c z.2 ≤ most)).map Prod.fst
def mwithin (m : Ld) (far a b c d : Int) : List Int :=
  if mplace a b c d = false then [-1] else
  let pl := mplaceOf a b c d
  let names := mupto m (far * pl.2.2 * pl.2.2) pl
  (names.length : Int) :: names.map fun (n : Nat) => (n : Int)
def mleast (m : Ld) (pl : Pl) : Int := ((m.sites.map fun z => mfar pl z.2).min?).getD 0
def mnearest (m : Ld) (a b c d : Int) : List Int :=
  if mplace a b c d = false then [-1] else
  if m.sites.length = 0 then [-6] else
  let pl := mplaceOf a b c d
  let names := mupto m (mleast m pl) pl
  (names.length : Int) :: (mlowest (mleast m pl) (pl.2.2 * pl.2.2) ++ names.map fun (n : Nat) => (n : Int))
def mothers (m : Ld) (s : IP) : List IP := (m.sites.map Prod.snd).filter fun t => decide (t ≠ s)
def mcellM (m : Ld) (k : Nat) : List Int := match m.sites.find? fun z => decide (z.1 = k) with
  | none => [-3]
  | some z => mcell z.2 (mothers m z.2)
end NS

set_option Elab.async false
set_option linter.all false
namespace NS
open GkBase Gk04

/-! The mirror against the specification, call by call. -/
def toSites (l : List (Nat × IP)) : Sites := l.map fun z => (z.1, ip z.2)
def toSt (m : Ld) : State := ⟨toSites m.sites, m.given⟩

theorem intCast_le (x : Int) (n : Int) : ((x : Rat) ≤ (n : Rat)) ↔ x ≤ n := Rat.intCast_le_intCast
theorem inSquare_iff (x y : Int) : inSquare (ofInts x y) = decide (¬ (100 < x.natAbs ∨ 100 < y.natAbs)) := by
  unfold inSquare ofInts SIDE
  have h100 : (100 : Rat) = ((100 : Int) : Rat) := rfl
  have hm100 : (-100 : Rat) = ((-100 : Int) : Rat) := by simp
  simp only []
  rw [hm100, h100]
  have a1 : (((-100 : Int) : Rat) ≤ (x : Rat)) ↔ -100 ≤ x := Rat.intCast_le_intCast
  have a2 : ((x : Rat) ≤ ((100 : Int) : Rat)) ↔ x ≤ 100 := Rat.intCast_le_intCast
  have a3 : (((-100 : Int) : Rat) ≤ (y : Rat)) ↔ -100 ≤ y := Rat.intCast_le_intCast
  have a4 : ((y : Rat) ≤ ((100 : Int) : Rat)) ↔ y ≤ 100 := Rat.intCast_le_intCast
  rw [Bool.eq_iff_iff]
  simp only [Bool.and_eq_true, decide_eq_true_eq, a1, a2, a3, a4]
  omega

theorem any_taken (l : List (Nat × IP)) (x y : Int) : ((toSites l).any fun z => decide (z.2 = ofInts x y)) = l.any fun z => decide (z.2 = (x, y)) := by
  unfold toSites
  rw [List.any_map]
  congr 1
  funext z
  simp only [Function.comp_apply]
  apply decide_eq_decide.mpr
  constructor
  · intro h
    exact ip_inj (t := (x, y)) h
  · intro h
    rw [h]
    rfl

theorem add_step (m : Ld) (x y : Int) : Gk04.step (toSt m) (.add x y) = (toSt (madd m x y).1, (madd m x y).2) := by
  show (if inSquare (ofInts x y) = false then (toSt m, [-1]) else if (toSites m.sites).any (fun (z : Nat × Pt) => decide (z.2 = ofInts x y)) = true then (toSt m, [-4]) else if SITES ≤ (toSites m.sites).length then (toSt m, [-2]) else
    ((⟨toSites m.sites ++ [(m.given, ofInts x y)], m.given + 1⟩ : State), [nat m.given])) = _
  rw [inSquare_iff, any_taken]
  unfold madd
  by_cases h1 : 100 < x.natAbs ∨ 100 < y.natAbs
  · rw [if_pos h1, if_pos (by simp [h1])]
  rw [if_neg h1, if_neg (by simp [h1])]
  by_cases h2 : (m.sites.any fun z => decide (z.2 = (x, y))) = true
  · rw [if_pos h2, if_pos h2]
  rw [if_neg h2, if_neg h2]
  have hl : (toSites m.sites).length = m.sites.length := by simp [toSites]
  rw [hl]
  unfold SITES
  by_cases h3 : 8 ≤ m.sites.length
  · rw [if_pos h3, if_pos h3]
  rw [if_neg h3, if_neg h3]
  unfold toSt toSites
  rw [List.map_append]
  rfl

theorem madd_wf {m : Ld} (h : Wf m) (x y : Int) (hg : m.given + 1 ≤ 1000) : Wf (madd m x y).1 ∧ (madd m x y).1.given ≤ m.given + 1 := by
  unfold madd
  by_cases h1 : 100 < x.natAbs ∨ 100 < y.natAbs
  · rw [if_pos h1]; exact ⟨h, by simp⟩
  rw [if_neg h1]
  by_cases h2 : (m.sites.any fun z => decide (z.2 = (x, y))) = true
  · rw [if_pos h2]; exact ⟨h, by simp⟩
  rw [if_neg h2]
  by_cases h3 : 8 ≤ m.sites.length
  · rw [if_pos h3]; exact ⟨h, by simp⟩
  rw [if_neg h3]
  refine ⟨⟨?_, ?_, ?_, ?_, ?_, hg⟩, Nat.le_refl _⟩
  · simp only [List.map_append, List.map_cons, List.map_nil]
    rw [List.pairwise_append]
    refine ⟨h.rise, by simp, ?_⟩
    intro a ha b hb
    rw [List.mem_singleton] at hb
    subst hb
    obtain ⟨z, hz, rfl⟩ := List.mem_map.mp ha
    exact h.low z hz
  · intro z hz
    rw [List.mem_append] at hz
    rcases hz with hz | hz
    · have := h.low z hz
      show z.1 < m.given + 1
      omega
    · rw [List.mem_singleton] at hz
      subst hz
      exact Nat.lt_succ_self _
  · intro z hz
    rw [List.mem_append] at hz
    rcases hz with hz | hz
    · exact h.sq z hz
    · rw [List.mem_singleton] at hz
      subst hz
      unfold InSq inSq
      simp only
      omega
  · simp only [List.map_append, List.map_cons, List.map_nil]
    rw [List.nodup_append]
    refine ⟨h.nd, by simp, ?_⟩
    intro a ha b hb e
    rw [List.mem_singleton] at hb
    subst hb
    subst e
    obtain ⟨z, hz, he⟩ := List.mem_map.mp ha
    exact h2 (List.any_eq_true.mpr ⟨z, hz, by simpa using he⟩)
  · simp only [List.length_append, List.length_cons, List.length_nil]
    omega

theorem siteOf_eq (l : List (Nat × IP)) (k : Nat) : siteOf (toSites l) k = (l.find? fun z => decide (z.1 = k)).map fun z => ip z.2 := by
  unfold siteOf toSites
  rw [List.find?_map]
  rw [Option.map_map]
  rfl
theorem has_find (m : Ld) (k : Nat) : mHas m k = (m.sites.find? fun z => decide (z.1 = k)).isSome := by
  unfold mHas
  induction m.sites with
  | nil => rfl
  | cons a l ih =>
    rw [List.any_cons, List.find?_cons]
    by_cases h : a.1 = k
    · simp [h]
    · simp [h, ih]
theorem filter_sites (l : List (Nat × IP)) (k : Nat) : (toSites l).filter (fun (z : Nat × Pt) => decide (z.1 ≠ k)) = toSites (l.filter fun z => decide (z.1 ≠ k)) := by
  unfold toSites
  rw [List.filter_map]
  rfl
theorem gone_step (m : Ld) (k : Nat) : Gk04.step (toSt m) (.gone k) = (toSt (mgone m k).1, (mgone m k).2) := by
  show (if (siteOf (toSites m.sites) k).isNone = true then (toSt m, [-3]) else
    ((⟨(toSites m.sites).filter fun (z : Nat × Pt) => decide (z.1 ≠ k), m.given⟩ : State), [nat ((toSites m.sites).filter fun (z : Nat × Pt) => decide (z.1 ≠ k)).length])) = _
  rw [siteOf_eq, filter_sites]
  unfold mgone
  rw [has_find]
  cases h : m.sites.find? fun z => decide (z.1 = k) with
  | none => simp
  | some z =>
    simp only [Option.map_some, Option.isNone_some, Bool.false_eq_true, if_false, Option.isSome_some, if_true]
    unfold toSt nat
    simp [toSites]
theorem mgone_wf {m : Ld} (h : Wf m) (k : Nat) : Wf (mgone m k).1 ∧ (mgone m k).1.given = m.given := by
  unfold mgone
  by_cases h1 : mHas m k = true
  · rw [if_pos h1]
    refine ⟨⟨?_, ?_, ?_, ?_, ?_, h.gv⟩, rfl⟩
    · exact h.rise.sublist (List.filter_sublist.map _)
    · exact fun z hz => h.low z (List.mem_filter.mp hz).1
    · exact fun z hz => h.sq z (List.mem_filter.mp hz).1
    · exact h.nd.sublist (List.filter_sublist.map _)
    · exact Nat.le_trans (List.length_filter_le _ _) h.few
  · rw [if_neg h1]
    exact ⟨h, rfl⟩
theorem mfresh_wf : Wf mfresh := ⟨by simp [mfresh], by simp [mfresh], by simp [mfresh], by simp [mfresh], by simp [mfresh], by simp [mfresh]⟩

/-! places -/
theorem ptOf_eq (a b c d : Int) : ptOf [a, b, c, d] = if mplace a b c d = true then some (pt (mplaceOf a b c d)) else none := by
  have hc : (decide (a.natAbs ≤ 100000) && (decide (c.natAbs ≤ 100000) && (decide (1 ≤ b) && (decide (b ≤ 1000) && (decide (1 ≤ d) && decide (d ≤ 1000)))))) = mplace a b c d := by
    unfold mplace mfraction
    simp only [← Bool.decide_and]
    apply decide_eq_decide.mpr
    omega
  show (if (decide (a.natAbs ≤ 100000) && (decide (c.natAbs ≤ 100000) && (decide (1 ≤ b) && (decide (b ≤ 1000) && (decide (1 ≤ d) && decide (d ≤ 1000)))))) = true then some ((a : Rat) / (b : Rat), (c : Rat) / (d : Rat)) else none) = _
  rw [hc]
  by_cases h : mplace a b c d = true
  · rw [if_pos h, if_pos h]
    have hb : 0 < b ∧ 0 < d := by
      unfold mplace mfraction at h
      simp only [Bool.and_eq_true, decide_eq_true_eq] at h
      omega
    have h1 := cast_pos hb.1
    have h2 := cast_pos hb.2
    congr 1
    unfold pt mplaceOf
    simp only [Rat.intCast_mul]
    ext
    · simp only
      generalize (a : Rat) = x at *
      generalize (b : Rat) = y at *
      generalize (d : Rat) = z at *
      grind
    · simp only
      generalize (c : Rat) = x at *
      generalize (b : Rat) = y at *
      generalize (d : Rat) = z at *
      grind
  · rw [if_neg h, if_neg h]
theorem mplaceOf_pos {a b c d : Int} (h : mplace a b c d = true) : 0 < (mplaceOf a b c d).2.2 := by
  unfold mplace mfraction at h
  simp only [Bool.and_eq_true, decide_eq_true_eq] at h
  unfold mplaceOf
  exact Int.mul_pos (by omega) (by omega)
/-- how far, in whole numbers -/
theorem mfar_eq {c : Pl} (s : IP) (h : 0 < c.2.2) : (mfar c s : Rat) = ((c.2.2 : Rat) * (c.2.2 : Rat)) * far2 (pt c) (ip s) := by
  have hw := cast_pos h
  unfold mfar far2 pt ip ofInts
  simp only [Rat.intCast_add, Rat.intCast_sub, Rat.intCast_mul]
  generalize (c.1 : Rat) = x at *
  generalize (c.2.1 : Rat) = y at *
  generalize (c.2.2 : Rat) = w at *
  generalize (s.1 : Rat) = u at *
  generalize (s.2 : Rat) = v at *
  grind
theorem le_mul_iff {k x y : Rat} (h : 0 < k) : k * x ≤ k * y ↔ x ≤ y := by
  constructor
  · intro h1
    have := nn_of_mul h (x := y - x) (by grind)
    grind
  · intro h1
    have := Rat.mul_nonneg (Rat.le_of_lt h) (show 0 ≤ y - x by grind)
    grind
theorem mfar_le {c : Pl} (s t : IP) (h : 0 < c.2.2) : mfar c s ≤ mfar c t ↔ far2 (pt c) (ip s) ≤ far2 (pt c) (ip t) := by
  have hw := cast_pos h
  rw [← Rat.intCast_le_intCast, mfar_eq s h, mfar_eq t h, le_mul_iff (Rat.mul_pos hw hw)]
theorem within_le {c : Pl} (s : IP) (r : Int) (h : 0 < c.2.2) : mfar c s ≤ r * c.2.2 * c.2.2 ↔ far2 (pt c) (ip s) ≤ (r : Rat) := by
  have hw := cast_pos h
  rw [← Rat.intCast_le_intCast, mfar_eq s h]
  have e : ((r * c.2.2 * c.2.2 : Int) : Rat) = ((c.2.2 : Rat) * (c.2.2 : Rat)) * (r : Rat) := by
    simp only [Rat.intCast_mul]
    grind
  rw [e, le_mul_iff (Rat.mul_pos hw hw)]
theorem within_step (m : Ld) (r : Nat) (a b c d : Int) : Gk04.step (toSt m) (.within r [a, b, c, d]) = (toSt m, mwithin m (r : Int) a b c d) := by
  show (toSt m, (match ptOf [a, b, c, d] with
    | none => [-1]
    | some z =>
      let l := ((toSites m.sites).filter fun (x : Nat × Pt) => decide (far2 z x.2 ≤ (r : Rat))).map fun (x : Nat × Pt) => x.1
      nat l.length :: l.map nat)) = _
  rw [ptOf_eq]
  unfold mwithin
  by_cases h : mplace a b c d = true
  · rw [if_pos h, if_neg (by rw [h]; decide)]
    simp only
    have e : ((toSites m.sites).filter fun (x : Nat × Pt) => decide (far2 (pt (mplaceOf a b c d)) x.2 ≤ (r : Rat))).map (fun (x : Nat × Pt) => x.1) =
        mupto m ((r : Int) * (mplaceOf a b c d).2.2 * (mplaceOf a b c d).2.2) (mplaceOf a b c d) := by
      unfold mupto toSites
      rw [List.filter_map, List.map_map]
      congr 1
      apply List.filter_congr
      intro z _
      simp only [Function.comp_apply]
      apply decide_eq_decide.mpr
      rw [within_le z.2 (r : Int) (mplaceOf_pos h)]
      rfl
    rw [e]
    rfl
  · rw [if_neg h, if_pos (by simpa using h)]

theorem leastOf_some : ∀ (l : List Rat) (b : Rat), ∃ v, l.foldl (fun (b : Option Rat) (x : Rat) => match b with
    | none => some x
    | some y => some (min x y)) (some b) = some v ∧ v ∈ b :: l ∧ ∀ y ∈ b :: l, v ≤ y
  | [], b => ⟨b, rfl, by simp, by simp⟩
  | a :: l, b => by
    obtain ⟨v, h1, h2, h3⟩ := leastOf_some l (min a b)
    refine ⟨v, h1, ?_, ?_⟩
    · rcases List.mem_cons.mp h2 with e | e
      · rw [e]
        by_cases hab : a ≤ b
        · have : min a b = a := by grind
          rw [this]; simp
        · have : min a b = b := by grind
          rw [this]; simp
      · simp [e]
    · intro y hy
      have hm := h3 (min a b) (by simp)
      simp only [List.mem_cons] at hy
      rcases hy with rfl | rfl | hy
      · grind
      · grind
      · exact h3 y (by simp [hy])
theorem leastOf_spec {l : List Rat} (h : l ≠ []) : ∃ v, leastOf l = some v ∧ v ∈ l ∧ ∀ y ∈ l, v ≤ y := by
  match l, h with
  | a :: l, _ => exact leastOf_some l a
theorem mleast_spec {m : Ld} {pl : Pl} (h : m.sites ≠ []) : mleast m pl ∈ (m.sites.map fun z => mfar pl z.2) ∧ ∀ y ∈ (m.sites.map fun z => mfar pl z.2), mleast m pl ≤ y := by
  unfold mleast
  have hne : (m.sites.map fun z => mfar pl z.2) ≠ [] := by simpa using h
  have e := List.min?_eq_some_min hne
  rw [e]
  exact List.min?_eq_some_iff.mp e
theorem nearest_step (m : Ld) (a b c d : Int) : Gk04.step (toSt m) (.nearest [a, b, c, d]) = (toSt m, mnearest m a b c d) := by
  show (toSt m, (match ptOf [a, b, c, d] with
    | none => [-1]
    | some z => match Gk04.nearest (toSites m.sites) z with
      | none => [-6]
      | some x => nat x.2.length :: told x.1 ++ x.2.map nat)) = _
  rw [ptOf_eq]
  unfold mnearest
  by_cases h : mplace a b c d = true
  · rw [if_pos h, if_neg (by rw [h]; decide)]
    simp only
    have hw := mplaceOf_pos h
    generalize mplaceOf a b c d = pl at *
    by_cases h0 : m.sites.length = 0
    · rw [if_pos h0]
      have : m.sites = [] := List.length_eq_zero_iff.mp h0
      rw [this]
      rfl
    · rw [if_neg h0]
      have hne : m.sites ≠ [] := fun e => h0 (by rw [e]; rfl)
      obtain ⟨l1, l2⟩ := mleast_spec (pl := pl) hne
      have hne2 : ((toSites m.sites).map fun (x : Nat × Pt) => far2 (pt pl) x.2) ≠ [] := by simpa [toSites] using hne
      obtain ⟨v, v1, v2, v3⟩ := leastOf_spec hne2
      obtain ⟨z0, hz0, e0⟩ := List.mem_map.mp l1
      have hwr := cast_pos hw
      have hkk := Rat.mul_pos hwr hwr
      have hv : v = (mleast m pl : Rat) / ((pl.2.2 * pl.2.2 : Int) : Rat) := by
        have a1 : v ≤ far2 (pt pl) (ip z0.2) := v3 _ (by
          unfold toSites
          rw [List.map_map]
          exact List.mem_map_of_mem (f := fun z => far2 (pt pl) (ip z.2)) hz0)
        unfold toSites at v2
        rw [List.map_map] at v2
        obtain ⟨z1, hz1, e1⟩ := List.mem_map.mp v2
        have a2 : mleast m pl ≤ mfar pl z1.2 := l2 _ (List.mem_map_of_mem (f := fun z => mfar pl z.2) hz1)
        rw [← e0] at a2
        rw [mfar_le _ _ hw] at a2
        have e1' : far2 (pt pl) (ip z1.2) = v := e1
        have : v = far2 (pt pl) (ip z0.2) := by grind
        rw [this, ← e0, mfar_eq _ hw, Rat.intCast_mul]
        grind
      have hn : Gk04.nearest (toSites m.sites) (pt pl) = some (v, ((toSites m.sites).filter fun (x : Nat × Pt) => decide (far2 (pt pl) x.2 = v)).map fun (x : Nat × Pt) => x.1) := by
        unfold Gk04.nearest
        rw [v1]
        rfl
      rw [hn]
      simp only
      have e : ((toSites m.sites).filter fun (x : Nat × Pt) => decide (far2 (pt pl) x.2 = v)).map (fun (x : Nat × Pt) => x.1) = mupto m (mleast m pl) pl := by
        unfold mupto toSites
        rw [List.filter_map, List.map_map]
        congr 1
        apply List.filter_congr
        intro z hz
        simp only [Function.comp_apply]
        apply decide_eq_decide.mpr
        have b1 : v ≤ far2 (pt pl) (ip z.2) := v3 _ (by
          unfold toSites
          rw [List.map_map]
          exact List.mem_map_of_mem (f := fun z => far2 (pt pl) (ip z.2)) hz)
        have b2 := l2 _ (List.mem_map_of_mem (f := fun z => mfar pl z.2) hz)
        rw [← Rat.intCast_le_intCast, mfar_eq _ hw]
        have b3 : (mleast m pl : Rat) = ((pl.2.2 : Rat) * (pl.2.2 : Rat)) * v := by
          rw [hv, Rat.intCast_mul]
          grind
        rw [b3, le_mul_iff hkk]
        constructor
        · intro e; rw [e]; exact Rat.le_refl
        · intro e; grind
      rw [e, mlowest_told (Int.mul_pos hw hw), ← hv]
      rfl
  · rw [if_neg h, if_pos (by simpa using h)]

/-! cells -/
theorem mothers_eq {m : Ld} (h : Wf m) {k : Nat} {s : IP} (hk : (k, s) ∈ m.sites) : othersOf (toSites m.sites) k = (mothers m s).map ip := by
  unfold othersOf mothers toSites
  rw [List.filter_map, List.map_map, List.filter_map, List.map_map]
  have e : m.sites.filter ((fun (x : Nat × Pt) => decide (x.1 ≠ k)) ∘ fun z => (z.1, ip z.2)) = m.sites.filter ((fun t => decide (t ≠ s)) ∘ Prod.snd) := by
    apply List.filter_congr
    intro z hz
    simp only [Function.comp_apply]
    apply decide_eq_decide.mpr
    have inj : ∀ a ∈ m.sites, ∀ b ∈ m.sites, (a.1 = b.1 ↔ a.2 = b.2) := by
      intro a ha b hb
      obtain ⟨i, hi, rfl⟩ := List.getElem_of_mem ha
      obtain ⟨j, hj, rfl⟩ := List.getElem_of_mem hb
      have r := h.rise
      have n := h.nd
      unfold List.Nodup at n
      rw [List.pairwise_map, List.pairwise_iff_getElem] at r n
      rcases Nat.lt_trichotomy i j with hij | hij | hij
      · have r1 := r i j hi hj hij
        have n1 := n i j hi hj hij
        constructor
        · intro e; omega
        · intro e; exact absurd e n1
      · subst hij
        simp
      · have r1 := r j i hj hi hij
        have n1 := n j i hj hi hij
        constructor
        · intro e; omega
        · intro e; exact absurd e.symm n1
    have := inj z hz (k, s) hk
    simp only at this
    rw [ne_eq, ne_eq, this]
  rw [e]
  rfl
theorem mothers_ok {m : Ld} (h : Wf m) (s : IP) : ∀ t ∈ mothers m s, InSq t ∧ s ≠ t := by
  intro t ht
  obtain ⟨h5, h6⟩ := List.mem_filter.mp ht
  obtain ⟨z, hz, rfl⟩ := List.mem_map.mp h5
  exact ⟨h.sq z hz, fun e => (of_decide_eq_true h6) e.symm⟩
theorem cell_step {m : Ld} (h : Wf m) (k : Nat) : Gk04.step (toSt m) (.cell k) = (toSt m, mcellM m k) := by
  show (toSt m, (match siteOf (toSites m.sites) k with
    | none => [-3]
    | some z =>
      let c := Gk04.cell z (othersOf (toSites m.sites) k)
      nat c.length :: told (area2 c / 2) ++ c.flatMap toldPt)) = _
  rw [siteOf_eq]
  unfold mcellM
  cases hf : m.sites.find? fun z => decide (z.1 = k) with
  | none => rfl
  | some z =>
    have hzm := List.mem_of_find?_eq_some hf
    have hzk : z.1 = k := by have := List.find?_some hf; simpa using this
    have hks : (k, z.2) ∈ m.sites := by rw [← hzk]; exact hzm
    simp only [Option.map_some]
    rw [mothers_eq h hks, mcell_eq (h.sq z hzm) (mothers_ok h z.2)]
    rfl
end NS

set_option Elab.async false
set_option linter.all false
namespace NS
open GkBase Gk04

/-! The list that is handed in, call by call. -/
theorem shape_zero {p : Int} {n k : Nat} (h : PyGk04.shape p = some (n, k)) : k = 0 := by
  unfold PyGk04.shape at h
  repeat' split at h
  all_goals first | (cases h; rfl) | (cases h)
theorem calls_cons {f : Nat} {p : Int} {r : List Int} {cs : List (List (List Int))} (h : PyFlat.calls PyGk04.shape f (p :: r) = some cs) :
    ∃ f' n cs', PyGk04.shape p = some (n, 0) ∧ n ≤ r.length ∧ cs = [p :: r.take n] :: cs' ∧ PyFlat.calls PyGk04.shape f' (r.drop n) = some cs' := by
  cases f with
  | zero => simp [PyFlat.calls] at h
  | succ f =>
    rw [PyFlat.calls] at h
    cases hs : PyGk04.shape p with
    | none =>
      have : PyFlat.call PyGk04.shape (p :: r) = none := by simp only [PyFlat.call, hs]
      rw [this] at h
      cases h
    | some nk =>
      obtain ⟨n, k⟩ := nk
      have hk := shape_zero hs
      subst hk
      by_cases hn : r.length < n
      · have : PyFlat.call PyGk04.shape (p :: r) = none := by simp only [PyFlat.call, hs, if_pos hn]
        rw [this] at h
        cases h
      · have : PyFlat.call PyGk04.shape (p :: r) = some ([p :: r.take n], r.drop n) := by
          simp only [PyFlat.call, hs, if_neg hn, PyFlat.rows]
        rw [this] at h
        simp only at h
        cases hc : PyFlat.calls PyGk04.shape f (r.drop n) with
        | none => rw [hc] at h; cases h
        | some cs' =>
          rw [hc] at h
          cases h
          exact ⟨f, n, cs', rfl, by omega, rfl, hc⟩
theorem calls_nil {f : Nat} {cs : List (List (List Int))} (h : PyFlat.calls PyGk04.shape f [] = some cs) : cs = [] := by
  cases f <;> (rw [PyFlat.calls] at h; cases h; rfl)
theorem shape_cases {p : Int} {n : Nat} (h : PyGk04.shape p = some (n, 0)) :
    (p = 0 ∧ n = 2) ∨ (p = 1 ∧ n = 1) ∨ (p = 2 ∧ n = 4) ∨ (p = 3 ∧ n = 5) ∨ (p = 4 ∧ n = 1) ∨ (p = 5 ∧ n = 1) ∨ (p = 6 ∧ n = 0) ∨ (p = 7 ∧ n = 0) ∨ (p = 8 ∧ n = 0) ∨ (p = 9 ∧ n = 0) := by
  unfold PyGk04.shape at h
  repeat' split at h
  all_goals first | (injection h with h; injection h with h1 h2; omega) | (cases h)
/-- what one call hands over is as the document tells -/
def CallOk (p : Int) (args : List Int) : Prop := PyGk04.shape p = some (args.length, 0) ∧ PyInside.each (PyGk04.bound p).1 args = true
theorem asked_split {l : List Int} (h : PyGk04.answers_asked l = true) : ∃ raw, PyFlat.calls PyGk04.shape l.length l = some raw ∧ raw.length ≤ 40 ∧ PyInside.calls PyGk04.bound raw = true ∧ (PyGk04.answers l).length ≤ 10000000 ∧
    PyGk04.answers l = PyFlat.told (PyFlat.played Gk04Neutral.step Gk04Neutral.start (raw.map PyGk04.whole)) := by
  unfold PyGk04.answers_asked at h
  cases hr : PyFlat.calls PyGk04.shape l.length l with
  | none => rw [hr] at h; cases h
  | some raw =>
    rw [hr] at h
    simp only [Bool.and_eq_true] at h
    obtain ⟨⟨⟨⟨h1, h2⟩, h3⟩, h4⟩, h5⟩ := h
    refine ⟨raw, rfl, ?_, h3, ?_, ?_⟩
    · unfold PyFlat.atMost at h2; simpa using h2
    · unfold PyFlat.short at h5; simpa using h5
    · unfold PyGk04.answers PyGk04.calls
      rw [hr]
theorem inside_cons {p : Int} {args : List Int} {cs : List (List (List Int))} (h : PyInside.calls PyGk04.bound ([p :: args] :: cs) = true) : PyInside.each (PyGk04.bound p).1 args = true ∧ PyInside.calls PyGk04.bound cs = true := by
  unfold PyInside.calls at *
  rw [List.all_cons, Bool.and_eq_true] at h
  refine ⟨?_, h.2⟩
  have h1 := h.1
  unfold PyInside.call at h1
  simp only [Bool.and_eq_true] at h1
  exact h1.1
/-- one call as the document's machine takes it -/
def specStep (s : State) (p : Int) (args : List Int) : State × List Int := Gk04Neutral.step s (PyGk04.whole [p :: args])
theorem told_cons (s : State) (p : Int) (args : List Int) (cs : List (List (List Int))) :
    PyFlat.told (PyFlat.played Gk04Neutral.step s (([p :: args] :: cs).map PyGk04.whole)) =
      (((specStep s p args).2.length : Int) :: (specStep s p args).2) ++ PyFlat.told (PyFlat.played Gk04Neutral.step (specStep s p args).1 (cs.map PyGk04.whole)) := by
  rw [List.map_cons, PyFlat.played]
  unfold PyFlat.told
  rw [List.flatMap_cons]
  rfl
end NS

set_option Elab.async false
set_option linter.all false
namespace NS
open GkBase Gk04

/-! The least circle. -/
theorem far2_nn (p q : Pt) : 0 ≤ far2 p q := by
  unfold far2
  have := sq_nn (p.1 - q.1)
  have := sq_nn (p.2 - q.2)
  grind
theorem far2_zero {p q : Pt} (h : far2 p q = 0) : p = q := by
  unfold far2 at h
  have a := sq_nn (p.1 - q.1)
  have b := sq_nn (p.2 - q.2)
  have a0 : p.1 - q.1 = 0 := by
    by_cases h0 : p.1 - q.1 = 0
    · exact h0
    · have := sq_pos h0; grind
  have b0 : p.2 - q.2 = 0 := by
    by_cases h0 : p.2 - q.2 = 0
    · exact h0
    · have := sq_pos h0; grind
  ext <;> grind
theorem far2_comm (p q : Pt) : far2 p q = far2 q p := by unfold far2; grind
theorem reach_acc : ∀ (l : List Pt) (m : Pt) (b : Rat), 0 ≤ b → b ≤ l.foldl (fun (b : Rat) (p : Pt) => max b (far2 p m)) b ∧ (∀ p ∈ l, far2 p m ≤ l.foldl (fun (b : Rat) (p : Pt) => max b (far2 p m)) b) ∧
    (l.foldl (fun (b : Rat) (p : Pt) => max b (far2 p m)) b = b ∨ ∃ p ∈ l, far2 p m = l.foldl (fun (b : Rat) (p : Pt) => max b (far2 p m)) b)
  | [], m, b, hb => ⟨Rat.le_refl, by simp, .inl rfl⟩
  | a :: l, m, b, hb => by
    have hb' : 0 ≤ max b (far2 a m) := by grind
    obtain ⟨h1, h2, h3⟩ := reach_acc l m (max b (far2 a m)) hb'
    rw [List.foldl_cons]
    refine ⟨by grind, ?_, ?_⟩
    · intro p hp
      rcases List.mem_cons.mp hp with rfl | hp
      · grind
      · exact h2 p hp
    · rcases h3 with h3 | ⟨p, hp, h3⟩
      · by_cases hab : far2 a m ≤ b
        · left
          rw [h3]
          grind
        · right
          refine ⟨a, by simp, ?_⟩
          rw [h3]
          grind
      · exact .inr ⟨p, by simp [hp], h3⟩
theorem reach_le {l : List Pt} {m p : Pt} (h : p ∈ l) : far2 p m ≤ reach l m := (reach_acc l m 0 Rat.le_refl).2.1 p h
theorem reach_nn (l : List Pt) (m : Pt) : 0 ≤ reach l m := (reach_acc l m 0 Rat.le_refl).1
theorem reach_at {l : List Pt} (m : Pt) (h : l ≠ []) : ∃ p ∈ l, far2 p m = reach l m := by
  rcases (reach_acc l m 0 Rat.le_refl).2.2 with h0 | h0
  · match l, h with
    | a :: r, _ =>
      have h1 : far2 a m ≤ reach (a :: r) m := reach_le (by simp)
      have h2 : reach (a :: r) m = 0 := h0
      have h3 := far2_nn a m
      exact ⟨a, by simp, by grind⟩
  · exact h0
theorem reach_of {l : List Pt} {m : Pt} {p : Pt} (hp : p ∈ l) (h : ∀ q ∈ l, far2 q m ≤ far2 p m) : reach l m = far2 p m := by
  obtain ⟨q, hq, e⟩ := reach_at m (List.ne_nil_of_mem hp)
  have h1 := h q hq
  have h2 := reach_le (m := m) hp
  grind

def mid (a b : Pt) : Pt := ((a.1 + b.1) / 2, (a.2 + b.2) / 2)
/-- how much further p is than r, on the way from m to c: it goes evenly -/
theorem gap_mix (t : Rat) (m c p r : Pt) : far2 p (mix t m c) - far2 r (mix t m c) = (1 - t) * (far2 p m - far2 r m) + t * (far2 p c - far2 r c) := by
  unfold far2 mix
  grind

theorem exists_minBy {A : Type} (f : A → Rat) (P : A → Prop) [DecidablePred P] : ∀ (c : List A), (∃ a ∈ c, P a) → ∃ p ∈ c, P p ∧ ∀ q ∈ c, P q → f p ≤ f q := by
  intro c h
  have hne : c.filter (fun a => decide (P a)) ≠ [] := by
    obtain ⟨a, ha, hp⟩ := h
    exact List.ne_nil_of_mem (List.mem_filter.mpr ⟨ha, by simpa using hp⟩)
  obtain ⟨p, hp, hm⟩ := exists_min f _ hne
  obtain ⟨h1, h2⟩ := List.mem_filter.mp hp
  exact ⟨p, h1, by simpa using h2, fun q hq hP => hm q (List.mem_filter.mpr ⟨hq, by simpa using hP⟩)⟩

theorem ratio {A B : Rat} (hA : 0 ≤ A) (hB : B < 0) : 0 ≤ A / (A - B) ∧ A / (A - B) < 1 ∧ (1 - A / (A - B)) * A + A / (A - B) * B = 0 := by
  have hd : 0 < A - B := by grind
  have hz : A - B ≠ 0 := by grind
  refine ⟨?_, ?_, ?_⟩
  · by_cases h : 0 ≤ A / (A - B)
    · exact h
    · have h1 : A / (A - B) < 0 := by grind
      rw [Rat.div_lt_iff hd] at h1
      grind
  · rw [Rat.div_lt_iff hd]
    grind
  · grind
theorem stays {A B t : Rat} (hA : 0 ≤ A) (t0 : 0 ≤ t) (t1 : t < 1) (h : B < 0 → t ≤ A / (A - B)) : 0 ≤ (1 - t) * A + t * B := by
  by_cases hB : B < 0
  · have hd : 0 < A - B := by grind
    have h1 := h hB
    have e : A / (A - B) * (A - B) = A := by
      have : A - B ≠ 0 := by grind
      grind
    have h2 := Rat.mul_le_mul_of_nonneg_right h1 (Rat.le_of_lt hd)
    rw [e] at h2
    grind
  · exact nn_mix t0 t1 hA (by grind)
/-- on the way from m to c p stays furthest till some r catches up: the first one -/
theorem catch_up {l : List Pt} {m c p : Pt} (hp : ∀ q ∈ l, far2 q m ≤ far2 p m) (hc : ∃ r ∈ l, far2 p c < far2 r c) :
    ∃ t r, 0 ≤ t ∧ t < 1 ∧ r ∈ l ∧ far2 p c < far2 r c ∧ far2 r (mix t m c) = far2 p (mix t m c) ∧ ∀ q ∈ l, far2 q (mix t m c) ≤ far2 p (mix t m c) := by
  obtain ⟨r, hr, hrc, hmin⟩ := exists_minBy (fun r => (far2 p m - far2 r m) / ((far2 p m - far2 r m) - (far2 p c - far2 r c))) (fun r => far2 p c < far2 r c) l hc
  have h1 := hp r hr
  obtain ⟨t0, t1, tz⟩ := ratio (A := far2 p m - far2 r m) (B := far2 p c - far2 r c) (by grind) (by grind)
  refine ⟨(far2 p m - far2 r m) / ((far2 p m - far2 r m) - (far2 p c - far2 r c)), r, t0, t1, hr, hrc, ?_, ?_⟩
  · have := gap_mix ((far2 p m - far2 r m) / ((far2 p m - far2 r m) - (far2 p c - far2 r c))) m c p r
    rw [tz] at this
    grind
  · intro q hq
    have h2 := hp q hq
    have := gap_mix ((far2 p m - far2 r m) / ((far2 p m - far2 r m) - (far2 p c - far2 r c))) m c p q
    have k := stays (A := far2 p m - far2 q m) (B := far2 p c - far2 q c) (t := (far2 p m - far2 r m) / ((far2 p m - far2 r m) - (far2 p c - far2 r c))) (by grind) t0 t1 (fun hB => hmin q hq (by grind))
    rw [← this] at k
    grind

theorem middle3_is {a b c m : Pt} (hd : cross a b c ≠ 0) (h1 : far2 a m = far2 b m) (h2 : far2 a m = far2 c m) : middle3 a b c = some m := by
  unfold middle3
  simp only
  rw [if_neg (by grind)]
  congr 1
  have e1 : 2 * ((b.1 - a.1) * (m.1 - a.1) + (b.2 - a.2) * (m.2 - a.2)) = far2 b a := by
    unfold far2 at *
    grind
  have e2 : 2 * ((c.1 - a.1) * (m.1 - a.1) + (c.2 - a.2) * (m.2 - a.2)) = far2 c a := by
    unfold far2 at *
    grind
  rw [← e1, ← e2]
  have hd2 : 2 * cross a b c ≠ 0 := by grind
  have ec : cross a b c = (b.1 - a.1) * (c.2 - a.2) - (b.2 - a.2) * (c.1 - a.1) := rfl
  rw [ec] at hd2 ⊢
  generalize b.1 - a.1 = b1 at *
  generalize b.2 - a.2 = b2 at *
  generalize c.1 - a.1 = c1 at *
  generalize c.2 - a.2 = c2 at *
  have x1 : m.1 = a.1 + (m.1 - a.1) := by grind
  have x2 : m.2 = a.2 + (m.2 - a.2) := by grind
  ext
  · simp only
    rw [x1]
    generalize m.1 - a.1 = u at *
    generalize m.2 - a.2 = v at *
    congr 1
    clear x1 x2 e1 e2 h1 h2
    grind
  · simp only
    rw [x2]
    generalize m.1 - a.1 = u at *
    generalize m.2 - a.2 = v at *
    congr 1
    clear x1 x2 e1 e2 h1 h2
    grind
/-- three points as far from m, no two the same, are not on one line -/
theorem not_line {a b c m : Pt} (h1 : far2 a m = far2 b m) (h2 : far2 a m = far2 c m) (ab : a ≠ b) (ac : a ≠ c) (bc : b ≠ c) : cross a b c ≠ 0 := by
  intro h0
  have e1 : 2 * ((b.1 - a.1) * (m.1 - a.1) + (b.2 - a.2) * (m.2 - a.2)) = (b.1 - a.1) * (b.1 - a.1) + (b.2 - a.2) * (b.2 - a.2) := by
    unfold far2 at h1; grind
  have e2 : 2 * ((c.1 - a.1) * (m.1 - a.1) + (c.2 - a.2) * (m.2 - a.2)) = (c.1 - a.1) * (c.1 - a.1) + (c.2 - a.2) * (c.2 - a.2) := by
    unfold far2 at h2; grind
  have e0 : (b.1 - a.1) * (c.2 - a.2) - (b.2 - a.2) * (c.1 - a.1) = 0 := h0
  have hS : far2 b a ≠ 0 := fun h => ab (far2_zero h).symm
  have hV : far2 c a ≠ 0 := fun h => ac (far2_zero h).symm
  have hUV : far2 b c ≠ 0 := fun h => bc (far2_zero h)
  have s1 : far2 b a = (b.1 - a.1) * (b.1 - a.1) + (b.2 - a.2) * (b.2 - a.2) := rfl
  have s2 : far2 c a = (c.1 - a.1) * (c.1 - a.1) + (c.2 - a.2) * (c.2 - a.2) := rfl
  have s3 : far2 b c = ((b.1 - a.1) - (c.1 - a.1)) * ((b.1 - a.1) - (c.1 - a.1)) + ((b.2 - a.2) - (c.2 - a.2)) * ((b.2 - a.2) - (c.2 - a.2)) := by unfold far2; grind
  rw [s1] at hS
  rw [s2] at hV
  rw [s3] at hUV
  generalize b.1 - a.1 = u1 at *
  generalize b.2 - a.2 = u2 at *
  generalize c.1 - a.1 = v1 at *
  generalize c.2 - a.2 = v2 at *
  generalize m.1 - a.1 = w1 at *
  generalize m.2 - a.2 = w2 at *
  clear s1 s2 s3 h0 h1 h2
  have p1 : (u1 * u1 + u2 * u2) * v1 = (u1 * v1 + u2 * v2) * u1 := by grind
  have p2 : (u1 * u1 + u2 * u2) * v2 = (u1 * v1 + u2 * v2) * u2 := by grind
  have d : v1 * v1 + v2 * v2 = u1 * v1 + u2 * v2 := by
    have : (u1 * u1 + u2 * u2) * (v1 * v1 + v2 * v2) = (u1 * u1 + u2 * u2) * (u1 * v1 + u2 * v2) := by
      have q1 : (u1 * u1 + u2 * u2) * (v1 * v1 + v2 * v2) = 2 * (((u1 * u1 + u2 * u2) * v1) * w1 + ((u1 * u1 + u2 * u2) * v2) * w2) := by rw [← e2]; grind
      rw [q1, p1, p2]
      have q2 : 2 * ((u1 * v1 + u2 * v2) * u1 * w1 + (u1 * v1 + u2 * v2) * u2 * w2) = (u1 * v1 + u2 * v2) * (2 * (u1 * w1 + u2 * w2)) := by grind
      rw [q2, e1]
      grind
    generalize v1 * v1 + v2 * v2 = x at *
    generalize u1 * v1 + u2 * v2 = y at *
    generalize u1 * u1 + u2 * u2 = z at *
    grind
  have dd : (u1 * u1 + u2 * u2) * (v1 * v1 + v2 * v2) = (u1 * v1 + u2 * v2) * (u1 * v1 + u2 * v2) := by grind
  have fin : u1 * u1 + u2 * u2 = u1 * v1 + u2 * v2 := by
    rw [d] at dd hV
    generalize u1 * v1 + u2 * v2 = y at *
    generalize u1 * u1 + u2 * u2 = z at *
    grind
  apply hUV
  grind

/-- from any middle to one of the candidates that reaches no further -/
theorem cand1 {l : List Pt} (hl : l ≠ []) (m : Pt) : (∃ p ∈ l, reach l p ≤ reach l m) ∨ ∃ m1 p q, p ∈ l ∧ q ∈ l ∧ p ≠ q ∧ reach l m1 ≤ reach l m ∧ far2 p m1 = reach l m1 ∧ far2 q m1 = reach l m1 := by
  obtain ⟨p, hp, e⟩ := reach_at m hl
  have hpm : ∀ q ∈ l, far2 q m ≤ far2 p m := fun q hq => by rw [e]; exact reach_le hq
  by_cases h : ∃ r ∈ l, far2 p p < far2 r p
  · obtain ⟨t, r, t0, t1, hr, hrc, hre, hall⟩ := catch_up hpm h
    right
    have hre1 := reach_of hp hall
    refine ⟨mix t m p, p, r, hp, hr, ?_, ?_, hre1.symm, by rw [hre, hre1]⟩
    · rintro rfl
      grind
    · rw [hre1, ← e]
      have : far2 p (mix t m p) = (1 - t) * (1 - t) * far2 p m := by unfold far2 mix; grind
      rw [this]
      have a1 : (1 - t) * (1 - t) ≤ 1 := by
        have := Rat.mul_nonneg t0 (show 0 ≤ 1 - t by grind)
        grind
      have := Rat.mul_le_mul_of_nonneg_right a1 (far2_nn p m)
      grind
  · left
    refine ⟨p, hp, ?_⟩
    have hz : far2 p p = 0 := by unfold far2; grind
    have : reach l p = far2 p p := reach_of hp (fun q hq => by
      by_cases hh : far2 p p < far2 q p
      · exact absurd ⟨q, hq, hh⟩ h
      · grind)
    rw [this, hz]
    exact reach_nn l m
theorem cand2 {l : List Pt} {m1 p q : Pt} (hp : p ∈ l) (hq : q ∈ l) (hpq : p ≠ q) (e1 : far2 p m1 = reach l m1) (e2 : far2 q m1 = reach l m1) :
    ∃ c ∈ middles l, reach l c ≤ reach l m1 := by
  have hpm : ∀ r ∈ l, far2 r m1 ≤ far2 p m1 := fun r hr => by rw [e1]; exact reach_le hr
  have eqt : ∀ t, far2 p (mix t m1 (mid p q)) = far2 q (mix t m1 (mid p q)) := by
    intro t
    have h := gap_mix t m1 (mid p q) p q
    have hc : far2 p (mid p q) = far2 q (mid p q) := by unfold far2 mid; grind
    rw [e1, e2, hc] at h
    grind
  have dec : ∀ t, 0 ≤ t → t ≤ 1 → far2 p (mix t m1 (mid p q)) ≤ far2 p m1 := by
    intro t t0 t1
    have e3 : far2 p m1 = far2 q m1 := by rw [e1, e2]
    have idn : far2 p m1 - far2 p (mix t m1 (mid p q)) = (2 * t - t * t) * far2 m1 (mid p q) := by
      unfold far2 mix mid at *
      grind
    have a1 : 0 ≤ 2 * t - t * t := by
      have := Rat.mul_nonneg t0 (show 0 ≤ 1 - t by grind)
      grind
    have := Rat.mul_nonneg a1 (far2_nn m1 (mid p q))
    grind
  by_cases h : ∃ r ∈ l, far2 p (mid p q) < far2 r (mid p q)
  · obtain ⟨t, r, t0, t1, hr, hrc, hre, hall⟩ := catch_up hpm h
    have hre1 := reach_of hp hall
    refine ⟨mix t m1 (mid p q), ?_, ?_⟩
    · unfold middles
      rw [List.mem_append]
      right
      rw [List.mem_flatMap]
      refine ⟨p, hp, ?_⟩
      rw [List.mem_flatMap]
      refine ⟨q, hq, ?_⟩
      rw [List.mem_filterMap]
      refine ⟨r, hr, middle3_is (not_line (eqt t) hre.symm hpq ?_ ?_) (eqt t) hre.symm⟩
      · rintro rfl
        grind
      · rintro rfl
        have hc : far2 p (mid p q) = far2 q (mid p q) := by unfold far2 mid; grind
        grind
    · rw [hre1, ← e1]
      exact dec t t0 (Rat.le_of_lt t1)
  · refine ⟨mid p q, ?_, ?_⟩
    · unfold middles
      rw [List.mem_append]
      left
      rw [List.mem_append]
      right
      rw [List.mem_flatMap]
      exact ⟨p, hp, List.mem_map.mpr ⟨q, hq, rfl⟩⟩
    · have hr : reach l (mid p q) = far2 p (mid p q) := reach_of hp (fun r hr => by
        by_cases hh : far2 p (mid p q) < far2 r (mid p q)
        · exact absurd ⟨r, hr, hh⟩ h
        · grind)
      have hm : mix 1 m1 (mid p q) = mid p q := by unfold mix; ext <;> grind
      have := dec 1 (by grind) Rat.le_refl
      rw [hm] at this
      rw [hr, ← e1]
      exact this
theorem cand {l : List Pt} (hl : l ≠ []) (m : Pt) : ∃ c ∈ middles l, reach l c ≤ reach l m := by
  rcases cand1 hl m with ⟨p, hp, h⟩ | ⟨m1, p, q, hp, hq, hpq, h1, h2, h3⟩
  · exact ⟨p, by unfold middles; simp [hp], h⟩
  · obtain ⟨c, hc, h4⟩ := cand2 hp hq hpq h2 h3
    exact ⟨c, hc, by grind⟩
theorem reach_mid {l : List Pt} (hl : l ≠ []) {m m' : Pt} (hne : m ≠ m') (h : reach l m' ≤ reach l m) : reach l (mid m m') < reach l m := by
  obtain ⟨p, hp, e⟩ := reach_at (mid m m') hl
  rw [← e]
  have h1 := reach_le (m := m) hp
  have h2 := reach_le (m := m') hp
  have hpos : 0 < far2 m m' := by
    have := far2_nn m m'
    have : far2 m m' ≠ 0 := fun h0 => hne (far2_zero h0)
    grind
  have idn : far2 p (mid m m') = (far2 p m + far2 p m') / 2 - far2 m m' / 4 := by
    unfold far2 mid
    grind
  rw [idn]
  grind
/-- the least circle is one alone -/
structure Least (l : List Pt) (m : Pt) : Prop where
  le : ∀ m', reach l m ≤ reach l m'
theorem Least.uniq {l : List Pt} (hl : l ≠ []) {m m' : Pt} (h : Least l m) (h' : reach l m' ≤ reach l m) : m' = m := by
  by_cases e : m' = m
  · exact e
  · have h1 := reach_mid hl (m := m) (m' := m') (fun x => e x.symm) h'
    have h2 := h.le (mid m m')
    grind
def astep (l : List Pt) (b : Option (Pt × Rat)) (m : Pt) : Option (Pt × Rat) := match b with
  | none => some (m, reach l m)
  | some z => if reach l m < z.2 then some (m, reach l m) else some z
theorem around_fold (l : List Pt) : ∀ (ms : List Pt) (z : Pt), ∃ m, ms.foldl (astep l) (some (z, reach l z)) = some (m, reach l m) ∧ m ∈ z :: ms ∧ ∀ m' ∈ z :: ms, reach l m ≤ reach l m'
  | [], z => ⟨z, rfl, by simp, by simp⟩
  | a :: ms, z => by
    rw [List.foldl_cons]
    show ∃ m, ms.foldl (astep l) (if reach l a < reach l z then some (a, reach l a) else some (z, reach l z)) = _ ∧ _
    by_cases h : reach l a < reach l z
    · rw [if_pos h]
      obtain ⟨m, h1, h2, h3⟩ := around_fold l ms a
      refine ⟨m, h1, by simp only [List.mem_cons] at h2 ⊢; exact .inr h2, ?_⟩
      intro m' hm'
      rcases List.mem_cons.mp hm' with rfl | hm'
      · have := h3 a (by simp); grind
      · exact h3 m' hm'
    · rw [if_neg h]
      obtain ⟨m, h1, h2, h3⟩ := around_fold l ms z
      refine ⟨m, h1, by simp only [List.mem_cons] at h2 ⊢; rcases h2 with h2 | h2 <;> simp [h2], ?_⟩
      intro m' hm'
      simp only [List.mem_cons] at hm'
      rcases hm' with rfl | rfl | hm'
      · exact h3 _ (by simp)
      · have := h3 z (by simp); grind
      · exact h3 _ (by simp [hm'])
theorem around_spec {l : List Pt} (hl : l ≠ []) : ∃ m, around l = some (m, reach l m) ∧ m ∈ middles l ∧ Least l m := by
  have e : around l = (middles l).foldl (astep l) none := rfl
  rw [e]
  match hm : middles l with
  | [] =>
    exfalso
    match l, hl with
    | a :: r, _ =>
      have : a ∈ middles (a :: r) := by unfold middles; simp
      rw [hm] at this
      simp at this
  | z :: ms =>
    obtain ⟨m, h1, h2, h3⟩ := around_fold l ms z
    refine ⟨m, h1, h2, ⟨fun m' => ?_⟩⟩
    obtain ⟨c, hc, hcr⟩ := cand hl m'
    rw [hm] at hc
    have := h3 c hc
    grind
/-- whatever is a least circle's middle is what is told -/
theorem around_is {l : List Pt} (hl : l ≠ []) {m : Pt} (h : ∀ c ∈ middles l, reach l m ≤ reach l c) : around l = some (m, reach l m) := by
  obtain ⟨m0, h1, h2, h3⟩ := around_spec hl
  have := h3.uniq hl (h m0 h2)
  rw [this, h1]
theorem around_nil : around [] = none := rfl
end NS

set_option Elab.async false
set_option linter.all false
namespace NS
open GkBase Gk04

/-! The loneliest place. -/
def lstep (b : Option (Pt × Rat)) (y : Pt × Rat) : Option (Pt × Rat) := match b with
  | none => some y
  | some z => if z.2 < y.2 ∨ (z.2 = y.2 ∧ before y.1 z.1 = true) then some y else some z
/-- z is no less lonely than y, and of as lonely ones the first -/
def Lonr (z y : Pt × Rat) : Prop := y.2 < z.2 ∨ (y.2 = z.2 ∧ (y.1 = z.1 ∨ before z.1 y.1 = true))
theorem Lonr.refl (z : Pt × Rat) : Lonr z z := .inr ⟨rfl, .inl rfl⟩
theorem Lonr.trans {x y z : Pt × Rat} (h : Lonr x y) (k : Lonr y z) : Lonr x z := by
  unfold Lonr at *
  rcases h with h | ⟨h1, h2⟩ <;> rcases k with k | ⟨k1, k2⟩
  · left; grind
  · left; grind
  · left; grind
  · right
    refine ⟨by grind, ?_⟩
    rcases h2 with h2 | h2 <;> rcases k2 with k2 | k2
    · left; rw [k2, h2]
    · right; rw [← h2]; exact k2
    · right; rw [k2]; exact h2
    · right; exact before_trans h2 k2
theorem Lonr.anti {x y : Pt × Rat} (h : Lonr x y) (k : Lonr y x) : x = y := by
  unfold Lonr at *
  rcases h with h | ⟨h1, h2⟩ <;> rcases k with k | ⟨k1, k2⟩
  · grind
  · grind
  · grind
  · rcases h2 with h2 | h2
    · ext <;> grind
    · rcases k2 with k2 | k2
      · ext <;> grind
      · have := before_trans h2 k2
        rw [before_irr] at this
        cases this
theorem lone_fold : ∀ (L : List (Pt × Rat)) (z : Pt × Rat), ∃ y, L.foldl lstep (some z) = some y ∧ y ∈ z :: L ∧ ∀ x ∈ z :: L, Lonr y x
  | [], z => ⟨z, rfl, by simp, by intro x hx; simp at hx; subst hx; exact Lonr.refl _⟩
  | a :: L, z => by
    rw [List.foldl_cons]
    show ∃ y, L.foldl lstep (if z.2 < a.2 ∨ (z.2 = a.2 ∧ before a.1 z.1 = true) then some a else some z) = some y ∧ _
    by_cases h : z.2 < a.2 ∨ (z.2 = a.2 ∧ before a.1 z.1 = true)
    · rw [if_pos h]
      obtain ⟨y, h1, h2, h3⟩ := lone_fold L a
      refine ⟨y, h1, by simp only [List.mem_cons] at h2 ⊢; exact .inr h2, ?_⟩
      intro x hx
      rcases List.mem_cons.mp hx with rfl | hx
      · refine (h3 a (by simp)).trans ?_
        rcases h with h | ⟨h, k⟩
        · exact .inl h
        · exact .inr ⟨h, .inr k⟩
      · exact h3 x hx
    · rw [if_neg h]
      obtain ⟨y, h1, h2, h3⟩ := lone_fold L z
      refine ⟨y, h1, by simp only [List.mem_cons] at h2 ⊢; rcases h2 with h2 | h2 <;> simp [h2], ?_⟩
      intro x hx
      simp only [List.mem_cons] at hx
      rcases hx with rfl | rfl | hx
      · exact h3 _ (by simp)
      · refine (h3 z (by simp)).trans ?_
        unfold Lonr
        by_cases e : x.2 < z.2
        · exact .inl e
        · have e2 : x.2 = z.2 := by grind
          refine .inr ⟨e2, ?_⟩
          rcases before_tot x.1 z.1 with k | k | k
          · exact absurd (.inr ⟨e2.symm, k⟩) h
          · exact .inl k
          · exact .inr k
      · exact h3 _ (by simp [hx])
theorem lone_is {L : List (Pt × Rat)} {z : Pt × Rat} (hz : z ∈ L) (h : ∀ y ∈ L, Lonr z y) : L.foldl lstep none = some z := by
  match L, hz with
  | a :: L, hz =>
    obtain ⟨y, h1, h2, h3⟩ := lone_fold L a
    have e : (a :: L).foldl lstep none = L.foldl lstep (some a) := rfl
    rw [e, h1, (h3 z hz).anti (h y h2)]
def lonelyList (l : Sites) : List (Pt × Rat) := l.flatMap fun (x : Nat × Pt) => (cell x.2 (othersOf l x.1)).map fun (p : Pt) => (p, far2 p x.2)
theorem loneliest_eq (l : Sites) : loneliest l = (lonelyList l).foldl lstep none := rfl

/-! Counting in a ring. -/
theorem Rot.filter_len {A : Type} {c d : List A} (P : A → Bool) (h : Rot c d) : (c.filter P).length = (d.filter P).length := by
  obtain ⟨l, m, e1, e2⟩ := h
  rw [e1, e2, List.filter_append, List.filter_append, List.length_append, List.length_append, Nat.add_comm]
/-- the cell of the specification is the program's ring, begun elsewhere -/
theorem cell_rot {s : IP} {others : List IP} (hs : InSq s) (ho : ∀ t ∈ others, InSq t ∧ s ≠ t) : Rot ((mring s others).map pt) (cell (ip s) (others.map ip)) := by
  obtain ⟨r, hpr, hg, hcell⟩ := mring_spec hs ho
  rw [hcell]
  have hne : (mring s others).map pt ≠ [] := by
    intro e
    have h1 := r.length
    rw [e] at h1
    have h2 := hg.len
    simp at h1
    omega
  obtain ⟨q, x, h1, h2, _⟩ := turned_spec hne
  rw [h1]
  exact h2
/-! The two that are closest. -/
def cstep (b : Option (Nat × Nat × Rat)) (x : (Nat × Pt) × (Nat × Pt)) : Option (Nat × Nat × Rat) :=
  match b with
  | none => some (x.1.1, x.2.1, far2 x.1.2 x.2.2)
  | some y => if far2 x.1.2 x.2.2 < y.2.2 then some (x.1.1, x.2.1, far2 x.1.2 x.2.2) else some y
theorem closest_eq (l : Sites) : closest l = (twos l).foldl cstep none := rfl
end NS

set_option Elab.async false
set_option linter.all false
namespace NS
open GkBase Gk04

/-! ### sites -/
def msites (m : Ld) : List Int := (m.sites.length : Int) :: m.sites.flatMap fun z => [(z.1 : Int), z.2.1, z.2.2]
theorem sites_step (m : Ld) : Gk04.step (toSt m) .sites = (toSt m, msites m) := by
  show (toSt m, nat (toSites m.sites).length :: (toSites m.sites).flatMap fun (x : Nat × Pt) => [nat x.1, x.2.1.num, x.2.2.num]) = _
  unfold msites toSites nat ip ofInts
  rw [List.length_map, List.flatMap_map]
  simp

/-! ### beside -/
def mside (cs : List Pl) (s t : IP) : Bool := decide ((cs.filter fun c => decide (mlead c s t = 0)).length = 2)
def mbesideN (m : Ld) (k : Nat) (s : IP) : List Nat := ((m.sites.filter fun y => decide (y.1 ≠ k)).filter fun y => mside (mring s (mothers m s)) s y.2).map Prod.fst
def mbeside (m : Ld) (k : Nat) : List Int := match m.sites.find? fun z => decide (z.1 = k) with
  | none => [-3]
  | some z => ((mbesideN m k z.2).length : Int) :: (mbesideN m k z.2).map fun (n : Nat) => (n : Int)
theorem mlead_zero {c : Pl} (s t : IP) (h : 0 < c.2.2) : mlead c s t = 0 ↔ nearer (ip s) (ip t) (pt c) = 0 := by
  rw [← ev_bis]
  have e1 := mlead_nn s t h
  have e2 := mlead_pos s t h
  constructor
  · intro e
    have : ev (bis (ip s) (ip t)) (pt c) ≤ 0 := e1.mp (by omega)
    have : ¬ (ev (bis (ip s) (ip t)) (pt c) < 0) := fun x => by have := e2.mpr x; omega
    grind
  · intro e
    have a1 : 0 ≤ mlead c s t := e1.mpr (by rw [e]; exact Rat.le_refl)
    have a2 : ¬ (0 < mlead c s t) := fun x => by have := e2.mp x; rw [e] at this; grind
    omega
theorem side_iff {s t : IP} {others : List IP} (hs : InSq s) (ho : ∀ t ∈ others, InSq t ∧ s ≠ t) (hst : s ≠ t) :
    decide (2 ≤ ((cell (ip s) (others.map ip)).filter fun (p : Pt) => decide (nearer (ip s) (ip t) p = 0)).length) = mside (mring s others) s t := by
  obtain ⟨r, hpr, hg, hcell⟩ := mring_spec hs ho
  have rc := cell_rot hs ho
  have e1 := Rot.filter_len (fun (p : Pt) => decide (nearer (ip s) (ip t) p = 0)) rc
  rw [← e1, List.filter_map, List.length_map]
  have e2 : (mring s others).filter ((fun (p : Pt) => decide (nearer (ip s) (ip t) p = 0)) ∘ pt) = (mring s others).filter fun c => decide (mlead c s t = 0) := by
    apply List.filter_congr
    intro c hc
    simp only [Function.comp_apply]
    exact decide_eq_decide.mpr (mlead_zero s t (hpr c hc).1).symm
  have few : ((mring s others).filter ((fun (p : Pt) => decide (nearer (ip s) (ip t) p = 0)) ∘ pt)).length ≤ 2 := by
    have f0 := few_zero (l := bis (ip s) (ip t)) (bis_ne (fun e => hst (ip_inj e))) hg.tri
    rw [List.countP_eq_length_filter] at f0
    have e3 := Rot.filter_len (fun (p : Pt) => decide (ev (bis (ip s) (ip t)) p = 0)) r
    rw [← e3, List.filter_map, List.length_map] at f0
    have e4 : ((fun (p : Pt) => decide (nearer (ip s) (ip t) p = 0)) ∘ pt) = ((fun (p : Pt) => decide (ev (bis (ip s) (ip t)) p = 0)) ∘ pt) := by
      funext c
      simp only [Function.comp_apply, ev_bis]
    rw [e4]
    exact f0
  unfold mside
  rw [← e2]
  apply decide_eq_decide.mpr
  omega
theorem site_inj {m : Ld} (h : Wf m) : ∀ a ∈ m.sites, ∀ b ∈ m.sites, (a.1 = b.1 ↔ a.2 = b.2) := by
  intro a ha b hb
  obtain ⟨i, hi, rfl⟩ := List.getElem_of_mem ha
  obtain ⟨j, hj, rfl⟩ := List.getElem_of_mem hb
  have r := h.rise
  have n := h.nd
  unfold List.Nodup at n
  rw [List.pairwise_map, List.pairwise_iff_getElem] at r n
  rcases Nat.lt_trichotomy i j with hij | hij | hij
  · have r1 := r i j hi hj hij
    have n1 := n i j hi hj hij
    constructor
    · intro e; omega
    · intro e; exact absurd e n1
  · subst hij
    simp
  · have r1 := r j i hj hi hij
    have n1 := n j i hj hi hij
    constructor
    · intro e; omega
    · intro e; exact absurd e.symm n1
theorem beside_step {m : Ld} (h : Wf m) (k : Nat) : Gk04.step (toSt m) (.beside k) = (toSt m, mbeside m k) := by
  show (toSt m, if (siteOf (toSites m.sites) k).isNone = true then [-3] else
    nat (Gk04.beside (toSites m.sites) k).length :: (Gk04.beside (toSites m.sites) k).map nat) = _
  unfold Gk04.beside
  rw [siteOf_eq]
  unfold mbeside
  cases hf : m.sites.find? fun z => decide (z.1 = k) with
  | none => rfl
  | some z =>
    have hzm := List.mem_of_find?_eq_some hf
    have hzk : z.1 = k := by have := List.find?_some hf; simpa using this
    have hks : (k, z.2) ∈ m.sites := by rw [← hzk]; exact hzm
    simp only [Option.map_some, Option.isNone_some, Bool.false_eq_true, if_false]
    rw [mothers_eq h hks]
    have e : ((toSites m.sites).filter fun (x : Nat × Pt) => decide (x.1 ≠ k) && decide (2 ≤ ((cell (ip z.2) ((mothers m z.2).map ip)).filter fun (p : Pt) => decide (nearer (ip z.2) x.2 p = 0)).length)).map (fun (x : Nat × Pt) => x.1) = mbesideN m k z.2 := by
      unfold mbesideN toSites
      rw [List.filter_map, List.map_map, List.filter_filter]
      congr 1
      apply List.filter_congr
      intro y hy
      simp only [Function.comp_apply]
      by_cases hyk : y.1 = k
      · simp [hyk]
      · have hne : z.2 ≠ y.2 := fun e => hyk (by rw [← hzk]; exact ((site_inj h z hzm y hy).mpr e).symm)
        rw [side_iff (h.sq z hzm) (mothers_ok h z.2) hne, Bool.and_comm]
    rw [e]
    rfl

/-! ### rings: a place and how far it is from there, times w times w -/
abbrev Rg := Pl × Int
def rg (r : Rg) : Pt × Rat := (pt r.1, (r.2 : Rat) / ((r.1.2.2 * r.1.2.2 : Int) : Rat))
def mexcess (r o : Rg) : Int := r.2 * o.1.2.2 * o.1.2.2 - o.2 * r.1.2.2 * r.1.2.2
def mlonelier (r o : Rg) : Bool := decide (0 < mexcess r o) || (decide (mexcess r o = 0) && mahead r.1 o.1)
def mnumbers (r : Rg) : List Int := mfracs r.1 ++ mlowest r.2 (r.1.2.2 * r.1.2.2)
theorem mnumbers_eq {r : Rg} (h : 0 < r.1.2.2) : mnumbers r = toldPt (rg r).1 ++ told (rg r).2 := by
  unfold mnumbers rg
  rw [mfracs_eq h, mlowest_told (Int.mul_pos h h)]
theorem excess_eq {r o : Rg} (hr : 0 < r.1.2.2) (ho : 0 < o.1.2.2) :
    (mexcess r o : Rat) = (((r.1.2.2 : Rat) * (r.1.2.2 : Rat)) * ((o.1.2.2 : Rat) * (o.1.2.2 : Rat))) * ((rg r).2 - (rg o).2) := by
  have h1 := cast_pos hr
  have h2 := cast_pos ho
  unfold mexcess rg
  simp only [Rat.intCast_sub, Rat.intCast_mul]
  generalize (r.1.2.2 : Rat) = w at *
  generalize (o.1.2.2 : Rat) = v at *
  generalize (r.2 : Rat) = x at *
  generalize (o.2 : Rat) = y at *
  have hw : w ≠ 0 := by grind
  have hv : v ≠ 0 := by grind
  grind
theorem excess_pos {r o : Rg} (hr : 0 < r.1.2.2) (ho : 0 < o.1.2.2) : 0 < mexcess r o ↔ (rg o).2 < (rg r).2 := by
  have e := excess_eq hr ho
  have hk : 0 < ((r.1.2.2 : Rat) * (r.1.2.2 : Rat)) * ((o.1.2.2 : Rat) * (o.1.2.2 : Rat)) := Rat.mul_pos (Rat.mul_pos (cast_pos hr) (cast_pos hr)) (Rat.mul_pos (cast_pos ho) (cast_pos ho))
  have e0 : 0 < mexcess r o ↔ (0 : Rat) < (mexcess r o : Rat) := by
    have := Rat.intCast_lt_intCast (a := 0) (b := mexcess r o)
    simpa using this.symm
  rw [e0, e]
  generalize ((r.1.2.2 : Rat) * (r.1.2.2 : Rat)) * ((o.1.2.2 : Rat) * (o.1.2.2 : Rat)) = k at *
  generalize (rg r).2 = x at *
  generalize (rg o).2 = y at *
  have := neg_mul_iff (k := k) (x := y - x) hk
  constructor
  · intro h
    have : y - x < 0 := this.mp (by grind)
    grind
  · intro h
    have : k * (y - x) < 0 := this.mpr (by grind)
    grind
theorem excess_zero {r o : Rg} (hr : 0 < r.1.2.2) (ho : 0 < o.1.2.2) : mexcess r o = 0 ↔ (rg r).2 = (rg o).2 := by
  have a := excess_pos hr ho
  have b := excess_pos ho hr
  have c : mexcess o r = - mexcess r o := by unfold mexcess; omega
  rw [c] at b
  constructor
  · intro h
    have h1 : ¬ ((rg o).2 < (rg r).2) := fun x => by have := a.mpr x; omega
    have h2 : ¬ ((rg r).2 < (rg o).2) := fun x => by have := b.mpr x; omega
    grind
  · intro h
    have h1 : ¬ (0 < mexcess r o) := fun x => by have := a.mp x; rw [h] at this; grind
    have h2 : ¬ (0 < - mexcess r o) := fun x => by have := b.mp x; rw [h] at this; grind
    omega
theorem lonelier_eq {r o : Rg} (hr : 0 < r.1.2.2) (ho : 0 < o.1.2.2) : mlonelier r o = true ↔ ((rg o).2 < (rg r).2 ∨ ((rg o).2 = (rg r).2 ∧ before (rg r).1 (rg o).1 = true)) := by
  unfold mlonelier
  rw [Bool.or_eq_true, Bool.and_eq_true, decide_eq_true_eq, decide_eq_true_eq, excess_pos hr ho, excess_zero hr ho, mahead_eq hr ho]
  constructor
  · rintro (h | ⟨h, k⟩)
    · exact .inl h
    · exact .inr ⟨h.symm, k⟩
  · rintro (h | ⟨h, k⟩)
    · exact .inl h
    · exact .inr ⟨h.symm, k⟩
def mlstep (b r : Rg) : Rg := if mlonelier r b = true then r else b
theorem lone_map : ∀ (L : List Rg) (b : Rg), 0 < b.1.2.2 → (∀ r ∈ L, 0 < r.1.2.2) → (L.map rg).foldl lstep (some (rg b)) = some (rg (L.foldl mlstep b)) ∧ 0 < (L.foldl mlstep b).1.2.2
  | [], b, hb, _ => ⟨rfl, hb⟩
  | r :: L, b, hb, h => by
    have hr := h r (by simp)
    rw [List.map_cons, List.foldl_cons, List.foldl_cons]
    have e : lstep (some (rg b)) (rg r) = some (rg (mlstep b r)) := by
      unfold lstep mlstep
      have := lonelier_eq hr hb
      by_cases hl : mlonelier r b = true
      · rw [if_pos hl]
        simp only
        rw [if_pos (this.mp hl)]
      · rw [if_neg hl]
        simp only
        rw [if_neg (fun x => hl (this.mpr x))]
    rw [e]
    refine lone_map L (mlstep b r) ?_ (fun r' hr' => h r' (by simp [hr']))
    unfold mlstep
    split
    · exact hr
    · exact hb

/-! ### loneliest -/
def mringsOf (m : Ld) (s : IP) : List Rg := (mring s (mothers m s)).map fun c => (c, mfar c s)
def mrings (m : Ld) : List Rg := m.sites.flatMap fun z => mringsOf m z.2
def mbestL (L : List Rg) : Rg := L.foldl mlstep (L.headD ((0, 0, 1), 0))
def mloneliest (m : Ld) : List Int := if m.sites.length = 0 then [-6] else mnumbers (mbestL (mrings m))
theorem mringsOf_pos {m : Ld} (h : Wf m) {z : Nat × IP} (hz : z ∈ m.sites) : ∀ r ∈ mringsOf m z.2, 0 < r.1.2.2 := by
  intro r hr
  obtain ⟨c, hc, rfl⟩ := List.mem_map.mp hr
  exact (mring_small (h.sq z hz) (mothers_ok h z.2) c hc).w0
theorem mrings_pos {m : Ld} (h : Wf m) : ∀ r ∈ mrings m, 0 < r.1.2.2 := by
  intro r hr
  obtain ⟨z, hz, hr⟩ := List.mem_flatMap.mp hr
  exact mringsOf_pos h hz r hr
theorem mrings_ne {m : Ld} (h : Wf m) (h0 : m.sites.length ≠ 0) : mrings m ≠ [] := by
  cases e : m.sites with
  | nil => rw [e] at h0; exact absurd rfl h0
  | cons z l =>
    have hz : z ∈ m.sites := by rw [e]; simp
    have hl := (mring_len (h.sq z hz) (mothers_ok h z.2)).1
    intro e2
    unfold mrings mringsOf at e2
    rw [List.flatMap_eq_nil_iff] at e2
    have := e2 z hz
    rw [List.map_eq_nil_iff] at this
    rw [this] at hl
    simp at hl
theorem rg_far {c : Pl} (s : IP) (h : 0 < c.2.2) : rg (c, mfar c s) = (pt c, far2 (pt c) (ip s)) := by
  have hw := cast_pos h
  have hk := Rat.mul_pos hw hw
  unfold rg
  simp only
  rw [mfar_eq s h, Rat.intCast_mul]
  generalize (c.2.2 : Rat) * (c.2.2 : Rat) = k at *
  congr 1
  have : k ≠ 0 := by grind
  grind
theorem mrings_mem {m : Ld} (h : Wf m) (y : Pt × Rat) : y ∈ (mrings m).map rg ↔ y ∈ lonelyList (toSites m.sites) := by
  unfold mrings lonelyList
  rw [List.map_flatMap, List.mem_flatMap, List.mem_flatMap]
  have key : ∀ z ∈ m.sites, (y ∈ (mringsOf m z.2).map rg ↔ y ∈ (cell (ip z.2) (othersOf (toSites m.sites) z.1)).map fun (p : Pt) => (p, far2 p (ip z.2))) := by
    intro z hz
    rw [mothers_eq (k := z.1) (s := z.2) h hz]
    have rc := cell_rot (h.sq z hz) (mothers_ok h z.2)
    have r2 := rc.map fun (p : Pt) => (p, far2 p (ip z.2))
    rw [← r2.mem y, List.map_map]
    have e : (mringsOf m z.2).map rg = (mring z.2 (mothers m z.2)).map ((fun (p : Pt) => (p, far2 p (ip z.2))) ∘ pt) := by
      unfold mringsOf
      rw [List.map_map]
      apply List.map_congr_left
      intro c hc
      simp only [Function.comp_apply]
      exact rg_far z.2 (mring_small (h.sq z hz) (mothers_ok h z.2) c hc).w0
    rw [e]
  constructor
  · rintro ⟨z, hz, hy⟩
    exact ⟨(z.1, ip z.2), List.mem_map_of_mem (f := fun z : Nat × IP => (z.1, ip z.2)) hz, (key z hz).mp hy⟩
  · rintro ⟨x, hx, hy⟩
    obtain ⟨z, hz, rfl⟩ := List.mem_map.mp hx
    exact ⟨z, hz, (key z hz).mpr hy⟩
theorem loneliest_step {m : Ld} (h : Wf m) : Gk04.step (toSt m) .loneliest = (toSt m, mloneliest m) := by
  show (toSt m, match Gk04.loneliest (toSites m.sites) with
    | none => [-6]
    | some x => toldPt x.1 ++ told x.2) = _
  unfold mloneliest
  by_cases h0 : m.sites.length = 0
  · rw [if_pos h0]
    have : m.sites = [] := List.length_eq_zero_iff.mp h0
    rw [this]
    rfl
  · rw [if_neg h0, loneliest_eq]
    have hne := mrings_ne h h0
    have hpos := mrings_pos h
    have hmem := mrings_mem h
    unfold mbestL
    generalize mrings m = L at *
    match L, hne with
    | a :: L, _ =>
      have ha := hpos a (by simp)
      obtain ⟨e1, e2⟩ := lone_map (a :: L) a ha hpos
      obtain ⟨y, y1, y2, y3⟩ := lone_fold ((a :: L).map rg) (rg a)
      rw [y1] at e1
      injection e1 with e1
      have hin : y ∈ (a :: L).map rg := by
        rcases List.mem_cons.mp y2 with e | e
        · rw [e]; simp
        · exact e
      have := lone_is ((hmem y).mp hin) (fun x hx => y3 x (List.mem_cons_of_mem _ ((hmem x).mpr hx)))
      rw [this]
      simp only [List.headD_cons]
      rw [mnumbers_eq e2, ← e1]
end NS

set_option Elab.async false
set_option linter.all false
namespace NS
open GkBase Gk04

/-! ### closest -/
abbrev Tr := Int × Int × Int
def lt3 (a b : Tr) : Bool := decide (a.1 < b.1 ∨ (a.1 = b.1 ∧ (a.2.1 < b.2.1 ∨ (a.2.1 = b.2.1 ∧ a.2.2 < b.2.2))))
def min3 (b y : Tr) : Tr := if lt3 y b = true then y else b
def zst : Nat × IP := (0, (0, 0))
def mtwosAt (l : List (Nat × IP)) (i : Nat) : List Tr := (l.take i).map fun x => (mfar ((l.getD i zst).2.1, (l.getD i zst).2.2, 1) x.2, (x.1 : Int), ((l.getD i zst).1 : Int))
def mtwos (l : List (Nat × IP)) : List Tr := (List.range' 1 (l.length - 1)).flatMap (mtwosAt l)
def mbest3 (L : List Tr) : Tr := L.tail.foldl min3 (L.headD (0, 0, 0))
def mclosest (m : Ld) : List Int := if m.sites.length < 2 then [-6] else [(mbest3 (mtwos m.sites)).2.1, (mbest3 (mtwos m.sites)).2.2, (mbest3 (mtwos m.sites)).1, 1]
theorem min3_fold : ∀ (L : List Tr) (b : Tr), (L.foldl min3 b) ∈ b :: L ∧ ∀ y ∈ b :: L, lt3 y (L.foldl min3 b) = false
  | [], b => ⟨by simp, by intro y hy; simp at hy; subst hy; unfold lt3; simp⟩
  | a :: L, b => by
    rw [List.foldl_cons]
    obtain ⟨h1, h2⟩ := min3_fold L (min3 b a)
    generalize L.foldl min3 (min3 b a) = r at *
    have hm : (min3 b a = a ∧ lt3 a b = true) ∨ (min3 b a = b ∧ lt3 a b = false) := by
      unfold min3
      cases h : lt3 a b
      · right; simp
      · left; simp
    refine ⟨?_, ?_⟩
    · simp only [List.mem_cons] at h1 ⊢
      rcases h1 with e | e
      · rcases hm with ⟨e1, _⟩ | ⟨e1, _⟩ <;> simp [e, e1]
      · simp [e]
    · intro y hy
      have h3 := h2 (min3 b a) (by simp)
      simp only [List.mem_cons] at hy
      rcases hy with rfl | rfl | hy
      · rcases hm with ⟨e1, e2⟩ | ⟨e1, e2⟩
        · rw [e1] at h3
          unfold lt3 at *
          simp only [decide_eq_true_eq, decide_eq_false_iff_not] at *
          omega
        · rw [e1] at h3; exact h3
      · rcases hm with ⟨e1, e2⟩ | ⟨e1, e2⟩
        · rw [e1] at h3; exact h3
        · rw [e1] at h3
          unfold lt3 at *
          simp only [decide_eq_true_eq, decide_eq_false_iff_not] at *
          omega
      · exact h2 y (by simp [hy])
theorem mbest3_spec {L : List Tr} (h : L ≠ []) : mbest3 L ∈ L ∧ ∀ y ∈ L, lt3 y (mbest3 L) = false := by
  match L, h with
  | a :: L, _ => exact min3_fold L a
theorem mem_mtwos (l : List (Nat × IP)) (t : Tr) : t ∈ mtwos l ↔ ∃ (i j : Nat) (x y : Nat × IP), i < j ∧ l[i]? = some x ∧ l[j]? = some y ∧ t = (mfar (y.2.1, y.2.2, 1) x.2, (x.1 : Int), (y.1 : Int)) := by
  unfold mtwos mtwosAt
  rw [List.mem_flatMap]
  constructor
  · rintro ⟨j, hj, ht⟩
    rw [List.mem_range'_1] at hj
    obtain ⟨x, hx, rfl⟩ := List.mem_map.mp ht
    obtain ⟨i, hi, rfl⟩ := List.getElem_of_mem hx
    have hi' := hi
    rw [List.length_take] at hi'
    have hjl : j < l.length := by omega
    refine ⟨i, j, (l.take j)[i], l[j], by omega, ?_, List.getElem?_eq_getElem hjl, ?_⟩
    · rw [List.getElem_take]
      exact List.getElem?_eq_getElem (by omega)
    · simp [List.getD, hjl]
  · rintro ⟨i, j, x, y, hij, hx, hy, rfl⟩
    have hjl : j < l.length := (List.getElem?_eq_some_iff.mp hy).1
    refine ⟨j, by rw [List.mem_range'_1]; omega, List.mem_map.mpr ⟨x, ?_, ?_⟩⟩
    · refine List.mem_of_getElem? (i := i) ?_
      rw [List.getElem?_take_of_lt hij]
      exact hx
    · rw [List.getD_eq_getElem?_getD, hy]
      rfl
theorem mem_twos : ∀ (l : Sites) (p : (Nat × Pt) × (Nat × Pt)), p ∈ twos l ↔ ∃ (i j : Nat), i < j ∧ l[i]? = some p.1 ∧ l[j]? = some p.2
  | [], p => by simp [twos]
  | x :: l, p => by
    rw [twos, List.mem_append, mem_twos l p]
    constructor
    · rintro (h | ⟨i, j, hij, h1, h2⟩)
      · obtain ⟨y, hy, rfl⟩ := List.mem_map.mp h
        obtain ⟨j, hj, rfl⟩ := List.getElem_of_mem hy
        exact ⟨0, j + 1, by omega, rfl, by simp [hj]⟩
      · exact ⟨i + 1, j + 1, by omega, by simpa using h1, by simpa using h2⟩
    · rintro ⟨i, j, hij, h1, h2⟩
      cases j with
      | zero => omega
      | succ j =>
        cases i with
        | zero =>
          left
          have e : x = p.1 := by simpa using h1
          refine List.mem_map.mpr ⟨p.2, List.mem_of_getElem? (i := j) (by simpa using h2), ?_⟩
          rw [e]
        | succ i =>
          right
          exact ⟨i, j, by omega, by simpa using h1, by simpa using h2⟩
/-- the names of a two, in order -/
def nlt (p q : (Nat × Pt) × (Nat × Pt)) : Prop := p.1.1 < q.1.1 ∨ (p.1.1 = q.1.1 ∧ p.2.1 < q.2.1)
theorem twos_rise : ∀ {l : Sites}, (l.map Prod.fst).Pairwise (· < ·) → (twos l).Pairwise nlt
  | [], _ => by simp [twos]
  | x :: l, h => by
    rw [List.map_cons, List.pairwise_cons] at h
    rw [twos, List.pairwise_append]
    refine ⟨?_, twos_rise h.2, ?_⟩
    · rw [List.pairwise_map]
      have h2 := h.2
      rw [List.pairwise_map] at h2
      exact h2.imp fun hab => .inr ⟨rfl, hab⟩
    · intro a ha b hb
      obtain ⟨y, hy, rfl⟩ := List.mem_map.mp ha
      obtain ⟨i, j, _, h1, _⟩ := (mem_twos l b).mp hb
      exact .inl (h.1 _ (List.mem_map_of_mem (List.mem_of_getElem? h1)))
def outT (p : (Nat × Pt) × (Nat × Pt)) : Nat × Nat × Rat := (p.1.1, p.2.1, far2 p.1.2 p.2.2)
/-- no two is nearer, and of as near ones none stands ahead -/
def Clo (p q : (Nat × Pt) × (Nat × Pt)) : Prop := (outT p).2.2 < (outT q).2.2 ∨ ((outT p).2.2 = (outT q).2.2 ∧ (p = q ∨ nlt p q))
theorem clo_fold : ∀ (L : List ((Nat × Pt) × (Nat × Pt))) (z : (Nat × Pt) × (Nat × Pt)), (z :: L).Pairwise nlt → ∃ y, L.foldl cstep (some (outT z)) = some (outT y) ∧ y ∈ z :: L ∧ ∀ x ∈ z :: L, Clo y x
  | [], z, _ => ⟨z, rfl, by simp, by intro x hx; simp at hx; subst hx; exact .inr ⟨rfl, .inl rfl⟩⟩
  | a :: L, z, h => by
    rw [List.foldl_cons]
    show ∃ y, L.foldl cstep (if far2 a.1.2 a.2.2 < (outT z).2.2 then some (outT a) else some (outT z)) = some (outT y) ∧ _
    rw [List.pairwise_cons] at h
    by_cases hc : far2 a.1.2 a.2.2 < (outT z).2.2
    · rw [if_pos hc]
      obtain ⟨y, h1, h2, h3⟩ := clo_fold L a h.2
      refine ⟨y, h1, List.mem_cons_of_mem _ h2, ?_⟩
      intro x hx
      rcases List.mem_cons.mp hx with rfl | hx
      · have := h3 a (by simp)
        have e : (outT a).2.2 = far2 a.1.2 a.2.2 := rfl
        rcases this with k | ⟨k, _⟩
        · left; grind
        · left; grind
      · exact h3 x hx
    · rw [if_neg hc]
      have hp : (z :: L).Pairwise nlt := by
        rw [List.pairwise_cons]
        refine ⟨fun b hb => h.1 b (by simp [hb]), ?_⟩
        have := h.2
        rw [List.pairwise_cons] at this
        exact this.2
      obtain ⟨y, h1, h2, h3⟩ := clo_fold L z hp
      refine ⟨y, h1, by simp only [List.mem_cons] at h2 ⊢; rcases h2 with h2 | h2 <;> simp [h2], ?_⟩
      intro x hx
      simp only [List.mem_cons] at hx
      rcases hx with rfl | rfl | hx
      · exact h3 _ (by simp)
      · have k := h3 z (by simp)
        have e : (outT x).2.2 = far2 x.1.2 x.2.2 := rfl
        have hzx : nlt z x := h.1 x (by simp)
        rcases k with k | ⟨k, k2⟩
        · left; grind
        · by_cases e2 : (outT z).2.2 = (outT x).2.2
          · right
            refine ⟨by rw [k, e2], .inr ?_⟩
            rcases k2 with k2 | k2
            · rw [k2]; exact hzx
            · unfold nlt at *
              omega
          · left; grind
      · exact h3 _ (by simp [hx])
theorem far_ip (s t : IP) : far2 (ip s) (ip t) = ((mfar (t.1, t.2, 1) s : Int) : Rat) := by
  rw [mfar_eq s (by decide : (0 : Int) < 1)]
  have e : pt (t.1, t.2, 1) = ip t := by
    unfold pt ip ofInts
    ext
    · show (t.1 : Rat) / ((1 : Int) : Rat) = _
      have : ((1 : Int) : Rat) = 1 := rfl
      rw [this]; grind
    · show (t.2 : Rat) / ((1 : Int) : Rat) = _
      have : ((1 : Int) : Rat) = 1 := rfl
      rw [this]; grind
  rw [e, far2_comm]
  have : ((1 : Int) : Rat) = 1 := rfl
  simp only [this]
  grind
theorem told_int (i : Int) : told (i : Rat) = [i, 1] := by
  unfold told
  simp
theorem closest_step {m : Ld} (h : Wf m) : Gk04.step (toSt m) .closest = (toSt m, mclosest m) := by
  show (toSt m, match Gk04.closest (toSites m.sites) with
    | none => [-6]
    | some x => nat x.1 :: nat x.2.1 :: told x.2.2) = _
  rw [closest_eq]
  unfold mclosest
  by_cases h0 : m.sites.length < 2
  · rw [if_pos h0]
    match hs : m.sites with
    | [] => rfl
    | [z] => rfl
    | z :: y :: l => rw [hs] at h0; simp at h0; omega
  · rw [if_neg h0]
    have hrise : ((toSites m.sites).map Prod.fst).Pairwise (· < ·) := by
      unfold toSites
      rw [List.map_map]
      exact h.rise
    have hget : ∀ (i : Nat), (toSites m.sites)[i]? = (m.sites[i]?).map fun z => (z.1, ip z.2) := by
      intro i
      unfold toSites
      rw [List.getElem?_map]
    have hne : mtwos m.sites ≠ [] := by
      have : (mfar ((m.sites[1]).2.1, (m.sites[1]).2.2, 1) (m.sites[0]).2, ((m.sites[0]).1 : Int), ((m.sites[1]).1 : Int)) ∈ mtwos m.sites :=
        (mem_mtwos _ _).mpr ⟨0, 1, m.sites[0], m.sites[1], by omega, List.getElem?_eq_getElem (by omega), List.getElem?_eq_getElem (by omega), rfl⟩
      exact List.ne_nil_of_mem this
    obtain ⟨b1, b2⟩ := mbest3_spec hne
    generalize mbest3 (mtwos m.sites) = r at *
    have hp := twos_rise hrise
    have hmem := mem_twos (toSites m.sites)
    have hne2 : twos (toSites m.sites) ≠ [] := by
      obtain ⟨i, j, x, y, hij, hx, hy, _⟩ := (mem_mtwos _ _).mp b1
      exact List.ne_nil_of_mem ((hmem ((x.1, ip x.2), (y.1, ip y.2))).mpr ⟨i, j, hij, by rw [hget, hx]; rfl, by rw [hget, hy]; rfl⟩)
    generalize twos (toSites m.sites) = L at *
    match L, hne2 with
    | a :: L, _ =>
      obtain ⟨p, p1, p2, p3⟩ := clo_fold L a hp
      have e : (a :: L).foldl cstep none = L.foldl cstep (some (outT a)) := rfl
      rw [e, p1]
      obtain ⟨i, j, hij, hi, hj⟩ := (hmem p).mp p2
      rw [hget] at hi hj
      obtain ⟨x, hx, ex⟩ := Option.map_eq_some_iff.mp hi
      obtain ⟨y, hy, ey⟩ := Option.map_eq_some_iff.mp hj
      have hin : (mfar (y.2.1, y.2.2, 1) x.2, (x.1 : Int), (y.1 : Int)) ∈ mtwos m.sites := (mem_mtwos _ _).mpr ⟨i, j, x, y, hij, hx, hy, rfl⟩
      have k1 := b2 _ hin
      obtain ⟨i', j', x', y', hij', hx', hy', er⟩ := (mem_mtwos _ _).mp b1
      have k2 := p3 ((x'.1, ip x'.2), (y'.1, ip y'.2)) ((hmem _).mpr ⟨i', j', hij', by rw [hget, hx']; rfl, by rw [hget, hy']; rfl⟩)
      have o1 : outT p = (x.1, y.1, ((mfar (y.2.1, y.2.2, 1) x.2 : Int) : Rat)) := by
        unfold outT
        rw [← ex, ← ey, ← far_ip]
      have o2 : outT ((x'.1, ip x'.2), (y'.1, ip y'.2)) = (x'.1, y'.1, ((mfar (y'.2.1, y'.2.2, 1) x'.2 : Int) : Rat)) := by
        unfold outT
        rw [← far_ip]
      have hnm : p.1.1 = x.1 ∧ p.2.1 = y.1 := by rw [← ex, ← ey]; exact ⟨rfl, rfl⟩
      unfold Clo nlt at k2
      rw [o1, o2] at k2
      simp only [Rat.intCast_lt_intCast, Rat.intCast_inj] at k2
      rw [er] at k1
      unfold lt3 at k1
      simp only [decide_eq_false_iff_not] at k1
      have hpn : p = ((x'.1, ip x'.2), (y'.1, ip y'.2)) → x.1 = x'.1 ∧ y.1 = y'.1 := by
        intro ep
        rw [ep] at hnm
        exact ⟨hnm.1.symm, hnm.2.symm⟩
      have hfin : mfar (y.2.1, y.2.2, 1) x.2 = mfar (y'.2.1, y'.2.2, 1) x'.2 ∧ x.1 = x'.1 ∧ y.1 = y'.1 := by
        rw [hnm.1, hnm.2] at k2
        rcases k2 with k2 | ⟨k2, k3 | k3⟩
        · omega
        · have := hpn k3
          omega
        · omega
      rw [o1, er]
      simp only
      rw [told_int, hfin.1, hfin.2.1, hfin.2.2]
      rfl
end NS

set_option Elab.async false
set_option linter.all false
namespace NS
open GkBase Gk04

/-! ### around -/
def mas (s : IP) : Pl := (s.1, s.2, 1)
def mhalf (s t : IP) : Pl := (s.1 + t.1, s.2 + t.2, 2)
def mturn (a b c : IP) : Int := (b.1 - a.1) * (c.2 - a.2) - (b.2 - a.2) * (c.1 - a.1)
def mfarW (a b c : IP) : Int := 2 * mturn a b c
def msqr (a b : IP) : Int := (b.1 - a.1) * (b.1 - a.1) + (b.2 - a.2) * (b.2 - a.2)
def mfarX (a b c : IP) : Int := a.1 * mfarW a b c + msqr a b * (c.2 - a.2) - msqr a c * (b.2 - a.2)
def mfarY (a b c : IP) : Int := a.2 * mfarW a b c + msqr a c * (b.1 - a.1) - msqr a b * (c.1 - a.1)
def mafar (a b c : IP) : Pl := if 0 < mfarW a b c then (mfarX a b c, mfarY a b c, mfarW a b c) else (-mfarX a b c, -mfarY a b c, -mfarW a b c)
def zip0 : IP := (0, 0)
def mmids3 (l : List IP) (a b : IP) (j : Nat) : List Pl := ((l.take j).filter fun c => decide (mturn a b c ≠ 0)).map (mafar a b)
def mmids2 (l : List IP) (a : IP) (j : Nat) : List Pl := mhalf a (l.getD j zip0) :: mmids3 l a (l.getD j zip0) j
def mmids1 (l : List IP) (i : Nat) : List Pl := mas (l.getD i zip0) :: (List.range i).flatMap (mmids2 l (l.getD i zip0))
def mmiddles (l : List IP) : List Pl := (List.range l.length).flatMap (mmids1 l)
def mmost (l : List IP) (c : Pl) : Int := ((l.map (mfar c)).max?).getD 0
def mround (l : List IP) (c : Pl) : Rg := (c, mmost l c)
def mastep (b r : Rg) : Rg := if 0 < mexcess b r then r else b
def mbestA (L : List Rg) : Rg := L.foldl mastep (L.headD ((0, 0, 1), 0))
def mplaces (m : Ld) : List IP := m.sites.map Prod.snd
def maround (m : Ld) : List Int := if m.sites.length = 0 then [-6] else mnumbers (mbestA ((mmiddles (mplaces m)).map (mround (mplaces m))))

theorem mem_mmiddles (l : List IP) (c : Pl) : c ∈ mmiddles l ↔ (∃ a ∈ l, c = mas a) ∨ (∃ (i j : Nat) (a b : IP), j < i ∧ l[i]? = some a ∧ l[j]? = some b ∧ c = mhalf a b) ∨
    ∃ (i j k : Nat) (a b d : IP), k < j ∧ j < i ∧ l[i]? = some a ∧ l[j]? = some b ∧ l[k]? = some d ∧ mturn a b d ≠ 0 ∧ c = mafar a b d := by
  have gd : ∀ {i : Nat} {a : IP}, l[i]? = some a → l.getD i zip0 = a := by
    intro i a h
    rw [List.getD_eq_getElem?_getD, h]
    rfl
  unfold mmiddles mmids1 mmids2 mmids3
  rw [List.mem_flatMap]
  constructor
  · rintro ⟨i, hi, hc⟩
    rw [List.mem_range] at hi
    have hia : l[i]? = some l[i] := List.getElem?_eq_getElem hi
    rw [gd hia] at hc
    rcases List.mem_cons.mp hc with e | hc
    · exact .inl ⟨l[i], List.getElem_mem hi, e⟩
    · obtain ⟨j, hj, hc⟩ := List.mem_flatMap.mp hc
      rw [List.mem_range] at hj
      have hjl : j < l.length := by omega
      have hjb : l[j]? = some l[j] := List.getElem?_eq_getElem hjl
      rw [gd hjb] at hc
      rcases List.mem_cons.mp hc with e | hc
      · exact .inr (.inl ⟨i, j, l[i], l[j], hj, hia, hjb, e⟩)
      · obtain ⟨d, hd, rfl⟩ := List.mem_map.mp hc
        obtain ⟨h1, h2⟩ := List.mem_filter.mp hd
        obtain ⟨k, hk, rfl⟩ := List.getElem_of_mem h1
        have hk' := hk
        rw [List.length_take] at hk'
        refine .inr (.inr ⟨i, j, k, l[i], l[j], (l.take j)[k], by omega, hj, hia, hjb, ?_, of_decide_eq_true h2, rfl⟩)
        rw [List.getElem_take]
        exact List.getElem?_eq_getElem (by omega)
  · rintro (⟨a, ha, rfl⟩ | ⟨i, j, a, b, hji, ha, hb, rfl⟩ | ⟨i, j, k, a, b, d, hkj, hji, ha, hb, hd, ht, rfl⟩)
    · obtain ⟨i, hi, rfl⟩ := List.getElem_of_mem ha
      refine ⟨i, List.mem_range.mpr hi, ?_⟩
      rw [gd (List.getElem?_eq_getElem hi)]
      simp
    · refine ⟨i, List.mem_range.mpr (List.getElem?_eq_some_iff.mp ha).1, List.mem_cons_of_mem _ (List.mem_flatMap.mpr ⟨j, List.mem_range.mpr hji, ?_⟩)⟩
      rw [gd ha, gd hb]
      simp
    · refine ⟨i, List.mem_range.mpr (List.getElem?_eq_some_iff.mp ha).1, List.mem_cons_of_mem _ (List.mem_flatMap.mpr ⟨j, List.mem_range.mpr hji, List.mem_cons_of_mem _ (List.mem_map.mpr ⟨d, List.mem_filter.mpr ⟨?_, ?_⟩, ?_⟩)⟩)⟩
      · refine List.mem_of_getElem? (i := k) ?_
        rw [List.getElem?_take_of_lt hkj]
        exact hd
      · rw [gd ha, gd hb]
        exact decide_eq_true ht
      · rw [gd ha, gd hb]

theorem one_rat : ((1 : Int) : Rat) = 1 := rfl
theorem two_rat : ((2 : Int) : Rat) = 2 := rfl
theorem pt_mas (a : IP) : pt (mas a) = ip a := by
  unfold pt mas ip ofInts
  simp only [one_rat]
  ext <;> (simp only; grind)
theorem pt_mhalf (a b : IP) : pt (mhalf a b) = mid (ip a) (ip b) := by
  unfold pt mhalf mid ip ofInts
  simp only [two_rat, Rat.intCast_add]
theorem mturn_cross (a b c : IP) : ((mturn a b c : Int) : Rat) = cross (ip a) (ip b) (ip c) := by
  unfold mturn cross ip ofInts
  simp only [Rat.intCast_sub, Rat.intCast_mul]
theorem mafar_pos {a b c : IP} (h : mturn a b c ≠ 0) : 0 < (mafar a b c).2.2 := by
  unfold mafar
  by_cases h1 : 0 < mfarW a b c
  · rw [if_pos h1]; exact h1
  · rw [if_neg h1]
    show 0 < -mfarW a b c
    unfold mfarW at *
    omega
theorem pt_neg (x y w : Int) : pt (-x, -y, -w) = pt (x, y, w) := by
  unfold pt
  simp only [Rat.intCast_neg]
  ext <;> (simp only; grind)
theorem pt_mafar {a b c : IP} (h : mturn a b c ≠ 0) : middle3 (ip a) (ip b) (ip c) = some (pt (mafar a b c)) := by
  have e : pt (mafar a b c) = pt (mfarX a b c, mfarY a b c, mfarW a b c) := by
    unfold mafar
    split
    · rfl
    · exact pt_neg _ _ _
  rw [e]
  have hc : cross (ip a) (ip b) (ip c) ≠ 0 := by
    rw [← mturn_cross]
    intro h0
    apply h
    have : ((mturn a b c : Int) : Rat) = ((0 : Int) : Rat) := h0
    exact Rat.intCast_inj.mp this
  unfold middle3
  simp only
  rw [if_neg (by grind)]
  congr 1
  have ew : ((mfarW a b c : Int) : Rat) = 2 * cross (ip a) (ip b) (ip c) := by
    unfold mfarW
    rw [Rat.intCast_mul, mturn_cross, two_rat]
  have hw : 2 * cross (ip a) (ip b) (ip c) ≠ 0 := by grind
  have e1 : ((msqr a b : Int) : Rat) = far2 (ip b) (ip a) := by
    unfold msqr far2 ip ofInts
    simp only [Rat.intCast_sub, Rat.intCast_mul, Rat.intCast_add]
  have e2 : ((msqr a c : Int) : Rat) = far2 (ip c) (ip a) := by
    unfold msqr far2 ip ofInts
    simp only [Rat.intCast_sub, Rat.intCast_mul, Rat.intCast_add]
  unfold pt mfarX mfarY
  simp only [Rat.intCast_sub, Rat.intCast_mul, Rat.intCast_add, ew, e1, e2]
  generalize far2 (ip b) (ip a) = u at *
  generalize far2 (ip c) (ip a) = v at *
  generalize 2 * cross (ip a) (ip b) (ip c) = w at *
  unfold ip ofInts
  clear hc e e1 e2 ew h
  ext
  · simp only
    generalize (a.1 : Rat) = a1
    generalize (a.2 : Rat) = a2
    generalize (b.1 : Rat) = b1
    generalize (b.2 : Rat) = b2
    generalize (c.1 : Rat) = c1
    generalize (c.2 : Rat) = c2
    grind
  · simp only
    generalize (a.1 : Rat) = a1
    generalize (a.2 : Rat) = a2
    generalize (b.1 : Rat) = b1
    generalize (b.2 : Rat) = b2
    generalize (c.1 : Rat) = c1
    generalize (c.2 : Rat) = c2
    grind
theorem middle3_far {a b c m : Pt} (h : middle3 a b c = some m) : cross a b c ≠ 0 ∧ far2 a m = far2 b m ∧ far2 a m = far2 c m := by
  unfold middle3 at h
  simp only at h
  by_cases h0 : 2 * cross a b c = 0
  · rw [if_pos h0] at h; cases h
  · rw [if_neg h0] at h
    injection h with h
    have hc : cross a b c ≠ 0 := by grind
    refine ⟨hc, ?_⟩
    have ed : cross a b c = (b.1 - a.1) * (c.2 - a.2) - (b.2 - a.2) * (c.1 - a.1) := rfl
    have u1 : m.1 - a.1 = (far2 b a * (c.2 - a.2) - far2 c a * (b.2 - a.2)) / (2 * cross a b c) := by rw [← h]; grind
    have u2 : m.2 - a.2 = (far2 c a * (b.1 - a.1) - far2 b a * (c.1 - a.1)) / (2 * cross a b c) := by rw [← h]; grind
    have v1 : (m.1 - a.1) * (2 * cross a b c) = far2 b a * (c.2 - a.2) - far2 c a * (b.2 - a.2) := by rw [u1]; grind
    have v2 : (m.2 - a.2) * (2 * cross a b c) = far2 c a * (b.1 - a.1) - far2 b a * (c.1 - a.1) := by rw [u2]; grind
    clear u1 u2 h h0
    have x1 : far2 b a = (b.1 - a.1) * (b.1 - a.1) + (b.2 - a.2) * (b.2 - a.2) := rfl
    have x2 : far2 c a = (c.1 - a.1) * (c.1 - a.1) + (c.2 - a.2) * (c.2 - a.2) := rfl
    have y0 : far2 a m = (m.1 - a.1) * (m.1 - a.1) + (m.2 - a.2) * (m.2 - a.2) := by unfold far2; grind
    have y1 : far2 b m = ((b.1 - a.1) - (m.1 - a.1)) * ((b.1 - a.1) - (m.1 - a.1)) + ((b.2 - a.2) - (m.2 - a.2)) * ((b.2 - a.2) - (m.2 - a.2)) := by unfold far2; grind
    have y2 : far2 c m = ((c.1 - a.1) - (m.1 - a.1)) * ((c.1 - a.1) - (m.1 - a.1)) + ((c.2 - a.2) - (m.2 - a.2)) * ((c.2 - a.2) - (m.2 - a.2)) := by unfold far2; grind
    rw [y0, y1, y2]
    rw [x1, x2] at v1 v2
    rw [ed] at v1 v2 hc
    clear ed x1 x2 y0 y1 y2
    generalize b.1 - a.1 = b1 at *
    generalize b.2 - a.2 = b2 at *
    generalize c.1 - a.1 = c1 at *
    generalize c.2 - a.2 = c2 at *
    generalize m.1 - a.1 = p at *
    generalize m.2 - a.2 = q at *
    -- 2 (b . m) = |b|^2, 2 (c . m) = |c|^2
    have k1 : (b1 * c2 - b2 * c1) * (2 * (b1 * p + b2 * q)) = (b1 * c2 - b2 * c1) * (b1 * b1 + b2 * b2) := by grind
    have k2 : (b1 * c2 - b2 * c1) * (2 * (c1 * p + c2 * q)) = (b1 * c2 - b2 * c1) * (c1 * c1 + c2 * c2) := by grind
    generalize b1 * c2 - b2 * c1 = d at *
    have l1 : 2 * (b1 * p + b2 * q) = b1 * b1 + b2 * b2 := by
      clear v1 v2 k2
      generalize 2 * (b1 * p + b2 * q) = s at *
      generalize b1 * b1 + b2 * b2 = t at *
      grind
    have l2 : 2 * (c1 * p + c2 * q) = c1 * c1 + c2 * c2 := by
      clear v1 v2 k1
      generalize 2 * (c1 * p + c2 * q) = s at *
      generalize c1 * c1 + c2 * c2 = t at *
      grind
    clear v1 v2 k1 k2
    exact ⟨by grind, by grind⟩
end NS

set_option Elab.async false
set_option linter.all false
namespace NS
open GkBase Gk04

theorem mmiddles_pos {l : List IP} : ∀ c ∈ mmiddles l, 0 < c.2.2 := by
  intro c hc
  rcases (mem_mmiddles l c).mp hc with ⟨a, _, rfl⟩ | ⟨i, j, a, b, _, _, _, rfl⟩ | ⟨i, j, k, a, b, d, _, _, _, _, _, h, rfl⟩
  · show (0 : Int) < 1; decide
  · show (0 : Int) < 2; decide
  · exact mafar_pos h
theorem mmost_spec {l : List IP} (c : Pl) (h : l ≠ []) : mmost l c ∈ l.map (mfar c) ∧ ∀ y ∈ l.map (mfar c), y ≤ mmost l c := by
  unfold mmost
  have hne : l.map (mfar c) ≠ [] := by simpa using h
  have e := List.max?_eq_some_max hne
  rw [e]
  exact List.max?_eq_some_iff.mp e
theorem rg_round {l : List IP} {c : Pl} (h : l ≠ []) (hw : 0 < c.2.2) : rg (mround l c) = (pt c, reach (l.map ip) (pt c)) := by
  obtain ⟨h1, h2⟩ := mmost_spec c h
  obtain ⟨s, hs, e⟩ := List.mem_map.mp h1
  have hr : reach (l.map ip) (pt c) = far2 (ip s) (pt c) := by
    refine reach_of (List.mem_map_of_mem hs) ?_
    intro q hq
    obtain ⟨t, ht, rfl⟩ := List.mem_map.mp hq
    have := h2 _ (List.mem_map_of_mem (f := mfar c) ht)
    rw [← e, mfar_le t s hw] at this
    rw [far2_comm (ip t), far2_comm (ip s)]
    exact this
  have := rg_far s hw
  unfold mround
  rw [← e, this, hr, far2_comm]
/-- each middle of the specification is one of the program's -/
theorem middles_sub {l : List IP} : ∀ p ∈ Gk04.middles (l.map ip), ∃ c ∈ mmiddles l, pt c = p := by
  intro p hp
  unfold Gk04.middles at hp
  rw [List.mem_append, List.mem_append] at hp
  rcases hp with (hp | hp) | hp
  · obtain ⟨a, ha, rfl⟩ := List.mem_map.mp hp
    exact ⟨mas a, (mem_mmiddles l _).mpr (.inl ⟨a, ha, rfl⟩), pt_mas a⟩
  · obtain ⟨x, hx, hp⟩ := List.mem_flatMap.mp hp
    obtain ⟨y, hy, rfl⟩ := List.mem_map.mp hp
    obtain ⟨a, ha, rfl⟩ := List.mem_map.mp hx
    obtain ⟨b, hb, rfl⟩ := List.mem_map.mp hy
    obtain ⟨i, hi, rfl⟩ := List.getElem_of_mem ha
    obtain ⟨j, hj, rfl⟩ := List.getElem_of_mem hb
    rcases Nat.lt_trichotomy i j with hij | hij | hij
    · refine ⟨mhalf l[j] l[i], (mem_mmiddles l _).mpr (.inr (.inl ⟨j, i, _, _, hij, List.getElem?_eq_getElem hj, List.getElem?_eq_getElem hi, rfl⟩)), ?_⟩
      rw [pt_mhalf]
      unfold mid
      ext <;> (simp only; grind)
    · subst hij
      refine ⟨mas l[i], (mem_mmiddles l _).mpr (.inl ⟨_, List.getElem_mem hi, rfl⟩), ?_⟩
      rw [pt_mas]
      ext <;> (simp only; grind)
    · refine ⟨mhalf l[i] l[j], (mem_mmiddles l _).mpr (.inr (.inl ⟨i, j, _, _, hij, List.getElem?_eq_getElem hi, List.getElem?_eq_getElem hj, rfl⟩)), ?_⟩
      rw [pt_mhalf]
      rfl
  · obtain ⟨x, hx, hp⟩ := List.mem_flatMap.mp hp
    obtain ⟨y, hy, hp⟩ := List.mem_flatMap.mp hp
    obtain ⟨z, hz, hp⟩ := List.mem_filterMap.mp hp
    obtain ⟨a, ha, rfl⟩ := List.mem_map.mp hx
    obtain ⟨b, hb, rfl⟩ := List.mem_map.mp hy
    obtain ⟨d, hd, rfl⟩ := List.mem_map.mp hz
    obtain ⟨hc, f1, f2⟩ := middle3_far hp
    obtain ⟨i, hi, rfl⟩ := List.getElem_of_mem ha
    obtain ⟨j, hj, rfl⟩ := List.getElem_of_mem hb
    obtain ⟨k, hk, rfl⟩ := List.getElem_of_mem hd
    have nij : i ≠ j := by
      rintro rfl
      exact hc (cross_aab _ _)
    have nik : i ≠ k := by
      rintro rfl
      exact hc (cross_aba _ _)
    have njk : j ≠ k := by
      rintro rfl
      exact hc (cross_abb _ _)
    have key : ∀ (i j k : Nat) (hi : i < l.length) (hj : j < l.length) (hk : k < l.length), k < j → j < i → cross (ip l[i]) (ip l[j]) (ip l[k]) ≠ 0 →
        far2 (ip l[i]) p = far2 (ip l[j]) p → far2 (ip l[i]) p = far2 (ip l[k]) p → ∃ c ∈ mmiddles l, pt c = p := by
      intro i j k hi hj hk hkj hji hc f1 f2
      have ht : mturn l[i] l[j] l[k] ≠ 0 := by
        intro h0
        apply hc
        rw [← mturn_cross, h0]
        rfl
      refine ⟨mafar l[i] l[j] l[k], (mem_mmiddles l _).mpr (.inr (.inr ⟨i, j, k, _, _, _, hkj, hji, List.getElem?_eq_getElem hi, List.getElem?_eq_getElem hj, List.getElem?_eq_getElem hk, ht, rfl⟩)), ?_⟩
      have h1 := pt_mafar ht
      have h2 := middle3_is hc f1 f2
      rw [h1] at h2
      exact Option.some.inj h2
    have s1 : ∀ a b c : Pt, cross a b c ≠ 0 → cross b a c ≠ 0 := by intro a b c h h0; apply h; unfold cross at *; grind
    have s2 : ∀ a b c : Pt, cross a b c ≠ 0 → cross b c a ≠ 0 := by intro a b c h; rw [← cross_cyc]; exact h
    rcases Nat.lt_or_gt_of_ne nij with h1 | h1 <;> rcases Nat.lt_or_gt_of_ne nik with h2 | h2 <;> rcases Nat.lt_or_gt_of_ne njk with h3 | h3
    · -- i < j < k
      exact key k j i hk hj hi h1 h3 (s1 _ _ _ (s2 _ _ _ hc)) (f2.symm.trans f1) f2.symm
    · -- i < k < j
      exact key j k i hj hk hi h2 h3 (s2 _ _ _ hc) (f1.symm.trans f2) f1.symm
    · omega
    · -- k < i < j
      exact key j i k hj hi hk h2 h1 (s1 _ _ _ hc) f1.symm (f1.symm.trans f2)
    · -- j < i < k
      exact key k i j hk hi hj h1 h2 (s2 _ _ _ (s2 _ _ _ hc)) f2.symm (f2.symm.trans f1)
    · omega
    · -- j < k < i
      exact key i k j hi hk hj h3 h2 (s1 _ _ _ (s2 _ _ _ (s2 _ _ _ hc))) f2 f1
    · -- k < j < i
      exact key i j k hi hj hk h3 h1 hc f1 f2
theorem around_best : ∀ (L : List Rg) (b : Rg), 0 < b.1.2.2 → (∀ r ∈ L, 0 < r.1.2.2) → (L.foldl mastep b) ∈ b :: L ∧ 0 < (L.foldl mastep b).1.2.2 ∧ ∀ r ∈ b :: L, (rg (L.foldl mastep b)).2 ≤ (rg r).2
  | [], b, hb, _ => ⟨by simp, hb, by intro r hr; simp at hr; subst hr; exact Rat.le_refl⟩
  | a :: L, b, hb, h => by
    have ha := h a (by simp)
    rw [List.foldl_cons]
    have hm : (mastep b a = a ∧ (rg a).2 < (rg b).2) ∨ (mastep b a = b ∧ ¬ (rg a).2 < (rg b).2) := by
      unfold mastep
      have := excess_pos hb ha
      by_cases h1 : 0 < mexcess b a
      · left; rw [if_pos h1]; exact ⟨rfl, this.mp h1⟩
      · right; rw [if_neg h1]; exact ⟨rfl, fun x => h1 (this.mpr x)⟩
    have hp : 0 < (mastep b a).1.2.2 := by rcases hm with ⟨e, _⟩ | ⟨e, _⟩ <;> rw [e] <;> assumption
    obtain ⟨h1, h2, h3⟩ := around_best L (mastep b a) hp (fun r hr => h r (by simp [hr]))
    generalize L.foldl mastep (mastep b a) = r0 at *
    have h4 := h3 (mastep b a) (by simp)
    refine ⟨?_, h2, ?_⟩
    · simp only [List.mem_cons] at h1 ⊢
      rcases h1 with e | e
      · rcases hm with ⟨e1, _⟩ | ⟨e1, _⟩ <;> simp [e, e1]
      · simp [e]
    · intro r hr
      simp only [List.mem_cons] at hr
      rcases hr with rfl | rfl | hr
      · rcases hm with ⟨e1, e2⟩ | ⟨e1, e2⟩ <;> rw [e1] at h4 <;> grind
      · rcases hm with ⟨e1, e2⟩ | ⟨e1, e2⟩ <;> rw [e1] at h4 <;> grind
      · exact h3 r (by simp [hr])
theorem around_step {m : Ld} (h : Wf m) : Gk04.step (toSt m) .around = (toSt m, maround m) := by
  show (toSt m, match Gk04.around ((toSites m.sites).map fun (x : Nat × Pt) => x.2) with
    | none => [-6]
    | some x => toldPt x.1 ++ told x.2) = _
  have es : ((toSites m.sites).map fun (x : Nat × Pt) => x.2) = (mplaces m).map ip := by
    unfold toSites mplaces
    rw [List.map_map, List.map_map]
    rfl
  rw [es]
  unfold maround
  by_cases h0 : m.sites.length = 0
  · rw [if_pos h0]
    have : m.sites = [] := List.length_eq_zero_iff.mp h0
    unfold mplaces
    rw [this]
    rfl
  · rw [if_neg h0]
    have hl : mplaces m ≠ [] := by
      unfold mplaces
      intro e
      rw [List.map_eq_nil_iff] at e
      rw [e] at h0
      exact h0 rfl
    generalize mplaces m = l at *
    have hsub := middles_sub (l := l)
    have hpos := mmiddles_pos (l := l)
    have hrpos : ∀ r ∈ (mmiddles l).map (mround l), 0 < r.1.2.2 := by
      intro r hr
      obtain ⟨c, hc, rfl⟩ := List.mem_map.mp hr
      exact hpos c hc
    have hne : mmiddles l ≠ [] := by
      obtain ⟨a, ha⟩ := List.exists_mem_of_ne_nil _ hl
      exact List.ne_nil_of_mem ((mem_mmiddles l (mas a)).mpr (.inl ⟨a, ha, rfl⟩))
    have hne2 : (mmiddles l).map (mround l) ≠ [] := by simpa using hne
    have hin : ∀ r ∈ (mmiddles l).map (mround l), ∃ c ∈ mmiddles l, r = mround l c := by
      intro r hr
      obtain ⟨c, hc, rfl⟩ := List.mem_map.mp hr
      exact ⟨c, hc, rfl⟩
    have hto : ∀ c ∈ mmiddles l, mround l c ∈ (mmiddles l).map (mround l) := fun c hc => List.mem_map_of_mem hc
    unfold mbestA
    generalize (mmiddles l).map (mround l) = L at *
    match L, hne2 with
    | a :: L, _ =>
      simp only [List.headD_cons]
      obtain ⟨b1, b2, b3⟩ := around_best (a :: L) a (hrpos a (by simp)) hrpos
      generalize (a :: L).foldl mastep a = r at *
      have b1' : r ∈ a :: L := by
        rcases List.mem_cons.mp b1 with e | e
        · rw [e]; simp
        · exact e
      obtain ⟨c, hc, rfl⟩ := hin r b1'
      have e1 := rg_round hl (hpos c hc)
      have hlip : l.map ip ≠ [] := by simpa using hl
      have := around_is hlip (m := pt c) (by
        intro p hp
        obtain ⟨c', hc', rfl⟩ := hsub p hp
        have := b3 (mround l c') (List.mem_cons_of_mem _ (hto c' hc'))
        rw [e1, rg_round hl (hpos c' hc')] at this
        exact this)
      rw [this]
      simp only
      rw [mnumbers_eq b2, e1]
end NS

set_option Elab.async false
set_option linter.unusedVariables false
set_option maxRecDepth 100000
set_option maxHeartbeats 2000000
namespace NP
open PySem PySem.Spec PyProof.Rows L2 Evl NS
def top (i : Nat) : Stmt := PySem.Challenge.pw_nearestsites_s01_answers.main.body.getD i (.Pass ⟨0, 0, 0, 0⟩)
abbrev s_answers : Stmt := top 21
theorem sc_answers : FnScope ["calls", "land", "told", "at", "call", "behind", "answer"] ["calls"] (defScope s_answers) := ⟨rfl, rfl, rfl, by decide +kernel, rfl, by decide +kernel, by decide +kernel⟩
abbrev s_answer_of : Stmt := top 22
theorem sc_answer_of : FnScope ["land", "call", "given"] ["land", "call", "given"] (defScope s_answer_of) := ⟨rfl, rfl, rfl, by decide +kernel, rfl, by decide +kernel, by decide +kernel⟩
abbrev s_init : Stmt := inClass (top 23) 0
theorem sc_init : FnScope ["self"] ["self"] (defScope s_init) := ⟨rfl, rfl, rfl, by decide +kernel, rfl, by decide +kernel, by decide +kernel⟩
abbrev s_add : Stmt := inClass (top 23) 1
theorem sc_add : FnScope ["self", "across", "up", "name"] ["self", "across", "up"] (defScope s_add) := ⟨rfl, rfl, rfl, by decide +kernel, rfl, by decide +kernel, by decide +kernel⟩
abbrev s_gone : Stmt := inClass (top 23) 2
theorem sc_gone : FnScope ["self", "name"] ["self", "name"] (defScope s_gone) := ⟨rfl, rfl, rfl, by decide +kernel, rfl, by decide +kernel, by decide +kernel⟩
abbrev s_nearest : Stmt := inClass (top 23) 3
theorem sc_nearest : FnScope ["self", "told", "place", "least", "site", "names"] ["self", "told"] (defScope s_nearest) := ⟨rfl, rfl, rfl, by decide +kernel, rfl, by decide +kernel, by decide +kernel⟩
abbrev s_within : Stmt := inClass (top 23) 4
theorem sc_within : FnScope ["self", "far", "told", "place", "names"] ["self", "far", "told"] (defScope s_within) := ⟨rfl, rfl, rfl, by decide +kernel, rfl, by decide +kernel, by decide +kernel⟩
abbrev s_cell : Stmt := inClass (top 23) 5
theorem sc_cell : FnScope ["self", "name", "corners", "answer", "corner"] ["self", "name"] (defScope s_cell) := ⟨rfl, rfl, rfl, by decide +kernel, rfl, by decide +kernel, by decide +kernel⟩
abbrev s_beside : Stmt := inClass (top 23) 6
theorem sc_beside : FnScope ["self", "name", "own", "corners", "others", "other", "names"] ["self", "name"] (defScope s_beside) := ⟨rfl, rfl, rfl, by decide +kernel, rfl, by decide +kernel, by decide +kernel⟩
abbrev s_loneliest : Stmt := inClass (top 23) 7
theorem sc_loneliest : FnScope ["self", "rings", "name", "site", "corner", "best", "ring"] ["self"] (defScope s_loneliest) := ⟨rfl, rfl, rfl, by decide +kernel, rfl, by decide +kernel, by decide +kernel⟩
abbrev s_closest : Stmt := inClass (top 23) 8
theorem sc_closest : FnScope ["self", "names", "twos", "at", "place", "name", "best"] ["self"] (defScope s_closest) := ⟨rfl, rfl, rfl, by decide +kernel, rfl, by decide +kernel, by decide +kernel⟩
abbrev s_around : Stmt := inClass (top 23) 9
theorem sc_around : FnScope ["self", "sites", "rings", "middle", "best", "ring"] ["self"] (defScope s_around) := ⟨rfl, rfl, rfl, by decide +kernel, rfl, by decide +kernel, by decide +kernel⟩
abbrev s_sites : Stmt := inClass (top 23) 10
theorem sc_sites : FnScope ["self", "answer", "name", "site"] ["self"] (defScope s_sites) := ⟨rfl, rfl, rfl, by decide +kernel, rfl, by decide +kernel, by decide +kernel⟩
abbrev s_names_up_to : Stmt := inClass (top 23) 11
theorem sc_names_up_to : FnScope ["self", "most", "place", "name"] ["self", "most", "place"] (defScope s_names_up_to) := ⟨rfl, rfl, rfl, by decide +kernel, rfl, by decide +kernel, by decide +kernel⟩
abbrev s_corners_of : Stmt := inClass (top 23) 12
theorem sc_corners_of : FnScope ["self", "name", "own", "corners", "other"] ["self", "name"] (defScope s_corners_of) := ⟨rfl, rfl, rfl, by decide +kernel, rfl, by decide +kernel, by decide +kernel⟩
abbrev s_is_place : Stmt := top 24
theorem sc_is_place : FnScope ["told"] ["told"] (defScope s_is_place) := ⟨rfl, rfl, rfl, by decide +kernel, rfl, by decide +kernel, by decide +kernel⟩
abbrev s_is_fraction : Stmt := top 25
theorem sc_is_fraction : FnScope ["above", "below"] ["above", "below"] (defScope s_is_fraction) := ⟨rfl, rfl, rfl, by decide +kernel, rfl, by decide +kernel, by decide +kernel⟩
abbrev s_place_of : Stmt := top 26
theorem sc_place_of : FnScope ["told"] ["told"] (defScope s_place_of) := ⟨rfl, rfl, rfl, by decide +kernel, rfl, by decide +kernel, by decide +kernel⟩
abbrev s_as_place : Stmt := top 27
theorem sc_as_place : FnScope ["site"] ["site"] (defScope s_as_place) := ⟨rfl, rfl, rfl, by decide +kernel, rfl, by decide +kernel, by decide +kernel⟩
abbrev s_far_times : Stmt := top 28
theorem sc_far_times : FnScope ["place", "site", "across", "up"] ["place", "site"] (defScope s_far_times) := ⟨rfl, rfl, rfl, by decide +kernel, rfl, by decide +kernel, by decide +kernel⟩
abbrev s_common : Stmt := top 29
theorem sc_common : FnScope ["one", "other", "rest"] ["one", "other"] (defScope s_common) := ⟨rfl, rfl, rfl, by decide +kernel, rfl, by decide +kernel, by decide +kernel⟩
abbrev s_lowest : Stmt := top 30
theorem sc_lowest : FnScope ["above", "below", "shared"] ["above", "below"] (defScope s_lowest) := ⟨rfl, rfl, rfl, by decide +kernel, rfl, by decide +kernel, by decide +kernel⟩
abbrev s_fractions_of : Stmt := top 31
theorem sc_fractions_of : FnScope ["place"] ["place"] (defScope s_fractions_of) := ⟨rfl, rfl, rfl, by decide +kernel, rfl, by decide +kernel, by decide +kernel⟩
abbrev s_lead : Stmt := top 32
theorem sc_lead : FnScope ["place", "own", "other", "squares", "across", "up"] ["place", "own", "other"] (defScope s_lead) := ⟨rfl, rfl, rfl, by decide +kernel, rfl, by decide +kernel, by decide +kernel⟩
abbrev s_cut : Stmt := top 33
theorem sc_cut : FnScope ["corners", "own", "other", "kept", "before", "corner", "lead_before", "lead_here"] ["corners", "own", "other"] (defScope s_cut) := ⟨rfl, rfl, rfl, by decide +kernel, rfl, by decide +kernel, by decide +kernel⟩
abbrev s_between : Stmt := top 34
theorem sc_between : FnScope ["one", "weight", "other", "other_weight", "x", "y", "w", "shared"] ["one", "weight", "other", "other_weight"] (defScope s_between) := ⟨rfl, rfl, rfl, by decide +kernel, rfl, by decide +kernel, by decide +kernel⟩
abbrev s_area : Stmt := top 35
theorem sc_area : FnScope ["corners", "above", "below", "before", "corner", "step", "step_below"] ["corners"] (defScope s_area) := ⟨rfl, rfl, rfl, by decide +kernel, rfl, by decide +kernel, by decide +kernel⟩
abbrev s_from_first_on : Stmt := top 36
theorem sc_from_first_on : FnScope ["corners", "first", "at"] ["corners"] (defScope s_from_first_on) := ⟨rfl, rfl, rfl, by decide +kernel, rfl, by decide +kernel, by decide +kernel⟩
abbrev s_is_ahead : Stmt := top 37
theorem sc_is_ahead : FnScope ["one", "other", "across", "up"] ["one", "other"] (defScope s_is_ahead) := ⟨rfl, rfl, rfl, by decide +kernel, rfl, by decide +kernel, by decide +kernel⟩
abbrev s_has_side_towards : Stmt := top 38
theorem sc_has_side_towards : FnScope ["corners", "own", "other", "shared", "corner"] ["corners", "own", "other"] (defScope s_has_side_towards) := ⟨rfl, rfl, rfl, by decide +kernel, rfl, by decide +kernel, by decide +kernel⟩
abbrev s_excess : Stmt := top 39
theorem sc_excess : FnScope ["ring", "other", "w", "other_w"] ["ring", "other"] (defScope s_excess) := ⟨rfl, rfl, rfl, by decide +kernel, rfl, by decide +kernel, by decide +kernel⟩
abbrev s_is_lonelier : Stmt := top 40
theorem sc_is_lonelier : FnScope ["ring", "other", "more"] ["ring", "other"] (defScope s_is_lonelier) := ⟨rfl, rfl, rfl, by decide +kernel, rfl, by decide +kernel, by decide +kernel⟩
abbrev s_numbers_of : Stmt := top 41
theorem sc_numbers_of : FnScope ["ring", "w"] ["ring"] (defScope s_numbers_of) := ⟨rfl, rfl, rfl, by decide +kernel, rfl, by decide +kernel, by decide +kernel⟩
abbrev s_ring_round : Stmt := top 42
theorem sc_ring_round : FnScope ["middle", "sites", "site"] ["middle", "sites"] (defScope s_ring_round) := ⟨rfl, rfl, rfl, by decide +kernel, rfl, by decide +kernel, by decide +kernel⟩
abbrev s_middles : Stmt := top 43
theorem sc_middles : FnScope ["sites", "found", "at", "before", "third"] ["sites"] (defScope s_middles) := ⟨rfl, rfl, rfl, by decide +kernel, rfl, by decide +kernel, by decide +kernel⟩
abbrev s_halfway : Stmt := top 44
theorem sc_halfway : FnScope ["one", "other"] ["one", "other"] (defScope s_halfway) := ⟨rfl, rfl, rfl, by decide +kernel, rfl, by decide +kernel, by decide +kernel⟩
abbrev s_turn : Stmt := top 45
theorem sc_turn : FnScope ["one", "other", "third"] ["one", "other", "third"] (defScope s_turn) := ⟨rfl, rfl, rfl, by decide +kernel, rfl, by decide +kernel, by decide +kernel⟩
abbrev s_as_far_from : Stmt := top 46
theorem sc_as_far_from : FnScope ["one", "other", "third", "across", "up", "far", "third_across", "third_up", "third_far", "w", "x", "y"] ["one", "other", "third"] (defScope s_as_far_from) := ⟨rfl, rfl, rfl, by decide +kernel, rfl, by decide +kernel, by decide +kernel⟩

theorem rel_int {i : Int} {t} : RelV (.int i) (.int i t) := ⟨t, rfl⟩
theorem ifT {c : Bool} {A B : Prop} (hc : c = true) (h : A) : if c = true then A else B := by
  rw [if_pos hc]
  exact h
theorem ifF {c : Bool} {A B : Prop} (hc : c = false) (h : B) : if c = true then A else B := by
  rw [hc, if_neg Bool.false_ne_true]
  exact h

/-! what the top has written: a def, a method -/
structure D1 (K : PySem.W.Frag) (mg : Str → Option Value) (x : Str) (ps : List Str) (st : Stmt) : Type where
  f : Addr
  d : FuncData
  F : Fun K x x st f d
  mg : mg x = some (.ref f)
  b : Binds K d ps []
structure M1 (K : PySem.W.Frag) (C : Addr) (x qual : Str) (ps : List Str) (st : Stmt) : Type where
  f : Addr
  d : FuncData
  F : Fun K x qual st f d
  m : Meth K C x f
  b : Binds K d ps []
structure Tx (K : PySem.W.Frag) (mg : Str → Option Value) : Type where
  answer_of : D1 K mg "answer_of" ["land", "call", "given"] s_answer_of
  C : Addr
  gC : mg "Land" = some (.ref C)
  cl : Cls K C
  init : M1 K C "__init__" "Land.__init__" ["self"] s_init
  add : M1 K C "add" "Land.add" ["self", "across", "up"] s_add
  gone : M1 K C "gone" "Land.gone" ["self", "name"] s_gone
  nearest : M1 K C "nearest" "Land.nearest" ["self", "told"] s_nearest
  within : M1 K C "within" "Land.within" ["self", "far", "told"] s_within
  cell : M1 K C "cell" "Land.cell" ["self", "name"] s_cell
  beside : M1 K C "beside" "Land.beside" ["self", "name"] s_beside
  loneliest : M1 K C "loneliest" "Land.loneliest" ["self"] s_loneliest
  closest : M1 K C "closest" "Land.closest" ["self"] s_closest
  around : M1 K C "around" "Land.around" ["self"] s_around
  sites : M1 K C "sites" "Land.sites" ["self"] s_sites
  names_up_to : M1 K C "names_up_to" "Land.names_up_to" ["self", "most", "place"] s_names_up_to
  corners_of : M1 K C "corners_of" "Land.corners_of" ["self", "name"] s_corners_of
  mkC : Mk K C init.f
  n_places : NoAttr K C "places"
  n_fresh_name : NoAttr K C "fresh_name"
  is_place : D1 K mg "is_place" ["told"] s_is_place
  is_fraction : D1 K mg "is_fraction" ["above", "below"] s_is_fraction
  place_of : D1 K mg "place_of" ["told"] s_place_of
  as_place : D1 K mg "as_place" ["site"] s_as_place
  far_times : D1 K mg "far_times" ["place", "site"] s_far_times
  common : D1 K mg "common" ["one", "other"] s_common
  lowest : D1 K mg "lowest" ["above", "below"] s_lowest
  fractions_of : D1 K mg "fractions_of" ["place"] s_fractions_of
  lead : D1 K mg "lead" ["place", "own", "other"] s_lead
  cut : D1 K mg "cut" ["corners", "own", "other"] s_cut
  between : D1 K mg "between" ["one", "weight", "other", "other_weight"] s_between
  area : D1 K mg "area" ["corners"] s_area
  from_first_on : D1 K mg "from_first_on" ["corners"] s_from_first_on
  is_ahead : D1 K mg "is_ahead" ["one", "other"] s_is_ahead
  has_side_towards : D1 K mg "has_side_towards" ["corners", "own", "other"] s_has_side_towards
  excess : D1 K mg "excess" ["ring", "other"] s_excess
  is_lonelier : D1 K mg "is_lonelier" ["ring", "other"] s_is_lonelier
  numbers_of : D1 K mg "numbers_of" ["ring"] s_numbers_of
  ring_round : D1 K mg "ring_round" ["middle", "sites"] s_ring_round
  middles : D1 K mg "middles" ["sites"] s_middles
  halfway : D1 K mg "halfway" ["one", "other"] s_halfway
  turn : D1 K mg "turn" ["one", "other", "third"] s_turn
  as_far_from : D1 K mg "as_far_from" ["one", "other", "third"] s_as_far_from
  g_ADD : ∃ t, mg "ADD" = some (.int (0) t)
  g_GONE : ∃ t, mg "GONE" = some (.int (1) t)
  g_NEAREST : ∃ t, mg "NEAREST" = some (.int (2) t)
  g_WITHIN : ∃ t, mg "WITHIN" = some (.int (3) t)
  g_CELL : ∃ t, mg "CELL" = some (.int (4) t)
  g_BESIDE : ∃ t, mg "BESIDE" = some (.int (5) t)
  g_LONELIEST : ∃ t, mg "LONELIEST" = some (.int (6) t)
  g_CLOSEST : ∃ t, mg "CLOSEST" = some (.int (7) t)
  g_AROUND : ∃ t, mg "AROUND" = some (.int (8) t)
  g_WRONG_PLACE : ∃ t, mg "WRONG_PLACE" = some (.int (-1) t)
  g_NO_ROOM : ∃ t, mg "NO_ROOM" = some (.int (-2) t)
  g_NO_SUCH_SITE : ∃ t, mg "NO_SUCH_SITE" = some (.int (-3) t)
  g_TAKEN : ∃ t, mg "TAKEN" = some (.int (-4) t)
  g_TOO_FEW_SITES : ∃ t, mg "TOO_FEW_SITES" = some (.int (-6) t)
  g_REACH : ∃ t, mg "REACH" = some (.int (100) t)
  g_MOST_SITES : ∃ t, mg "MOST_SITES" = some (.int (8) t)
  g_MOST_ABOVE : ∃ t, mg "MOST_ABOVE" = some (.int (100000) t)
  g_MOST_BELOW : ∃ t, mg "MOST_BELOW" = some (.int (1000) t)
  b_abs : mg "abs" = none
  b_len : mg "len" = none
  b_range : mg "range" = none
  b_list : mg "list" = none
  b_min : mg "min" = none
  b_sorted : mg "sorted" = none
  b_max : mg "max" = none

/-! sizes -/
def Bd (n : Nat) (i : Int) : Prop := i.natAbs < 2 ^ n
theorem Bd.mono {n m : Nat} {i : Int} (h : Bd n i) (hm : n ≤ m) : Bd m i := Nat.lt_of_lt_of_le h (Nat.pow_le_pow_right (by decide) hm)
theorem Bd.mul {n m : Nat} {i j : Int} (h : Bd n i) (k : Bd m j) : Bd (n + m) (i * j) := wide_lt h k
theorem Bd.add {n m : Nat} {i j : Int} (h : Bd n i) (k : Bd m j) : Bd (max n m + 1) (i + j) := by
  have h1 : Bd (max n m) i := h.mono (Nat.le_max_left ..)
  have h2 : Bd (max n m) j := k.mono (Nat.le_max_right ..)
  unfold Bd at *
  rw [Nat.pow_succ]
  omega
theorem Bd.sub {n m : Nat} {i j : Int} (h : Bd n i) (k : Bd m j) : Bd (max n m + 1) (i - j) := by
  have h1 : Bd (max n m) i := h.mono (Nat.le_max_left ..)
  have h2 : Bd (max n m) j := k.mono (Nat.le_max_right ..)
  unfold Bd at *
  rw [Nat.pow_succ]
  omega
theorem Bd.abs {n : Nat} {i : Int} (h : Bd n i) : Bd n (i.natAbs : Int) := by
  unfold Bd at *
  simpa using h
theorem cm {n m : Nat} {i j : Int} (h : Bd n i) (k : Bd m j) (hs : n + m ≤ 900000) : CMulW i j :=
  wide_mul (h.mono (Nat.le_succ n)) (k.mono (Nat.le_succ m)) (Nat.succ_pos _) (Nat.succ_pos _) (by omega)
theorem cd {m : Nat} {i j : Int} (h : 0 < j) (k : Bd m j) (hs : m ≤ 8990) : CDivW i j :=
  wide_div h (k.mono (Nat.le_succ m)) (Nat.succ_pos _) (by omega)

theorem abs_eq (i : Int) : (if i < 0 then -i else i) = (i.natAbs : Int) := by split <;> omega
theorem rc_abs {H : Hp} {i : Int} : RC (fun xs H Q => ∃ i, xs = [.int i] ∧ Q (.int (if i < 0 then -i else i)) H) [.int i] H (.int (i.natAbs : Int)) :=
  fun H1 _ _ q => ⟨i, rfl, by rw [abs_eq]; exact q H1 (Ex.refl H1)⟩
def PlAt (K : PySem.W.Frag) (H : Hp) (a : Addr) (c : Pl) : Prop := SqT K H a [.int c.1, .int c.2.1, .int c.2.2]
def IpAt (K : PySem.W.Frag) (H : Hp) (a : Addr) (s : IP) : Prop := SqT K H a [.int s.1, .int s.2]
theorem PlAt.ex {K : PySem.W.Frag} {H H' : Hp} {a : Addr} {c : Pl} (h : PlAt K H a c) (e : Ex H H') : PlAt K H' a c := ex_t e h
theorem IpAt.ex {K : PySem.W.Frag} {H H' : Hp} {a : Addr} {s : IP} (h : IpAt K H a s) (e : Ex H H') : IpAt K H' a s := ex_t e h
section
variable {K : PySem.W.Frag} {σ : L2.St} {H : Hp} {p : Addr} {i : Nat}
theorem ev_it {xs : List V} {v : V} {j : Int} (hv : σ[i]? = some (some (.ref p))) (h : SqT K H p xs) (ha : atI xs j = some v) : Ev (tOp (rIxT K) (tVar i) (tC (.int j))) σ H v :=
  ev_op (ev_var hv) ev_c (rv_ixT h ha)
theorem ev_x {c : Pl} (hv : σ[i]? = some (some (.ref p))) (h : PlAt K H p c) : Ev (tOp (rIxT K) (tVar i) (tC (.int 0))) σ H (.int c.1) := ev_it hv h rfl
theorem ev_y {c : Pl} (hv : σ[i]? = some (some (.ref p))) (h : PlAt K H p c) : Ev (tOp (rIxT K) (tVar i) (tC (.int 1))) σ H (.int c.2.1) := ev_it hv h rfl
theorem ev_w {c : Pl} (hv : σ[i]? = some (some (.ref p))) (h : PlAt K H p c) : Ev (tOp (rIxT K) (tVar i) (tC (.int 2))) σ H (.int c.2.2) := ev_it hv h rfl
theorem ev_s {c : IP} (hv : σ[i]? = some (some (.ref p))) (h : IpAt K H p c) : Ev (tOp (rIxT K) (tVar i) (tC (.int 0))) σ H (.int c.1) := ev_it hv h rfl
theorem ev_t {c : IP} (hv : σ[i]? = some (some (.ref p))) (h : IpAt K H p c) : Ev (tOp (rIxT K) (tVar i) (tC (.int 1))) σ H (.int c.2) := ev_it hv h rfl
theorem ev_mul {ta tb : TE} {x y : Int} {n m : Nat} (ha : Ev ta σ H (.int x)) (hb : Ev tb σ H (.int y)) (h1 : Bd n x) (h2 : Bd m y) (hs : n + m ≤ 900000) :
    Ev (tOp (rI CMulW fun i j => .int (i * j)) ta tb) σ H (.int (x * y)) := ev_op ha hb (rv_I (cm h1 h2 hs))
theorem ev_add {ta tb : TE} {x y : Int} (ha : Ev ta σ H (.int x)) (hb : Ev tb σ H (.int y)) : Ev (tOp (rI0 fun i j => .int (i + j)) ta tb) σ H (.int (x + y)) := ev_op ha hb rv_I0
theorem ev_sub {ta tb : TE} {x y : Int} (ha : Ev ta σ H (.int x)) (hb : Ev tb σ H (.int y)) : Ev (tOp (rI0 fun i j => .int (i - j)) ta tb) σ H (.int (x - y)) := ev_op ha hb rv_I0
end

end NP

set_option Elab.async false
set_option linter.unusedVariables false
set_option maxRecDepth 100000
set_option maxHeartbeats 2000000
namespace NP
open PySem PySem.Spec PyProof.Rows L2 Evl NS

def SpU (sp : Sp) (vs : List V) (H : Hp) (xs : List V) : Prop := ∀ H1, Ex H H1 → ∀ Q : VK, (∀ p H2, H1 p = none → Ex H1 H2 → H2 p = some (.tup xs) → Q (.ref p) H2) → ∀ E : XK, sp vs H1 Q E
def RetU (xs : List V) (H : Hp) (Q : VK) : Prop := ∀ p H2, H p = none → Ex H H2 → H2 p = some (.tup xs) → Q (.ref p) H2
section
variable {K : PySem.W.Frag} {σ : L2.St} {H : Hp} {ta tb tc : TE} {x y z : V} {r r' : R2}
theorem eu_call {sp : Sp} {dvs vs xs : List V} {E : XK} {t : TA} (h : EvA t σ H vs) (hs : SpU sp (vs ++ dvs) H xs) : EvU (tCall sp dvs E t) σ H xs := fun H1 e Q q =>
  h H1 e _ fun H2 e2 => hs H2 (e.trans e2) Q (fun p H3 hp e3 h3 => q p H3 (fresh_back e2 hp) (e2.trans e3) h3) E
theorem ev_chain {k k' : Bool} (ha : Ev ta σ H x) (hb : Ev tb σ H y) (hc : Ev tc σ H z) (h1 : RV r x y H (.bl k)) (h2 : RV r' y z H (.bl k')) : Ev (tChain r r' ta tb tc) σ H (.bl (k && k')) := fun H1 e Q q =>
  ha H1 e _ fun H2 e2 => hb H2 (e.trans e2) _ fun H3 e3 => h1 H3 ((e.trans e2).trans e3) _ fun H4 e4 => ⟨k, rfl, by
    cases k with
    | true => exact hc H4 (((e.trans e2).trans e3).trans e4) _ fun H5 e5 => h2 H5 ((((e.trans e2).trans e3).trans e4).trans e5) _ fun H6 e6 => q H6 ((((e2.trans e3).trans e4).trans e5).trans e6)
    | false => exact q H4 ((e2.trans e3).trans e4)⟩
theorem ev_lt {i j : Int} (ha : Ev ta σ H (.int i)) (hb : Ev tb σ H (.int j)) : Ev (tOp (rI0 fun i j => .bl (decide (i < j))) ta tb) σ H (.bl (decide (i < j))) := ev_op ha hb rv_I0
theorem ev_le {i j : Int} (ha : Ev ta σ H (.int i)) (hb : Ev tb σ H (.int j)) : Ev (tOp (rI0 fun i j => .bl (decide (i ≤ j))) ta tb) σ H (.bl (decide (i ≤ j))) := ev_op ha hb rv_I0
theorem deq_int (i j : Int) : decide (V.int i = V.int j) = decide (i = j) := by
  by_cases h : i = j
  · subst h; simp
  · have : ¬ V.int i = V.int j := fun e => h (by injection e)
    rw [decide_eq_false h, decide_eq_false this]
theorem ev_eqI {i j : Int} (ha : Ev ta σ H (.int i)) (hb : Ev tb σ H (.int j)) : Ev (tOp rEq ta tb) σ H (.bl (decide (i = j))) := by
  rw [← deq_int]
  exact ev_op ha hb (rv_eq rfl)
theorem ev_abs {i : Int} (ha : Ev ta σ H (.int i)) : Ev (tCB (fun xs H Q => ∃ i, xs = [.int i] ∧ Q (.int (if i < 0 then -i else i)) H) (tCons ta tNil)) σ H (.int (i.natAbs : Int)) := ev_cb (ea_cons ha ea_nil) rc_abs
theorem ev_il {xs : List V} {v : V} {p : Addr} {i : Nat} {j : Int} (hv : σ[i]? = some (some (.ref p))) (h : SqL K H p xs) (ha : atI xs j = some v) : Ev (tOp (rIxL K) (tVar i) (tC (.int j))) σ H v :=
  ev_op (ev_var hv) ev_c (rv_ixL h ha)
/-- two new lists joined -/
theorem el_catNN {xs ys : List V} (ha : EvL ta σ H xs) (hb : EvL tb σ H ys) (hz : xs.length + ys.length ≤ 100000) : EvL (tOp rCat ta tb) σ H (xs ++ ys) := fun H1 e Q q =>
  ha H1 e _ fun p H2 hp e2 h2 => hb H2 (e.trans e2) _ fun p' H3 hp' e3 h3 => ⟨p, p', xs, ys, rfl, rfl, e3 p _ h2, h3, sz_of hz, fun n hn => q n _ (fresh_back (e2.trans e3) hn) ((e2.trans e3).trans (Ex.new hn)) upd_same⟩
/-- a new list and one that stands -/
theorem el_catNV {xs ys : List V} {p' : Addr} (ha : EvL ta σ H xs) (hb : Ev tb σ H (.ref p')) (hp : H p' = some (.lst ys)) (hz : xs.length + ys.length ≤ 100000) : EvL (tOp rCat ta tb) σ H (xs ++ ys) := fun H1 e Q q =>
  ha H1 e _ fun p H2 _ e2 h2 => hb H2 (e.trans e2) _ fun H3 e3 => ⟨p, p', xs, ys, rfl, rfl, e3 p _ h2, ((e.trans e2).trans e3) p' _ hp, sz_of hz, fun n hn => q n _ (fresh_back (e2.trans e3) hn) ((e2.trans e3).trans (Ex.new hn)) upd_same⟩
end

/-! ### common -/
def spCommon : Sp := fun vs H Q _ => ∃ (a b : Nat), vs = [.int a, .int b] ∧ Q (.int (Nat.gcd a b : Nat)) H
theorem spCommon_V {a b : Nat} {H : Hp} : SpV spCommon [.int a, .int b] H (.int (Nat.gcd a b : Nat)) :=
  fun H1 _ _ q _ => ⟨a, b, rfl, q H1 (Ex.refl H1)⟩
theorem spCommon_I {a b : Int} {H : Hp} (hb : 0 ≤ b) (ha : 0 ≤ a) : SpV spCommon [.int a, .int b] H (.int (Int.gcd a b : Nat)) := by
  have h := spCommon_V (a := a.natAbs) (b := b.natAbs) (H := H)
  rw [show ((a.natAbs : Nat) : Int) = a by omega, show ((b.natAbs : Nat) : Int) = b by omega] at h
  exact h
section
variable {P : Program} {w : World} {K : PySem.W.Frag} {mg : Str → Option Value} {base : Heap}
theorem ok_common (T : Tx K mg) : FnOk P w K mg base CX0 1 T.common.f T.common.d ["one", "other"] spCommon := by
  refine T.common.F.ok sc_common (fun vs H Q E h => ?_) (fun cdv A outer s H vs Q E hr h => ?_)
  · obtain ⟨a, b, rfl, _⟩ := h
    rfl
  · obtain ⟨a, b, rfl, k⟩ := h
    refine ⟨_, (pss_cons (ps_while PassesOwn.never (pt_cmpR op_ne (pv 1) pe_int (nomark _))
        (pss_cons (ps_set (i := 2) sc_common.nd rfl (Or.inl rfl) (pe_op op_mod (pv 0) (pv 1)))
        (pss_cons (ps_set (i := 0) sc_common.nd rfl (Or.inl rfl) (pv 1))
        (pss_one (ps_set (i := 1) sc_common.nd rfl (Or.inl rfl) (pv 2))))))
      (pss_one (ps_ret (pv 0)))), ?_⟩
    refine while_by (fun σ H' => ∃ (x y : Nat) (z : Option V), σ = [some (.int x), some (.int y), z] ∧ Nat.gcd x y = Nat.gcd a b ∧ H' = H)
      (fun σ _ => match σ with | [_, some (.int y), _] => y.toNat | _ => 0) ⟨a, b, none, rfl, rfl, rfl⟩ ?_ ?_
    · rintro σ H' ⟨x, y, z, rfl, hg, rfl⟩
      refine ⟨_, rfl, rfl, _, rfl, ?_⟩
      by_cases hy : y = 0
      · subst hy
        refine iteNS (c := V.int ((0 : Nat) : Int) = V.int 0) rfl ?_
        refine ⟨_, rfl, ?_⟩
        have e : x = Nat.gcd a b := by rw [← hg, Nat.gcd_zero_right]
        rw [e]
        exact k
      · have hne : ¬ (V.int (y : Int) = V.int 0) := by
          intro e
          injection e with e
          omega
        refine ifT (c := !decide (V.int (y : Int) = V.int 0)) (by rw [decide_eq_false hne]; rfl) ?_
        refine ⟨_, rfl, _, rfl, _, _, rfl, rfl, (by omega), ?_⟩
        refine ⟨_, rfl, ?_⟩
        refine ⟨_, rfl, ?_⟩
        refine ⟨⟨y, x % y, _, rfl, ?_, rfl⟩, ?_⟩
        · rw [← hg, Nat.gcd_comm y (x % y), ← Nat.gcd_rec, Nat.gcd_comm]
        · show (x % y : Int).toNat < (y : Int).toNat
          have := Nat.mod_lt x (Nat.pos_of_ne_zero hy)
          omega
    · rintro σ H' Q Q' hq ⟨v, h1, h2, b, h3, h4⟩
      exact ⟨v, h1, h2, b, h3, hq _ _ h4⟩

/-! ### lowest -/
def spLowest : Sp := fun vs H Q _ => ∃ a b : Int, vs = [.int a, .int b] ∧ 0 < b ∧ Bd 8000 b ∧ RetL ((mlowest a b).map V.int) H Q
theorem spLowest_L {a b : Int} {H : Hp} (h : 0 < b) (h2 : Bd 8000 b) : SpL spLowest [.int a, .int b] H ((mlowest a b).map V.int) :=
  fun H1 _ _ q _ => ⟨a, b, rfl, h, h2, fun p H' hp e hl => q p H' hp e hl⟩
theorem ok_lowest (T : Tx K mg) : FnOk P w K mg base CX0 2 T.lowest.f T.lowest.d ["above", "below"] spLowest := by
  have G_common : FnOk P w K mg base CX0 1 T.common.f T.common.d ["one", "other"] spCommon := ok_common T
  refine T.lowest.F.ok sc_lowest (fun vs H Q E h => ?_) (fun cdv A outer s H vs Q E hr h => ?_)
  · obtain ⟨a, b, rfl, _⟩ := h
    rfl
  · obtain ⟨a, b, rfl, hb, h2, k⟩ := h
    refine ⟨_, (pss_cons (ps_set (i := 2) sc_lowest.nd rfl (Or.inl rfl) (pe_call G_common (hr.mono (by decide)) rfl T.common.mg T.common.F.kp T.common.b .nil pass0 (pa_cons (pe_callB call_abs (by rfl) T.b_abs boot_abs (pa_cons (pv 0) pa_nil)) (pa_cons (pv 1) pa_nil))))
      (pss_one (ps_ret (pe_lst (pa_cons (pe_op op_fdivW (pv 0) (pv 2)) (pa_cons (pe_op op_fdivW (pv 1) (pv 2)) pa_nil)))))), ?_⟩
    refine s_asg (v := .int (Int.gcd a b : Nat)) (ev_call (vs := [.int (a.natAbs : Int), .int b]) (ea_cons (ev_abs (ev_var rfl)) (ea_cons (ev_var rfl) ea_nil)) ?_) fun H1 e1 => ?_
    · have := spCommon_I (a := (a.natAbs : Int)) (b := b) (H := H) (by omega) (by omega)
      have e : Int.gcd (a.natAbs : Int) b = Int.gcd a b := by unfold Int.gcd; rfl
      rw [e] at this
      exact this
    · have hg : 0 < ((Int.gcd a b : Nat) : Int) := by
        have : 0 < Int.gcd a b := Int.gcd_pos_of_ne_zero_right _ (by omega)
        omega
      have hgb : Bd 8000 ((Int.gcd a b : Nat) : Int) := by
        have : Int.gcd a b ≤ b.natAbs := Nat.le_of_dvd (by omega) (Nat.gcd_dvd_right a.natAbs b.natAbs)
        unfold Bd at *
        omega
      exact s_retL (el_lst (ea_cons (ev_op (ev_var rfl) (ev_var rfl) (rv_I (cd hg hgb (by decide)))) (ea_cons (ev_op (ev_var rfl) (ev_var rfl) (rv_I (cd hg hgb (by decide)))) ea_nil)) (by show 2 ≤ 100000; decide))
        fun p H2 hp e2 h2 => k.go e1 hp e2 h2

/-! ### fractions_of -/
def spFracs (K : PySem.W.Frag) : Sp := fun vs H Q _ => ∃ (a : Addr) (c : Pl), vs = [.ref a] ∧ PlAt K H a c ∧ 0 < c.2.2 ∧ Bd 8000 c.2.2 ∧ RetL ((mfracs c).map V.int) H Q
theorem spFracs_L {a : Addr} {c : Pl} {H : Hp} (h : PlAt K H a c) (h1 : 0 < c.2.2) (h2 : Bd 8000 c.2.2) : SpL (spFracs K) [.ref a] H ((mfracs c).map V.int) :=
  fun H1 e _ q _ => ⟨a, c, rfl, h.ex e, h1, h2, fun p H' hp e hl => q p H' hp e hl⟩
theorem ok_fracs (T : Tx K mg) : FnOk P w K mg base CX0 3 T.fractions_of.f T.fractions_of.d ["place"] (spFracs K) := by
  have G_lowest : FnOk P w K mg base CX0 2 T.lowest.f T.lowest.d ["above", "below"] spLowest := ok_lowest T
  refine T.fractions_of.F.ok sc_fractions_of (fun vs H Q E h => ?_) (fun cdv A outer s H vs Q E hr h => ?_)
  · obtain ⟨a, b, rfl, _⟩ := h
    rfl
  · obtain ⟨a, c, rfl, hp, h1, h2, k⟩ := h
    refine ⟨_, (pss_one (ps_ret (pe_op op_cat (pe_call G_lowest (hr.mono (by decide)) rfl T.lowest.mg T.lowest.F.kp T.lowest.b .nil pass0 (pa_cons (pe_ix ix_tup (pv 0) pe_int (fun _ _ => rfl)) (pa_cons (pe_ix ix_tup (pv 0) pe_int (fun _ _ => rfl)) pa_nil))) (pe_call G_lowest (hr.mono (by decide)) rfl T.lowest.mg T.lowest.F.kp T.lowest.b .nil pass0 (pa_cons (pe_ix ix_tup (pv 0) pe_int (fun _ _ => rfl)) (pa_cons (pe_ix ix_tup (pv 0) pe_int (fun _ _ => rfl)) pa_nil)))))), ?_⟩
    refine s_retL (xs := (mfracs c).map V.int) ?_ fun p H2 hp e2 h2 => k p H2 hp e2 h2
    unfold mfracs
    rw [List.map_append]
    exact el_catNN (el_call (vs := [.int c.1, .int c.2.2]) (ea_cons (ev_x rfl hp) (ea_cons (ev_w rfl hp) ea_nil)) (spLowest_L h1 h2))
      (el_call (vs := [.int c.2.1, .int c.2.2]) (ea_cons (ev_y rfl hp) (ea_cons (ev_w rfl hp) ea_nil)) (spLowest_L h1 h2)) (by show 4 ≤ 100000; decide)
end
end NP

set_option Elab.async false
set_option linter.unusedVariables false
set_option maxRecDepth 100000
set_option maxHeartbeats 2000000
namespace NP
open PySem PySem.Spec PyProof.Rows L2 Evl NS
section
variable {P : Program} {w : World} {K : PySem.W.Frag} {mg : Str → Option Value} {base : Heap}

/-! ### lead -/
def SmallP (c : Pl) : Prop := Bd 100 c.1 ∧ Bd 100 c.2.1 ∧ Bd 100 c.2.2
def SmallS (s : IP) : Prop := Bd 10 s.1 ∧ Bd 10 s.2
def spLead (K : PySem.W.Frag) : Sp := fun vs H Q _ => ∃ (a b d : Addr) (c : Pl) (s t : IP), vs = [.ref a, .ref b, .ref d] ∧ PlAt K H a c ∧ IpAt K H b s ∧ IpAt K H d t ∧ SmallP c ∧ SmallS s ∧ SmallS t ∧ RetV (.int (mlead c s t)) H Q
theorem spLead_V {H : Hp} {a b d : Addr} {c : Pl} {s t : IP} (h1 : PlAt K H a c) (h2 : IpAt K H b s) (h3 : IpAt K H d t) (h4 : SmallP c) (h5 : SmallS s) (h6 : SmallS t) :
    SpV (spLead K) [.ref a, .ref b, .ref d] H (.int (mlead c s t)) :=
  fun H1 e Q q _ => ⟨a, b, d, c, s, t, rfl, h1.ex e, h2.ex e, h3.ex e, h4, h5, h6, fun H' e' => q H' e'⟩
theorem mlead_bd {c : Pl} {s t : IP} (hc : SmallP c) (hs : SmallS s) (ht : SmallS t) : Bd 130 (mlead c s t) := by
  obtain ⟨c1, c2, c3⟩ := hc
  obtain ⟨s1, s2⟩ := hs
  obtain ⟨t1, t2⟩ := ht
  exact ((((((t1.mul t1).add (t2.mul t2)).sub (s1.mul s1)).sub (s2.mul s2)).mul c3).sub ((show Bd 2 2 by unfold Bd; decide).mul (((t1.sub s1).mul c1).add ((t2.sub s2).mul c2)))).mono (by decide)
theorem ok_lead (T : Tx K mg) : FnOk P w K mg base CX0 1 T.lead.f T.lead.d ["place", "own", "other"] (spLead K) := by
  refine T.lead.F.ok sc_lead (fun vs H Q E h => ?_) (fun cdv A outer s H vs Q E hr h => ?_)
  · obtain ⟨a, b, d, c, s, t, rfl, _⟩ := h
    rfl
  · obtain ⟨a, b, d, c, s, t, rfl, h1, h2, h3, ⟨c1, c2, c3⟩, ⟨s1, s2⟩, ⟨t1, t2⟩, k⟩ := h
    refine ⟨_, (pss_cons (ps_set (i := 3) sc_lead.nd rfl (Or.inl rfl) (pe_op op_sub (pe_op op_sub (pe_op op_add (pe_op op_mulW (pe_ix ix_tup (pv 2) pe_int (fun _ _ => rfl)) (pe_ix ix_tup (pv 2) pe_int (fun _ _ => rfl))) (pe_op op_mulW (pe_ix ix_tup (pv 2) pe_int (fun _ _ => rfl)) (pe_ix ix_tup (pv 2) pe_int (fun _ _ => rfl)))) (pe_op op_mulW (pe_ix ix_tup (pv 1) pe_int (fun _ _ => rfl)) (pe_ix ix_tup (pv 1) pe_int (fun _ _ => rfl)))) (pe_op op_mulW (pe_ix ix_tup (pv 1) pe_int (fun _ _ => rfl)) (pe_ix ix_tup (pv 1) pe_int (fun _ _ => rfl)))))
      (pss_cons (ps_set (i := 4) sc_lead.nd rfl (Or.inl rfl) (pe_op op_mulW (pe_op op_sub (pe_ix ix_tup (pv 2) pe_int (fun _ _ => rfl)) (pe_ix ix_tup (pv 1) pe_int (fun _ _ => rfl))) (pe_ix ix_tup (pv 0) pe_int (fun _ _ => rfl))))
      (pss_cons (ps_set (i := 5) sc_lead.nd rfl (Or.inl rfl) (pe_op op_mulW (pe_op op_sub (pe_ix ix_tup (pv 2) pe_int (fun _ _ => rfl)) (pe_ix ix_tup (pv 1) pe_int (fun _ _ => rfl))) (pe_ix ix_tup (pv 0) pe_int (fun _ _ => rfl))))
      (pss_one (ps_ret (pe_op op_sub (pe_op op_mulW (pv 3) (pe_ix ix_tup (pv 0) pe_int (fun _ _ => rfl))) (pe_op op_mulW pe_int (pe_op op_add (pv 4) (pv 5))))))))), ?_⟩
    refine s_asg (ev_sub (ev_sub (ev_add (ev_mul (ev_s rfl h3) (ev_s rfl h3) t1 t1 (by decide)) (ev_mul (ev_t rfl h3) (ev_t rfl h3) t2 t2 (by decide)))
      (ev_mul (ev_s rfl h2) (ev_s rfl h2) s1 s1 (by decide))) (ev_mul (ev_t rfl h2) (ev_t rfl h2) s2 s2 (by decide))) fun H1 e1 => ?_
    replace h1 := h1.ex e1
    replace h2 := h2.ex e1
    replace h3 := h3.ex e1
    refine s_asg (ev_mul (ev_sub (ev_s rfl h3) (ev_s rfl h2)) (ev_x rfl h1) (t1.sub s1) c1 (by decide)) fun H2 e2 => ?_
    replace h1 := h1.ex e2
    replace h2 := h2.ex e2
    replace h3 := h3.ex e2
    refine s_asg (ev_mul (ev_sub (ev_t rfl h3) (ev_t rfl h2)) (ev_y rfl h1) (t2.sub s2) c2 (by decide)) fun H3 e3 => ?_
    replace h1 := h1.ex e3
    have b1 := ((((t1.mul t1).add (t2.mul t2)).sub (s1.mul s1)).sub (s2.mul s2))
    have b2 := (((t1.sub s1).mul c1).add ((t2.sub s2).mul c2))
    exact s_ret (ev_sub (ev_mul (ev_var rfl) (ev_w rfl h1) b1 c3 (by decide)) (ev_mul ev_c (ev_add (ev_var rfl) (ev_var rfl)) (show Bd 2 2 by unfold Bd; decide) b2 (by decide))) fun H4 e4 =>
      k.go (e1.trans (e2.trans (e3.trans e4)))

/-! ### between -/
def plV (c : Pl) : List V := [.int c.1, .int c.2.1, .int c.2.2]
def spBetween (K : PySem.W.Frag) : Sp := fun vs H Q _ => ∃ (a b : Addr) (c d : Pl) (wa wb : Int), vs = [.ref a, .int wa, .ref b, .int wb] ∧ PlAt K H a c ∧ PlAt K H b d ∧ SmallP c ∧ SmallP d ∧ Bd 200 wa ∧ Bd 200 wb ∧
  0 < c.2.2 * wa + d.2.2 * wb ∧ RetU (plV (mbetween c wa d wb)) H Q
theorem spBetween_U {H : Hp} {a b : Addr} {c d : Pl} {wa wb : Int} (h1 : PlAt K H a c) (h2 : PlAt K H b d) (h3 : SmallP c) (h4 : SmallP d) (h5 : Bd 200 wa) (h6 : Bd 200 wb) (h7 : 0 < c.2.2 * wa + d.2.2 * wb) :
    SpU (spBetween K) [.ref a, .int wa, .ref b, .int wb] H (plV (mbetween c wa d wb)) :=
  fun H1 e Q q _ => ⟨a, b, c, d, wa, wb, rfl, h1.ex e, h2.ex e, h3, h4, h5, h6, h7, fun p H' hp e hl => q p H' hp e hl⟩
theorem ok_between (T : Tx K mg) : FnOk P w K mg base CX0 2 T.between.f T.between.d ["one", "weight", "other", "other_weight"] (spBetween K) := by
  have G_common : FnOk P w K mg base CX0 1 T.common.f T.common.d ["one", "other"] spCommon := ok_common T
  refine T.between.F.ok sc_between (fun vs H Q E h => ?_) (fun cdv A outer s H vs Q E hr h => ?_)
  · obtain ⟨a, b, c, d, wa, wb, rfl, _⟩ := h
    rfl
  · obtain ⟨a, b, c, d, wa, wb, rfl, h1, h2, ⟨c1, c2, c3⟩, ⟨d1, d2, d3⟩, b1, b2, hw, k⟩ := h
    refine ⟨_, (pss_cons (ps_set (i := 4) sc_between.nd rfl (Or.inl rfl) (pe_op op_add (pe_op op_mulW (pe_ix ix_tup (pv 0) pe_int (fun _ _ => rfl)) (pv 1)) (pe_op op_mulW (pe_ix ix_tup (pv 2) pe_int (fun _ _ => rfl)) (pv 3))))
      (pss_cons (ps_set (i := 5) sc_between.nd rfl (Or.inl rfl) (pe_op op_add (pe_op op_mulW (pe_ix ix_tup (pv 0) pe_int (fun _ _ => rfl)) (pv 1)) (pe_op op_mulW (pe_ix ix_tup (pv 2) pe_int (fun _ _ => rfl)) (pv 3))))
      (pss_cons (ps_set (i := 6) sc_between.nd rfl (Or.inl rfl) (pe_op op_add (pe_op op_mulW (pe_ix ix_tup (pv 0) pe_int (fun _ _ => rfl)) (pv 1)) (pe_op op_mulW (pe_ix ix_tup (pv 2) pe_int (fun _ _ => rfl)) (pv 3))))
      (pss_cons (ps_set (i := 7) sc_between.nd rfl (Or.inl rfl) (pe_call G_common (hr.mono (by decide)) rfl T.common.mg T.common.F.kp T.common.b .nil pass0 (pa_cons (pe_call G_common (hr.mono (by decide)) rfl T.common.mg T.common.F.kp T.common.b .nil pass0 (pa_cons (pe_callB call_abs (by rfl) T.b_abs boot_abs (pa_cons (pv 4) pa_nil)) (pa_cons (pe_callB call_abs (by rfl) T.b_abs boot_abs (pa_cons (pv 5) pa_nil)) pa_nil))) (pa_cons (pv 6) pa_nil))))
      (pss_one (ps_ret (pe_tup (pa_cons (pe_op op_fdivW (pv 4) (pv 7)) (pa_cons (pe_op op_fdivW (pv 5) (pv 7)) (pa_cons (pe_op op_fdivW (pv 6) (pv 7)) pa_nil)))))))))), ?_⟩
    refine s_asg (ev_add (ev_mul (ev_x rfl h1) (ev_var rfl) c1 b1 (by decide)) (ev_mul (ev_x rfl h2) (ev_var rfl) d1 b2 (by decide))) fun H1 e1 => ?_
    replace h1 := h1.ex e1
    replace h2 := h2.ex e1
    refine s_asg (ev_add (ev_mul (ev_y rfl h1) (ev_var rfl) c2 b1 (by decide)) (ev_mul (ev_y rfl h2) (ev_var rfl) d2 b2 (by decide))) fun H2 e2 => ?_
    replace h1 := h1.ex e2
    replace h2 := h2.ex e2
    refine s_asg (ev_add (ev_mul (ev_w rfl h1) (ev_var rfl) c3 b1 (by decide)) (ev_mul (ev_w rfl h2) (ev_var rfl) d3 b2 (by decide))) fun H3 e3 => ?_
    have hwb : Bd 301 (c.2.2 * wa + d.2.2 * wb) := ((c3.mul b1).add (d3.mul b2)).mono (by decide)
    unfold mbetween at k
    simp only at k
    generalize c.1 * wa + d.1 * wb = x at *
    generalize c.2.1 * wa + d.2.1 * wb = y at *
    generalize c.2.2 * wa + d.2.2 * wb = z at *
    refine s_asg (v := .int (mgcd3 x y z)) (ev_call (vs := [.int (Int.gcd x y : Nat), .int z]) (ea_cons (ev_call (vs := [.int (x.natAbs : Int), .int (y.natAbs : Int)]) (ea_cons (ev_abs (ev_var rfl)) (ea_cons (ev_abs (ev_var rfl)) ea_nil)) ?_) (ea_cons (ev_var rfl) ea_nil)) ?_) fun H4 e4 => ?_
    · exact spCommon_V
    · exact spCommon_I (by omega) (by omega)
    · have hg := gcd3_pos (x := x) (y := y) hw
      have hgb : Bd 301 (mgcd3 x y z) := by
        have : mgcd3 x y z ≤ z := Int.le_of_dvd hw (gcd3_dvd x y z).2.2
        unfold Bd at *
        omega
      exact s_retU (eu_tup (ea_cons (ev_op (ev_var rfl) (ev_var rfl) (rv_I (cd hg hgb (by decide)))) (ea_cons (ev_op (ev_var rfl) (ev_var rfl) (rv_I (cd hg hgb (by decide)))) (ea_cons (ev_op (ev_var rfl) (ev_var rfl) (rv_I (cd hg hgb (by decide)))) ea_nil))) (by show 3 ≤ 100000; decide))
        fun p H5 hp e5 h5 => k p H5 (fresh_back (e1.trans (e2.trans (e3.trans e4))) hp) ((e1.trans (e2.trans (e3.trans e4))).trans e5) h5

/-! ### is_ahead -/
def spAhead (K : PySem.W.Frag) : Sp := fun vs H Q _ => ∃ (a b : Addr) (c d : Pl), vs = [.ref a, .ref b] ∧ PlAt K H a c ∧ PlAt K H b d ∧ SmallP c ∧ SmallP d ∧ RetV (.bl (mahead c d)) H Q
theorem spAhead_V {H : Hp} {a b : Addr} {c d : Pl} (h1 : PlAt K H a c) (h2 : PlAt K H b d) (h3 : SmallP c) (h4 : SmallP d) : SpV (spAhead K) [.ref a, .ref b] H (.bl (mahead c d)) :=
  fun H1 e Q q _ => ⟨a, b, c, d, rfl, h1.ex e, h2.ex e, h3, h4, fun H' e' => q H' e'⟩
theorem ok_ahead (T : Tx K mg) : FnOk P w K mg base CX0 1 T.is_ahead.f T.is_ahead.d ["one", "other"] (spAhead K) := by
  refine T.is_ahead.F.ok sc_is_ahead (fun vs H Q E h => ?_) (fun cdv A outer s H vs Q E hr h => ?_)
  · obtain ⟨a, b, c, d, rfl, _⟩ := h
    rfl
  · obtain ⟨a, b, c, d, rfl, h1, h2, ⟨c1, c2, c3⟩, ⟨d1, d2, d3⟩, k⟩ := h
    refine ⟨_, (pss_cons (ps_set (i := 2) sc_is_ahead.nd rfl (Or.inl rfl) (pe_op op_sub (pe_op op_mulW (pe_ix ix_tup (pv 0) pe_int (fun _ _ => rfl)) (pe_ix ix_tup (pv 1) pe_int (fun _ _ => rfl))) (pe_op op_mulW (pe_ix ix_tup (pv 1) pe_int (fun _ _ => rfl)) (pe_ix ix_tup (pv 0) pe_int (fun _ _ => rfl)))))
      (pss_cons (ps_set (i := 3) sc_is_ahead.nd rfl (Or.inl rfl) (pe_op op_sub (pe_op op_mulW (pe_ix ix_tup (pv 0) pe_int (fun _ _ => rfl)) (pe_ix ix_tup (pv 1) pe_int (fun _ _ => rfl))) (pe_op op_mulW (pe_ix ix_tup (pv 1) pe_int (fun _ _ => rfl)) (pe_ix ix_tup (pv 0) pe_int (fun _ _ => rfl)))))
      (pss_one (ps_ret (pe_or (pe_cmpR op_lt (pv 2) pe_int (nomark _)) (pe_one (pe_and (pe_cmpR op_eq (pv 2) pe_int (nomark _)) (pe_one (pe_cmpR op_lt (pv 3) pe_int (nomark _)))))))))), ?_⟩
    refine s_asg (ev_sub (ev_mul (ev_x rfl h1) (ev_w rfl h2) c1 d3 (by decide)) (ev_mul (ev_x rfl h2) (ev_w rfl h1) d1 c3 (by decide))) fun H1 e1 => ?_
    replace h1 := h1.ex e1
    replace h2 := h2.ex e1
    refine s_asg (ev_sub (ev_mul (ev_y rfl h1) (ev_w rfl h2) c2 d3 (by decide)) (ev_mul (ev_y rfl h2) (ev_w rfl h1) d2 c3 (by decide))) fun H2 e2 => ?_
    exact s_ret (v := .bl (mahead c d)) (ev_orV (ev_lt (ev_var rfl) ev_c) fun _ => ev_andV (ev_eqI (ev_var rfl) ev_c) fun _ => ev_lt (ev_var rfl) ev_c) fun H3 e3 => k.go (e1.trans (e2.trans e3))

/-! ### far_times -/
def spFar (K : PySem.W.Frag) : Sp := fun vs H Q _ => ∃ (a b : Addr) (c : Pl) (s : IP), vs = [.ref a, .ref b] ∧ PlAt K H a c ∧ IpAt K H b s ∧ SmallP c ∧ SmallS s ∧ RetV (.int (mfar c s)) H Q
theorem spFar_V {H : Hp} {a b : Addr} {c : Pl} {s : IP} (h1 : PlAt K H a c) (h2 : IpAt K H b s) (h3 : SmallP c) (h4 : SmallS s) : SpV (spFar K) [.ref a, .ref b] H (.int (mfar c s)) :=
  fun H1 e Q q _ => ⟨a, b, c, s, rfl, h1.ex e, h2.ex e, h3, h4, fun H' e' => q H' e'⟩
theorem ok_far (T : Tx K mg) : FnOk P w K mg base CX0 1 T.far_times.f T.far_times.d ["place", "site"] (spFar K) := by
  refine T.far_times.F.ok sc_far_times (fun vs H Q E h => ?_) (fun cdv A outer s H vs Q E hr h => ?_)
  · obtain ⟨a, b, c, d, rfl, _⟩ := h
    rfl
  · obtain ⟨a, b, c, s, rfl, h1, h2, ⟨c1, c2, c3⟩, ⟨s1, s2⟩, k⟩ := h
    refine ⟨_, (pss_cons (ps_set (i := 2) sc_far_times.nd rfl (Or.inl rfl) (pe_op op_sub (pe_ix ix_tup (pv 0) pe_int (fun _ _ => rfl)) (pe_op op_mulW (pe_ix ix_tup (pv 1) pe_int (fun _ _ => rfl)) (pe_ix ix_tup (pv 0) pe_int (fun _ _ => rfl)))))
      (pss_cons (ps_set (i := 3) sc_far_times.nd rfl (Or.inl rfl) (pe_op op_sub (pe_ix ix_tup (pv 0) pe_int (fun _ _ => rfl)) (pe_op op_mulW (pe_ix ix_tup (pv 1) pe_int (fun _ _ => rfl)) (pe_ix ix_tup (pv 0) pe_int (fun _ _ => rfl)))))
      (pss_one (ps_ret (pe_op op_add (pe_op op_mulW (pv 2) (pv 2)) (pe_op op_mulW (pv 3) (pv 3))))))), ?_⟩
    refine s_asg (ev_sub (ev_x rfl h1) (ev_mul (ev_s rfl h2) (ev_w rfl h1) s1 c3 (by decide))) fun H1 e1 => ?_
    replace h1 := h1.ex e1
    replace h2 := h2.ex e1
    refine s_asg (ev_sub (ev_y rfl h1) (ev_mul (ev_t rfl h2) (ev_w rfl h1) s2 c3 (by decide))) fun H2 e2 => ?_
    have b1 := c1.sub (s1.mul c3)
    have b2 := c2.sub (s2.mul c3)
    exact s_ret (v := .int (mfar c s)) (ev_add (ev_mul (ev_var rfl) (ev_var rfl) b1 b1 (by decide)) (ev_mul (ev_var rfl) (ev_var rfl) b2 b2 (by decide))) fun H3 e3 => k.go (e1.trans (e2.trans e3))

/-! ### is_fraction, is_place, place_of -/
def spFraction : Sp := fun vs H Q _ => ∃ (a b : Int), vs = [.int a, .int b] ∧ RetV (.bl (mfraction a b)) H Q
theorem spFraction_V {H : Hp} {a b : Int} : SpV spFraction [.int a, .int b] H (.bl (mfraction a b)) := fun H1 e Q q _ => ⟨a, b, rfl, fun H' e' => q H' e'⟩
theorem ok_fraction (T : Tx K mg) : FnOk P w K mg base CX0 1 T.is_fraction.f T.is_fraction.d ["above", "below"] spFraction := by
  refine T.is_fraction.F.ok sc_is_fraction (fun vs H Q E h => ?_) (fun cdv A outer s H vs Q E hr h => ?_)
  · obtain ⟨a, b, rfl, _⟩ := h
    rfl
  · obtain ⟨a, b, rfl, k⟩ := h
    refine ⟨_, (pss_one (ps_ret (pe_and (pe_cmpR op_le (pe_callB call_abs (by rfl) T.b_abs boot_abs (pa_cons (pv 0) pa_nil)) (pe_glob rfl T.g_MOST_ABOVE.choose_spec rel_int) (nomark _)) (pe_one (pe_chain op_le op_le pe_int (pv 1) (pe_glob rfl T.g_MOST_BELOW.choose_spec rel_int)))))), ?_⟩
    exact s_ret (v := .bl (mfraction a b)) (ev_andV (ev_le (ev_abs (ev_var rfl)) ev_c) fun _ => ev_chain ev_c (ev_var rfl) ev_c rv_I0 rv_I0) fun H1 e1 => k.go e1
def spIsPlace (K : PySem.W.Frag) : Sp := fun vs H Q _ => ∃ (p : Addr) (a b c d : Int), vs = [.ref p] ∧ SqL K H p [.int a, .int b, .int c, .int d] ∧ RetV (.bl (mplace a b c d)) H Q
theorem spIsPlace_V {H : Hp} {p : Addr} {a b c d : Int} (h : SqL K H p [.int a, .int b, .int c, .int d]) : SpV (spIsPlace K) [.ref p] H (.bl (mplace a b c d)) := fun H1 e Q q _ => ⟨p, a, b, c, d, rfl, ex_l e h, fun H' e' => q H' e'⟩
theorem ok_isplace (T : Tx K mg) : FnOk P w K mg base CX0 2 T.is_place.f T.is_place.d ["told"] (spIsPlace K) := by
  have G_is_fraction : FnOk P w K mg base CX0 1 T.is_fraction.f T.is_fraction.d ["above", "below"] spFraction := ok_fraction T
  refine T.is_place.F.ok sc_is_place (fun vs H Q E h => ?_) (fun cdv A outer s H vs Q E hr h => ?_)
  · obtain ⟨p, a, b, c, d, rfl, _⟩ := h
    rfl
  · obtain ⟨p, a, b, c, d, rfl, hp, k⟩ := h
    refine ⟨_, (pss_one (ps_ret (pe_and (pe_call G_is_fraction (hr.mono (by decide)) rfl T.is_fraction.mg T.is_fraction.F.kp T.is_fraction.b .nil pass0 (pa_cons (pe_ix ix_list (pv 0) pe_int (fun _ _ => rfl)) (pa_cons (pe_ix ix_list (pv 0) pe_int (fun _ _ => rfl)) pa_nil))) (pe_one (pe_call G_is_fraction (hr.mono (by decide)) rfl T.is_fraction.mg T.is_fraction.F.kp T.is_fraction.b .nil pass0 (pa_cons (pe_ix ix_list (pv 0) pe_int (fun _ _ => rfl)) (pa_cons (pe_ix ix_list (pv 0) pe_int (fun _ _ => rfl)) pa_nil))))))), ?_⟩
    exact s_ret (v := .bl (mplace a b c d)) (ev_andV (ev_call (vs := [.int a, .int b]) (ea_cons (ev_il rfl hp rfl) (ea_cons (ev_il rfl hp rfl) ea_nil)) spFraction_V)
      fun _ => ev_call (vs := [.int c, .int d]) (ea_cons (ev_il rfl hp rfl) (ea_cons (ev_il rfl hp rfl) ea_nil)) spFraction_V) fun H1 e1 => k.go e1
def spPlaceOf (K : PySem.W.Frag) : Sp := fun vs H Q _ => ∃ (p : Addr) (a b c d : Int), vs = [.ref p] ∧ SqL K H p [.int a, .int b, .int c, .int d] ∧ mplace a b c d = true ∧ RetU (plV (mplaceOf a b c d)) H Q
theorem spPlaceOf_U {H : Hp} {p : Addr} {a b c d : Int} (h : SqL K H p [.int a, .int b, .int c, .int d]) (hp : mplace a b c d = true) : SpU (spPlaceOf K) [.ref p] H (plV (mplaceOf a b c d)) :=
  fun H1 e Q q _ => ⟨p, a, b, c, d, rfl, ex_l e h, hp, fun p H' hp e hl => q p H' hp e hl⟩
theorem mplace_bd {a b c d : Int} (h : mplace a b c d = true) : Bd 20 a ∧ Bd 10 b ∧ Bd 20 c ∧ Bd 10 d ∧ 1 ≤ b ∧ 1 ≤ d := by
  unfold mplace mfraction at h
  simp only [Bool.and_eq_true, decide_eq_true_eq] at h
  unfold Bd
  omega
theorem ok_placeof (T : Tx K mg) : FnOk P w K mg base CX0 1 T.place_of.f T.place_of.d ["told"] (spPlaceOf K) := by
  refine T.place_of.F.ok sc_place_of (fun vs H Q E h => ?_) (fun cdv A outer s H vs Q E hr h => ?_)
  · obtain ⟨p, a, b, c, d, rfl, _⟩ := h
    rfl
  · obtain ⟨p, a, b, c, d, rfl, hp, hb, k⟩ := h
    obtain ⟨b1, b2, b3, b4, _⟩ := mplace_bd hb
    refine ⟨_, (pss_one (ps_ret (pe_tup (pa_cons (pe_op op_mulW (pe_ix ix_list (pv 0) pe_int (fun _ _ => rfl)) (pe_ix ix_list (pv 0) pe_int (fun _ _ => rfl))) (pa_cons (pe_op op_mulW (pe_ix ix_list (pv 0) pe_int (fun _ _ => rfl)) (pe_ix ix_list (pv 0) pe_int (fun _ _ => rfl))) (pa_cons (pe_op op_mulW (pe_ix ix_list (pv 0) pe_int (fun _ _ => rfl)) (pe_ix ix_list (pv 0) pe_int (fun _ _ => rfl))) pa_nil)))))), ?_⟩
    exact s_retU (eu_tup (ea_cons (ev_mul (ev_il rfl hp rfl) (ev_il rfl hp rfl) b1 b4 (by decide)) (ea_cons (ev_mul (ev_il rfl hp rfl) (ev_il rfl hp rfl) b3 b2 (by decide)) (ea_cons (ev_mul (ev_il rfl hp rfl) (ev_il rfl hp rfl) b2 b4 (by decide)) ea_nil))) (by show 3 ≤ 100000; decide))
      fun q H1 hq e1 h1 => k q H1 hq e1 h1
end
end NP

set_option Elab.async false
set_option linter.unusedVariables false
set_option maxRecDepth 100000
set_option maxHeartbeats 2000000
namespace NP
open PySem PySem.Spec PyProof.Rows L2 Evl NS

/-! corners: a list of places -/
def refs (ps : List (Addr × Pl)) : List V := ps.map fun q => V.ref q.1
def AllAt (K : PySem.W.Frag) (H : Hp) (ps : List (Addr × Pl)) : Prop := ∀ q ∈ ps, PlAt K H q.1 q.2
theorem AllAt.ex {K : PySem.W.Frag} {H H' : Hp} {ps : List (Addr × Pl)} (h : AllAt K H ps) (e : Ex H H') : AllAt K H' ps := fun q hq => (h q hq).ex e
def CsAt (K : PySem.W.Frag) (H : Hp) (p : Addr) (cs : List Pl) : Prop := ∃ ps, ps.map Prod.snd = cs ∧ SqL K H p (refs ps) ∧ AllAt K H ps
/-- a new list of corners -/
def RetCs (K : PySem.W.Frag) (cs : List Pl) (H : Hp) (Q : VK) : Prop := ∀ p H' ps, H p = none → Ex H H' → ps.map Prod.snd = cs → H' p = some (.lst (refs ps)) → AllAt K H' ps → Q (.ref p) H'
def SmallC (c : Pl) : Prop := SmallP c ∧ 0 < c.2.2
theorem refs_get {ps : List (Addr × Pl)} {i : Nat} {x : V} (h : (refs ps)[i]? = some x) : ∃ a c, ps[i]? = some (a, c) ∧ x = .ref a := by
  unfold refs at h
  rw [List.getElem?_map] at h
  cases e : ps[i]? with
  | none => rw [e] at h; cases h
  | some q => rw [e] at h; exact ⟨q.1, q.2, rfl, (Option.some.inj h).symm⟩
theorem refs_len (ps : List (Addr × Pl)) : (refs ps).length = ps.length := by simp [refs]
theorem at_last {α : Type} {xs : List α} {v : α} (h : xs.getLast? = some v) : atI xs (-1) = some v := by
  cases xs with
  | nil => simp at h
  | cons a r =>
    unfold atI ixN
    rw [if_neg (by omega), if_pos (by simp; omega)]
    rw [List.getLast?_eq_getElem?] at h
    simp only [List.length_cons, Option.bind_some] at h ⊢
    have : (-1 + ((r.length + 1 : Nat) : Int)).toNat = r.length + 1 - 1 := by omega
    rw [this]
    exact h
theorem drop_get {α : Type} {l : List α} {i : Nat} {x : α} (h : l[i]? = some x) : l.drop i = x :: l.drop (i + 1) := by
  obtain ⟨hi, e⟩ := List.getElem?_eq_some_iff.mp h
  rw [List.drop_eq_getElem_cons hi, e]
theorem sqT_mut {K : PySem.W.Frag} {H : Hp} {a p : Addr} {xs ys : List V} {o : HO} (h : SqT K H a xs) (hp : H p = some (.lst ys)) : SqT K (upd H p o) a xs := by
  rcases h with (h | ⟨o', h⟩) | h
  · refine .inl (.inl ?_)
    rw [upd_ne (by rintro rfl; rw [hp] at h; cases h)]
    exact h
  · refine .inl (.inr ⟨o', ?_⟩)
    rw [upd_ne (by rintro rfl; rw [hp] at h; cases h)]
    exact h
  · exact .inr h
theorem PlAt.mut {K : PySem.W.Frag} {H : Hp} {a p : Addr} {c : Pl} {ys : List V} {o : HO} (h : PlAt K H a c) (hp : H p = some (.lst ys)) : PlAt K (upd H p o) a c := sqT_mut h hp
theorem AllAt.mut {K : PySem.W.Frag} {H : Hp} {p : Addr} {ps : List (Addr × Pl)} {ys : List V} {o : HO} (h : AllAt K H ps) (hp : H p = some (.lst ys)) : AllAt K (upd H p o) ps := fun q hq => (h q hq).mut hp
section
variable {P : Program} {w : World} {K : PySem.W.Frag} {mg : Str → Option Value} {base : Heap}
theorem ev_neg1 {σ : L2.St} {H : Hp} : Ev (tUn (rU fun i => .int (-i)) (tC (.int 1))) σ H (.int (-1)) := ev_un ev_c ru_neg

/-! ### cut -/
def spCut (K : PySem.W.Frag) : Sp := fun vs H Q _ => ∃ (p b d : Addr) (cs : List Pl) (s t : IP), vs = [.ref p, .ref b, .ref d] ∧ CsAt K H p cs ∧ cs ≠ [] ∧ cs.length ≤ 1000 ∧ (∀ c ∈ cs, SmallC c) ∧
  IpAt K H b s ∧ IpAt K H d t ∧ SmallS s ∧ SmallS t ∧ RetCs K (mcut s t cs) H Q
theorem ok_cut (T : Tx K mg) : FnOk P w K mg base CX0 3 T.cut.f T.cut.d ["corners", "own", "other"] (spCut K) := by
  have G_lead : FnOk P w K mg base CX0 1 T.lead.f T.lead.d ["place", "own", "other"] (spLead K) := ok_lead T
  have G_between : FnOk P w K mg base CX0 2 T.between.f T.between.d ["one", "weight", "other", "other_weight"] (spBetween K) := ok_between T
  refine T.cut.F.ok sc_cut (fun vs H Q E h => ?_) (fun cdv A outer s H vs Q E hr h => ?_)
  · obtain ⟨p, b, d, cs, s, t, rfl, _⟩ := h
    rfl
  · obtain ⟨p, b, d, cs, s, t, rfl, ⟨ps, rfl, hp, ha⟩, hne, hlen, hsm, hs, ht, ss, st, k⟩ := h
    refine ⟨_, (pss_cons (ps_set (i := 3) sc_cut.nd rfl (Or.inl rfl) (pe_lst pa_nil))
      (pss_cons (ps_set (i := 4) sc_cut.nd rfl (Or.inl rfl) (pe_ix ix_list (pv 0) (pe_un un_neg pe_int) (fun _ _ => rfl)))
      (pss_cons (ps_for PassesOwn.never rfl (pi_list (pv 0)) (pg_name (i := 5) sc_cut.nd rfl (Or.inl rfl))
        (pss_cons (ps_set (i := 6) sc_cut.nd rfl (Or.inl rfl) (pe_call G_lead (hr.mono (by decide)) rfl T.lead.mg T.lead.F.kp T.lead.b .nil pass0 (pa_cons (pv 4) (pa_cons (pv 1) (pa_cons (pv 2) pa_nil)))))
        (pss_cons (ps_set (i := 7) sc_cut.nd rfl (Or.inl rfl) (pe_call G_lead (hr.mono (by decide)) rfl T.lead.mg T.lead.F.kp T.lead.b .nil pass0 (pa_cons (pv 5) (pa_cons (pv 1) (pa_cons (pv 2) pa_nil)))))
        (pss_cut (ps_if (pt_cmpR op_lt (pe_op op_mulW (pv 6) (pv 7)) pe_int (nomark _))
          (pss_one (ps_expr (pe_bm PySem.F.plainAttrs_list PySem.F.slot_list_append PySem.F.type_list_append mt_append (pv 3) (pa_cons (pe_call G_between (hr.mono (by decide)) rfl T.between.mg T.between.F.kp T.between.b .nil pass0 (pa_cons (pv 4) (pa_cons (pe_callB call_abs (by rfl) T.b_abs boot_abs (pa_cons (pv 7) pa_nil)) (pa_cons (pv 5) (pa_cons (pe_callB call_abs (by rfl) T.b_abs boot_abs (pa_cons (pv 6) pa_nil)) pa_nil))))) pa_nil))))
          pss_nil)
        (pss_cut (ps_if (pt_cmpR op_ge (pv 7) pe_int (nomark _))
          (pss_one (ps_expr (pe_bm PySem.F.plainAttrs_list PySem.F.slot_list_append PySem.F.type_list_append mt_append (pv 3) (pa_cons (pv 5) pa_nil))))
          pss_nil)
        (pss_one (ps_set (i := 4) sc_cut.nd rfl (Or.inl rfl) (pv 5))))))))
      (pss_one (ps_ret (pv 3)))))), ?_⟩
    rw [List.length_map] at hlen
    have hps : ps ≠ [] := by rintro rfl; simp at hne
    obtain ⟨z, hz⟩ : ∃ z, ps.getLast? = some z := ⟨_, List.getLast?_eq_some_getLast hps⟩
    have hzm : z ∈ ps := List.mem_of_getLast? hz
    have hmc : mcut s t (ps.map Prod.snd) = mcutL s t z.2 (ps.map Prod.snd) := by
      unfold mcut
      rw [List.getLastD_eq_getLast?, List.getLast?_map, hz]
      rfl
    rw [hmc] at k
    refine q_asgL (el_lst ea_nil (by show 0 ≤ 100000; decide)) fun kp H1 hkp e1 hk1 => ?_
    refine q_asg (v := .ref z.1) (ev_op (ev_var rfl) ev_neg1 (rv_ixL (ex_l e1 hp) (at_last (by unfold refs; rw [List.getLast?_map, hz]; rfl)))) fun H2 e2 => ?_
    refine q_forLn (ev_var rfl) (ex_l (e1.trans e2) hp) (fun i σ' H' => ∃ (x y u : Option V) (a : Addr) (bc : Pl) (ps2 : List (Addr × Pl)),
        σ' = [some (.ref p), some (.ref b), some (.ref d), some (.ref kp), some (.ref a), x, y, u] ∧ Ex H H' ∧ PlAt K H' a bc ∧ SmallC bc ∧
        H' kp = some (.lst (refs ps2)) ∧ AllAt K H' ps2 ∧ ps2.length ≤ 2 * i ∧ ps2.map Prod.snd ++ mcutL s t bc ((ps.drop i).map Prod.snd) = mcutL s t z.2 (ps.map Prod.snd)) ?_ ?_ ?_ ?_
    · intro H3 e3
      exact ⟨none, none, none, z.1, z.2, [], rfl, (e1.trans e2).trans e3, (ha z hzm).ex ((e1.trans e2).trans e3), hsm _ (List.mem_map_of_mem hzm), (e2.trans e3) _ _ hk1, fun q hq => by simp at hq, by simp, by simp⟩
    · rintro i σ' H' _ ⟨x, y, u, a, bc, ps2, rfl, e, _⟩
      exact ex_l e hp
    · rintro i v σ' H' hv ⟨x, y, u, a, bc, ps2, rfl, e, hab, hbc, hk, hall, hl2, heq⟩
      obtain ⟨a', c, hi, rfl⟩ := refs_get hv
      have hm : (a', c) ∈ ps := List.mem_of_getElem? hi
      have hcs : SmallC c := hsm c (List.mem_map_of_mem (f := Prod.snd) hm)
      have hac : PlAt K H' a' c := (ha _ hm).ex e
      have hbd1 := mlead_bd hbc.1 ss st
      have hbd2 := mlead_bd hcs.1 ss st
      rw [drop_get hi, List.map_cons] at heq
      simp only [mcutL] at heq
      have hilt : i < ps.length := (List.getElem?_eq_some_iff.mp hi).1
      refine q_asg (v := .int (mlead bc s t)) (ev_call (vs := [.ref a, .ref b, .ref d]) (ea_cons (ev_var rfl) (ea_cons (ev_var rfl) (ea_cons (ev_var rfl) ea_nil))) (spLead_V hab (hs.ex e) (ht.ex e) hbc.1 ss st)) fun H3 e3 => ?_
      refine q_asg (v := .int (mlead c s t)) (ev_call (vs := [.ref a', .ref b, .ref d]) (ea_cons (ev_var rfl) (ea_cons (ev_var rfl) (ea_cons (ev_var rfl) ea_nil))) (spLead_V (hac.ex e3) (hs.ex (e.trans e3)) (ht.ex (e.trans e3)) hcs.1 ss st)) fun H4 e4 => ?_
      have e04 : Ex H H4 := e.trans (e3.trans e4)
      replace hk := (e3.trans e4) _ _ hk
      replace hall := hall.ex (e3.trans e4)
      replace hab := hab.ex (e3.trans e4)
      replace hac := hac.ex (e3.trans e4)
      refine q_cut (M := fun σ5 H5 => σ5 = [some (.ref p), some (.ref b), some (.ref d), some (.ref kp), some (.ref a), some (.ref a'), some (.int (mlead bc s t)), some (.int (mlead c s t))] ∧ Ex H H5 ∧ PlAt K H5 a' c ∧
        ∃ ps3 : List (Addr × Pl), H5 kp = some (.lst (refs ps3)) ∧ AllAt K H5 ps3 ∧ ps3.length ≤ 2 * i + 1 ∧ ps3.map Prod.snd ++ ((if 0 ≤ mlead c s t then [c] else []) ++ mcutL s t c ((ps.drop (i + 1)).map Prod.snd)) = mcutL s t z.2 (ps.map Prod.snd)) ?_ ?_
      · refine s_when (et_test (ev_lt (ev_mul (ev_var rfl) (ev_var rfl) hbd1 hbd2 (by decide)) ev_c)) (fun hb H5 e5 => ?_) (fun hb H5 e5 => ?_)
        · have hx : mlead bc s t * mlead c s t < 0 := of_decide_eq_true hb
          have hpos : 0 < bc.2.2 * ((mlead c s t).natAbs : Int) + c.2.2 * ((mlead bc s t).natAbs : Int) := by
            rw [mul_neg_iff] at hx
            have h1 : 0 < ((mlead c s t).natAbs : Int) := by omega
            have h2 : 0 < ((mlead bc s t).natAbs : Int) := by omega
            have := Int.mul_pos hbc.2 h1
            have := Int.mul_pos hcs.2 h2
            omega
          refine s_appU (e5 _ _ hk) (ev_var rfl) (eu_call (vs := [.ref a, .int ((mlead c s t).natAbs : Int), .ref a', .int ((mlead bc s t).natAbs : Int)]) (ea_cons (ev_var rfl) (ea_cons (ev_abs (ev_var rfl)) (ea_cons (ev_var rfl) (ea_cons (ev_abs (ev_var rfl)) ea_nil))))
            (spBetween_U (hab.ex e5) (hac.ex e5) hbc.1 hcs.1 (hbd2.abs.mono (by decide)) (hbd1.abs.mono (by decide)) hpos)) (by rw [refs_len]; omega) fun n H6 hn e6 h6 => ?_
          have hkn : n ≠ kp := by
            rintro rfl
            rw [e5 _ _ hk] at hn
            cases hn
          have hkH : H kp = none := hkp
          have e06 : Ex H (upd H6 kp (.lst (refs ps2 ++ [.ref n]))) := Ex.mut (e04.trans (e5.trans e6)) hkH
          have lift : ∀ {a0 : Addr} {c0 : Pl}, PlAt K H4 a0 c0 → PlAt K (upd H6 kp (.lst (refs ps2 ++ [.ref n]))) a0 c0 := by
            intro a0 c0 h0
            exact (h0.ex (e5.trans e6)).mut ((e5.trans e6) _ _ hk)
          refine ⟨rfl, e06, lift hac, ps2 ++ [(n, mbetween bc (mlead c s t).natAbs c (mlead bc s t).natAbs)], ?_, ?_, ?_, ?_⟩
          · rw [upd_same]; simp [refs]
          · intro q hq
            rw [List.mem_append] at hq
            rcases hq with hq | hq
            · exact lift (hall q hq)
            · rw [List.mem_singleton] at hq
              subst hq
              exact st_of (by rw [upd_ne hkn]; exact h6)
          · simp; omega
          · rw [← heq]
            unfold mcut1
            rw [if_pos hx]
            simp
        · have hx : ¬ mlead bc s t * mlead c s t < 0 := of_decide_eq_false hb
          refine ⟨rfl, e04.trans e5, hac.ex e5, ps2, e5 _ _ hk, hall.ex e5, by omega, ?_⟩
          rw [← heq]
          unfold mcut1
          rw [if_neg hx]
          simp
      · rintro σ5 H5 ⟨rfl, e5, hac5, ps3, hk3, hall3, hl3, heq3⟩
        refine q_cut (M := fun σ6 H6 => σ6 = [some (.ref p), some (.ref b), some (.ref d), some (.ref kp), some (.ref a), some (.ref a'), some (.int (mlead bc s t)), some (.int (mlead c s t))] ∧ Ex H H6 ∧ PlAt K H6 a' c ∧
          ∃ ps3 : List (Addr × Pl), H6 kp = some (.lst (refs ps3)) ∧ AllAt K H6 ps3 ∧ ps3.length ≤ 2 * i + 2 ∧ ps3.map Prod.snd ++ mcutL s t c ((ps.drop (i + 1)).map Prod.snd) = mcutL s t z.2 (ps.map Prod.snd)) ?_ ?_
        · refine s_when (et_test (ev_op (ev_var rfl) ev_c rv_I0)) (fun hb H6 e6 => ?_) (fun hb H6 e6 => ?_)
          · have hx : 0 ≤ mlead c s t := of_decide_eq_true hb
            refine s_app (e6 _ _ hk3) (ev_var rfl) (ev_var rfl) (by rw [refs_len]; omega) fun H7 e7 => ?_
            have hk7 := (e6.trans e7) _ _ hk3
            refine ⟨rfl, Ex.mut (e5.trans (e6.trans e7)) hkp, (hac5.ex (e6.trans e7)).mut hk7, ps3 ++ [(a', c)], ?_, ?_, ?_, ?_⟩
            · rw [upd_same]; simp [refs]
            · intro q hq
              rw [List.mem_append] at hq
              rcases hq with hq | hq
              · exact (hall3.ex (e6.trans e7)).mut hk7 q hq
              · rw [List.mem_singleton] at hq
                subst hq
                exact (hac5.ex (e6.trans e7)).mut hk7
            · simp; omega
            · rw [← heq3, if_pos hx]
              simp
          · have hx : ¬ 0 ≤ mlead c s t := of_decide_eq_false hb
            refine ⟨rfl, e5.trans e6, hac5.ex e6, ps3, e6 _ _ hk3, hall3.ex e6, by omega, ?_⟩
            rw [← heq3, if_neg hx]
            simp
        · rintro σ6 H6 ⟨rfl, e6, hac6, ps4, hk4, hall4, hl4, heq4⟩
          refine s_asg (ev_var rfl) fun H7 e7 => ?_
          exact ⟨_, _, _, a', c, ps4, rfl, e6.trans e7, hac6.ex e7, hcs, e7 _ _ hk4, hall4.ex e7, by omega, heq4⟩
    · rintro σ' H' ⟨x, y, u, a, bc, ps2, rfl, e, hab, hbc, hk, hall, hl2, heq⟩
      refine s_ret (ev_var rfl) fun H3 e3 => ?_
      refine k kp H3 ps2 hkp (e.trans e3) ?_ (e3 _ _ hk) (hall.ex e3)
      rw [← heq, refs_len, List.drop_length, List.map_nil]
      simp [mcutL]
end
end NP

set_option Elab.async false
set_option linter.unusedVariables false
set_option maxRecDepth 100000
set_option maxHeartbeats 2000000
namespace NP
open PySem PySem.Spec PyProof.Rows L2 Evl NS
theorem cut_from {xs : List V} {k : Nat} (h : k ≤ xs.length) : cutV xs (some (k : Int)) none = xs.drop k := by
  unfold cutV
  rw [HT.sIx_nat, HT.sIx_none, Nat.min_eq_left h]
  exact List.take_of_length_le (by simp)
theorem cut_to {xs : List V} {k : Nat} (h : k ≤ xs.length) : cutV xs none (some (k : Int)) = xs.take k := by
  unfold cutV
  rw [HT.sIx_nat, HT.sIx_none, Nat.min_eq_left h]
  simp
theorem at_nat {α : Type} {xs : List α} {i : Nat} {v : α} (h : xs[i]? = some v) : atI xs (i : Int) = some v := by
  have hi := (List.getElem?_eq_some_iff.mp h).1
  unfold atI
  rw [ixN_nat hi]
  exact h
section
variable {P : Program} {w : World} {K : PySem.W.Frag} {mg : Str → Option Value} {base : Heap}

/-! ### area -/
def spArea (K : PySem.W.Frag) : Sp := fun vs H Q _ => ∃ (p : Addr) (cs : List Pl), vs = [.ref p] ∧ CsAt K H p cs ∧ cs ≠ [] ∧ cs.length ≤ 20 ∧ (∀ c ∈ cs, SmallC c) ∧ RetL ((marea cs).map V.int) H Q
theorem spArea_L {H : Hp} {p : Addr} {cs : List Pl} (h : ∀ H1, Ex H H1 → CsAt K H1 p cs) (h1 : cs ≠ []) (h2 : cs.length ≤ 20) (h3 : ∀ c ∈ cs, SmallC c) : SpL (spArea K) [.ref p] H ((marea cs).map V.int) :=
  fun H1 e _ q _ => ⟨p, cs, rfl, h H1 e, h1, h2, h3, fun p H' hp e hl => q p H' hp e hl⟩
theorem ok_area (T : Tx K mg) : FnOk P w K mg base CX0 3 T.area.f T.area.d ["corners"] (spArea K) := by
  have G_lowest : FnOk P w K mg base CX0 2 T.lowest.f T.lowest.d ["above", "below"] spLowest := ok_lowest T
  refine T.area.F.ok sc_area (fun vs H Q E h => ?_) (fun cdv A outer s H vs Q E hr h => ?_)
  · obtain ⟨p, cs, rfl, _⟩ := h
    rfl
  · obtain ⟨p, cs, rfl, ⟨ps, rfl, hp, ha⟩, hne, hlen, hsm, k⟩ := h
    refine ⟨_, (pss_cons (ps_set (i := 1) sc_area.nd rfl (Or.inl rfl) pe_int)
      (pss_cons (ps_set (i := 2) sc_area.nd rfl (Or.inl rfl) pe_int)
      (pss_cons (ps_set (i := 3) sc_area.nd rfl (Or.inl rfl) (pe_ix ix_list (pv 0) (pe_un un_neg pe_int) (fun _ _ => rfl)))
      (pss_cons (ps_for PassesOwn.never rfl (pi_list (pv 0)) (pg_name (i := 4) sc_area.nd rfl (Or.inl rfl))
        (pss_cons (ps_set (i := 5) sc_area.nd rfl (Or.inl rfl) (pe_op op_sub (pe_op op_mulW (pe_ix ix_tup (pv 3) pe_int (fun _ _ => rfl)) (pe_ix ix_tup (pv 4) pe_int (fun _ _ => rfl))) (pe_op op_mulW (pe_ix ix_tup (pv 4) pe_int (fun _ _ => rfl)) (pe_ix ix_tup (pv 3) pe_int (fun _ _ => rfl)))))
        (pss_cons (ps_set (i := 6) sc_area.nd rfl (Or.inl rfl) (pe_op op_mulW (pe_ix ix_tup (pv 3) pe_int (fun _ _ => rfl)) (pe_ix ix_tup (pv 4) pe_int (fun _ _ => rfl))))
        (pss_cons (ps_set (i := 1) sc_area.nd rfl (Or.inl rfl) (pe_op op_add (pe_op op_mulW (pv 1) (pv 6)) (pe_op op_mulW (pv 5) (pv 2))))
        (pss_cons (ps_set (i := 2) sc_area.nd rfl (Or.inl rfl) (pe_op op_mulW (pv 2) (pv 6)))
        (pss_one (ps_set (i := 3) sc_area.nd rfl (Or.inl rfl) (pv 4))))))))
      (pss_one (ps_ret (pe_call G_lowest (hr.mono (by decide)) rfl T.lowest.mg T.lowest.F.kp T.lowest.b .nil pass0 (pa_cons (pv 1) (pa_cons (pe_op op_mulW pe_int (pv 2)) pa_nil))))))))), ?_⟩
    rw [List.length_map] at hlen
    have hps : ps ≠ [] := by rintro rfl; simp at hne
    obtain ⟨z, hz⟩ : ∃ z, ps.getLast? = some z := ⟨_, List.getLast?_eq_some_getLast hps⟩
    have hzm : z ∈ ps := List.mem_of_getLast? hz
    have hmc : marea (ps.map Prod.snd) = mlowest (mareaL 0 1 z.2 (ps.map Prod.snd)).1 (2 * (mareaL 0 1 z.2 (ps.map Prod.snd)).2) := by
      unfold marea
      rw [List.getLastD_eq_getLast?, List.getLast?_map, hz]
      rfl
    rw [hmc] at k
    refine q_asg ev_c fun H1 e1 => ?_
    refine q_asg ev_c fun H2 e2 => ?_
    refine q_asg (v := .ref z.1) (ev_op (ev_var rfl) ev_neg1 (rv_ixL (ex_l (e1.trans e2) hp) (at_last (by unfold refs; rw [List.getLast?_map, hz]; rfl)))) fun H3 e3 => ?_
    have e03 := e1.trans (e2.trans e3)
    refine q_forLn (ev_var rfl) (ex_l e03 hp) (fun i σ' H' => ∃ (x y u : Option V) (a : Addr) (bc : Pl) (av bv : Int),
        σ' = [some (.ref p), some (.int av), some (.int bv), some (.ref a), x, y, u] ∧ Ex H H' ∧ PlAt K H' a bc ∧ SmallC bc ∧ 0 < bv ∧ Bd (220 * i + 2) av ∧ Bd (210 * i + 1) bv ∧
        mareaL av bv bc ((ps.drop i).map Prod.snd) = mareaL 0 1 z.2 (ps.map Prod.snd)) ?_ ?_ ?_ ?_
    · intro H4 e4
      exact ⟨none, none, none, z.1, z.2, 0, 1, rfl, e03.trans e4, (ha z hzm).ex (e03.trans e4), hsm _ (List.mem_map_of_mem hzm), by decide, by unfold Bd; decide, by unfold Bd; decide, by simp⟩
    · rintro i σ' H' _ ⟨x, y, u, a, bc, av, bv, rfl, e, _⟩
      exact ex_l e hp
    · rintro i v σ' H' hv ⟨x, y, u, a, bc, av, bv, rfl, e, hab, hbc, hbv, b1, b2, heq⟩
      obtain ⟨a', c, hi, rfl⟩ := refs_get hv
      have hm : (a', c) ∈ ps := List.mem_of_getElem? hi
      have hcs : SmallC c := hsm c (List.mem_map_of_mem (f := Prod.snd) hm)
      have hac : PlAt K H' a' c := (ha _ hm).ex e
      have hilt : i < ps.length := (List.getElem?_eq_some_iff.mp hi).1
      rw [drop_get hi, List.map_cons, mareaL] at heq
      obtain ⟨⟨x1, y1, w1⟩, wp1⟩ := hbc
      obtain ⟨⟨x2, y2, w2⟩, wp2⟩ := hcs
      refine q_asg (ev_sub (ev_mul (ev_x rfl hab) (ev_y rfl hac) x1 y2 (by decide)) (ev_mul (ev_x rfl hac) (ev_y rfl hab) x2 y1 (by decide))) fun H4 e4 => ?_
      replace hab := hab.ex e4
      replace hac := hac.ex e4
      refine q_asg (ev_mul (ev_w rfl hab) (ev_w rfl hac) w1 w2 (by decide)) fun H5 e5 => ?_
      have bs : Bd 201 (bc.1 * c.2.1 - c.1 * bc.2.1) := ((x1.mul y2).sub (x2.mul y1)).mono (by decide)
      have bw : Bd 200 (bc.2.2 * c.2.2) := w1.mul w2
      refine q_asg (ev_add (ev_mul (ev_var rfl) (ev_var rfl) b1 bw (by omega)) (ev_mul (ev_var rfl) (ev_var rfl) bs b2 (by omega))) fun H6 e6 => ?_
      refine q_asg (ev_mul (ev_var rfl) (ev_var rfl) b2 bw (by omega)) fun H7 e7 => ?_
      refine s_asg (ev_var rfl) fun H8 e8 => ?_
      have e48 := e5.trans (e6.trans (e7.trans e8))
      exact ⟨_, _, _, a', c, _, _, rfl, e.trans (e4.trans e48), hac.ex e48, ⟨⟨x2, y2, w2⟩, wp2⟩, Int.mul_pos hbv (Int.mul_pos wp1 wp2),
        ((b1.mul bw).add (bs.mul b2)).mono (by rw [Nat.max_def]; split <;> omega), (b2.mul bw).mono (by omega), heq⟩
    · rintro σ' H' ⟨x, y, u, a, bc, av, bv, rfl, e, hab, hbc, hbv, b1, b2, heq⟩
      rw [refs_len] at b1 b2 heq
      rw [List.drop_length, List.map_nil, mareaL] at heq
      rw [← heq] at k
      have b2' : Bd 8000 (2 * bv) := ((show Bd 2 2 by unfold Bd; decide).mul b2).mono (by omega)
      refine s_retL (el_call (vs := [.int av, .int (2 * bv)]) (ea_cons (ev_var rfl) (ea_cons (ev_mul ev_c (ev_var rfl) (show Bd 2 2 by unfold Bd; decide) b2 (by omega)) ea_nil)) (spLowest_L (by omega) b2')) fun q H4 hq e4 h4 => ?_
      exact k q H4 (fresh_back e hq) (e.trans e4) h4

/-! ### from_first_on -/
def spFirst (K : PySem.W.Frag) : Sp := fun vs H Q _ => ∃ (p : Addr) (cs : List Pl), vs = [.ref p] ∧ CsAt K H p cs ∧ cs ≠ [] ∧ cs.length ≤ 1000 ∧ (∀ c ∈ cs, SmallC c) ∧ RetCs K (mturned cs) H Q
theorem ok_first (T : Tx K mg) : FnOk P w K mg base CX0 2 T.from_first_on.f T.from_first_on.d ["corners"] (spFirst K) := by
  have G_is_ahead : FnOk P w K mg base CX0 1 T.is_ahead.f T.is_ahead.d ["one", "other"] (spAhead K) := ok_ahead T
  refine T.from_first_on.F.ok sc_from_first_on (fun vs H Q E h => ?_) (fun cdv A outer s H vs Q E hr h => ?_)
  · obtain ⟨p, cs, rfl, _⟩ := h
    rfl
  · obtain ⟨p, cs, rfl, ⟨ps, rfl, hp, ha⟩, hne, hlen, hsm, k⟩ := h
    refine ⟨_, (pss_cons (ps_set (i := 1) sc_from_first_on.nd rfl (Or.inl rfl) pe_int)
      (pss_cons (ps_for PassesOwn.never rfl (pi_range2 rfl T.b_range (pa_cons pe_int (pa_cons (pe_callB call_len_seq (by rfl) T.b_len boot_len (pa_cons (pv 0) pa_nil)) pa_nil))) (pg_name (i := 2) sc_from_first_on.nd rfl (Or.inl rfl))
        (pss_one (ps_if (pt_val (pe_call G_is_ahead (hr.mono (by decide)) rfl T.is_ahead.mg T.is_ahead.F.kp T.is_ahead.b .nil pass0 (pa_cons (pe_ix ix_list (pv 0) (pv 2) (fun _ _ => rfl)) (pa_cons (pe_ix ix_list (pv 0) (pv 1) (fun _ _ => rfl)) pa_nil))))
          (pss_one (ps_set (i := 1) sc_from_first_on.nd rfl (Or.inl rfl) (pv 2)))
          pss_nil)))
      (pss_one (ps_ret (pe_op op_cat (pe_slice sl_list (pv 0) (po_some (pv 1)) po_none) (pe_slice sl_list (pv 0) po_none (po_some (pv 1)))))))), ?_⟩
    rw [List.length_map] at hlen
    have hps : ps ≠ [] := by rintro rfl; simp at hne
    have hpl : 0 < ps.length := List.length_pos_iff.mpr hps
    have hgd : ∀ (j : Nat) (a : Addr) (c : Pl), ps[j]? = some (a, c) → (ps.map Prod.snd).getD j (0, 0, 1) = c := by
      intro j a c hj
      rw [List.getD_eq_getElem?_getD, List.getElem?_map, hj]
      rfl
    refine q_asg ev_c fun H1 e1 => ?_
    refine q_forR2 (lo := 1) (n := (ps.length : Int)) (ea_cons ev_c (ea_cons (ev_is (ev_len (ev_var rfl) (ex_l e1 hp)) (by rw [refs_len])) ea_nil)) (by omega) (fun i σ' H' => ∃ (x : Option V) (f : Nat),
        σ' = [some (.ref p), some (.int (f : Int)), x] ∧ Ex H H' ∧ f < ps.length ∧ f = (List.range' 1 i).foldl (mbest (ps.map Prod.snd)) 0) ?_ ?_ ?_
    · intro H2 e2
      exact ⟨none, 0, rfl, e1.trans e2, hpl, rfl⟩
    · rintro i σ' H' hi ⟨x, f, rfl, e, hf, hfe⟩
      obtain ⟨⟨a1, c1⟩, h1⟩ : ∃ q, ps[1 + i]? = some q := ⟨_, List.getElem?_eq_getElem (by omega)⟩
      obtain ⟨⟨a2, c2⟩, h2⟩ : ∃ q, ps[f]? = some q := ⟨_, List.getElem?_eq_getElem hf⟩
      have m1 := List.mem_of_getElem? h1
      have m2 := List.mem_of_getElem? h2
      have r1 : (refs ps)[1 + i]? = some (.ref a1) := by unfold refs; rw [List.getElem?_map, h1]; rfl
      have r2 : (refs ps)[f]? = some (.ref a2) := by unfold refs; rw [List.getElem?_map, h2]; rfl
      have hstep : (List.range' 1 (i + 1)).foldl (mbest (ps.map Prod.snd)) 0 = mbest (ps.map Prod.snd) f (1 + i) := by
        rw [List.range'_concat, List.foldl_append, ← hfe]
        simp
      have hb : mbest (ps.map Prod.snd) f (1 + i) = if mahead c1 c2 = true then 1 + i else f := by
        unfold mbest
        rw [hgd _ _ _ h1, hgd _ _ _ h2]
      have ei : (1 : Int) + (i : Int) = ((1 + i : Nat) : Int) := by omega
      rw [ei]
      refine s_when (b := mahead c1 c2) (et_B (ev_call (vs := [.ref a1, .ref a2]) (ea_cons (ev_op (ev_var rfl) (ev_var rfl) (rv_ixL (ex_l e hp) (at_nat r1))) (ea_cons (ev_op (ev_var rfl) (ev_var rfl) (rv_ixL (ex_l e hp) (at_nat r2))) ea_nil))
        (spAhead_V ((ha _ m1).ex e) ((ha _ m2).ex e) (hsm _ (List.mem_map_of_mem (f := Prod.snd) m1)).1 (hsm _ (List.mem_map_of_mem (f := Prod.snd) m2)).1))) (fun hb1 H2 e2 => ?_) (fun hb1 H2 e2 => ?_)
      · refine s_asg (ev_var rfl) fun H3 e3 => ?_
        exact ⟨_, 1 + i, rfl, e.trans (e2.trans e3), by omega, by rw [hstep, hb, if_pos hb1]⟩
      · exact ⟨_, f, rfl, e.trans e2, hf, by rw [hstep, hb, if_neg (by rw [hb1]; decide)]⟩
    · rintro σ' H' ⟨x, f, rfl, e, hf, hfe⟩
      have hfe' : f = mfirst (ps.map Prod.snd) := by
        rw [hfe]
        unfold mfirst
        rw [List.length_map]
        congr 2
        omega
      have hfl : f ≤ (refs ps).length := by rw [refs_len]; omega
      refine s_retL (el_catNN (el_sl (ev_var rfl) (eo_some (ev_var rfl)) eo_none (ex_l e hp)) (el_sl (ev_var rfl) eo_none (eo_some (ev_var rfl)) (ex_l e hp)) (by
        have a1 := cutV_length (refs ps) (some (f : Int)) none
        have a2 := cutV_length (refs ps) none (some (f : Int))
        rw [refs_len] at a1 a2
        omega)) fun q H4 hq e4 h4 => ?_
      rw [cut_from hfl, cut_to hfl] at h4
      refine k q H4 (ps.drop f ++ ps.take f) (fresh_back e hq) (e.trans e4) ?_ ?_ ?_
      · unfold mturned
        rw [← hfe', List.map_append, List.map_drop, List.map_take]
      · rw [h4]
        unfold refs
        rw [List.map_append, List.map_drop, List.map_take]
      · intro c hc
        rw [List.mem_append] at hc
        have : c ∈ ps := by
          rcases hc with hc | hc
          · exact List.mem_of_mem_drop hc
          · exact List.mem_of_mem_take hc
        exact (ha c this).ex (e.trans e4)
end
end NP

set_option Elab.async false
set_option linter.unusedVariables false
set_option maxRecDepth 100000
set_option maxHeartbeats 2000000
namespace NP
open PySem PySem.Spec PyProof.Rows L2 Evl NS
/-! ### list(d.values()): a word that the layer lacks -/
def tListVals (td : TE) : TE := fun σ H Q => td σ H fun x H1 => ∃ (d : Addr) (kvs : List (Key × V)), x = .ref d ∧ H1 d = some (.dK kvs) ∧
  ∀ q, H1 q = none → Q (.ref q) (upd H1 q (.lst (kvs.map fun kv => kv.2)))
theorem kv_vals {kvs : List (Key × V)} {vs : List (Key × Value)} (rk : KV kvs vs) : Vals (kvs.map fun kv => kv.2) (vs.map (·.2)) := by
  unfold KV at rk
  induction rk with
  | nil => exact .nil
  | cons r t ih => exact .cons r.2 ih
theorem pe_listVals {X : Cx} {e : Expr} {td : TE} {p apos cpos pos : Pos} (hc : X.calm = true) (hg : Gl X "list") (hm : X.mg "list" = none) (he : PE X e td)
    (hbase : attributeBase e "values" X.env (eval e X.env) = eval e X.env := by rfl) (hline : (apos.endLine == cpos.line) = true := by rfl)
    (hst : starEach [.Call (.Attribute e "values" apos) [] [] cpos] X.env = (false, eval (.Call (.Attribute e "values" apos) [] [] cpos) X.env) :: starEach [] X.env := by rfl) :
    PE X (.Call (.Name "list" p) [.Call (.Attribute e "values" apos) [] [] cpos] [] pos) (tListVals td) := by
  constructor
  intro pins s σ H Q I hq
  apply wpAny_Call_Name_kw
  refine ld_blt I hg hm (u := .type "list") (by decide +kernel) ?_
  refine PyProof.Rows.callWith_type1 ?_ hst rfl
  rw [hst]
  show wpAny _ _ (spliced ((false, eval (.Call (.Attribute e "values" apos) [] [] cpos) X.env) :: backTo pos (starEach [] X.env))) _ _ s
  apply Calls.spliced_cons
  refine wpAny_Call_method (T := "dict") (id := "dict.values") hbase rfl hline F.plainAttrs_dict F.slot_dict_values F.type_dict_values ?_
  refine thn (he.run pins s σ H _ I hq) ?_
  rintro u s1 ⟨x, H1, I1, rx, d, kvs, rfl, hd, q⟩
  obtain rfl : u = Value.ref d := rx
  obtain ⟨z, lo, vs, rk, hdd⟩ := (show ObjOk X.prog X.w H1 s1.heap d (.dK kvs) from I1.hok d _ hd)
  obtain ⟨ep, hat⟩ := hdd.dictAt
  have hl : kvs.length = vs.length := Paired.length rk
  have I2 : Inv X pins σ H1 { s1 with heap := s1.heap.push { cls := .type "dict_values", data := .fields #[.ref d] } } := I1.kept (t' := s1.toks) fun b ob g => Heap.get?_push_of_some _ g
  refine ⟨hdd.typeIs, hdd.mapOf.noDict, ?_⟩
  show wpAny _ _ (callWith cpos (.builtin "dict.values") [.ref d] [] []) _ X.xe s1
  refine method_meetsIn F.slot_dict_values F.entry_dict_values rfl (PySem.evalArgs_none ⟨rfl, hdd.typeIs, F.args_dict_values_1 _, _, meets_dict_values (mixKind X.prog X.w) d lo, ⟨vs, hdd⟩, ?_⟩)
  apply Calls.spliced_nil
  refine PySem.W.kdl_call (PySem.W.kdl_values (knd := mixKind X.prog X.w) (kvs := vs) (ep := ep)) (I1.ok.hd hc) ⟨⟨_, Heap.get?_push_size _ rfl, rfl, rfl⟩, hat.push _⟩ (by omega) ?_
  intro h' tk acc' c' hkeep hS hacc
  refine ⟨.ref _, upd H1 _ (.lst (kvs.map fun kv => kv.2)), I2.laid hkeep (Nat.le_refl _) (show ObjOk X.prog X.w _ _ _ (.lst (kvs.map fun kv => kv.2)) from ⟨?_, acc'.toList, c', ?_, ?_⟩), rfl, q _ (I2.hok.fresh (Nat.le_refl _))⟩
  · simpa using z
  · have ev : acc'.toList = vs.map (·.2) := PySem.W.kdl_vals_eq _ (by simpa using hacc.1) (fun j v hv => hacc.2 j v (by rw [← Array.getElem?_toList]; exact hv))
    rw [ev]
    exact kv_vals rk
  · rw [Array.toArray_toList]
    exact hS
end NP

set_option Elab.async false
set_option linter.unusedVariables false
set_option maxRecDepth 100000
set_option maxHeartbeats 2000000
namespace NP
open PySem PySem.Spec PyProof.Rows L2 Evl NS

/-! ### the land in the heap -/
abbrev Qs := List (Nat × Addr × IP)
def qsV (qs : Qs) : List (Key × V) := qs.map fun q => (Sum.inl (q.1 : Int), V.ref q.2.1)
def qsS (qs : Qs) : List (Nat × IP) := qs.map fun q => (q.1, q.2.2)
def QsAt (K : PySem.W.Frag) (H : Hp) (qs : Qs) : Prop := ∀ q ∈ qs, IpAt K H q.2.1 q.2.2
theorem QsAt.ex {K : PySem.W.Frag} {H H' : Hp} {qs : Qs} (h : QsAt K H qs) (e : Ex H H') : QsAt K H' qs := fun q hq => (h q hq).ex e
def lF (d : Addr) (n : Nat) : List (Str × V) := [("places", .ref d), ("fresh_name", .int (n : Int))]
def LandAt (K : PySem.W.Frag) (C : Addr) (H : Hp) (l : Addr) (m : Ld) : Prop := ∃ dx d qs, H l = some (.ins C dx (lF d m.given)) ∧ H d = some (.dK (qsV qs)) ∧ qsS qs = m.sites ∧ QsAt K H qs
theorem LandAt.ex {K : PySem.W.Frag} {C : Addr} {H H' : Hp} {l : Addr} {m : Ld} (h : LandAt K C H l m) (e : Ex H H') : LandAt K C H' l m := by
  obtain ⟨dx, d, qs, h1, h2, h3, h4⟩ := h
  exact ⟨dx, d, qs, e _ _ h1, e _ _ h2, h3, h4.ex e⟩
/-- lists, tuples and what is locked stand as they were -/
def seqO : HO → Bool
  | .lst _ => true
  | .tup _ => true
  | .frz _ _ => true
  | _ => false
def Keep (H H' : Hp) : Prop := ∀ b o, seqO o = true → H b = some o → H' b = some o
theorem Keep.of {H H' : Hp} (e : Ex H H') : Keep H H' := fun b o _ h => e b o h
theorem Keep.trans {H H1 H2 : Hp} (a : Keep H H1) (b : Keep H1 H2) : Keep H H2 := fun c o s h => b c o s (a c o s h)
theorem Keep.upd {H H' : Hp} {p : Addr} {o o' : HO} (a : Keep H H') (hp : H' p = some o) (ho : seqO o = false) : Keep H (upd H' p o') := fun b u s h => by
  have h' := a b u s h
  rw [upd_ne (by rintro rfl; rw [hp] at h'; cases h'; rw [ho] at s; cases s)]
  exact h'
theorem Keep.sqT {K : PySem.W.Frag} {H H' : Hp} {a : Addr} {xs : List V} (k : Keep H H') (h : SqT K H a xs) : SqT K H' a xs := by
  rcases h with (h | ⟨o, h⟩) | h
  · exact .inl (.inl (k _ _ rfl h))
  · exact .inl (.inr ⟨o, k _ _ rfl h⟩)
  · exact .inr h
theorem Keep.sqL {K : PySem.W.Frag} {H H' : Hp} {a : Addr} {xs : List V} (k : Keep H H') (h : SqL K H a xs) : SqL K H' a xs := by
  rcases h with (h | ⟨o, h⟩) | h
  · exact .inl (.inl (k _ _ rfl h))
  · exact .inl (.inr ⟨o, k _ _ rfl h⟩)
  · exact .inr h
theorem Keep.qs {K : PySem.W.Frag} {H H' : Hp} {qs : Qs} (k : Keep H H') (h : QsAt K H qs) : QsAt K H' qs := fun q hq => k.sqT (h q hq)
theorem lk_here {k : Str} {v : V} {r : List (Str × V)} : List.lookup k ((k, v) :: r) = some v := by
  simp only [List.lookup, beq_self_eq_true k]
theorem lk_past {k g : Str} {v : V} {r : List (Str × V)} (h : (k == g) = false) : List.lookup k ((g, v) :: r) = List.lookup k r := by
  simp only [List.lookup, h]
theorem lF_places (d : Addr) (n : Nat) : (lF d n).lookup ("places" : Str) = some (.ref d) := lk_here
theorem lF_fresh (d : Addr) (n : Nat) : (lF d n).lookup ("fresh_name" : Str) = some (.int (n : Int)) := (lk_past (by decide +kernel)).trans lk_here
section
variable {P : Program} {w : World} {K : PySem.W.Frag} {mg : Str → Option Value} {base : Heap}
theorem units65 {k : Nat} {A : Around} (hr : Room k A) : A.units + 65 < cLine := by have := hr.un; omega
theorem ev_fld {σ : L2.St} {H : Hp} {ta : TE} {f : Str} {v : V} {l C dx : Addr} {fs : List (Str × V)} (ha : Ev ta σ H (.ref l)) (hl : H l = some (.ins C dx fs)) (cl : Cls K C) (n : NoAttr K C f) (lk : fs.lookup f = some v) : Ev (tFld K ta f) σ H v :=
  fun H1 e Q q => ha H1 e _ fun H2 e2 => ⟨l, C, dx, fs, v, rfl, (e.trans e2) l _ hl, cl, n, lk, q H2 e2⟩
theorem ev_places {σ : L2.St} {H : Hp} {T : Tx K mg} {l dx d : Addr} {n i : Nat} (hv : σ[i]? = some (some (.ref l))) (hl : H l = some (.ins T.C dx (lF d n))) : Ev (tFld K (tVar i) "places") σ H (.ref d) :=
  ev_fld (ev_var hv) hl T.cl T.n_places (lF_places d n)
theorem qsV_has (qs : Qs) (k : Nat) : (valV (qsV qs) (Sum.inl (k : Int))).isSome = (qsS qs).any fun z => decide (z.1 = k) := by
  rw [← valV_any]
  unfold qsV qsS
  rw [List.any_map, List.any_map]
  congr 1
  funext q
  have : (Sum.inl (q.1 : Int) = (Sum.inl (k : Int) : Key)) ↔ q.1 = k := by
    constructor
    · intro e
      injection e with e
      omega
    · intro e
      rw [e]
  simp only [Function.comp_apply, this]
theorem qsV_drop (qs : Qs) (k : Nat) : dropK (qsV qs) (Sum.inl (k : Int)) = qsV (qs.filter fun q => decide (q.1 ≠ k)) := by
  unfold dropK qsV
  rw [List.filter_map]
  congr 1
  apply List.filter_congr
  intro q _
  have : (Sum.inl (q.1 : Int) = (Sum.inl (k : Int) : Key)) ↔ q.1 = k := by
    constructor
    · intro e
      injection e with e
      omega
    · intro e
      rw [e]
  simp only [Function.comp_apply, ne_eq, this]
theorem qsS_filter (qs : Qs) (k : Nat) : qsS (qs.filter fun q => decide (q.1 ≠ k)) = (qsS qs).filter fun z => decide (z.1 ≠ k) := by
  unfold qsS
  rw [List.filter_map]
  rfl
theorem q_pop {σ : L2.St} {H : Hp} {ta tb : TE} {tz : TS} {D : Ends} {d : Addr} {kvs : List (Key × V)} {k : Key} {v : V} (ha : Ev ta σ H (.ref d)) (hb : Ev tb σ H (kV k)) (hd : H d = some (.dK kvs)) (hv : valV kvs k = some v)
    (c : ∀ H1, Ex H H1 → tz D σ (upd H1 d (.dK (dropK kvs k)))) : tSeq (tDrop (tDPop1 ta tb)) tz D σ H :=
  ha H (Ex.refl H) _ fun H1 e1 => ⟨d, rfl, .inl ⟨kvs, .inl (e1 _ _ hd)⟩, hb H1 e1 _ fun H2 e2 => ⟨kvs, k, v, (e1.trans e2) _ _ hd, rfl, hv, c H2 (e1.trans e2)⟩⟩
/-- k in d, k not in d -/
theorem et_notin {σ : L2.St} {H : Hp} {ta tb : TE} {d : Addr} {qs : Qs} {k : Nat} (ha : Ev ta σ H (.int (k : Int))) (hb : Ev tb σ H (.ref d)) (hd : H d = some (.dK (qsV qs))) :
    EvT (tB (tDNotIn ta tb)) σ H (!((qsS qs).any fun z => decide (z.1 = k))) := fun H1 e Q q =>
  ha H1 e _ fun H2 e2 => hb H2 (e.trans e2) _ fun H3 e3 => ⟨d, _, rfl, DGet.k (k := Sum.inl (k : Int)) ((e.trans (e2.trans e3)) _ _ hd), _, rfl, by rw [qsV_has]; exact q H3 (e2.trans e3)⟩
theorem ev_lenD {σ : L2.St} {H : Hp} {ta : TE} {d : Addr} {kvs : List (Key × V)} (ha : Ev ta σ H (.ref d)) (hd : H d = some (.dK kvs)) :
    Ev (tCB (fun xs H Q => ∃ a kvs, xs = [V.ref a] ∧ H a = some (.dK kvs) ∧ Q (.int kvs.length) H) (tCons ta tNil)) σ H (.int (kvs.length : Int)) := fun H1 e Q q =>
  ha H1 e _ fun H2 e2 => ⟨d, kvs, rfl, (e.trans e2) _ _ hd, q H2 e2⟩

/-- what a method does: the land behind it, a new list of numbers -/
def RetM (K : PySem.W.Frag) (C : Addr) (H : Hp) (l : Addr) (r : Ld × List Int) (Q : VK) : Prop :=
  ∀ p H', H p = none → Keep H H' → LandAt K C H' l r.1 → H' p = some (.lst (r.2.map V.int)) → Q (.ref p) H'

/-! ### gone -/
def spGone (K : PySem.W.Frag) (C : Addr) : Sp := fun vs H Q _ => ∃ (l : Addr) (m : Ld) (k : Nat), vs = [.ref l, .int (k : Int)] ∧ LandAt K C H l m ∧ Wf m ∧ RetM K C H l (mgone m k) Q
theorem ok_gone (T : Tx K mg) : FnOk P w K mg base CX0 1 T.gone.f T.gone.d ["self", "name"] (spGone K T.C) := by
  refine T.gone.F.ok sc_gone (fun vs H Q E h => ?_) (fun cdv A outer s H vs Q E hr h => ?_)
  · obtain ⟨l, m, k, rfl, _⟩ := h
    rfl
  · obtain ⟨l, m, k, rfl, hL, wf, ret⟩ := h
    have hu := hu_of hr
    refine ⟨_, (pss_cons (ps_if (pt_cmp (pc_dnotin hu (pv 1) (pe_fld (pv 0) rfl)))
        (pss_one (ps_ret (pe_lst (pa_cons (pe_glob rfl T.g_NO_SUCH_SITE.choose_spec rel_int) pa_nil))))
        pss_nil)
      (pss_cons (ps_expr (pe_dpop1 (pe_fld (pv 0) rfl) (pv 1) ⟨rfl, rfl, rfl, rfl⟩))
      (pss_one (ps_ret (pe_lst (pa_cons (pe_callB call_lenD (by rfl) T.b_len PySem.boot_len (pa_cons (pe_fld (pv 0) rfl) pa_nil)) pa_nil)))))), ?_⟩
    obtain ⟨dx, d, qs, h1, h2, h3, h4⟩ := hL
    refine q_when (et_notin (k := k) (qs := qs) (ev_var rfl) (ev_places rfl h1) h2) (fun hb H1 e1 => ?_) (fun hb H1 e1 => ?_)
    · have hn : mHas m k = false := by rw [h3] at hb; unfold mHas; simpa using hb
      unfold mgone at ret
      rw [if_neg (by rw [hn]; decide)] at ret
      exact s_retL (el_lst (ea_cons ev_c ea_nil) (by show 1 ≤ 100000; decide)) fun p H2 hp e2 hl => ret p H2 (fresh_back e1 hp) (Keep.of (e1.trans e2)) ((LandAt.ex ⟨dx, d, qs, h1, h2, h3, h4⟩ (e1.trans e2))) hl
    · have hn : mHas m k = true := by rw [h3] at hb; unfold mHas; simpa using hb
      unfold mgone at ret
      rw [if_pos hn] at ret
      obtain ⟨v, hv⟩ : ∃ v, valV (qsV qs) (Sum.inl (k : Int)) = some v := by
        have := qsV_has qs k
        rw [h3] at this
        exact Option.isSome_iff_exists.mp (this.trans hn)
      refine q_pop (k := Sum.inl (k : Int)) (ev_places rfl (e1 _ _ h1)) (ev_var rfl) (e1 _ _ h2) hv fun H2 e2 => ?_
      have hld : l ≠ d := by
        rintro rfl
        rw [h1] at h2
        cases h2
      rw [qsV_drop]
      have e02 := e1.trans e2
      have kp : Keep H (upd H2 d (.dK (qsV (qs.filter fun q => decide (q.1 ≠ k))))) := (Keep.of e02).upd (e02 _ _ h2) rfl
      have hl3 : (upd H2 d (.dK (qsV (qs.filter fun q => decide (q.1 ≠ k))))) l = some (.ins T.C dx (lF d m.given)) := by
        rw [upd_ne hld]
        exact e02 _ _ h1
      have hlen : (qsV (qs.filter fun q => decide (q.1 ≠ k))).length = (m.sites.filter fun z => decide (z.1 ≠ k)).length := by
        rw [← h3, ← qsS_filter]
        simp [qsV, qsS]
      refine s_retL (el_lst (ea_cons (ev_lenD (ev_places rfl hl3) upd_same) ea_nil) (by show 1 ≤ 100000; decide)) fun p H4 hp e4 hl4 => ?_
      rw [hlen] at hl4
      refine ret p H4 ?_ (kp.trans (Keep.of e4)) ?_ hl4
      · have hpd : p ≠ d := by
          rintro rfl
          rw [upd_same] at hp
          cases hp
        rw [upd_ne hpd] at hp
        exact fresh_back e02 hp
      · refine LandAt.ex ⟨dx, d, qs.filter fun q => decide (q.1 ≠ k), hl3, upd_same, by rw [qsS_filter, h3], ?_⟩ e4
        intro q hq
        exact kp.sqT (h4 q (List.mem_filter.mp hq).1)
end
end NP

set_option Elab.async false
set_option linter.unusedVariables false
set_option maxRecDepth 100000
set_option maxHeartbeats 2000000
namespace NP
open PySem PySem.Spec PyProof.Rows L2 Evl NS
def ipD (s : IP) : PyData := .tuple [.int s.1, .int s.2]
theorem shaped_ip (s : IP) : SeqAt.shaped (ipD s) = true := by
  unfold SeqAt.shaped ipD
  simp [PyData.canLay0, PyData.canLayAll0, PyData.depth, PyData.depthAll]
theorem shaped_ips (l : List IP) : SeqAt.shaped (.list (l.map ipD)) = true := by
  have h1 : ∀ l : List IP, PyData.canLayAll0 (l.map ipD) = true ∧ PyData.depthAll (l.map ipD) ≤ 1 := by
    intro l
    induction l with
    | nil => simp [PyData.canLayAll0, PyData.depthAll]
    | cons a l ih => simp [PyData.canLayAll0, PyData.canLay0, PyData.depth, PyData.depthAll, ipD, ih]
  have := h1 l
  unfold SeqAt.shaped
  simp [PyData.canLay0, PyData.depth, this]
  omega
theorem eqv_ip (s t : IP) : PyData.eqv (ipD s) (ipD t) = decide (s = t) := by
  obtain ⟨a, b⟩ := s
  obtain ⟨c, d⟩ := t
  unfold ipD
  rw [PyData.eqv, PyData.eqvAll, PyData.eqvAll, PyData.eqvAll, PyData.eqv, PyData.eqv, Bool.and_true]
  by_cases h1 : a = c <;> by_cases h2 : b = d <;> simp [h1, h2]
section
variable {P : Program} {w : World} {K : PySem.W.Frag} {mg : Str → Option Value} {base : Heap}
theorem dp_ip {H : Hp} {a : Addr} {s : IP} (h : IpAt K H a s) : Dp K H (.ref a) (ipD s) := .tup h (.cons (.int _) (.cons (.int _) .nil))
theorem dp_ips {H : Hp} : ∀ {qs : Qs}, QsAt K H qs → DpAll K H ((qsV qs).map fun kv => kv.2) (qs.map fun q => ipD q.2.2)
  | [], _ => .nil
  | q :: qs, h => .cons (dp_ip (h q (by simp))) (dp_ips fun q' hq' => h q' (by simp [hq']))
/-- (x, y) in list(places.values()) -/
theorem et_taken {σ : L2.St} {H : Hp} {ta td : TE} {x y : TE} {d : Addr} {qs : Qs} {u v : Int} (hx : Ev x σ H (.int u)) (hy : Ev y σ H (.int v)) (hd : Ev td σ H (.ref d)) (hh : H d = some (.dK (qsV qs))) (hq : QsAt K H qs) :
    EvT (tTest (tOp (rInD K) (tTup (tCons x (tCons y tNil))) (tListVals td))) σ H ((qsS qs).any fun z => decide (z.2 = (u, v))) := by
  intro H1 e Q q
  unfold tTest tOp
  refine (eu_tup (ea_cons hx (ea_cons hy ea_nil)) (by show 2 ≤ 100000; decide)) H1 e _ ?_
  intro p H2 hp e2 h2
  unfold tListVals
  refine hd H2 (e.trans e2) _ ?_
  intro H3 e3
  have e03 := (e.trans e2).trans e3
  refine ⟨d, qsV qs, rfl, e03 _ _ hh, ?_⟩
  intro n hn
  have hpn : H3 p = some (.tup [.int u, .int v]) := e3 _ _ h2
  have ex4 : Ex H3 (upd H3 n (.lst ((qsV qs).map fun kv => kv.2))) := Ex.new hn
  refine ⟨ipD (u, v), qs.map fun q => ipD q.2.2, dp_ip (s := (u, v)) (st_of (ex4 _ _ hpn)), .lst (sq_of upd_same) (dp_ips (hq.ex (e03.trans ex4))), shaped_ip _, ?_, ?_⟩
  · have := shaped_ips (qs.map fun q => q.2.2)
    rw [List.map_map] at this
    exact this
  · refine ⟨_, rfl, ?_⟩
    have ee : ((qs.map fun q => ipD q.2.2).any fun z => PyData.eqv z (ipD (u, v))) = ((qsS qs).any fun z => decide (z.2 = (u, v))) := by
      unfold qsS
      rw [List.any_map, List.any_map]
      congr 1
      funext q
      simp only [Function.comp_apply, eqv_ip]
    rw [ee]
    exact q _ (e2.trans (e3.trans ex4))
theorem q_dput {σ : L2.St} {H : Hp} {td ty tv : TE} {tz : TS} {D : Ends} {d : Addr} {kvs : List (Key × V)} {k : Key} {xs : List V} (hv : EvU tv σ H xs) (hd : Ev td σ H (.ref d)) (hk : Ev ty σ H (kV k)) (hh : H d = some (.dK kvs)) (hl : kvs.length ≤ 1000)
    (c : ∀ p H1, H p = none → Ex H H1 → H1 p = some (.tup xs) → tz D σ (upd H1 d (.dK (putK kvs k (.ref p))))) : tSeq (sDPut td ty tv) tz D σ H :=
  hv H (Ex.refl H) _ fun p H1 hp e1 h1 => hd H1 e1 _ fun H2 e2 => hk H2 (e1.trans e2) _ fun H3 e3 =>
    ⟨d, _, rfl, DPut.k ((e1.trans (e2.trans e3)) _ _ hh) (Nat.lt_of_le_of_lt hl (by decide)), c p H3 hp (e1.trans (e2.trans e3)) ((e2.trans e3) _ _ h1)⟩
theorem q_fldset {σ : L2.St} {H : Hp} {ta tv : TE} {f : Str} {tz : TS} {D : Ends} {l C dx : Addr} {fs : List (Str × V)} {v : V} (hv : Ev tv σ H v) (ha : Ev ta σ H (.ref l)) (hl : H l = some (.ins C dx fs)) (cl : Cls K C) (n : NoAttr K C f) (hf : fs.length < 1000)
    (c : ∀ H1, Ex H H1 → tz D σ (upd H1 l (.ins C dx (putF f v fs)))) : tSeq (sFld K ta tv f) tz D σ H :=
  hv H (Ex.refl H) _ fun H1 e1 => ha H1 e1 _ fun H2 e2 => ⟨l, C, dx, fs, rfl, (e1.trans e2) _ _ hl, cl, n, hf, c H2 (e1.trans e2)⟩
theorem qsV_put {qs : Qs} {n : Nat} {v : V} (h : ∀ q ∈ qs, q.1 < n) : putK (qsV qs) (Sum.inl (n : Int)) v = qsV qs ++ [(Sum.inl (n : Int), v)] := by
  unfold putK
  rw [if_neg]
  intro hc
  rw [List.any_eq_true] at hc
  obtain ⟨kv, hm, he⟩ := hc
  unfold qsV at hm
  obtain ⟨q, hq, rfl⟩ := List.mem_map.mp hm
  have := of_decide_eq_true he
  injection this with e
  have := h q hq
  omega
theorem lF_put (d : Addr) (n : Nat) : putF "fresh_name" (.int ((n : Int) + 1)) (lF d n) = lF d (n + 1) := by
  unfold lF putF
  rw [if_neg (by decide +kernel)]
  unfold putF
  rw [if_pos rfl]
  simp

/-! ### add -/
def spAdd (K : PySem.W.Frag) (C : Addr) : Sp := fun vs H Q _ => ∃ (l : Addr) (m : Ld) (x y : Int), vs = [.ref l, .int x, .int y] ∧ LandAt K C H l m ∧ Wf m ∧ RetM K C H l (madd m x y) Q
theorem ok_add (T : Tx K mg) : FnOk P w K mg base CX0 1 T.add.f T.add.d ["self", "across", "up"] (spAdd K T.C) := by
  refine T.add.F.ok sc_add (fun vs H Q E h => ?_) (fun cdv A outer s H vs Q E hr h => ?_)
  · obtain ⟨l, m, x, y, rfl, _⟩ := h
    rfl
  · obtain ⟨l, m, x, y, rfl, hL, wf, ret⟩ := h
    have hu := hu_of hr
    refine ⟨_, (pss_cons (ps_if (PW.pt (pw_or (pt_cmpR op_gt (pe_callB call_abs (by rfl) T.b_abs boot_abs (pa_cons (pv 1) pa_nil)) (pe_glob rfl T.g_REACH.choose_spec rel_int) (nomark _)) (pw_or1 (pt_cmpR op_gt (pe_callB call_abs (by rfl) T.b_abs boot_abs (pa_cons (pv 2) pa_nil)) (pe_glob rfl T.g_REACH.choose_spec rel_int) (nomark _)))))
        (pss_one (ps_ret (pe_lst (pa_cons (pe_glob rfl T.g_WRONG_PLACE.choose_spec rel_int) pa_nil))))
        pss_nil)
      (pss_cons (ps_if (pt_cmpR (op_inD (units65 hr)) (pe_tup (pa_cons (pv 1) (pa_cons (pv 2) pa_nil))) (pe_listVals rfl rfl T.b_list (pe_fld (pv 0) rfl)) (by rfl))
        (pss_one (ps_ret (pe_lst (pa_cons (pe_glob rfl T.g_TAKEN.choose_spec rel_int) pa_nil))))
        pss_nil)
      (pss_cons (ps_if (pt_cmpR op_ge (pe_callB call_lenD (by rfl) T.b_len PySem.boot_len (pa_cons (pe_fld (pv 0) rfl) pa_nil)) (pe_glob rfl T.g_MOST_SITES.choose_spec rel_int) (nomark _))
        (pss_one (ps_ret (pe_lst (pa_cons (pe_glob rfl T.g_NO_ROOM.choose_spec rel_int) pa_nil))))
        pss_nil)
      (pss_cons (ps_set (i := 3) sc_add.nd rfl (Or.inl rfl) (pe_fld (pv 0) rfl))
      (pss_cons (ps_dput hu (pe_fld (pv 0) rfl) (pv 3) (pe_tup (pa_cons (pv 1) (pa_cons (pv 2) pa_nil))) rfl)
      (pss_cons (ps_fld (pv 0) (pe_op op_add (pv 3) pe_int) rfl)
      (pss_one (ps_ret (pe_lst (pa_cons (pv 3) pa_nil)))))))))), ?_⟩
    have hL0 := hL
    obtain ⟨dx, d, qs, h1, h2, h3, h4⟩ := hL
    have hlq : qs.length = m.sites.length := by rw [← h3]; simp [qsS]
    unfold madd at ret
    refine q_when (b := decide (100 < (x.natAbs : Int)) || decide (100 < (y.natAbs : Int))) (et_or (et_test (ev_op (ev_abs (ev_var rfl)) ev_c rv_I0)) fun _ => et_test (ev_op (ev_abs (ev_var rfl)) ev_c rv_I0)) (fun hb H1 e1 => ?_) (fun hb H1 e1 => ?_)
    · rw [if_pos (by simp only [Bool.or_eq_true, decide_eq_true_eq] at hb; omega)] at ret
      exact s_retL (el_lst (ea_cons ev_c ea_nil) (by show 1 ≤ 100000; decide)) fun p H2 hp e2 hl => ret p H2 (fresh_back e1 hp) (Keep.of (e1.trans e2)) (hL0.ex (e1.trans e2)) hl
    rw [if_neg (by simp only [Bool.or_eq_false_iff, decide_eq_false_iff_not] at hb; omega)] at ret
    refine q_when (et_taken (u := x) (v := y) (qs := qs) (ta := tVar 0) (ev_var rfl) (ev_var rfl) (ev_places rfl (e1 _ _ h1)) (e1 _ _ h2) (h4.ex e1)) (fun hb2 H2 e2 => ?_) (fun hb2 H2 e2 => ?_)
    · rw [h3] at hb2
      rw [if_pos hb2] at ret
      exact s_retL (el_lst (ea_cons ev_c ea_nil) (by show 1 ≤ 100000; decide)) fun p H3 hp e3 hl => ret p H3 (fresh_back (e1.trans e2) hp) (Keep.of (e1.trans (e2.trans e3))) (hL0.ex (e1.trans (e2.trans e3))) hl
    rw [h3] at hb2
    rw [if_neg (by rw [hb2]; decide)] at ret
    have e02 := e1.trans e2
    refine q_when (et_test (ev_op (ev_lenD (ev_places rfl (e02 _ _ h1)) (e02 _ _ h2)) ev_c rv_I0)) (fun hb3 H3 e3 => ?_) (fun hb3 H3 e3 => ?_)
    · rw [if_pos (by have := of_decide_eq_true hb3; simp only [qsV, List.length_map] at this; omega)] at ret
      exact s_retL (el_lst (ea_cons ev_c ea_nil) (by show 1 ≤ 100000; decide)) fun p H4 hp e4 hl => ret p H4 (fresh_back (e02.trans e3) hp) (Keep.of (e02.trans (e3.trans e4))) (hL0.ex (e02.trans (e3.trans e4))) hl
    rw [if_neg (by have := of_decide_eq_false hb3; simp only [qsV, List.length_map] at this; omega)] at ret
    have e03 := e02.trans e3
    refine q_asg (ev_fld (ev_var rfl) (e03 _ _ h1) T.cl T.n_fresh_name (lF_fresh d m.given)) fun H4 e4 => ?_
    have e04 := e03.trans e4
    refine q_dput (k := Sum.inl (m.given : Int)) (eu_tup (ea_cons (ev_var rfl) (ea_cons (ev_var rfl) ea_nil)) (by show 2 ≤ 100000; decide)) (ev_places rfl (e04 _ _ h1)) (ev_var rfl) (e04 _ _ h2) (by have := wf.few; simp only [qsV, List.length_map]; omega) fun t H5 ht e5 h5 => ?_
    have e05 := e04.trans e5
    have hld : l ≠ d := by
      rintro rfl
      rw [h1] at h2
      cases h2
    rw [qsV_put (fun q hq => by
      have : (q.1, q.2.2) ∈ m.sites := by rw [← h3]; unfold qsS; exact List.mem_map_of_mem (f := fun q : Nat × Addr × IP => (q.1, q.2.2)) hq
      exact wf.low _ this)]
    have eqv : qsV qs ++ [(Sum.inl (m.given : Int), V.ref t)] = qsV (qs ++ [(m.given, t, (x, y))]) := by simp [qsV]
    rw [eqv]
    have k6 : Keep H (upd H5 d (.dK (qsV (qs ++ [(m.given, t, (x, y))])))) := (Keep.of e05).upd (e05 _ _ h2) rfl
    have hl6 : (upd H5 d (.dK (qsV (qs ++ [(m.given, t, (x, y))])))) l = some (.ins T.C dx (lF d m.given)) := by
      rw [upd_ne hld]
      exact e05 _ _ h1
    refine q_fldset (ev_add (ev_var rfl) ev_c) (ev_var rfl) hl6 T.cl T.n_fresh_name (by show 2 < 1000; decide) fun H7 e7 => ?_
    rw [lF_put]
    have k8 : Keep H (upd H7 l (.ins T.C dx (lF d (m.given + 1)))) := (k6.trans (Keep.of e7)).upd (e7 _ _ hl6) rfl
    refine s_retL (el_lst (ea_cons (ev_var rfl) ea_nil) (by show 1 ≤ 100000; decide)) fun p H9 hp e9 hl9 => ?_
    refine ret p H9 ?_ (k8.trans (Keep.of e9)) ?_ hl9
    · have hpl : p ≠ l := by
        rintro rfl
        rw [upd_same] at hp
        cases hp
      rw [upd_ne hpl] at hp
      have hp6 := fresh_back e7 hp
      have hpd : p ≠ d := by
        rintro rfl
        rw [upd_same] at hp6
        cases hp6
      rw [upd_ne hpd] at hp6
      exact fresh_back e05 hp6
    · refine LandAt.ex ⟨dx, d, qs ++ [(m.given, t, (x, y))], upd_same, ?_, ?_, ?_⟩ e9
      · rw [upd_ne (Ne.symm hld)]
        exact e7 _ _ upd_same
      · simp [qsS, ← h3]
      · intro q hq
        rw [List.mem_append] at hq
        rcases hq with hq | hq
        · exact k8.sqT (h4 q hq)
        · rw [List.mem_singleton] at hq
          subst hq
          have htd : t ≠ d := by
            rintro rfl
            rw [e04 _ _ h2] at ht
            cases ht
          have htl : t ≠ l := by
            rintro rfl
            rw [e04 _ _ h1] at ht
            cases ht
          refine st_of ?_
          rw [upd_ne htl]
          refine e7 _ _ ?_
          rw [upd_ne htd]
          exact h5

/-! ### __init__ -/
def spInit (K : PySem.W.Frag) (C : Addr) : Sp := fun vs H Q _ => ∃ (l dx : Addr), vs = [.ref l] ∧ H l = some (.ins C dx []) ∧
  ∀ H', LandAt K C H' l mfresh → (∀ b o, H b = some o → b ≠ l → H' b = some o) → Q .non H'
theorem ok_init (T : Tx K mg) : FnOk P w K mg base CX0 1 T.init.f T.init.d ["self"] (spInit K T.C) := by
  refine T.init.F.ok sc_init (fun vs H Q E h => ?_) (fun cdv A outer s H vs Q E hr h => ?_)
  · obtain ⟨l, dx, rfl, _⟩ := h
    rfl
  · obtain ⟨l, dx, rfl, hl, ret⟩ := h
    refine ⟨_, (pss_cons (ps_fld (pv 0) pe_dnewK rfl)
      (pss_one (ps_fld (pv 0) pe_int rfl))), ?_⟩
    intro d hd
    have hld : d ≠ l := by
      rintro rfl
      rw [hl] at hd
      cases hd
    have hl2 : (upd H d (.dK [])) l = some (.ins T.C dx []) := by rw [upd_ne (Ne.symm hld)]; exact hl
    refine ⟨_, rfl, l, T.C, dx, [], rfl, hl2, T.cl, T.n_places, (by show 0 < 1000; decide), ?_⟩
    refine ⟨_, rfl, l, T.C, dx, _, rfl, upd_same, T.cl, T.n_fresh_name, (by show 1 < 1000; decide), ?_⟩
    refine ret _ ⟨dx, d, [], ?_, ?_, rfl, fun q hq => by simp at hq⟩ fun b o hb hn => ?_
    · rw [upd_same]
      show some (HO.ins T.C dx (if ("places" : Str) = "fresh_name" then _ else ("places", V.ref d) :: putF "fresh_name" (.int 0) [])) = _
      rw [if_neg (by decide +kernel)]
      rfl
    · rw [upd_ne hld, upd_ne hld, upd_same]
      rfl
    · rw [upd_ne hn, upd_ne hn, upd_ne (by rintro rfl; rw [hb] at hd; cases hd)]
      exact hb
end
end NP

set_option Elab.async false
set_option linter.unusedVariables false
set_option maxRecDepth 100000
set_option maxHeartbeats 2000000
namespace NP
open PySem PySem.Spec PyProof.Rows L2 Evl NS
section
variable {P : Program} {w : World} {K : PySem.W.Frag} {mg : Str → Option Value} {base : Heap}
theorem perm_sorted : ∀ {l m : List Int}, l.Perm m → l.Pairwise (· ≤ ·) → m.Pairwise (· ≤ ·) → l = m := by
  intro l m hp h1 h2
  exact hp.eq_of_pairwise (fun a b _ _ h3 h4 => Int.le_antisymm h3 h4) h1 h2
theorem given_filter {A : Type} (l : List A) (d : A) (f : A → Bool) (g : A → V) : given l.length (fun i => f (l.getD i d)) (fun i => g (l.getD i d)) = (l.filter f).map g := by
  unfold given
  have h : (List.range l.length).map (fun i => l.getD i d) = l := by
    apply List.ext_getElem
    · simp
    · intro i h1 h2
      simp only [List.getElem_map, List.getElem_range]
      simp at h1
      simp [List.getD, h1]
  have e : l.filter f = (((List.range l.length).map (fun i => l.getD i d)).filter f) := by rw [h]
  rw [e, List.filter_map, List.map_map]
  rfl

theorem qsV_get : ∀ {qs : Qs}, (qs.map Prod.fst).Pairwise (· < ·) → ∀ {i : Nat} {q : Nat × Addr × IP}, qs[i]? = some q → valV (qsV qs) (Sum.inl (q.1 : Int)) = some (.ref q.2.1)
  | [], _, i, q, h => by simp at h
  | a :: qs, hs, 0, q, h => by
    have e : a = q := by simpa using h
    subst e
    exact valV_pos rfl
  | a :: qs, hs, i + 1, q, h => by
    have h' : qs[i]? = some q := by simpa using h
    rw [List.map_cons, List.pairwise_cons] at hs
    have hlt := hs.1 q.1 (List.mem_map_of_mem (List.mem_of_getElem? h'))
    show valV ((Sum.inl (a.1 : Int), V.ref a.2.1) :: qsV qs) _ = _
    rw [valV_neg (fun e => by injection e with e; omega)]
    exact qsV_get hs.2 h'
theorem qs_fst (qs : Qs) : (qsS qs).map Prod.fst = qs.map Prod.fst := by simp [qsS]
theorem el_sortedD {σ : L2.St} {H : Hp} {ta : TE} {d : Addr} {qs : Qs} (ha : Ev ta σ H (.ref d)) (hd : H d = some (.dK (qsV qs))) (hs : (qs.map Prod.fst).Pairwise (· < ·)) (hl : qs.length < 64) :
    EvL (tCB (fun xs H Q => ∃ (a : Addr) (kvs : List (Key × V)) (ks : List Int), xs = [.ref a] ∧ Rd H a (.dK kvs) ∧ kvs.map (·.1) = ks.map Sum.inl ∧ ks.length < 64 ∧ ∀ (ys : List Int) (p : Addr), ys.Perm ks → ys.Pairwise (· ≤ ·) → H p = none → Q (.ref p) (upd H p (.lst (ys.map V.int)))) (tCons ta tNil)) σ H
      ((qs.map fun q => (q.1 : Int)).map V.int) := fun H1 e Q q =>
  ha H1 e _ fun H2 e2 => ⟨d, qsV qs, qs.map fun q => (q.1 : Int), rfl, .inl ((e.trans e2) _ _ hd), by simp [qsV], by simpa using hl, fun ys p hp hy hn => by
    have hk : (qs.map fun q => (q.1 : Int)).Pairwise (· ≤ ·) := by
      rw [List.pairwise_map] at hs ⊢
      exact hs.imp fun h => by omega
    rw [perm_sorted hp hy hk]
    exact q p _ (fresh_back e2 hn) (e2.trans (Ex.new hn)) upd_same⟩
theorem ev_dget {σ : L2.St} {H : Hp} {ta tb : TE} {d a : Addr} {qs : Qs} {k : Nat} (ha : Ev ta σ H (.ref d)) (hb : Ev tb σ H (.int (k : Int))) (hd : H d = some (.dK (qsV qs))) (hv : valV (qsV qs) (Sum.inl (k : Int)) = some (.ref a)) :
    Ev (tDGet ta tb) σ H (.ref a) := fun H1 e Q q =>
  ha H1 e _ fun H2 e2 => hb H2 (e.trans e2) _ fun H3 e3 => ⟨d, .ref a, rfl, by rw [← hv]; exact DGet.k (k := Sum.inl (k : Int)) ((e.trans (e2.trans e3)) _ _ hd), q H3 (e2.trans e3)⟩

/-! ### names_up_to -/
def natV (l : List Nat) : List V := l.map fun (n : Nat) => V.int (n : Int)
def spUpTo (K : PySem.W.Frag) (C : Addr) : Sp := fun vs H Q _ => ∃ (l p : Addr) (m : Ld) (most : Int) (c : Pl), vs = [.ref l, .int most, .ref p] ∧ LandAt K C H l m ∧ Wf m ∧ PlAt K H p c ∧ SmallP c ∧ RetL (natV (mupto m most c)) H Q
theorem InSq.small {s : IP} (h : InSq s) : SmallS s := by
  unfold InSq inSq at h
  unfold SmallS Bd
  omega
theorem ok_upto (T : Tx K mg) : FnOk P w K mg base CX0 2 T.names_up_to.f T.names_up_to.d ["self", "most", "place"] (spUpTo K T.C) := by
  have G_far_times : FnOk P w K mg base CX0 1 T.far_times.f T.far_times.d ["place", "site"] (spFar K) := ok_far T
  refine T.names_up_to.F.ok sc_names_up_to (fun vs H Q E h => ?_) (fun cdv A outer s H vs Q E hr h => ?_)
  · obtain ⟨l, p, m, most, c, rfl, _⟩ := h
    rfl
  · obtain ⟨l, p, m, most, c, rfl, hL, wf, hp, hc, ret⟩ := h
    have hu := hu_of hr
    refine ⟨_, (pss_one (ps_ret (pe_lc (own := [("name", 3)]) (g := gName 3) rfl sc_names_up_to.nd (pi_list (pe_callB (call_sortedDI rfl) (by rfl) T.b_sorted (by decide +kernel) (pa_cons (pe_fld (pv 0) rfl) pa_nil))) (blkOk_by (own := [("name", 3)]) (N := ["self", "most", "place", "name"]) (sc := defScope s_names_up_to) (by decide +kernel)) (fun _ _ _ _ _ => pg_name (i := 3) sc_names_up_to.nd rfl (Or.inl rfl)) (fun _ _ _ _ _ => by exact (pts_one (pt_cmpR op_le (pe_call G_far_times (hr.mono (by decide)) rfl T.far_times.mg T.far_times.F.kp T.far_times.b .nil pass0 (pa_cons (pv 2) (pa_cons (by exact pe_dget (td := tFld K (tVar 0) "places") (ty := tVar 3) hu (pe_fld (pv 0) rfl) (pv 3) (fun _ _ => rfl)) pa_nil))) (pv 1) (nomark _)))) (fun _ _ _ _ _ => by exact (pv 3))))), ?_⟩
    obtain ⟨dx, d, qs, h1, h2, h3, h4⟩ := hL
    have hrise : (qs.map Prod.fst).Pairwise (· < ·) := by rw [← qs_fst, h3]; exact wf.rise
    have hlq : qs.length = m.sites.length := by rw [← h3]; simp [qsS]
    have hms : ∀ i q, qs[i]? = some q → m.sites.getD i (0, (0, 0)) = (q.1, q.2.2) := by
      intro i q hq
      rw [← h3, List.getD_eq_getElem?_getD]
      unfold qsS
      rw [List.getElem?_map, hq]
      rfl
    refine s_retL (xs := natV (mupto m most c)) ?_ fun q H2 hq e2 h2 => ret q H2 hq e2 h2
    have key := el_lcNL (K := K) (t := tTest (tOp (rI0 fun i j => V.bl (decide (i ≤ j))) (tCall (spFar K) [] E0 (tCons (tVar 2) (tCons (tDGet (tFld K (tVar 0) "places") (tVar 3)) tNil))) (tVar 1))) (te := tVar 3) (j := 3) (vs := [3])
      (σ := [some (.ref l), some (.int most), some (.ref p), none]) (H := H)
      (fun i => decide (mfar c (m.sites.getD i (0, (0, 0))).2 ≤ most)) (fun i => V.int ((m.sites.getD i (0, (0, 0))).1 : Int))
      (el_sortedD (ta := tFld K (tVar 0) "places") (ev_places (i := 0) rfl h1) h2 hrise (by have := wf.few; omega)) (by have := wf.few; simp; omega) (fun x => rfl) ?_ ?_
    · have e1 : ((qs.map fun q => (q.1 : Int)).map V.int).length = m.sites.length := by simp [hlq]
      rw [e1, given_filter m.sites (0, (0, 0)) (fun z => decide (mfar c z.2 ≤ most)) (fun z => V.int (z.1 : Int))] at key
      have e2 : natV (mupto m most c) = (m.sites.filter fun z => decide (mfar c z.2 ≤ most)).map fun z => V.int (z.1 : Int) := by
        unfold natV mupto
        rw [List.map_map]
        rfl
      rw [e2]
      exact key
    · intro i x H1 e1 hx
      rw [List.map_map, List.getElem?_map] at hx
      obtain ⟨q, hq, rfl⟩ := Option.map_eq_some_iff.mp hx
      rw [hms i q hq]
      have hmem : (q.1, q.2.2) ∈ m.sites := by rw [← h3]; unfold qsS; exact List.mem_map_of_mem (f := fun q : Nat × Addr × IP => (q.1, q.2.2)) (List.mem_of_getElem? hq)
      exact et_test (ev_le (ev_call (vs := [.ref p, .ref q.2.1]) (ea_cons (ev_var rfl) (ea_cons (ev_dget (k := q.1) (ev_places rfl (e1 _ _ h1)) (ev_var rfl) (e1 _ _ h2) (qsV_get hrise hq)) ea_nil)) (spFar_V (hp.ex e1) ((h4 q (List.mem_of_getElem? hq)).ex e1) hc (InSq.small (wf.sq _ hmem)))) (ev_var rfl))
    · intro i x H1 e1 hx _
      rw [List.map_map, List.getElem?_map] at hx
      obtain ⟨q, hq, rfl⟩ := Option.map_eq_some_iff.mp hx
      rw [hms i q hq]
      exact ev_var rfl
end
end NP

set_option Elab.async false
set_option linter.unusedVariables false
set_option maxRecDepth 100000
set_option maxHeartbeats 2000000
namespace NP
open PySem PySem.Spec PyProof.Rows L2 Evl NS
/-- the square as the top has written it -/
structure Sqr (K : PySem.W.Frag) (mg : Str → Option Value) : Type where
  a : Addr
  g : mg "SQUARE" = some (.ref a)
  ps : List (Addr × Pl)
  is : ps.map Prod.snd = msquare
  at_ : ∀ H, SqT K H a (refs ps)
  all : ∀ H, AllAt K H ps
section
variable {P : Program} {w : World} {K : PySem.W.Frag} {mg : Str → Option Value} {base : Heap}
theorem sqT_upd {H : Hp} {a p : Addr} {xs : List V} {o : HO} (h : SqT K H a xs) (h1 : ∀ ys, H p ≠ some (.tup ys)) (h2 : ∀ u ys, H p ≠ some (.frz u (.tup ys))) : SqT K (upd H p o) a xs := by
  rcases h with (h | ⟨o', h⟩) | h
  · refine .inl (.inl ?_)
    rw [upd_ne (by rintro rfl; exact h1 _ h)]
    exact h
  · refine .inl (.inr ⟨o', ?_⟩)
    rw [upd_ne (by rintro rfl; exact h2 _ _ h)]
    exact h
  · exact .inr h
theorem upd_back {H H' : Hp} {d : Addr} {u f : HO} (hd : H d = some u) (e : Ex (upd H d f) H') : Ex H (upd H' d u) := fun b o hb => by
  by_cases h : b = d
  · subst h
    rw [upd_same]
    exact hd.symm.trans hb
  · rw [upd_ne h]
    exact e b o (by rw [upd_ne h]; exact hb)
theorem q_forVals {σ : L2.St} {H : Hp} {td : TE} {tu tz : TS} {D : Ends} {d : Addr} {kvs : List (Key × V)} {j : Nat} (hd : H d = some (.dK kvs)) (htd : ∀ od, Ev td σ (upd H d (.frz od (.dK kvs))) (.ref d))
    (Pv : Obj → Nat → L2.St → Hp → Prop) (h0 : ∀ od H1, Ex (upd H d (.frz od (.dK kvs))) H1 → Pv od 0 σ H1) (hG : ∀ od i σ' H', Pv od i σ' H' → Ex (upd H d (.frz od (.dK kvs))) H')
    (hs : ∀ rt bk ct od i k x σ' H', kvs[i]? = some (k, x) → Pv od i σ' H' → tu ⟨Pv od (i + 1), rt, bk, ct⟩ (σ'.set j (some x)) H')
    (hk : ∀ od σ' H', Pv od kvs.length σ' H' → tz D σ' (upd H' d (.dK kvs))) : tSeq (tLock (tFor (iVals td) (gName j) tu)) tz D σ H := by
  refine ⟨d, _, hd, trivial, fun od => ?_⟩
  refine htd od _ (Ex.refl _) _ fun H1 e1 => ?_
  have g1 : ∀ H', Ex (upd H d (.frz od (.dK kvs))) H' → H' d = some (.frz od (.dK kvs)) := fun H' e => e _ _ upd_same
  refine ⟨d, od, kvs, rfl, g1 H1 e1, for_it walk_values (Pv od) (h0 od H1 e1) (fun i σ' H' _ p => g1 H' (hG od i σ' H' p)) ?_ ?_⟩
  · rintro i x σ' H2 H' hi p ⟨rfl, k, hx⟩
    exact hs _ _ _ od i k x σ' H' hx p
  · intro σ' H' p
    exact ⟨g1 H' (hG od _ σ' H' p), hk od σ' H' p⟩
theorem s_asgCs {σ : L2.St} {H : Hp} {D : Ends} {sp : Sp} {dvs vs : List V} {E : XK} {ta : TA} {i : Nat} {cs : List Pl} (h : EvA ta σ H vs) (hs : ∀ H1, Ex H H1 → ∀ Q, RetCs K cs H1 Q → ∀ E, sp (vs ++ dvs) H1 Q E)
    (k : ∀ p H' ps, H p = none → Ex H H' → ps.map Prod.snd = cs → H' p = some (.lst (refs ps)) → AllAt K H' ps → D.nx (σ.set i (some (.ref p))) H') : tAsg (tCall sp dvs E ta) (gName i) D σ H :=
  h H (Ex.refl H) _ fun H1 e1 => hs H1 e1 _ (fun p H' ps hp e2 h1 h2 h3 => k p H' ps (fresh_back e1 hp) (e1.trans e2) h1 h2 h3) E
theorem ev_neIp {σ : L2.St} {H : Hp} {ta tb : TE} {a b : Addr} {s t : IP} (ha : Ev ta σ H (.ref a)) (hb : Ev tb σ H (.ref b)) (h1 : IpAt K H a s) (h2 : IpAt K H b t) : Ev (tOp (rNeD K) ta tb) σ H (.bl (!decide (s = t))) := by
  refine ev_op ha hb fun H1 e Q q => ⟨ipD s, ipD t, dp_ip (h1.ex e), dp_ip (h2.ex e), shaped_ip s, shaped_ip t, ?_⟩
  rw [eqv_ip]
  exact q H1 (Ex.refl H1)

/-! ### corners_of -/
def spCorners (K : PySem.W.Frag) (C : Addr) : Sp := fun vs H Q _ => ∃ (l : Addr) (m : Ld) (k : Nat) (s : IP), vs = [.ref l, .int (k : Int)] ∧ LandAt K C H l m ∧ Wf m ∧ (k, s) ∈ m.sites ∧ RetCs K (mring s (mothers m s)) H Q
theorem smallC_of {c : Pl} (h : Small c) : SmallC c := by
  refine ⟨⟨?_, ?_, ?_⟩, h.w0⟩ <;> unfold Bd
  · have := h.x; omega
  · have := h.y; omega
  · have := h.w0; have := h.w1; omega
theorem ok_corners (T : Tx K mg) (S : Sqr K mg) : FnOk P w K mg base CX0 4 T.corners_of.f T.corners_of.d ["self", "name"] (spCorners K T.C) := by
  have G_cut : FnOk P w K mg base CX0 3 T.cut.f T.cut.d ["corners", "own", "other"] (spCut K) := ok_cut T
  refine T.corners_of.F.ok sc_corners_of (fun vs H Q E h => ?_) (fun cdv A outer s H vs Q E hr h => ?_)
  · obtain ⟨l, m, k, s, rfl, _⟩ := h
    rfl
  · obtain ⟨l, m, k, s, rfl, hL, wf, hks, ret⟩ := h
    have hu := hu_of hr
    refine ⟨_, (pss_cons (ps_set (i := 2) sc_corners_of.nd rfl (Or.inl rfl) (pe_dget hu (pe_fld (pv 0) rfl) (pv 1) (fun _ _ => rfl)))
      (pss_cons (ps_set (i := 3) sc_corners_of.nd rfl (Or.inl rfl) (pe_callTy call_list_of (by rfl) T.b_list (by decide +kernel) (pa_cons (pe_glob (v := .ref S.a) rfl S.g rfl) pa_nil)))
      (pss_cons (ps_lock (ps_for PassesOwn.never rfl (pi_values (pe_fld (pv 0) rfl)) (pg_name (i := 4) sc_corners_of.nd rfl (Or.inl rfl))
        (pss_one (ps_if (pt_cmpR (op_neD hr.units) (pv 4) (pv 2) (nomark _))
          (pss_one (ps_set (i := 3) sc_corners_of.nd rfl (Or.inl rfl) (pe_call G_cut (hr.mono (by decide)) rfl T.cut.mg T.cut.F.kp T.cut.b .nil pass0 (pa_cons (pv 3) (pa_cons (pv 2) (pa_cons (pv 4) pa_nil))))))
          pss_nil))))
      (pss_one (ps_ret (pv 3)))))), ?_⟩
    obtain ⟨dx, d, qs, h1, h2, h3, h4⟩ := hL
    have hrise : (qs.map Prod.fst).Pairwise (· < ·) := by rw [← qs_fst, h3]; exact wf.rise
    have hlq : qs.length = m.sites.length := by rw [← h3]; simp [qsS]
    obtain ⟨i0, ⟨k', a0, s'⟩, hq0, e0⟩ : ∃ (i : Nat) (q : Nat × Addr × IP), qs[i]? = some q ∧ (q.1, q.2.2) = (k, s) := by
      rw [← h3] at hks
      unfold qsS at hks
      obtain ⟨q, hq, e⟩ := List.mem_map.mp hks
      obtain ⟨i, hi, rfl⟩ := List.getElem_of_mem hq
      exact ⟨i, _, List.getElem?_eq_getElem hi, e⟩
    cases e0
    have hq0m := List.mem_of_getElem? hq0
    refine q_asg (v := .ref a0) (ev_dget (k := k') (ev_places rfl h1) (ev_var rfl) h2 (qsV_get hrise hq0)) fun H1 e1 => ?_
    refine q_asgL (xs := refs S.ps) (el_cb (vs := [.ref S.a]) (ea_cons ev_c ea_nil) (fun H2 e2 Q q => ⟨S.a, refs S.ps, rfl, .inr (S.at_ H2), fun n hn => q n _ hn (Ex.new hn) upd_same⟩)) fun cp H2 hcp e2 hc2 => ?_
    have e02 := e1.trans e2
    have hld : l ≠ d := by
      rintro rfl
      rw [h1] at h2
      cases h2
    have hdlk : ∀ od, Ev (tFld K (tVar 0) "places") [some (.ref l), some (.int (k' : Int)), some (.ref a0), some (.ref cp), none] (upd H2 d (.frz od (.dK (qsV qs)))) (.ref d) := fun od =>
      ev_places (T := T) (i := 0) (n := m.given) (dx := dx) rfl (by rw [upd_ne hld]; exact e02 _ _ h1)
    have ipL : ∀ od {a : Addr} {t : IP}, IpAt K H a t → IpAt K (upd H2 d (.frz od (.dK (qsV qs)))) a t := fun od {a t} h => by
      refine sqT_upd (h.ex e02) ?_ ?_
      · intro ys hy
        rw [e02 _ _ h2] at hy
        cases hy
      · intro u ys hy
        rw [e02 _ _ h2] at hy
        cases hy
    refine q_forVals (e02 _ _ h2) hdlk (fun od i σ' H' => ∃ (x : Option V) (c : Addr) (ps : List (Addr × Pl)), σ' = [some (.ref l), some (.int (k' : Int)), some (.ref a0), some (.ref c), x] ∧
        Ex (upd H2 d (.frz od (.dK (qsV qs)))) H' ∧ H c = none ∧ H' c = some (.lst (refs ps)) ∧ AllAt K H' ps ∧ ps.map Prod.snd = mring s' ((((qsS qs).take i).map Prod.snd).filter fun t => decide (t ≠ s'))) ?_ ?_ ?_ ?_
    · intro od H3 e3
      have hcd : cp ≠ d := by
        rintro rfl
        rw [e1 _ _ h2] at hcp
        cases hcp
      exact ⟨none, cp, S.ps, rfl, e3, fresh_back e1 hcp, e3 _ _ (by rw [upd_ne hcd]; exact hc2), S.all _, S.is⟩
    · rintro od i σ' H' ⟨x, c, ps, rfl, e, _⟩
      exact e
    · rintro rt bk ct od i kk x0 σ' H' hx ⟨x, c, ps, rfl, e, hc0, hc, hall, hps⟩
      obtain ⟨q, hq, hqe⟩ : ∃ q, qs[i]? = some q ∧ x0 = .ref q.2.1 := by
        unfold qsV at hx
        rw [List.getElem?_map] at hx
        obtain ⟨q, hq, e⟩ := Option.map_eq_some_iff.mp hx
        exact ⟨q, hq, (congrArg Prod.snd e).symm⟩
      subst hqe
      have hqm := List.mem_of_getElem? hq
      have ht : (qsS qs).take (i + 1) = (qsS qs).take i ++ [(q.1, q.2.2)] := by
        rw [List.take_add_one]
        unfold qsS
        rw [List.getElem?_map, hq]
        rfl
      have hoth : ∀ (j : Nat), ∀ t ∈ (((qsS qs).take j).map Prod.snd).filter (fun t => decide (t ≠ s')), InSq t ∧ s' ≠ t := by
        intro j t htm
        obtain ⟨h5, h6⟩ := List.mem_filter.mp htm
        obtain ⟨z, hz, rfl⟩ := List.mem_map.mp h5
        have hz' : z ∈ m.sites := by rw [← h3]; exact List.mem_of_mem_take hz
        exact ⟨wf.sq z hz', fun e => (of_decide_eq_true h6) e.symm⟩
      have hsq : InSq s' := wf.sq _ hks
      have hsm := mring_small hsq (hoth i)
      have hln := mring_len hsq (hoth i)
      have hfl : ((((qsS qs).take i).map Prod.snd).filter fun t => decide (t ≠ s')).length ≤ 8 := by
        refine Nat.le_trans (List.length_filter_le _ _) ?_
        rw [List.length_map, List.length_take, h3]
        have := wf.few
        omega
      have iq : IpAt K H' q.2.1 q.2.2 := (ipL od (h4 q hqm)).ex e
      have i0' : IpAt K H' a0 s' := (ipL od (h4 _ hq0m)).ex e
      refine s_when (et_test (ev_neIp (ev_var rfl) (ev_var rfl) iq i0')) (fun hb H3 e3 => ?_) (fun hb H3 e3 => ?_)
      · have hne : q.2.2 ≠ s' := by simpa using hb
        have hqS : InSq q.2.2 := wf.sq (q.1, q.2.2) (by rw [← h3]; unfold qsS; exact List.mem_map_of_mem (f := fun q : Nat × Addr × IP => (q.1, q.2.2)) hqm)
        refine s_asgCs (K := K) (cs := mcut s' q.2.2 (mring s' ((((qsS qs).take i).map Prod.snd).filter fun t => decide (t ≠ s')))) (vs := [.ref c, .ref a0, .ref q.2.1]) (ea_cons (ev_var rfl) (ea_cons (ev_var rfl) (ea_cons (ev_var rfl) ea_nil))) ?_ ?_
        · intro H4 e4 Q2 r2 E2
          refine ⟨c, a0, q.2.1, _, s', q.2.2, rfl, ⟨ps, hps, sq_of ((e3.trans e4) _ _ hc), hall.ex (e3.trans e4)⟩, ?_, by omega, fun c0 hc0 => smallC_of (hsm c0 hc0), i0'.ex (e3.trans e4), iq.ex (e3.trans e4), InSq.small hsq, InSq.small hqS, r2⟩
          intro hnil
          rw [hnil] at hln
          simp at hln
        · intro p H4 ps4 hp4 e4 hps4 hp4l hall4
          refine ⟨some (.ref q.2.1), p, ps4, rfl, e.trans (e3.trans e4), ?_, hp4l, hall4, ?_⟩
          · have hpd : p ≠ d := by
              rintro rfl
              rw [(e.trans e3) _ _ upd_same] at hp4
              cases hp4
            have := fresh_back (e.trans e3) hp4
            rw [upd_ne hpd] at this
            exact fresh_back e02 this
          · rw [hps4, ht, List.map_append, List.filter_append]
            have e5 : (List.filter (fun t => decide (t ≠ s')) (List.map Prod.snd [(q.1, q.2.2)])) = [q.2.2] := by
              simp [hne]
            rw [e5]
            unfold mring
            rw [List.foldl_append]
            rfl
      · have heq : q.2.2 = s' := by simpa using hb
        refine ⟨some (.ref q.2.1), c, ps, rfl, e.trans e3, hc0, e3 _ _ hc, hall.ex e3, ?_⟩
        rw [hps, ht, List.map_append, List.filter_append]
        have e5 : (List.filter (fun t => decide (t ≠ s')) (List.map Prod.snd [(q.1, q.2.2)])) = [] := by
          simp [heq]
        rw [e5, List.append_nil]
    · rintro od σ' H' ⟨x, c, ps, rfl, e, hc0, hc, hall, hps⟩
      have eb := upd_back (e02 _ _ h2) e
      have hcd : c ≠ d := by
        rintro rfl
        rw [h2] at hc0
        cases hc0
      have hHd : H' d = some (.frz od (.dK (qsV qs))) := e _ _ upd_same
      refine s_ret (ev_var rfl) fun H3 e3 => ?_
      refine ret c H3 ps hc0 (e02.trans (eb.trans e3)) ?_ (e3 _ _ (by rw [upd_ne hcd]; exact hc)) ?_
      · rw [hps]
        unfold mothers
        rw [← h3]
        congr 3
        have : (qsV qs).length = (qsS qs).length := by simp [qsV, qsS]
        rw [this, List.take_length]
      · intro q hq
        refine PlAt.ex (sqT_upd (hall q hq) ?_ ?_) e3
        · intro ys hy
          rw [hHd] at hy
          cases hy
        · intro u ys hy
          rw [hHd] at hy
          cases hy
end
end NP

set_option Elab.async false
set_option linter.unusedVariables false
set_option maxRecDepth 100000
set_option maxHeartbeats 2000000
namespace NP
open PySem PySem.Spec PyProof.Rows L2 Evl NS
section
variable {P : Program} {w : World} {K : PySem.W.Frag} {mg : Str → Option Value} {base : Heap}
theorem upd_ex {H H' : Hp} {d : Addr} {f : HO} (e : Ex H H') : Ex (upd H d f) (upd H' d f) := fun b o hb => by
  by_cases h : b = d
  · subst h
    rw [upd_same] at hb ⊢
    exact hb
  · rw [upd_ne h] at hb ⊢
    exact e b o hb
theorem el_lcVals {σ : L2.St} {H : Hp} {td te : TE} {d : Addr} {kvs : List (Key × V)} {j : Nat} {vs : List Nat} (v : Nat → V) (hd : H d = some (.dK kvs)) (hz : kvs.length ≤ 40000) (htd : ∀ od, Ev td σ (upd H d (.frz od (.dK kvs))) (.ref d))
    (hw : ∀ x, wipe ((wipe σ vs).set j (some x)) vs = wipe σ vs) (he : ∀ od i k x, kvs[i]? = some (k, x) → Ev te ((wipe σ vs).set j (some x)) (upd H d (.frz od (.dK kvs))) (v i)) :
    EvL (tLockE (tLc (iVals td) (gName j) tYes te vs)) σ H ((List.range kvs.length).map v) := by
  intro H0 e Q q
  refine ⟨d, _, e _ _ hd, trivial, fun od => ?_⟩
  have eL : Ex (upd H d (.frz od (.dK kvs))) (upd H0 d (.frz od (.dK kvs))) := upd_ex e
  refine htd od _ eL _ fun H1 e1 => ?_
  refine ⟨d, od, kvs, rfl, e1 _ _ upd_same, fun Dl hD => ?_⟩
  have hDd : Dl ≠ d := by
    rintro rfl
    rw [e1 _ _ upd_same] at hD
    cases hD
  refine lc_it walk_values (fun i H' => Ex H1 H' ∧ H' Dl = some (.lst ((List.range i).map v))) ⟨Ex.new hD, upd_same⟩ (fun i H' _ p => p.1 _ _ (e1 _ _ upd_same)) ?_ ?_
  · rintro i x H2 H' hi ⟨p1, p2⟩ ⟨rfl, k, hx⟩
    refine ⟨hw x, ?_⟩
    refine he od i k x hx H' (eL.trans (e1.trans p1)) _ fun H4 e4 => ⟨_, e4 _ _ p2, ?_, Ex.mut (p1.trans e4) hD, ?_⟩
    · have : ((List.range i).map v).length = i := by simp
      rw [this]
      exact Nat.lt_of_lt_of_le hi (Nat.le_trans hz (by decide))
    · rw [upd_same, List.range_succ, List.map_append]
      rfl
  · rintro H' ⟨p1, p2⟩
    refine ⟨p1 _ _ (e1 _ _ upd_same), q Dl _ ?_ (upd_back (e _ _ hd) (e1.trans p1)) ?_⟩
    · have := fresh_back e1 hD
      rw [upd_ne hDd] at this
      exact this
    · rw [upd_ne hDd]
      exact p2
/-- a method's call that makes a list and changes nothing else -/
theorem el_meth {σ : L2.St} {H : Hp} {C l dx : Addr} {f : Str} {sp : Sp} {dvs vs xs : List V} {E : XK} {ta : TE} {t : TA} {fs : List (Str × V)} (ha : Ev ta σ H (.ref l)) (hl : H l = some (.ins C dx fs)) (lk : fs.lookup f = none) (h : EvA t σ H vs) (hs : SpL sp (.ref l :: (vs ++ dvs)) H xs) :
    EvL (tMeth C f sp dvs E ta t) σ H xs := fun H1 e Q q =>
  ha H1 e _ fun H2 e2 => ⟨l, dx, fs, rfl, (e.trans e2) _ _ hl, lk, h H2 (e.trans e2) _ fun H3 e3 => hs H3 (e.trans (e2.trans e3)) Q (fun p H4 hp e4 h4 => q p H4 (fresh_back (e2.trans e3) hp) ((e2.trans e3).trans e4) h4) E⟩
theorem lF_none (d : Addr) (n : Nat) (f : Str) (h1 : (f == ("places" : Str)) = false) (h2 : (f == ("fresh_name" : Str)) = false) : (lF d n).lookup f = none := (lk_past h1).trans ((lk_past h2).trans rfl)
theorem spUpTo_L {H : Hp} {C l p : Addr} {m : Ld} {most : Int} {c : Pl} (h1 : LandAt K C H l m) (h2 : Wf m) (h3 : PlAt K H p c) (h4 : SmallP c) : SpL (spUpTo K C) [.ref l, .int most, .ref p] H (natV (mupto m most c)) :=
  fun H1 e _ q _ => ⟨l, p, m, most, c, rfl, h1.ex e, h2, h3.ex e, h4, fun p H' hp e hl => q p H' hp e hl⟩

/-! ### within -/
theorem mplaceOf_small {a b c d : Int} (h : mplace a b c d = true) : SmallP (mplaceOf a b c d) ∧ Bd 20 (mplaceOf a b c d).2.2 ∧ 0 < (mplaceOf a b c d).2.2 := by
  obtain ⟨b1, b2, b3, b4, b5, b6⟩ := mplace_bd h
  exact ⟨⟨(b1.mul b4).mono (by decide), (b3.mul b2).mono (by decide), (b2.mul b4).mono (by decide)⟩, b2.mul b4, Int.mul_pos (by omega) (by omega)⟩
def spWithin (K : PySem.W.Frag) (C : Addr) : Sp := fun vs H Q _ => ∃ (l p : Addr) (m : Ld) (far a b c d : Int), vs = [.ref l, .int far, .ref p] ∧ LandAt K C H l m ∧ Wf m ∧ SqL K H p [.int a, .int b, .int c, .int d] ∧ Bd 40 far ∧
  RetL ((mwithin m far a b c d).map V.int) H Q
theorem ok_within (T : Tx K mg) : FnOk P w K mg base CX0 3 T.within.f T.within.d ["self", "far", "told"] (spWithin K T.C) := by
  have G_is_place : FnOk P w K mg base CX0 2 T.is_place.f T.is_place.d ["told"] (spIsPlace K) := ok_isplace T
  have G_place_of : FnOk P w K mg base CX0 1 T.place_of.f T.place_of.d ["told"] (spPlaceOf K) := ok_placeof T
  have G_names_up_to : FnOk P w K mg base CX0 2 T.names_up_to.f T.names_up_to.d ["self", "most", "place"] (spUpTo K T.C) := ok_upto T
  refine T.within.F.ok sc_within (fun vs H Q E h => ?_) (fun cdv A outer s H vs Q E hr h => ?_)
  · obtain ⟨l, p, m, far, a, b, c, d, rfl, _⟩ := h
    rfl
  · obtain ⟨l, p, m, far, a, b, c, d, rfl, hL, wf, hp, hf, ret⟩ := h
    refine ⟨_, (pss_cons (ps_if (pt_not (pt_val (pe_call G_is_place (hr.mono (by decide)) rfl T.is_place.mg T.is_place.F.kp T.is_place.b .nil pass0 (pa_cons (pv 2) pa_nil))))
        (pss_one (ps_ret (pe_lst (pa_cons (pe_glob rfl T.g_WRONG_PLACE.choose_spec rel_int) pa_nil))))
        pss_nil)
      (pss_cons (ps_set (i := 3) sc_within.nd rfl (Or.inl rfl) (pe_call G_place_of (hr.mono (by decide)) rfl T.place_of.mg T.place_of.F.kp T.place_of.b .nil pass0 (pa_cons (pv 2) pa_nil)))
      (pss_cons (ps_set (i := 4) sc_within.nd rfl (Or.inl rfl) (pe_meth (pv 0) T.cl T.names_up_to.m G_names_up_to (hr.mono (by decide)) T.names_up_to.b .nil pass0 (pa_cons (pe_op op_mulW (pe_op op_mulW (pv 1) (pe_ix ix_tup (pv 3) pe_int (fun _ _ => rfl))) (pe_ix ix_tup (pv 3) pe_int (fun _ _ => rfl))) (pa_cons (pv 3) pa_nil))))
      (pss_one (ps_ret (pe_op op_cat (pe_lst (pa_cons (pe_callB call_len_seq (by rfl) T.b_len PySem.boot_len (pa_cons (pv 4) pa_nil)) pa_nil)) (pv 4))))))), ?_⟩
    unfold mwithin at ret
    refine q_when (b := !mplace a b c d) (et_not (et_B (ev_call (vs := [.ref p]) (ea_cons (ev_var rfl) ea_nil) (spIsPlace_V hp)))) (fun hb H1 e1 => ?_) (fun hb H1 e1 => ?_)
    · rw [if_pos (by simpa using hb)] at ret
      exact s_retL (el_lst (ea_cons ev_c ea_nil) (by show 1 ≤ 100000; decide)) fun q H2 hq e2 hl => ret.go e1 hq e2 hl
    · have hpl : mplace a b c d = true := by simpa using hb
      rw [if_neg (by rw [hpl]; decide)] at ret
      simp only at ret
      obtain ⟨s1, s2, s3⟩ := mplaceOf_small hpl
      refine q_asgU (eu_call (vs := [.ref p]) (ea_cons (ev_var rfl) ea_nil) (spPlaceOf_U (ex_l e1 hp) hpl)) fun pl H2 hpl2 e2 h2 => ?_
      have hplA : PlAt K H2 pl (mplaceOf a b c d) := st_of h2
      have hL2 := hL.ex (e1.trans e2)
      obtain ⟨dx, dd, qs, g1, g2, g3, g4⟩ := hL2
      refine q_asgL (el_meth (vs := [.int (far * (mplaceOf a b c d).2.2 * (mplaceOf a b c d).2.2), .ref pl]) (ev_var rfl) g1 (lF_none _ _ _ (by decide +kernel) (by decide +kernel))
        (ea_cons (ev_mul (ev_mul (ev_var rfl) (ev_w rfl hplA) hf s2 (by decide)) (ev_w rfl hplA) (hf.mul s2) s2 (by decide)) (ea_cons (ev_var rfl) ea_nil)) (spUpTo_L ⟨dx, dd, qs, g1, g2, g3, g4⟩ wf hplA s1)) fun nl H3 hnl e3 h3 => ?_
      have hlen : (mupto m (far * (mplaceOf a b c d).2.2 * (mplaceOf a b c d).2.2) (mplaceOf a b c d)).length ≤ 8 := by
        unfold mupto
        rw [List.length_map]
        exact Nat.le_trans (List.length_filter_le _ _) wf.few
      generalize mupto m (far * (mplaceOf a b c d).2.2 * (mplaceOf a b c d).2.2) (mplaceOf a b c d) = names at *
      have hnv : (natV names).length = names.length := by simp [natV]
      refine s_retL (el_catNV (el_lst (ea_cons (ev_is (ev_len (ev_var rfl) (sq_of h3)) (by rw [hnv])) ea_nil) (by show 1 ≤ 100000; decide)) (ev_var rfl) h3 (by rw [hnv]; show 1 + names.length ≤ 100000; omega)) fun q H4 hq e4 h4 => ?_
      refine ret.go (e1.trans (e2.trans e3)) hq e4 ?_
      rw [h4]
      simp [natV]
end
end NP

set_option Elab.async false
set_option linter.unusedVariables false
set_option maxRecDepth 100000
set_option maxHeartbeats 2000000
namespace NP
open PySem PySem.Spec PyProof.Rows L2 Evl NS
section
variable {P : Program} {w : World} {K : PySem.W.Frag} {mg : Str → Option Value} {base : Heap}

/-! ### nearest -/
theorem mleast_is {m : Ld} {pl : Pl} {v : Int} (h1 : v ∈ m.sites.map fun z => mfar pl z.2) (h2 : ∀ y ∈ m.sites.map (fun z => mfar pl z.2), v ≤ y) : mleast m pl = v := by
  unfold mleast
  rw [List.min?_eq_some_iff.mpr ⟨h1, h2⟩]
  rfl
theorem mfar_bd {c : Pl} {s : IP} (hc : SmallP c) (hs : SmallS s) : Bd 300 (mfar c s) := by
  obtain ⟨c1, c2, c3⟩ := hc
  obtain ⟨s1, s2⟩ := hs
  have b1 := c1.sub (s1.mul c3)
  have b2 := c2.sub (s2.mul c3)
  exact ((b1.mul b1).add (b2.mul b2)).mono (by decide)
def spNearest (K : PySem.W.Frag) (C : Addr) : Sp := fun vs H Q _ => ∃ (l p : Addr) (m : Ld) (a b c d : Int), vs = [.ref l, .ref p] ∧ LandAt K C H l m ∧ Wf m ∧ SqL K H p [.int a, .int b, .int c, .int d] ∧
  RetL ((mnearest m a b c d).map V.int) H Q
theorem ok_nearest (T : Tx K mg) : FnOk P w K mg base CX0 3 T.nearest.f T.nearest.d ["self", "told"] (spNearest K T.C) := by
  have G_is_place : FnOk P w K mg base CX0 2 T.is_place.f T.is_place.d ["told"] (spIsPlace K) := ok_isplace T
  have G_place_of : FnOk P w K mg base CX0 1 T.place_of.f T.place_of.d ["told"] (spPlaceOf K) := ok_placeof T
  have G_names_up_to : FnOk P w K mg base CX0 2 T.names_up_to.f T.names_up_to.d ["self", "most", "place"] (spUpTo K T.C) := ok_upto T
  have G_far_times : FnOk P w K mg base CX0 1 T.far_times.f T.far_times.d ["place", "site"] (spFar K) := ok_far T
  have G_lowest : FnOk P w K mg base CX0 2 T.lowest.f T.lowest.d ["above", "below"] spLowest := ok_lowest T
  refine T.nearest.F.ok sc_nearest (fun vs H Q E h => ?_) (fun cdv A outer s H vs Q E hr h => ?_)
  · obtain ⟨l, p, m, a, b, c, d, rfl, _⟩ := h
    rfl
  · obtain ⟨l, p, m, a, b, c, d, rfl, hL, wf, hp, ret⟩ := h
    refine ⟨_, (pss_cons (ps_if (pt_not (pt_val (pe_call G_is_place (hr.mono (by decide)) rfl T.is_place.mg T.is_place.F.kp T.is_place.b .nil pass0 (pa_cons (pv 1) pa_nil))))
        (pss_one (ps_ret (pe_lst (pa_cons (pe_glob rfl T.g_WRONG_PLACE.choose_spec rel_int) pa_nil))))
        pss_nil)
      (pss_cons (ps_if (pt_cmpR op_eq (pe_callB call_lenD (by rfl) T.b_len PySem.boot_len (pa_cons (pe_fld (pv 0) rfl) pa_nil)) pe_int (nomark _))
        (pss_one (ps_ret (pe_lst (pa_cons (pe_glob rfl T.g_TOO_FEW_SITES.choose_spec rel_int) pa_nil))))
        pss_nil)
      (pss_cons (ps_set (i := 2) sc_nearest.nd rfl (Or.inr rfl) (pe_call G_place_of (hr.mono (by decide)) rfl T.place_of.mg T.place_of.F.kp T.place_of.b .nil pass0 (pa_cons (pv 1) pa_nil)))
      (pss_cons (ps_set (i := 3) sc_nearest.nd rfl (Or.inl rfl) (pe_callB (cr_min rfl) (by rfl) T.b_min (by decide +kernel) (pa_cons (pe_lock (pe_lc (own := [("site", 4)]) (g := gName 4) rfl sc_nearest.nd (pi_values (pe_fld (pv 0) rfl)) (blkOk_by (own := [("site", 4)]) (N := ["self", "told", "place", "least", "site", "names"]) (sc := defScope s_nearest) (by decide +kernel)) (fun _ _ _ _ _ => pg_name (i := 4) sc_nearest.nd rfl (Or.inl rfl)) (fun _ _ _ _ _ => by exact pts_nil) (fun _ _ _ _ _ => by exact (pe_call G_far_times (hr.mono (by decide)) rfl T.far_times.mg T.far_times.F.kp T.far_times.b .nil pass0 (pa_cons (pv 2) (pa_cons (pv 4) pa_nil)))))) pa_nil)))
      (pss_cons (ps_set (i := 5) sc_nearest.nd rfl (Or.inl rfl) (pe_meth (pv 0) T.cl T.names_up_to.m G_names_up_to (hr.mono (by decide)) T.names_up_to.b .nil pass0 (pa_cons (pv 3) (pa_cons (pv 2) pa_nil))))
      (pss_one (ps_ret (pe_op op_cat (pe_op op_cat (pe_lst (pa_cons (pe_callB call_len_seq (by rfl) T.b_len PySem.boot_len (pa_cons (pv 5) pa_nil)) pa_nil)) (pe_call G_lowest (hr.mono (by decide)) rfl T.lowest.mg T.lowest.F.kp T.lowest.b .nil pass0 (pa_cons (pv 3) (pa_cons (pe_op op_mulW (pe_ix ix_tup (pv 2) pe_int (fun _ _ => rfl)) (pe_ix ix_tup (pv 2) pe_int (fun _ _ => rfl))) pa_nil)))) (pv 5))))))))), ?_⟩
    unfold mnearest at ret
    refine q_when (b := !mplace a b c d) (et_not (et_B (ev_call (vs := [.ref p]) (ea_cons (ev_var rfl) ea_nil) (spIsPlace_V hp)))) (fun hb H1 e1 => ?_) (fun hb H1 e1 => ?_)
    · rw [if_pos (by simpa using hb)] at ret
      exact s_retL (el_lst (ea_cons ev_c ea_nil) (by show 1 ≤ 100000; decide)) fun q H2 hq e2 hl => ret.go e1 hq e2 hl
    have hpl : mplace a b c d = true := by simpa using hb
    rw [if_neg (by rw [hpl]; decide)] at ret
    have hL1 := hL.ex e1
    obtain ⟨dx, dd, qs, g1, g2, g3, g4⟩ := hL1
    have hlq : (qsV qs).length = m.sites.length := by rw [← g3]; simp [qsV, qsS]
    refine q_when (et_test (ev_eqI (ev_is (ev_lenD (ev_places rfl g1) g2) (by rw [hlq])) ev_c)) (fun hb2 H2 e2 => ?_) (fun hb2 H2 e2 => ?_)
    · rw [if_pos (by have := of_decide_eq_true hb2; omega)] at ret
      exact s_retL (el_lst (ea_cons ev_c ea_nil) (by show 1 ≤ 100000; decide)) fun q H3 hq e3 hl => ret.go (e1.trans e2) hq e3 hl
    have hne : m.sites.length ≠ 0 := by have := of_decide_eq_false hb2; omega
    rw [if_neg hne] at ret
    simp only at ret
    obtain ⟨s1, s2, s3⟩ := mplaceOf_small hpl
    refine q_asgU (eu_call (vs := [.ref p]) (ea_cons (ev_var rfl) ea_nil) (spPlaceOf_U (ex_l (e1.trans e2) hp) hpl)) fun pl H3 hpl3 e3 h3 => ?_
    generalize mplaceOf a b c d = w at *
    have e13 := e2.trans e3
    replace g1 := e13 _ _ g1
    replace g2 := e13 _ _ g2
    replace g4 := g4.ex e13
    have hld : l ≠ dd := by
      rintro rfl
      rw [g1] at g2
      cases g2
    have hcomp := el_lcVals (H := H3) (σ := [some (.ref l), some (.ref p), some (.ref pl), none, none, none]) (td := tFld K (tVar 0) "places") (te := tCall (spFar K) [] E0 (tCons (tVar 2) (tCons (tVar 4) tNil))) (d := dd) (kvs := qsV qs) (j := 4) (vs := [4])
      (fun i => V.int (mfar w (m.sites.getD i (0, (0, 0))).2)) g2 (by rw [hlq]; have := wf.few; omega)
      (fun od => ev_places (T := T) (i := 0) (n := m.given) (dx := dx) rfl (by rw [upd_ne hld]; exact g1)) (fun x => rfl) (by
        intro od i k x hx
        unfold qsV at hx
        rw [List.getElem?_map] at hx
        obtain ⟨q, hq, e⟩ := Option.map_eq_some_iff.mp hx
        cases e
        have hgd : m.sites.getD i (0, (0, 0)) = (q.1, q.2.2) := by
          rw [← g3, List.getD_eq_getElem?_getD]
          unfold qsS
          rw [List.getElem?_map, hq]
          rfl
        rw [hgd]
        have hqm := List.mem_of_getElem? hq
        have hmem : (q.1, q.2.2) ∈ m.sites := by rw [← g3]; unfold qsS; exact List.mem_map_of_mem (f := fun q : Nat × Addr × IP => (q.1, q.2.2)) hqm
        have nt : ∀ ys, H3 dd ≠ some (.tup ys) := fun ys hy => by rw [g2] at hy; cases hy
        have nf : ∀ u ys, H3 dd ≠ some (.frz u (.tup ys)) := fun u ys hy => by rw [g2] at hy; cases hy
        exact ev_call (vs := [.ref pl, .ref q.2.1]) (ea_cons (ev_var rfl) (ea_cons (ev_var rfl) ea_nil)) (spFar_V (sqT_upd (st_of h3) nt nf) (sqT_upd (g4 q hqm) nt nf) s1 (InSq.small (wf.sq _ hmem))))
    have hvals : (List.range (qsV qs).length).map (fun i => V.int (mfar w (m.sites.getD i (0, (0, 0))).2)) = (m.sites.map fun z => mfar w z.2).map V.int := by
      rw [hlq, List.map_map]
      apply List.ext_getElem
      · simp
      · intro i h5 h6
        simp at h6
        simp [List.getD, h6]
    rw [hvals] at hcomp
    refine q_asg (v := .int (mleast m w)) ?_ fun H4 e4 => ?_
    · intro H5 e5 Q5 q5
      refine hcomp H5 e5 _ fun n H6 hn e6 h6 => ⟨n, m.sites.map fun z => mfar w z.2, rfl, sq_of h6, by simp; omega, fun v hv hle => ?_⟩
      rw [← mleast_is hv hle]
      exact q5 H6 e6
    have hplA : PlAt K H4 pl w := PlAt.ex (st_of h3) e4
    have hL4 : LandAt K T.C H4 l m := LandAt.ex ⟨dx, dd, qs, g1, g2, g3, g4⟩ e4
    refine q_asgL (el_meth (vs := [.int (mleast m w), .ref pl]) (ev_var rfl) (e4 _ _ g1) (lF_none _ _ _ (by decide +kernel) (by decide +kernel)) (ea_cons (ev_var rfl) (ea_cons (ev_var rfl) ea_nil)) (spUpTo_L hL4 wf hplA s1)) fun nl H5 hnl e5 h5 => ?_
    have hlen : (mupto m (mleast m w) w).length ≤ 8 := by
      unfold mupto
      rw [List.length_map]
      exact Nat.le_trans (List.length_filter_le _ _) wf.few
    generalize mupto m (mleast m w) w = names at *
    have hnv : (natV names).length = names.length := by simp [natV]
    have hplB : PlAt K H5 pl w := hplA.ex e5
    refine s_retL (el_catNV (el_catNN (el_lst (ea_cons (ev_is (ev_len (ev_var rfl) (sq_of h5)) (by rw [hnv])) ea_nil) (by show 1 ≤ 100000; decide))
      (el_call (vs := [.int (mleast m w), .int (w.2.2 * w.2.2)]) (ea_cons (ev_var rfl) (ea_cons (ev_mul (ev_w rfl hplB) (ev_w rfl hplB) s2 s2 (by decide)) ea_nil)) (spLowest_L (Int.mul_pos s3 s3) ((s2.mul s2).mono (by decide)))) (by show 1 + 2 ≤ 100000; decide)) (ev_var rfl) h5 (by rw [hnv]; show 3 + names.length ≤ 100000; omega)) fun q H6 hq e6 h6 => ?_
    refine ret.go (e1.trans (e13.trans (e4.trans e5))) hq e6 ?_
    rw [h6]
    simp [natV]

/-! ### cell -/
theorem s_extL {σ : L2.St} {H : Hp} {D : Ends} {ta te : TE} {l : Addr} {xs ys : List V} (hl : H l = some (.lst xs)) (ha : Ev ta σ H (.ref l)) (h : EvL te σ H ys) (hz : xs.length + ys.length ≤ 100000) (k : ∀ H1, Ex H H1 → D.nx σ (upd H1 l (.lst (xs ++ ys)))) :
    tDrop (tBM K "list" rExtend ta (tCons te tNil)) D σ H := ha H (Ex.refl H) _ fun H1 e1 =>
  ⟨Or.inl ⟨rfl, xs, sq_of (e1 l _ hl)⟩, h H1 e1 _ fun p H2 hp e2 h2 => ⟨l, p, xs, ys, rfl, rfl, e2 l _ (e1 l _ hl), h2, sz_of hz, k H2 (e1.trans e2)⟩⟩
def spCell (K : PySem.W.Frag) (C : Addr) : Sp := fun vs H Q _ => ∃ (l : Addr) (m : Ld) (k : Nat), vs = [.ref l, .int (k : Int)] ∧ LandAt K C H l m ∧ Wf m ∧ RetL ((mcellM m k).map V.int) H Q
theorem mturned_mem {cs : List Pl} {c : Pl} (h : c ∈ mturned cs) : c ∈ cs := by
  unfold mturned at h
  rw [List.mem_append] at h
  rcases h with h | h
  · exact List.mem_of_mem_drop h
  · exact List.mem_of_mem_take h
theorem mturned_len (cs : List Pl) : (mturned cs).length = cs.length := by
  unfold mturned
  simp only [List.length_append, List.length_drop, List.length_take]
  omega
theorem ok_cell (T : Tx K mg) (S : Sqr K mg) : FnOk P w K mg base CX0 5 T.cell.f T.cell.d ["self", "name"] (spCell K T.C) := by
  have G_from_first_on : FnOk P w K mg base CX0 2 T.from_first_on.f T.from_first_on.d ["corners"] (spFirst K) := ok_first T
  have G_corners_of : FnOk P w K mg base CX0 4 T.corners_of.f T.corners_of.d ["self", "name"] (spCorners K T.C) := ok_corners T S
  have G_area : FnOk P w K mg base CX0 3 T.area.f T.area.d ["corners"] (spArea K) := ok_area T
  have G_fractions_of : FnOk P w K mg base CX0 3 T.fractions_of.f T.fractions_of.d ["place"] (spFracs K) := ok_fracs T
  refine T.cell.F.ok sc_cell (fun vs H Q E h => ?_) (fun cdv A outer s H vs Q E hr h => ?_)
  · obtain ⟨l, m, k, rfl, _⟩ := h
    rfl
  · obtain ⟨l, m, k, rfl, hL, wf, ret⟩ := h
    have hu := hu_of hr
    refine ⟨_, (pss_cons (ps_if (pt_cmp (pc_dnotin hu (pv 1) (pe_fld (pv 0) rfl)))
        (pss_one (ps_ret (pe_lst (pa_cons (pe_glob rfl T.g_NO_SUCH_SITE.choose_spec rel_int) pa_nil))))
        pss_nil)
      (pss_cons (ps_set (i := 2) sc_cell.nd rfl (Or.inl rfl) (pe_call G_from_first_on (hr.mono (by decide)) rfl T.from_first_on.mg T.from_first_on.F.kp T.from_first_on.b .nil pass0 (pa_cons (pe_meth (pv 0) T.cl T.corners_of.m G_corners_of (hr.mono (by decide)) T.corners_of.b .nil pass0 (pa_cons (pv 1) pa_nil)) pa_nil)))
      (pss_cons (ps_set (i := 3) sc_cell.nd rfl (Or.inl rfl) (pe_op op_cat (pe_lst (pa_cons (pe_callB call_len_seq (by rfl) T.b_len PySem.boot_len (pa_cons (pv 2) pa_nil)) pa_nil)) (pe_call G_area (hr.mono (by decide)) rfl T.area.mg T.area.F.kp T.area.b .nil pass0 (pa_cons (pv 2) pa_nil))))
      (pss_cons (ps_for PassesOwn.never rfl (pi_list (pv 2)) (pg_name (i := 4) sc_cell.nd rfl (Or.inl rfl))
        (pss_one (ps_expr (pe_bm PySem.F.plainAttrs_list PySem.F.slot_list_extend PySem.F.type_list_extend mt_extend (pv 3) (pa_cons (pe_call G_fractions_of (hr.mono (by decide)) rfl T.fractions_of.mg T.fractions_of.F.kp T.fractions_of.b .nil pass0 (pa_cons (pv 4) pa_nil)) pa_nil)))))
      (pss_one (ps_ret (pv 3))))))), ?_⟩
    have hL0 := hL
    obtain ⟨dx, d, qs, h1, h2, h3, h4⟩ := hL
    unfold mcellM at ret
    refine q_when (et_notin (k := k) (qs := qs) (ev_var rfl) (ev_places rfl h1) h2) (fun hb H1 e1 => ?_) (fun hb H1 e1 => ?_)
    · have hn : m.sites.find? (fun z => decide (z.1 = k)) = none := by
        rw [List.find?_eq_none]
        rw [h3] at hb
        intro z hz hzk
        have : (m.sites.any fun z => decide (z.1 = k)) = true := List.any_eq_true.mpr ⟨z, hz, hzk⟩
        rw [this] at hb
        cases hb
      rw [hn] at ret
      exact s_retL (el_lst (ea_cons ev_c ea_nil) (by show 1 ≤ 100000; decide)) fun p H2 hp e2 hl => ret.go e1 hp e2 hl
    · obtain ⟨z, hz⟩ : ∃ z, m.sites.find? (fun z => decide (z.1 = k)) = some z := by
        rw [h3] at hb
        have : (m.sites.any fun z => decide (z.1 = k)) = true := by simpa using hb
        obtain ⟨z0, hz0, hk0⟩ := List.any_eq_true.mp this
        exact Option.isSome_iff_exists.mp (by rw [List.find?_isSome]; exact ⟨z0, hz0, hk0⟩)
      rw [hz] at ret
      simp only at ret
      have hzm := List.mem_of_find?_eq_some hz
      have hzk : z.1 = k := by have := List.find?_some hz; simpa using this
      have hks : (k, z.2) ∈ m.sites := by rw [← hzk]; exact hzm
      have hoth : ∀ t ∈ mothers m z.2, InSq t ∧ z.2 ≠ t := by
        intro t ht
        obtain ⟨h5, h6⟩ := List.mem_filter.mp ht
        obtain ⟨y, hy, rfl⟩ := List.mem_map.mp h5
        exact ⟨wf.sq y hy, fun e => (of_decide_eq_true h6) e.symm⟩
      have hsq : InSq z.2 := wf.sq z hzm
      have hsm := mring_small hsq hoth
      have hln := mring_len hsq hoth
      have hol : (mothers m z.2).length ≤ 8 := by
        unfold mothers
        refine Nat.le_trans (List.length_filter_le _ _) ?_
        rw [List.length_map]
        exact wf.few
      unfold mcell at ret
      simp only at ret
      have hne : mring z.2 (mothers m z.2) ≠ [] := by intro hnil; rw [hnil] at hln; simp at hln
      refine ⟨_, rfl, l, dx, _, rfl, e1 _ _ h1, lF_none _ _ _ (by decide +kernel) (by decide +kernel), _, rfl, ⟨l, m, k, z.2, rfl, hL0.ex e1, wf, hks, fun p H2 ps hp e2 hps hpl hall =>
        ⟨p, _, rfl, ⟨ps, hps, sq_of hpl, hall⟩, hne, by omega, fun c hc => smallC_of (hsm c hc), fun p3 H3 ps3 hp3 e3 hps3 hpl3 hall3 => ?_⟩⟩⟩
      have e03 := e1.trans (e2.trans e3)
      have hcl := mturned_len (mring z.2 (mothers m z.2))
      have hcm : ∀ c ∈ mturned (mring z.2 (mothers m z.2)), SmallC c := fun c hc => smallC_of (hsm c (mturned_mem hc))
      generalize mturned (mring z.2 (mothers m z.2)) = cs at *
      have hpsl : ps3.length = cs.length := by rw [← hps3, List.length_map]
      have csn : cs ≠ [] := by intro e; rw [e] at hcl; simp at hcl; omega
      refine q_asgL (el_catNN (el_lst (ea_cons (ev_is (ev_len (ev_var rfl) (sq_of hpl3)) (by rw [refs_len, hpsl])) ea_nil) (by show 1 ≤ 100000; decide))
        (el_call (vs := [.ref p3]) (ea_cons (ev_var rfl) ea_nil) (spArea_L (cs := cs) (fun H4 e4 => ⟨ps3, hps3, sq_of (e4 _ _ hpl3), hall3.ex e4⟩) csn (by omega) hcm)) (by show 1 + ((marea cs).map V.int).length ≤ 100000; unfold marea mlowest; simp)) fun an H4 han e4 h4 => ?_
      refine q_forLn (ev_var rfl) (sq_of (e4 _ _ hpl3)) (fun i σ' H' => ∃ (x : Option V), σ' = [some (.ref l), some (.int (k : Int)), some (.ref p3), some (.ref an), x] ∧ Ex H3 H' ∧
        H' an = some (.lst ((((cs.length : Int) :: marea cs) ++ (cs.take i).flatMap mfracs).map V.int))) ?_ ?_ ?_ ?_
      · intro H5 e5
        exact ⟨none, rfl, e4.trans e5, by rw [e5 _ _ h4]; simp⟩
      · rintro i σ' H' _ ⟨x, rfl, e, _⟩
        exact sq_of (e _ _ hpl3)
      · rintro i v σ' H' hv ⟨x, rfl, e, han'⟩
        obtain ⟨a', c, hi, rfl⟩ := refs_get hv
        have hmi := List.mem_of_getElem? hi
        have hci : cs[i]? = some c := by rw [← hps3, List.getElem?_map, hi]; rfl
        have hcS : SmallC c := hcm c (List.mem_of_getElem? hci)
        have hilt : i < cs.length := (List.getElem?_eq_some_iff.mp hci).1
        have hfl : ∀ (L : List Pl), (L.flatMap mfracs).length = 4 * L.length := by
          intro L
          induction L with
          | nil => rfl
          | cons a L ih => rw [List.flatMap_cons, List.length_append, ih]; simp [mfracs, mlowest]; omega
        refine s_extL han' (ev_var rfl) (el_call (vs := [.ref a']) (ea_cons (ev_var rfl) ea_nil) (spFracs_L ((hall3 _ hmi).ex e) hcS.2 (hcS.1.2.2.mono (by decide)))) ?_ fun H5 e5 => ?_
        · rw [List.length_map, List.length_map, List.length_append, hfl, List.length_take]
          simp [marea, mlowest, mfracs]
          omega
        · refine ⟨_, rfl, Ex.mut (e.trans e5) han, ?_⟩
          rw [upd_same, List.take_add_one, hci, List.flatMap_append, ← List.map_append]
          simp
      · rintro σ' H' ⟨x, rfl, e, han'⟩
        refine s_ret (ev_var rfl) fun H5 e5 => ?_
        refine ret an H5 (fresh_back e03 han) (e03.trans (e.trans e5)) ?_
        rw [e5 _ _ han', refs_len, hpsl, List.take_length]
        simp
end
end NP

set_option Elab.async false
set_option linter.unusedVariables false
set_option maxRecDepth 100000
set_option maxHeartbeats 2000000
namespace NP
open PySem PySem.Spec PyProof.Rows L2 Evl NS
/-- how many numbers stand behind a call's own, as the top has written it -/
structure Nb (K : PySem.W.Frag) (mg : Str → Option Value) : Type where
  a : Addr
  g : mg "NUMBERS_BEHIND" = some (.ref a)
  xs : List Int
  at_ : ∀ H, SqT K H a (xs.map V.int)
  is : ∀ p n, PyGk04.shape p = some (n, 0) → 0 ≤ p ∧ xs[p.toNat]? = some (n : Int)
abbrev MS := Ld → Int → List Int → Ld × List Int
def MsOk (ms : MS) : Prop := ∀ m p args, Wf m → m.given ≤ 990 → CallOk p args → Wf (ms m p args).1 ∧ (ms m p args).1.given ≤ m.given + 1 ∧ specStep (toSt m) p args = (toSt (ms m p args).1, (ms m p args).2)
def spOf (K : PySem.W.Frag) (C : Addr) (ms : MS) : Sp := fun vs H Q _ => ∃ (l q : Addr) (m : Ld) (p : Int) (args : List Int), vs = [.ref l, .int p, .ref q] ∧ LandAt K C H l m ∧ Wf m ∧ m.given ≤ 990 ∧ CallOk p args ∧ SqL K H q (args.map V.int) ∧
  RetM K C H l (ms m p args) Q
def spAns (K : PySem.W.Frag) : Sp := fun vs H Q _ => ∃ (a : Addr) (ns : List Int), vs = [.ref a] ∧ SqL K H a (ns.map V.int) ∧ ns.length ≤ 240 ∧ PyGk04.answers_asked ns = true ∧
  ∀ (H' : Hp) (p : Addr), H' p = some (.lst ((PyGk04.answers ns).map V.int)) → Q (.ref p) H'
theorem cut_mid {xs : List V} {i j : Nat} (h : i ≤ j) (hj : j ≤ xs.length) : cutV xs (some (i : Int)) (some (j : Int)) = (xs.drop i).take (j - i) := by
  unfold cutV
  rw [HT.sIx_nat, HT.sIx_nat, Nat.min_eq_left hj, Nat.min_eq_left (Nat.le_trans h hj)]
theorem size10 {n : Nat} (h : n ≤ 10000000) : n < sizeLine := by
  have : sizeLine = 16777216 := by decide
  omega
theorem Keep.mut {H H' : Hp} {p : Addr} {o : HO} (a : Keep H H') (hp : H p = none) : Keep H (L2.upd H' p o) := fun b u s h => by
  rw [upd_ne (ne_of_none h hp)]
  exact a b u s h
section
variable {P : Program} {w : World} {K : PySem.W.Frag} {mg : Str → Option Value} {base : Heap}
theorem ok_answers (T : Tx K mg) (N : Nb K mg) (ms : MS) (hms : MsOk ms) (F : D1 K mg "answers" ["calls"] s_answers) {kk : Nat} (hkk : 2 ≤ kk)
    (G_answer_of : FnOk P w K mg base CX0 kk T.answer_of.f T.answer_of.d ["land", "call", "given"] (spOf K T.C ms)) : FnOk P w K mg base CX0 (kk + 1) F.f F.d ["calls"] (spAns K) := by
  have G_init : FnOk P w K mg base CX0 1 T.init.f T.init.d ["self"] (spInit K T.C) := ok_init T
  refine F.F.ok sc_answers (fun vs H Q E h => ?_) (fun cdv A outer s H vs Q E hr h => ?_)
  · obtain ⟨a, ns, rfl, _⟩ := h
    rfl
  · obtain ⟨a, ns, rfl, hS, hlen, hask, ret⟩ := h
    have hr2 := hr.mono hkk
    refine ⟨_, (pss_cons (ps_set (i := 1) sc_answers.nd rfl (Or.inl rfl) (pe_make0 T.mkC G_init hr2 rfl T.gC T.init.b .nil pass0))
      (pss_cons (ps_set (i := 2) sc_answers.nd rfl (Or.inl rfl) (pe_lst pa_nil))
      (pss_cons (ps_set (i := 3) sc_answers.nd rfl (Or.inl rfl) pe_int)
      (pss_cons (ps_while PassesOwn.never (pt_cmpR op_lt (pv 3) (pe_callB call_len_seq (by rfl) T.b_len PySem.boot_len (pa_cons (pv 0) pa_nil)) (nomark _))
        (pss_cons (ps_set (i := 4) sc_answers.nd rfl (Or.inl rfl) (pe_ix ix_list (pv 0) (pv 3) (fun _ _ => rfl)))
        (pss_cons (ps_set (i := 5) sc_answers.nd rfl (Or.inl rfl) (pe_op op_add (pe_op op_add (pv 3) pe_int) (pe_ix ix_tup (pe_glob (v := .ref N.a) rfl N.g rfl) (pv 4) (fun _ _ => rfl))))
        (pss_cons (ps_set (i := 6) sc_answers.nd rfl (Or.inl rfl) (pe_call G_answer_of hr rfl T.answer_of.mg T.answer_of.F.kp T.answer_of.b .nil pass0 (pa_cons (pv 1) (pa_cons (pv 4) (pa_cons (pe_slice sl_list (pv 0) (po_some (pe_op op_add (pv 3) pe_int)) (po_some (pv 5))) pa_nil)))))
        (pss_cons (ps_expr (pe_bm PySem.F.plainAttrs_list PySem.F.slot_list_append PySem.F.type_list_append mt_append (pv 2) (pa_cons (pe_callB call_len_seq (by rfl) T.b_len PySem.boot_len (pa_cons (pv 6) pa_nil)) pa_nil)))
        (pss_cons (ps_expr (pe_bm PySem.F.plainAttrs_list PySem.F.slot_list_extend PySem.F.type_list_extend mt_extend (pv 2) (pa_cons (pv 6) pa_nil)))
        (pss_one (ps_set (i := 3) sc_answers.nd rfl (Or.inl rfl) (pv 5)))))))))
      (pss_one (ps_ret (pv 2))))))), ?_⟩
    obtain ⟨raw, hraw, hr40, hins, hshort, hans⟩ := asked_split hask
    -- land = Land()
    intro l dx nl ndx ne
    refine ⟨l, dx, rfl, upd_same, fun H1 hL1 kp1 => ⟨rfl, ?_⟩⟩
    have hk1 : Keep H H1 := fun b o _ hb => kp1 b o (by
      rw [upd_ne (ne_of_none hb nl), upd_ne (ne_of_none hb ndx)]
      exact hb) (ne_of_none hb nl)
    refine q_asgL (el_lst ea_nil (by show 0 ≤ 100000; decide)) fun tl H2 htl e2 h2 => ?_
    have htlH : H tl = none := by
      cases hq : H tl with
      | none => rfl
      | some o =>
        have := kp1 tl o (by rw [upd_ne (ne_of_none hq nl), upd_ne (ne_of_none hq ndx)]; exact hq) (ne_of_none hq nl)
        rw [this] at htl
        cases htl
    refine q_asg ev_c fun H3 e3 => ?_
    refine q_while (fun μ σ' H' => ∃ (x y z : Option V) (i : Nat) (acc : List Int) (m : Ld) (f : Nat) (cs : List (List (List Int))),
      σ' = [some (.ref a), some (.ref l), some (.ref tl), some (.int (i : Int)), x, y, z] ∧ Keep H H' ∧ LandAt K T.C H' l m ∧ Wf m ∧ m.given + cs.length ≤ 900 ∧ H' tl = some (.lst (acc.map V.int)) ∧ i ≤ ns.length ∧ μ = ns.length - i ∧
      PyFlat.calls PyGk04.shape f (ns.drop i) = some cs ∧ PyInside.calls PyGk04.bound cs = true ∧ acc ++ PyFlat.told (PyFlat.played Gk04Neutral.step (toSt m) (cs.map PyGk04.whole)) = PyGk04.answers ns) ns.length ?_ ?_
    · exact ⟨none, none, none, 0, [], mfresh, _, raw, rfl, hk1.trans (Keep.of (e2.trans e3)), hL1.ex (e2.trans e3), mfresh_wf, by show 0 + raw.length ≤ 900; omega, e3 _ _ h2, Nat.zero_le _, rfl, hraw, hins, hans.symm⟩
    · rintro μ σ' H' ⟨x, y, z, i, acc, m, f, cs, rfl, hk, hL, wf, hgv, hacc, hi, rfl, hcs, hin, heq⟩
      have hS' : SqL K H' a (ns.map V.int) := hk.sqL hS
      refine ⟨decide ((i : Int) < (ns.length : Int)), et_test (ev_lt (ev_var rfl) (ev_is (ev_len (ev_var rfl) hS') (by simp))), fun hb H4 e4 => ?_, fun hb H4 e4 => ?_⟩
      · have hlt : i < ns.length := by have := of_decide_eq_true hb; omega
        obtain ⟨p, hp⟩ : ∃ p, ns[i]? = some p := ⟨_, List.getElem?_eq_getElem hlt⟩
        rw [drop_get hp] at hcs
        obtain ⟨f', n, cs', hsh, hnl, rfl, hcs'⟩ := calls_cons hcs
        obtain ⟨hin1, hin2⟩ := inside_cons hin
        have hdl : (ns.drop (i + 1)).length = ns.length - (i + 1) := List.length_drop
        have hargs : ((ns.drop (i + 1)).take n).length = n := by rw [List.length_take]; omega
        have hok : CallOk p ((ns.drop (i + 1)).take n) := ⟨by rw [hargs]; exact hsh, hin1⟩
        have hnb := N.is p n hsh
        have hL4 := hL.ex e4
        have hS4 : SqL K H4 a (ns.map V.int) := ex_l e4 hS'
        refine ⟨_, fun σ2 H2' hN => hN, ?_⟩
        refine q_asg (v := .int p) (ev_op (ev_var rfl) (ev_var rfl) (rv_ixL hS4 (at_nat (by rw [List.getElem?_map, hp]; rfl)))) fun H5 e5 => ?_
        have hpn : p = ((p.toNat : Nat) : Int) := by omega
        refine q_asg (v := .int (((i + 1 + n : Nat) : Nat) : Int)) (ev_is (ev_add (ev_add (ev_var rfl) ev_c) (ev_op ev_c (ev_var rfl) (rv_ixT (N.at_ H5) (by rw [hpn]; exact at_nat (by rw [List.getElem?_map, hnb.2]; rfl))))) (by congr 1)) fun H6 e6 => ?_
        have hS6 : SqL K H6 a (ns.map V.int) := ex_l (e5.trans e6) hS4
        have hL6 := hL4.ex (e5.trans e6)
        refine ⟨_, rfl, _, rfl, ?_⟩
        refine (el_sl (lo := some ((i + 1 : Nat) : Int)) (hi := some ((i + 1 + n : Nat) : Int)) (ev_var rfl) (eo_some (ev_is (ev_add (ev_var rfl) ev_c) (by congr 1))) (eo_some (ev_var rfl)) hS6) H6 (Ex.refl _) _ fun q H7 hq e7 h7 => ?_
        rw [cut_mid (by omega) (by simp; omega)] at h7
        have e7n : (List.map V.int ns).drop (i + 1) = (ns.drop (i + 1)).map V.int := (List.map_drop ..).symm
        rw [e7n, show i + 1 + n - (i + 1) = n by omega, ← List.map_take] at h7
        have hcl : cs'.length + 1 = ([p :: (ns.drop (i + 1)).take n] :: cs').length := rfl
        refine ⟨l, q, m, p, (ns.drop (i + 1)).take n, rfl, hL6.ex e7, wf, by rw [List.length_cons] at hgv; omega, hok, sq_of h7, fun an H8 han hk8 hL8 h8 => ?_⟩
        obtain ⟨wf', hg', hst⟩ := hms m p _ wf (by rw [List.length_cons] at hgv; omega) hok
        rw [told_cons, hst] at heq
        simp only at heq
        generalize ms m p ((ns.drop (i + 1)).take n) = r at *
        have e47 := e4.trans (e5.trans (e6.trans e7))
        have hacc8 : H8 tl = some (.lst (acc.map V.int)) := hk8 _ _ rfl (e47 _ _ hacc)
        have hal : acc.length + (r.2.length + 1) ≤ 10000000 := by
          have := congrArg List.length heq
          simp only [List.length_append, List.length_cons] at this
          omega
        have hne8 : an ≠ tl := by
          rintro rfl
          rw [e47 _ _ hacc] at han
          cases han
        -- told.append(len(answer))
        refine ⟨_, rfl, Or.inl ⟨rfl, _, sq_of hacc8⟩, _, rfl, _, _, rfl, .inl (sq_of h8), _, _, _, rfl, rfl, hacc8, ?_, ?_⟩
        · rw [List.length_map]
          exact size10 (by omega)
        have hacc9 : (upd H8 tl (.lst (acc.map V.int ++ [.int ((r.2.map V.int).length : Int)]))) tl = some (.lst ((acc ++ [(r.2.length : Int)]).map V.int)) := by
          rw [upd_same]
          simp
        refine ⟨_, rfl, Or.inl ⟨rfl, _, sq_of hacc9⟩, _, rfl, tl, an, _, _, rfl, rfl, hacc9, (by rw [upd_ne hne8]; exact h8), ?_, ?_⟩
        · rw [List.length_map, List.length_map, List.length_append, List.length_cons, List.length_nil]
          exact Nat.le_of_lt (size10 (by omega))
        have hLl : ∀ {H0 : Hp} {o : List V} {o' : HO} {m0 : Ld}, H0 tl = some (.lst o) → LandAt K T.C H0 l m0 → LandAt K T.C (upd H0 tl o') l m0 := by
          intro H0 o o' m0 ht ⟨dx0, d0, qs0, g1, g2, g3, g4⟩
          refine ⟨dx0, d0, qs0, ?_, ?_, g3, fun q hq => sqT_mut (g4 q hq) ht⟩
          · rw [upd_ne (by rintro rfl; rw [ht] at g1; cases g1)]
            exact g1
          · rw [upd_ne (by rintro rfl; rw [ht] at g2; cases g2)]
            exact g2
        refine s_asg (ev_var rfl) fun H11 e11 => ?_
        refine ⟨ns.length - (i + 1 + n), by omega, some (.int p), some (.int ((i + 1 + n : Nat) : Int)), some (.ref an), i + 1 + n, acc ++ ((r.2.length : Int) :: r.2), r.1, f', cs', rfl, ?_, ?_, wf', ?_, ?_, by omega, rfl, ?_, hin2, ?_⟩
        · have k7 : Keep H H8 := hk.trans ((Keep.of e47).trans hk8)
          exact ((k7.mut htlH).mut htlH).trans (Keep.of e11)
        · exact (hLl hacc9 (hLl hacc8 hL8)).ex e11
        · rw [List.length_cons] at hgv
          omega
        · refine e11 _ _ ?_
          rw [upd_same]
          simp
        · rw [List.drop_drop] at hcs'
          exact hcs'
        · rw [← heq]
          simp
      · have hend : i = ns.length := by have := of_decide_eq_false hb; omega
        subst hend
        rw [List.drop_length] at hcs
        have hnil := calls_nil hcs
        subst hnil
        refine s_ret (ev_var rfl) fun H5 e5 => ret H5 tl ?_
        rw [(e4.trans e5) _ _ hacc, ← heq]
        simp [PyFlat.played, PyFlat.told]
end
end NP

set_option Elab.async false
set_option linter.unusedVariables false
set_option maxRecDepth 100000
set_option maxHeartbeats 2000000
namespace NP
open PySem PySem.Spec PyProof.Rows L2 Evl NS
section
variable {K : PySem.W.Frag} {σ : L2.St} {H : Hp} {ta tb : TE} {t : TT}
theorem eu_if {b : Bool} {xs : List V} (h : EvT t σ H b) (h1 : b = true → EvU ta σ H xs) (h2 : b = false → EvU tb σ H xs) : EvU (tIf t ta tb) σ H xs := fun H1 e Q q => h H1 e _ fun H2 e2 => by
  cases b with
  | true => exact h1 rfl H2 (e.trans e2) Q fun p H3 hp e3 h3 => q p H3 (fresh_back e2 hp) (e2.trans e3) h3
  | false => exact h2 rfl H2 (e.trans e2) Q fun p H3 hp e3 h3 => q p H3 (fresh_back e2 hp) (e2.trans e3) h3
theorem ev_neg {i : Int} (ha : Ev ta σ H (.int i)) : Ev (tUn (rU fun i => .int (-i)) ta) σ H (.int (-i)) := ev_un ha ru_neg
theorem et_yes : EvT tYes σ H true := fun H1 _ _ q => q H1 (Ex.refl H1)
end
theorem RetU.go {xs : List V} {H H1 H2 : Hp} {Q : VK} {p : Addr} (k : RetU xs H Q) (e : Ex H H1) (hp : H1 p = none) (e2 : Ex H1 H2) (h : H2 p = some (.tup xs)) : Q (.ref p) H2 := k p H2 (fresh_back e hp) (e.trans e2) h
section
variable {P : Program} {w : World} {K : PySem.W.Frag} {mg : Str → Option Value} {base : Heap}

/-! ### as_place, halfway, turn, as_far_from -/
def spAsPlace (K : PySem.W.Frag) : Sp := fun vs H Q _ => ∃ (a : Addr) (s : IP), vs = [.ref a] ∧ IpAt K H a s ∧ RetU (plV (mas s)) H Q
theorem spAsPlace_U {H : Hp} {a : Addr} {s : IP} (h : IpAt K H a s) : SpU (spAsPlace K) [.ref a] H (plV (mas s)) := fun H1 e Q q _ => ⟨a, s, rfl, h.ex e, fun p H' hp e hl => q p H' hp e hl⟩
theorem ok_asplace (T : Tx K mg) : FnOk P w K mg base CX0 1 T.as_place.f T.as_place.d ["site"] (spAsPlace K) := by
  refine T.as_place.F.ok sc_as_place (fun vs H Q E h => ?_) (fun cdv A outer s H vs Q E hr h => ?_)
  · obtain ⟨a, s, rfl, _⟩ := h
    rfl
  · obtain ⟨a, s, rfl, h1, k⟩ := h
    refine ⟨_, (pss_one (ps_ret (pe_tup (pa_cons (pe_ix ix_tup (pv 0) pe_int (fun _ _ => rfl)) (pa_cons (pe_ix ix_tup (pv 0) pe_int (fun _ _ => rfl)) (pa_cons pe_int pa_nil)))))), ?_⟩
    exact s_retU (eu_tup (ea_cons (ev_s rfl h1) (ea_cons (ev_t rfl h1) (ea_cons ev_c ea_nil))) (by show 3 ≤ 100000; decide)) fun q H1 hq e1 hl => k q H1 hq e1 hl
def spHalf (K : PySem.W.Frag) : Sp := fun vs H Q _ => ∃ (a b : Addr) (s t : IP), vs = [.ref a, .ref b] ∧ IpAt K H a s ∧ IpAt K H b t ∧ RetU (plV (mhalf s t)) H Q
theorem spHalf_U {H : Hp} {a b : Addr} {s t : IP} (h : IpAt K H a s) (h2 : IpAt K H b t) : SpU (spHalf K) [.ref a, .ref b] H (plV (mhalf s t)) := fun H1 e Q q _ => ⟨a, b, s, t, rfl, h.ex e, h2.ex e, fun p H' hp e hl => q p H' hp e hl⟩
theorem ok_half (T : Tx K mg) : FnOk P w K mg base CX0 1 T.halfway.f T.halfway.d ["one", "other"] (spHalf K) := by
  refine T.halfway.F.ok sc_halfway (fun vs H Q E h => ?_) (fun cdv A outer s H vs Q E hr h => ?_)
  · obtain ⟨a, b, s, t, rfl, _⟩ := h
    rfl
  · obtain ⟨a, b, s, t, rfl, h1, h2, k⟩ := h
    refine ⟨_, (pss_one (ps_ret (pe_tup (pa_cons (pe_op op_add (pe_ix ix_tup (pv 0) pe_int (fun _ _ => rfl)) (pe_ix ix_tup (pv 1) pe_int (fun _ _ => rfl))) (pa_cons (pe_op op_add (pe_ix ix_tup (pv 0) pe_int (fun _ _ => rfl)) (pe_ix ix_tup (pv 1) pe_int (fun _ _ => rfl))) (pa_cons pe_int pa_nil)))))), ?_⟩
    exact s_retU (eu_tup (ea_cons (ev_add (ev_s rfl h1) (ev_s rfl h2)) (ea_cons (ev_add (ev_t rfl h1) (ev_t rfl h2)) (ea_cons ev_c ea_nil))) (by show 3 ≤ 100000; decide)) fun q H1 hq e1 hl => k q H1 hq e1 hl
def spTurn (K : PySem.W.Frag) : Sp := fun vs H Q _ => ∃ (a b c : Addr) (s t u : IP), vs = [.ref a, .ref b, .ref c] ∧ IpAt K H a s ∧ IpAt K H b t ∧ IpAt K H c u ∧ SmallS s ∧ SmallS t ∧ SmallS u ∧ RetV (.int (mturn s t u)) H Q
theorem spTurn_V {H : Hp} {a b c : Addr} {s t u : IP} (h1 : IpAt K H a s) (h2 : IpAt K H b t) (h3 : IpAt K H c u) (h4 : SmallS s) (h5 : SmallS t) (h6 : SmallS u) : SpV (spTurn K) [.ref a, .ref b, .ref c] H (.int (mturn s t u)) :=
  fun H1 e Q q _ => ⟨a, b, c, s, t, u, rfl, h1.ex e, h2.ex e, h3.ex e, h4, h5, h6, fun H' e' => q H' e'⟩
theorem mturn_bd {s t u : IP} (h4 : SmallS s) (h5 : SmallS t) (h6 : SmallS u) : Bd 23 (mturn s t u) :=
  (((h5.1.sub h4.1).mul (h6.2.sub h4.2)).sub ((h5.2.sub h4.2).mul (h6.1.sub h4.1))).mono (by decide)
theorem ok_turn (T : Tx K mg) : FnOk P w K mg base CX0 1 T.turn.f T.turn.d ["one", "other", "third"] (spTurn K) := by
  refine T.turn.F.ok sc_turn (fun vs H Q E h => ?_) (fun cdv A outer s H vs Q E hr h => ?_)
  · obtain ⟨a, b, c, s, t, u, rfl, _⟩ := h
    rfl
  · obtain ⟨a, b, c, s, t, u, rfl, h1, h2, h3, ⟨s1, s2⟩, ⟨t1, t2⟩, ⟨u1, u2⟩, k⟩ := h
    refine ⟨_, (pss_one (ps_ret (pe_op op_sub (pe_op op_mulW (pe_op op_sub (pe_ix ix_tup (pv 1) pe_int (fun _ _ => rfl)) (pe_ix ix_tup (pv 0) pe_int (fun _ _ => rfl))) (pe_op op_sub (pe_ix ix_tup (pv 2) pe_int (fun _ _ => rfl)) (pe_ix ix_tup (pv 0) pe_int (fun _ _ => rfl)))) (pe_op op_mulW (pe_op op_sub (pe_ix ix_tup (pv 1) pe_int (fun _ _ => rfl)) (pe_ix ix_tup (pv 0) pe_int (fun _ _ => rfl))) (pe_op op_sub (pe_ix ix_tup (pv 2) pe_int (fun _ _ => rfl)) (pe_ix ix_tup (pv 0) pe_int (fun _ _ => rfl))))))), ?_⟩
    exact s_ret (v := .int (mturn s t u)) (ev_sub (ev_mul (ev_sub (ev_s rfl h2) (ev_s rfl h1)) (ev_sub (ev_t rfl h3) (ev_t rfl h1)) (t1.sub s1) (u2.sub s2) (by decide))
      (ev_mul (ev_sub (ev_t rfl h2) (ev_t rfl h1)) (ev_sub (ev_s rfl h3) (ev_s rfl h1)) (t2.sub s2) (u1.sub s1) (by decide))) fun H1 e1 => k.go e1
def spAfar (K : PySem.W.Frag) : Sp := fun vs H Q _ => ∃ (a b c : Addr) (s t u : IP), vs = [.ref a, .ref b, .ref c] ∧ IpAt K H a s ∧ IpAt K H b t ∧ IpAt K H c u ∧ SmallS s ∧ SmallS t ∧ SmallS u ∧ RetU (plV (mafar s t u)) H Q
theorem spAfar_U {H : Hp} {a b c : Addr} {s t u : IP} (h1 : IpAt K H a s) (h2 : IpAt K H b t) (h3 : IpAt K H c u) (h4 : SmallS s) (h5 : SmallS t) (h6 : SmallS u) : SpU (spAfar K) [.ref a, .ref b, .ref c] H (plV (mafar s t u)) :=
  fun H1 e Q q _ => ⟨a, b, c, s, t, u, rfl, h1.ex e, h2.ex e, h3.ex e, h4, h5, h6, fun p H' hp e hl => q p H' hp e hl⟩
theorem msqr_bd {s t : IP} (h4 : SmallS s) (h5 : SmallS t) : Bd 23 (msqr s t) :=
  (((h5.1.sub h4.1).mul (h5.1.sub h4.1)).add ((h5.2.sub h4.2).mul (h5.2.sub h4.2))).mono (by decide)
theorem bd2 : Bd 2 2 := by unfold Bd; decide
theorem mfarW_bd {s t u : IP} (h4 : SmallS s) (h5 : SmallS t) (h6 : SmallS u) : Bd 25 (mfarW s t u) := bd2.mul (mturn_bd h4 h5 h6)
theorem mfarX_bd {s t u : IP} (h4 : SmallS s) (h5 : SmallS t) (h6 : SmallS u) : Bd 40 (mfarX s t u) :=
  (((h4.1.mul (mfarW_bd h4 h5 h6)).add ((msqr_bd h4 h5).mul (h6.2.sub h4.2))).sub ((msqr_bd h4 h6).mul (h5.2.sub h4.2))).mono (by decide)
theorem mfarY_bd {s t u : IP} (h4 : SmallS s) (h5 : SmallS t) (h6 : SmallS u) : Bd 40 (mfarY s t u) :=
  (((h4.2.mul (mfarW_bd h4 h5 h6)).add ((msqr_bd h4 h6).mul (h5.1.sub h4.1))).sub ((msqr_bd h4 h5).mul (h6.1.sub h4.1))).mono (by decide)
theorem ok_afar (T : Tx K mg) : FnOk P w K mg base CX0 2 T.as_far_from.f T.as_far_from.d ["one", "other", "third"] (spAfar K) := by
  have G_turn : FnOk P w K mg base CX0 1 T.turn.f T.turn.d ["one", "other", "third"] (spTurn K) := ok_turn T
  refine T.as_far_from.F.ok sc_as_far_from (fun vs H Q E h => ?_) (fun cdv A outer s H vs Q E hr h => ?_)
  · obtain ⟨a, b, c, s, t, u, rfl, _⟩ := h
    rfl
  · obtain ⟨a, b, c, s, t, u, rfl, h1, h2, h3, hs, ht, hu, k⟩ := h
    refine ⟨_, (pss_cons (ps_set (i := 3) sc_as_far_from.nd rfl (Or.inl rfl) (pe_op op_sub (pe_ix ix_tup (pv 1) pe_int (fun _ _ => rfl)) (pe_ix ix_tup (pv 0) pe_int (fun _ _ => rfl))))
      (pss_cons (ps_set (i := 4) sc_as_far_from.nd rfl (Or.inl rfl) (pe_op op_sub (pe_ix ix_tup (pv 1) pe_int (fun _ _ => rfl)) (pe_ix ix_tup (pv 0) pe_int (fun _ _ => rfl))))
      (pss_cons (ps_set (i := 5) sc_as_far_from.nd rfl (Or.inl rfl) (pe_op op_add (pe_op op_mulW (pv 3) (pv 3)) (pe_op op_mulW (pv 4) (pv 4))))
      (pss_cons (ps_set (i := 6) sc_as_far_from.nd rfl (Or.inl rfl) (pe_op op_sub (pe_ix ix_tup (pv 2) pe_int (fun _ _ => rfl)) (pe_ix ix_tup (pv 0) pe_int (fun _ _ => rfl))))
      (pss_cons (ps_set (i := 7) sc_as_far_from.nd rfl (Or.inl rfl) (pe_op op_sub (pe_ix ix_tup (pv 2) pe_int (fun _ _ => rfl)) (pe_ix ix_tup (pv 0) pe_int (fun _ _ => rfl))))
      (pss_cons (ps_set (i := 8) sc_as_far_from.nd rfl (Or.inl rfl) (pe_op op_add (pe_op op_mulW (pv 6) (pv 6)) (pe_op op_mulW (pv 7) (pv 7))))
      (pss_cons (ps_set (i := 9) sc_as_far_from.nd rfl (Or.inl rfl) (pe_op op_mulW pe_int (pe_call G_turn (hr.mono (by decide)) rfl T.turn.mg T.turn.F.kp T.turn.b .nil pass0 (pa_cons (pv 0) (pa_cons (pv 1) (pa_cons (pv 2) pa_nil))))))
      (pss_cons (ps_set (i := 10) sc_as_far_from.nd rfl (Or.inl rfl) (pe_op op_sub (pe_op op_add (pe_op op_mulW (pe_ix ix_tup (pv 0) pe_int (fun _ _ => rfl)) (pv 9)) (pe_op op_mulW (pv 5) (pv 7))) (pe_op op_mulW (pv 8) (pv 4))))
      (pss_cons (ps_set (i := 11) sc_as_far_from.nd rfl (Or.inl rfl) (pe_op op_sub (pe_op op_add (pe_op op_mulW (pe_ix ix_tup (pv 0) pe_int (fun _ _ => rfl)) (pv 9)) (pe_op op_mulW (pv 8) (pv 3))) (pe_op op_mulW (pv 5) (pv 6))))
      (pss_one (ps_ret (pe_ifExp (pt_cmpR op_gt (pv 9) pe_int (nomark _)) (pe_tup (pa_cons (pv 10) (pa_cons (pv 11) (pa_cons (pv 9) pa_nil)))) (pe_tup (pa_cons (pe_un un_neg (pv 10)) (pa_cons (pe_un un_neg (pv 11)) (pa_cons (pe_un un_neg (pv 9)) pa_nil)))))))))))))))), ?_⟩
    have b1 := ht.1.sub hs.1
    have b2 := ht.2.sub hs.2
    have b3 := hu.1.sub hs.1
    have b4 := hu.2.sub hs.2
    refine s_asg (v := .int (t.1 - s.1)) (ev_sub (ev_s rfl h2) (ev_s rfl h1)) fun H1 e1 => ?_
    replace h1 := h1.ex e1; replace h2 := h2.ex e1; replace h3 := h3.ex e1
    refine s_asg (v := .int (t.2 - s.2)) (ev_sub (ev_t rfl h2) (ev_t rfl h1)) fun H2 e2 => ?_
    replace h1 := h1.ex e2; replace h2 := h2.ex e2; replace h3 := h3.ex e2
    refine s_asg (v := .int (msqr s t)) (ev_add (ev_mul (ev_var rfl) (ev_var rfl) b1 b1 (by decide)) (ev_mul (ev_var rfl) (ev_var rfl) b2 b2 (by decide))) fun H3 e3 => ?_
    replace h1 := h1.ex e3; replace h2 := h2.ex e3; replace h3 := h3.ex e3
    refine s_asg (v := .int (u.1 - s.1)) (ev_sub (ev_s rfl h3) (ev_s rfl h1)) fun H4 e4 => ?_
    replace h1 := h1.ex e4; replace h2 := h2.ex e4; replace h3 := h3.ex e4
    refine s_asg (v := .int (u.2 - s.2)) (ev_sub (ev_t rfl h3) (ev_t rfl h1)) fun H5 e5 => ?_
    replace h1 := h1.ex e5; replace h2 := h2.ex e5; replace h3 := h3.ex e5
    refine s_asg (v := .int (msqr s u)) (ev_add (ev_mul (ev_var rfl) (ev_var rfl) b3 b3 (by decide)) (ev_mul (ev_var rfl) (ev_var rfl) b4 b4 (by decide))) fun H6 e6 => ?_
    replace h1 := h1.ex e6; replace h2 := h2.ex e6; replace h3 := h3.ex e6
    refine s_asg (v := .int (mfarW s t u)) (ev_mul ev_c (ev_call (vs := [.ref a, .ref b, .ref c]) (ea_cons (ev_var rfl) (ea_cons (ev_var rfl) (ea_cons (ev_var rfl) ea_nil))) (spTurn_V h1 h2 h3 hs ht hu)) bd2 (mturn_bd hs ht hu) (by decide)) fun H7 e7 => ?_
    replace h1 := h1.ex e7
    refine s_asg (v := .int (mfarX s t u)) (ev_sub (ev_add (ev_mul (ev_s rfl h1) (ev_var rfl) hs.1 (mfarW_bd hs ht hu) (by decide)) (ev_mul (ev_var rfl) (ev_var rfl) (msqr_bd hs ht) b4 (by decide))) (ev_mul (ev_var rfl) (ev_var rfl) (msqr_bd hs hu) b2 (by decide))) fun H8 e8 => ?_
    replace h1 := h1.ex e8
    refine s_asg (v := .int (mfarY s t u)) (ev_sub (ev_add (ev_mul (ev_t rfl h1) (ev_var rfl) hs.2 (mfarW_bd hs ht hu) (by decide)) (ev_mul (ev_var rfl) (ev_var rfl) (msqr_bd hs hu) b1 (by decide))) (ev_mul (ev_var rfl) (ev_var rfl) (msqr_bd hs ht) b3 (by decide))) fun H9 e9 => ?_
    have e09 := e1.trans (e2.trans (e3.trans (e4.trans (e5.trans (e6.trans (e7.trans (e8.trans e9)))))))
    refine s_retU (xs := plV (mafar s t u)) (eu_if (b := decide (0 < mfarW s t u)) (et_test (ev_op (ev_var rfl) ev_c rv_I0)) (fun hb => ?_) (fun hb => ?_)) fun q H10 hq e10 hl => k.go e09 hq e10 hl
    · have hp := of_decide_eq_true hb
      unfold mafar
      rw [if_pos hp]
      exact eu_tup (ea_cons (ev_var rfl) (ea_cons (ev_var rfl) (ea_cons (ev_var rfl) ea_nil))) (by show 3 ≤ 100000; decide)
    · have hp := of_decide_eq_false hb
      unfold mafar
      rw [if_neg hp]
      exact eu_tup (ea_cons (ev_neg (ev_var rfl)) (ea_cons (ev_neg (ev_var rfl)) (ea_cons (ev_neg (ev_var rfl)) ea_nil))) (by show 3 ≤ 100000; decide)

/-! ### rings -/
def RgAt (K : PySem.W.Frag) (H : Hp) (a : Addr) (r : Rg) : Prop := ∃ c, SqT K H a [.ref c, .int r.2] ∧ PlAt K H c r.1
theorem RgAt.ex {H H' : Hp} {a : Addr} {r : Rg} (h : RgAt K H a r) (e : Ex H H') : RgAt K H' a r := by
  obtain ⟨c, h1, h2⟩ := h
  exact ⟨c, ex_t e h1, h2.ex e⟩
def SmallR (r : Rg) : Prop := SmallP r.1 ∧ Bd 400 r.2
theorem ev_rw {σ : L2.St} {H : Hp} {p c : Addr} {i : Nat} {r : Rg} (hv : σ[i]? = some (some (.ref p))) (h : SqT K H p [.ref c, .int r.2]) (h2 : PlAt K H c r.1) :
    Ev (tOp (rIxT K) (tOp (rIxT K) (tVar i) (tC (.int 0))) (tC (.int 2))) σ H (.int r.1.2.2) := ev_op (ev_it hv h rfl) ev_c (rv_ixT h2 rfl)
def spExcess (K : PySem.W.Frag) : Sp := fun vs H Q _ => ∃ (a b : Addr) (r o : Rg), vs = [.ref a, .ref b] ∧ RgAt K H a r ∧ RgAt K H b o ∧ SmallR r ∧ SmallR o ∧ RetV (.int (mexcess r o)) H Q
theorem spExcess_V {H : Hp} {a b : Addr} {r o : Rg} (h1 : RgAt K H a r) (h2 : RgAt K H b o) (h3 : SmallR r) (h4 : SmallR o) : SpV (spExcess K) [.ref a, .ref b] H (.int (mexcess r o)) :=
  fun H1 e Q q _ => ⟨a, b, r, o, rfl, h1.ex e, h2.ex e, h3, h4, fun H' e' => q H' e'⟩
theorem ok_excess (T : Tx K mg) : FnOk P w K mg base CX0 1 T.excess.f T.excess.d ["ring", "other"] (spExcess K) := by
  refine T.excess.F.ok sc_excess (fun vs H Q E h => ?_) (fun cdv A outer s H vs Q E hr h => ?_)
  · obtain ⟨a, b, r, o, rfl, _⟩ := h
    rfl
  · obtain ⟨a, b, r, o, rfl, ⟨c1, h1, g1⟩, ⟨c2, h2, g2⟩, ⟨⟨x1, x2, x3⟩, x4⟩, ⟨⟨y1, y2, y3⟩, y4⟩, k⟩ := h
    refine ⟨_, (pss_cons (ps_set (i := 2) sc_excess.nd rfl (Or.inl rfl) (pe_ix ix_tup (pe_ix ix_tup (pv 0) pe_int (fun _ _ => rfl)) pe_int (fun _ _ => rfl)))
      (pss_cons (ps_set (i := 3) sc_excess.nd rfl (Or.inl rfl) (pe_ix ix_tup (pe_ix ix_tup (pv 1) pe_int (fun _ _ => rfl)) pe_int (fun _ _ => rfl)))
      (pss_one (ps_ret (pe_op op_sub (pe_op op_mulW (pe_op op_mulW (pe_ix ix_tup (pv 0) pe_int (fun _ _ => rfl)) (pv 3)) (pv 3)) (pe_op op_mulW (pe_op op_mulW (pe_ix ix_tup (pv 1) pe_int (fun _ _ => rfl)) (pv 2)) (pv 2))))))), ?_⟩
    refine s_asg (v := .int r.1.2.2) (ev_rw rfl h1 g1) fun H1 e1 => ?_
    replace h1 := ex_t e1 h1; replace h2 := ex_t e1 h2; replace g2 := g2.ex e1
    refine s_asg (v := .int o.1.2.2) (ev_rw rfl h2 g2) fun H2 e2 => ?_
    replace h1 := ex_t e2 h1; replace h2 := ex_t e2 h2
    exact s_ret (v := .int (mexcess r o)) (ev_sub (ev_mul (ev_mul (ev_it (j := 1) (v := .int r.2) rfl h1 rfl) (ev_var rfl) x4 y3 (by decide)) (ev_var rfl) (x4.mul y3) y3 (by decide))
      (ev_mul (ev_mul (ev_it (j := 1) (v := .int o.2) rfl h2 rfl) (ev_var rfl) y4 x3 (by decide)) (ev_var rfl) (y4.mul x3) x3 (by decide))) fun H3 e3 => k.go (e1.trans (e2.trans e3))
def spLonelier (K : PySem.W.Frag) : Sp := fun vs H Q _ => ∃ (a b : Addr) (r o : Rg), vs = [.ref a, .ref b] ∧ RgAt K H a r ∧ RgAt K H b o ∧ SmallR r ∧ SmallR o ∧ RetV (.bl (mlonelier r o)) H Q
theorem spLonelier_V {H : Hp} {a b : Addr} {r o : Rg} (h1 : RgAt K H a r) (h2 : RgAt K H b o) (h3 : SmallR r) (h4 : SmallR o) : SpV (spLonelier K) [.ref a, .ref b] H (.bl (mlonelier r o)) :=
  fun H1 e Q q _ => ⟨a, b, r, o, rfl, h1.ex e, h2.ex e, h3, h4, fun H' e' => q H' e'⟩
theorem ok_lonelier (T : Tx K mg) : FnOk P w K mg base CX0 2 T.is_lonelier.f T.is_lonelier.d ["ring", "other"] (spLonelier K) := by
  have G_excess : FnOk P w K mg base CX0 1 T.excess.f T.excess.d ["ring", "other"] (spExcess K) := ok_excess T
  have G_is_ahead : FnOk P w K mg base CX0 1 T.is_ahead.f T.is_ahead.d ["one", "other"] (spAhead K) := ok_ahead T
  refine T.is_lonelier.F.ok sc_is_lonelier (fun vs H Q E h => ?_) (fun cdv A outer s H vs Q E hr h => ?_)
  · obtain ⟨a, b, r, o, rfl, _⟩ := h
    rfl
  · obtain ⟨a, b, r, o, rfl, hr1, hr2, s1, s2, k⟩ := h
    refine ⟨_, (pss_cons (ps_set (i := 2) sc_is_lonelier.nd rfl (Or.inl rfl) (pe_call G_excess (hr.mono (by decide)) rfl T.excess.mg T.excess.F.kp T.excess.b .nil pass0 (pa_cons (pv 0) (pa_cons (pv 1) pa_nil))))
      (pss_one (ps_ret (pe_or (pe_cmpR op_gt (pv 2) pe_int (nomark _)) (pe_one (pe_and (pe_cmpR op_eq (pv 2) pe_int (nomark _)) (pe_one (pe_call G_is_ahead (hr.mono (by decide)) rfl T.is_ahead.mg T.is_ahead.F.kp T.is_ahead.b .nil pass0 (pa_cons (pe_ix ix_tup (pv 0) pe_int (fun _ _ => rfl)) (pa_cons (pe_ix ix_tup (pv 1) pe_int (fun _ _ => rfl)) pa_nil)))))))))), ?_⟩
    refine s_asg (v := .int (mexcess r o)) (ev_call (vs := [.ref a, .ref b]) (ea_cons (ev_var rfl) (ea_cons (ev_var rfl) ea_nil)) (spExcess_V hr1 hr2 s1 s2)) fun H1 e1 => ?_
    obtain ⟨c1, h1, g1⟩ := hr1.ex e1
    obtain ⟨c2, h2, g2⟩ := hr2.ex e1
    exact s_ret (v := .bl (mlonelier r o)) (ev_orV (ev_op (ev_var rfl) ev_c rv_I0) fun _ => ev_andV (ev_eqI (ev_var rfl) ev_c) fun _ =>
      ev_call (vs := [.ref c1, .ref c2]) (ea_cons (ev_it (j := 0) rfl h1 rfl) (ea_cons (ev_it (j := 0) rfl h2 rfl) ea_nil)) (spAhead_V g1 g2 s1.1 s2.1)) fun H2 e2 => k.go (e1.trans e2)
def spNumbers (K : PySem.W.Frag) : Sp := fun vs H Q _ => ∃ (a : Addr) (r : Rg), vs = [.ref a] ∧ RgAt K H a r ∧ SmallR r ∧ 0 < r.1.2.2 ∧ RetL ((mnumbers r).map V.int) H Q
theorem spNumbers_L {H : Hp} {a : Addr} {r : Rg} (h1 : RgAt K H a r) (h2 : SmallR r) (h3 : 0 < r.1.2.2) : SpL (spNumbers K) [.ref a] H ((mnumbers r).map V.int) :=
  fun H1 e _ q _ => ⟨a, r, rfl, h1.ex e, h2, h3, fun p H' hp e hl => q p H' hp e hl⟩
theorem ok_numbers (T : Tx K mg) : FnOk P w K mg base CX0 4 T.numbers_of.f T.numbers_of.d ["ring"] (spNumbers K) := by
  have G_fractions_of : FnOk P w K mg base CX0 3 T.fractions_of.f T.fractions_of.d ["place"] (spFracs K) := ok_fracs T
  have G_lowest : FnOk P w K mg base CX0 2 T.lowest.f T.lowest.d ["above", "below"] spLowest := ok_lowest T
  refine T.numbers_of.F.ok sc_numbers_of (fun vs H Q E h => ?_) (fun cdv A outer s H vs Q E hr h => ?_)
  · obtain ⟨a, r, rfl, _⟩ := h
    rfl
  · obtain ⟨a, r, rfl, hr1, s1, hw, k⟩ := h
    refine ⟨_, (pss_cons (ps_set (i := 1) sc_numbers_of.nd rfl (Or.inl rfl) (pe_ix ix_tup (pe_ix ix_tup (pv 0) pe_int (fun _ _ => rfl)) pe_int (fun _ _ => rfl)))
      (pss_one (ps_ret (pe_op op_cat (pe_call G_fractions_of (hr.mono (by decide)) rfl T.fractions_of.mg T.fractions_of.F.kp T.fractions_of.b .nil pass0 (pa_cons (pe_ix ix_tup (pv 0) pe_int (fun _ _ => rfl)) pa_nil)) (pe_call G_lowest (hr.mono (by decide)) rfl T.lowest.mg T.lowest.F.kp T.lowest.b .nil pass0 (pa_cons (pe_ix ix_tup (pv 0) pe_int (fun _ _ => rfl)) (pa_cons (pe_op op_mulW (pv 1) (pv 1)) pa_nil))))))), ?_⟩
    obtain ⟨c1, h1, g1⟩ := hr1
    refine q_asg (v := .int r.1.2.2) (ev_rw rfl h1 g1) fun H1 e1 => ?_
    replace h1 := ex_t e1 h1; replace g1 := g1.ex e1
    have w3 := s1.1.2.2
    refine s_retL (xs := (mnumbers r).map V.int) ?_ ?_
    rotate_left
    · intro p H2 hp e2 h2
      exact k.go e1 hp e2 h2
    unfold mnumbers
    rw [List.map_append]
    exact el_catNN (el_call (vs := [.ref c1]) (ea_cons (ev_it (j := 0) rfl h1 rfl) ea_nil) (spFracs_L g1 hw (w3.mono (by decide))))
      (el_call (vs := [.int r.2, .int (r.1.2.2 * r.1.2.2)]) (ea_cons (ev_it (j := 1) rfl h1 rfl) (ea_cons (ev_mul (ev_var rfl) (ev_var rfl) w3 w3 (by decide)) ea_nil)) (spLowest_L (Int.mul_pos hw hw) ((w3.mul w3).mono (by decide)))) (by show 4 + 2 ≤ 100000; decide)

/-! ### has_side_towards -/
def spSide (K : PySem.W.Frag) : Sp := fun vs H Q _ => ∃ (p b d : Addr) (cs : List Pl) (s t : IP), vs = [.ref p, .ref b, .ref d] ∧ CsAt K H p cs ∧ cs.length ≤ 1000 ∧ (∀ c ∈ cs, SmallC c) ∧ IpAt K H b s ∧ IpAt K H d t ∧ SmallS s ∧ SmallS t ∧ RetV (.bl (mside cs s t)) H Q
theorem CsAt.ex {H H' : Hp} {p : Addr} {cs : List Pl} (h : CsAt K H p cs) (e : Ex H H') : CsAt K H' p cs := by
  obtain ⟨ps, h1, h2, h3⟩ := h
  exact ⟨ps, h1, ex_l e h2, h3.ex e⟩
theorem spSide_V {H : Hp} {p b d : Addr} {cs : List Pl} {s t : IP} (h1 : CsAt K H p cs) (h2 : cs.length ≤ 1000) (h3 : ∀ c ∈ cs, SmallC c) (h4 : IpAt K H b s) (h5 : IpAt K H d t) (h6 : SmallS s) (h7 : SmallS t) : SpV (spSide K) [.ref p, .ref b, .ref d] H (.bl (mside cs s t)) :=
  fun H1 e Q q _ => ⟨p, b, d, cs, s, t, rfl, h1.ex e, h2, h3, h4.ex e, h5.ex e, h6, h7, fun H' e' => q H' e'⟩
def zpl : Addr × Pl := (0, (0, 0, 1))
theorem getD_of {α : Type} {l : List α} {i : Nat} {d x : α} (h : l[i]? = some x) : l.getD i d = x := by
  rw [List.getD_eq_getElem?_getD, h]
  rfl
theorem ok_side (T : Tx K mg) : FnOk P w K mg base CX0 2 T.has_side_towards.f T.has_side_towards.d ["corners", "own", "other"] (spSide K) := by
  have G_lead : FnOk P w K mg base CX0 1 T.lead.f T.lead.d ["place", "own", "other"] (spLead K) := ok_lead T
  refine T.has_side_towards.F.ok sc_has_side_towards (fun vs H Q E h => ?_) (fun cdv A outer s H vs Q E hr h => ?_)
  · obtain ⟨p, b, d, cs, s, t, rfl, _⟩ := h
    rfl
  · obtain ⟨p, b, d, cs, s, t, rfl, ⟨ps, rfl, hp, ha⟩, hlen, hsm, hs, ht, ss, st, k⟩ := h
    refine ⟨_, (pss_cons (ps_setLc (i := 3) (own := [("corner", 4)]) (g := gName 4) rfl sc_has_side_towards.nd rfl rfl (sw_true rfl rfl rfl rfl) (pi_list (pv 0)) (blkOk_by (own := [("corner", 4)]) (N := ["corners", "own", "other", "shared", "corner"]) (sc := defScope s_has_side_towards) (by decide +kernel)) (fun _ _ _ _ _ => pg_name (i := 4) sc_has_side_towards.nd rfl (Or.inl rfl)) (fun _ _ _ _ _ => by exact (pts_one (pt_cmpR op_eq (pe_call G_lead (hr.mono (by decide)) rfl T.lead.mg T.lead.F.kp T.lead.b .nil pass0 (pa_cons (pv 4) (pa_cons (pv 1) (pa_cons (pv 2) pa_nil)))) pe_int (nomark _)))) (fun _ _ _ _ _ => by exact (pv 4)))
      (pss_one (ps_ret (pe_cmpR op_eq (pe_callB call_len_seq (by rfl) T.b_len PySem.boot_len (pa_cons (pv 3) pa_nil)) pe_int (nomark _))))), ?_⟩
    rw [List.length_map] at hlen
    refine q_asgL (el_lcL (K := K) (fun i => decide (mlead (ps.getD i zpl).2 s t = 0)) (fun i => V.ref (ps.getD i zpl).1) (ev_var rfl) hp (by rw [refs_len]; omega) (fun x => rfl) ?_ ?_) fun q H1 hq e1 h1 => ?_
    · intro i x H1 e1 hx
      obtain ⟨a', c, hi, rfl⟩ := refs_get hx
      rw [getD_of hi]
      have hm := List.mem_of_getElem? hi
      exact et_test (ev_eqI (ev_call (vs := [.ref a', .ref b, .ref d]) (ea_cons (ev_var rfl) (ea_cons (ev_var rfl) (ea_cons (ev_var rfl) ea_nil))) (spLead_V ((ha _ hm).ex e1) (hs.ex e1) (ht.ex e1) (hsm c (List.mem_map_of_mem (f := Prod.snd) hm)).1 ss st)) ev_c)
    · intro i x H1 e1 hx _
      obtain ⟨a', c, hi, rfl⟩ := refs_get hx
      rw [getD_of hi]
      exact ev_var rfl
    · rw [refs_len, given_filter ps zpl (fun z => decide (mlead z.2 s t = 0)) (fun z => V.ref z.1)] at h1
      have hl : ((ps.filter fun z => decide (mlead z.2 s t = 0)).map fun z => V.ref z.1).length = ((ps.map Prod.snd).filter fun c => decide (mlead c s t = 0)).length := by
        rw [List.length_map, List.filter_map, List.length_map]
        rfl
      refine s_ret (v := .bl (mside (ps.map Prod.snd) s t)) (ev_is (ev_eqI (ev_is (ev_len (ev_var rfl) (sq_of h1)) (by rw [hl])) ev_c) ?_) fun H2 e2 => k.go (e1.trans e2)
      unfold mside
      congr 1
      apply decide_eq_decide.mpr
      omega

/-! ### ring_round -/
def irefs (ps : List (Addr × IP)) : List V := ps.map fun q => V.ref q.1
def IsAt (K : PySem.W.Frag) (H : Hp) (p : Addr) (ps : List (Addr × IP)) : Prop := SqL K H p (irefs ps) ∧ ∀ q ∈ ps, IpAt K H q.1 q.2
theorem IsAt.ex {H H' : Hp} {p : Addr} {ps : List (Addr × IP)} (h : IsAt K H p ps) (e : Ex H H') : IsAt K H' p ps := ⟨ex_l e h.1, fun q hq => (h.2 q hq).ex e⟩
theorem irefs_get {ps : List (Addr × IP)} {i : Nat} {x : V} (h : (irefs ps)[i]? = some x) : ∃ a c, ps[i]? = some (a, c) ∧ x = .ref a := by
  unfold irefs at h
  rw [List.getElem?_map] at h
  cases e : ps[i]? with
  | none => rw [e] at h; cases h
  | some q => rw [e] at h; exact ⟨q.1, q.2, rfl, (Option.some.inj h).symm⟩
theorem irefs_len (ps : List (Addr × IP)) : (irefs ps).length = ps.length := by simp [irefs]
def zis : Addr × IP := (0, (0, 0))
theorem mmost_is {l : List IP} {c : Pl} {v : Int} (h1 : v ∈ l.map (mfar c)) (h2 : ∀ y ∈ l.map (mfar c), y ≤ v) : mmost l c = v := by
  unfold mmost
  rw [List.max?_eq_some_iff.mpr ⟨h1, h2⟩]
  rfl
def spRound (K : PySem.W.Frag) : Sp := fun vs H Q _ => ∃ (a p : Addr) (c : Pl) (ps : List (Addr × IP)), vs = [.ref a, .ref p] ∧ PlAt K H a c ∧ SmallP c ∧ IsAt K H p ps ∧ ps ≠ [] ∧ ps.length ≤ 1000 ∧ (∀ q ∈ ps, SmallS q.2) ∧ RetU [.ref a, .int (mmost (ps.map Prod.snd) c)] H Q
theorem spRound_U {H : Hp} {a p : Addr} {c : Pl} {ps : List (Addr × IP)} (h1 : PlAt K H a c) (h2 : SmallP c) (h3 : IsAt K H p ps) (h4 : ps ≠ []) (h5 : ps.length ≤ 1000) (h6 : ∀ q ∈ ps, SmallS q.2) : SpU (spRound K) [.ref a, .ref p] H [.ref a, .int (mmost (ps.map Prod.snd) c)] :=
  fun H1 e Q q _ => ⟨a, p, c, ps, rfl, h1.ex e, h2, h3.ex e, h4, h5, h6, fun p H' hp e hl => q p H' hp e hl⟩
theorem ok_round (T : Tx K mg) : FnOk P w K mg base CX0 2 T.ring_round.f T.ring_round.d ["middle", "sites"] (spRound K) := by
  have G_far_times : FnOk P w K mg base CX0 1 T.far_times.f T.far_times.d ["place", "site"] (spFar K) := ok_far T
  refine T.ring_round.F.ok sc_ring_round (fun vs H Q E h => ?_) (fun cdv A outer s H vs Q E hr h => ?_)
  · obtain ⟨a, p, c, ps, rfl, _⟩ := h
    rfl
  · obtain ⟨a, p, c, ps, rfl, hc, sc, ⟨hp, hi⟩, hne, hlen, hsm, k⟩ := h
    refine ⟨_, (pss_one (ps_ret (pe_tup (pa_cons (pv 0) (pa_cons (pe_callB (cr_max rfl) (by rfl) T.b_max (by decide +kernel) (pa_cons (pe_lc (own := [("site", 2)]) (g := gName 2) rfl sc_ring_round.nd (pi_list (pv 1)) (blkOk_by (own := [("site", 2)]) (N := ["middle", "sites", "site"]) (sc := defScope s_ring_round) (by decide +kernel)) (fun _ _ _ _ _ => pg_name (i := 2) sc_ring_round.nd rfl (Or.inl rfl)) (fun _ _ _ _ _ => by exact pts_nil) (fun _ _ _ _ _ => by exact (pe_call G_far_times (hr.mono (by decide)) rfl T.far_times.mg T.far_times.F.kp T.far_times.b .nil pass0 (pa_cons (pv 0) (pa_cons (pv 2) pa_nil))))) pa_nil)) pa_nil))))), ?_⟩
    have hcomp := el_lcL (K := K) (σ := [some (.ref a), some (.ref p), none]) (H := H) (t := tYes) (te := tCall (spFar K) [] E0 (tCons (tVar 0) (tCons (tVar 2) tNil))) (tl := tVar 1) (j := 2) (vs := [2]) (fun _ => true) (fun i => V.int (mfar c (ps.getD i zis).2)) (ev_var rfl) hp (by rw [irefs_len]; omega) (fun x => rfl) (fun i x H1 e1 hx => et_yes) (by
        intro i x H1 e1 hx _
        obtain ⟨a', s, hi', rfl⟩ := irefs_get hx
        rw [getD_of hi']
        have hm := List.mem_of_getElem? hi'
        exact ev_call (vs := [.ref a, .ref a']) (ea_cons (ev_var rfl) (ea_cons (ev_var rfl) ea_nil)) (spFar_V (hc.ex e1) ((hi _ hm).ex e1) sc (hsm _ hm)))
    rw [irefs_len, given_filter ps zis (fun _ => true) (fun z => V.int (mfar c z.2))] at hcomp
    have hvals : (ps.filter fun _ => true).map (fun z => V.int (mfar c z.2)) = ((ps.map Prod.snd).map (mfar c)).map V.int := by
      rw [List.filter_eq_self.mpr (fun _ _ => rfl), List.map_map, List.map_map]
      rfl
    rw [hvals] at hcomp
    refine s_retU (eu_tup (ea_cons (ev_var rfl) (ea_cons (x := .int (mmost (ps.map Prod.snd) c)) ?_ ea_nil)) (by show 2 ≤ 100000; decide)) fun q H1 hq e1 hl => k q H1 hq e1 hl
    intro H5 e5 Q5 q5
    refine hcomp H5 e5 (fun v H6 => rMax K [v] H6 Q5) fun n H6 hn e6 h6 => ⟨n, (ps.map Prod.snd).map (mfar c), rfl, sq_of h6, by simpa using List.length_pos_iff.mpr hne, fun v hv hle => ?_⟩
    rw [← mmost_is hv hle]
    exact q5 H6 e6
end
end NP

set_option Elab.async false
set_option linter.unusedVariables false
set_option maxRecDepth 100000
set_option maxHeartbeats 2000000
namespace NP
open PySem PySem.Spec PyProof.Rows L2 Evl NS

/-! ### comprehensions that make tuples -/
def gvn {A : Type} (n : Nat) (f : Nat → Bool) (v : Nat → A) : List A := ((List.range n).filter f).map v
theorem gvn_yes {A : Type} {n : Nat} {f : Nat → Bool} {v : Nat → A} (h : f n = true) : gvn (n + 1) f v = gvn n f v ++ [v n] := by
  unfold gvn
  rw [List.range_succ, List.filter_append, List.map_append, List.filter_cons, if_pos h] <;> rfl
theorem gvn_no {A : Type} {n : Nat} {f : Nat → Bool} {v : Nat → A} (h : f n = false) : gvn (n + 1) f v = gvn n f v := by
  unfold gvn
  rw [List.range_succ, List.filter_append, List.map_append, List.filter_cons, if_neg (by rw [h]; decide)]
  show _ ++ [] = _
  rw [List.append_nil]
theorem gvn_len {A : Type} (n : Nat) (f : Nat → Bool) (v : Nat → A) : (gvn n f v).length ≤ n := by
  unfold gvn
  rw [List.length_map]
  have h := List.length_filter_le f (List.range n)
  rw [List.length_range] at h
  exact h
theorem gvn_filter {A B : Type} (l : List A) (d : A) (f : A → Bool) (g : A → B) : gvn l.length (fun i => f (l.getD i d)) (fun i => g (l.getD i d)) = (l.filter f).map g := by
  unfold gvn
  have h : (List.range l.length).map (fun i => l.getD i d) = l := by
    apply List.ext_getElem
    · simp
    · intro i h1 h2
      simp only [List.getElem_map, List.getElem_range]
      simp at h1
      simp [List.getD, h1]
  have e : l.filter f = (((List.range l.length).map (fun i => l.getD i d)).filter f) := by rw [h]
  rw [e, List.filter_map, List.map_map]
  rfl
theorem gvn_all {A B : Type} (l : List A) (d : A) (g : A → B) : gvn l.length (fun _ => true) (fun i => g (l.getD i d)) = l.map g := by
  have := gvn_filter l d (fun _ => true) g
  rw [List.filter_eq_self.mpr (fun _ _ => rfl)] at this
  exact this
/-- new tuples, by where they are -/
abbrev Nts := List (Addr × List V)
def nrefs (as : Nts) : List V := as.map fun q => V.ref q.1
def NtAt (H : Hp) (as : Nts) : Prop := ∀ q ∈ as, H q.1 = some (.tup q.2)
theorem NtAt.ex {H H' : Hp} {as : Nts} (h : NtAt H as) (e : Ex H H') : NtAt H' as := fun q hq => e _ _ (h q hq)
theorem NtAt.mut {H : Hp} {as : Nts} {p : Addr} {ys : List V} {o : HO} (h : NtAt H as) (hp : H p = some (.lst ys)) : NtAt (upd H p o) as := fun q hq => by
  rw [upd_ne (by rintro rfl; rw [h q hq] at hp; cases hp)]
  exact h q hq
theorem nrefs_len (as : Nts) : (nrefs as).length = as.length := by simp [nrefs]
def EvN (t : TE) (σ : L2.St) (H : Hp) (uss : List (List V)) : Prop := ∀ H1, Ex H H1 → ∀ Q : VK, (∀ p H2 (as : Nts), H1 p = none → Ex H1 H2 → as.map Prod.snd = uss → H2 p = some (.lst (nrefs as)) → NtAt H2 as → Q (.ref p) H2) → t σ H1 Q
section
variable {K : PySem.W.Frag} {σ : L2.St} {H : Hp} {ta te tl : TE} {t : TT} {D : Ends}
theorem lc_new {a : Addr} {xs : List V} {j : Nat} {vs : List Nat} {H1 : Hp} {Dl : Addr} {Qd : Hp → Prop} (f : Nat → Bool) (us : Nat → List V) (hx : SqL K H1 a xs) (hD : H1 Dl = none) (hz : xs.length ≤ 40000) (hw : ∀ x, wipe ((wipe σ vs).set j (some x)) vs = wipe σ vs)
    (ht : ∀ (i : Nat) (x : V), xs[i]? = some x → EvT t ((wipe σ vs).set j (some x)) H1 (f i)) (he : ∀ (i : Nat) (x : V), xs[i]? = some x → f i = true → EvU te ((wipe σ vs).set j (some x)) H1 (us i))
    (hd : ∀ H' (as : Nts), Ex H1 H' → as.map Prod.snd = gvn xs.length f us → H' Dl = some (.lst (nrefs as)) → NtAt H' as → Qd H') :
    ∃ W : Nat → Nat → Hp → Prop, (∃ m, W 0 m (upd H1 Dl (.lst []))) ∧ ∀ i m H, W i m H →
      ((Itl K a).stop i H ∧ Qd H) ∨ ((Itl K a).go i H ∧ ∃ Nx : Hp → Prop, (∀ H', Nx H' → ∃ m', m' < m ∧ W (i + 1) m' H') ∧ ∀ x H', (Itl K a).yld i H x H' → gName j x (wipe σ vs) H' fun σ2 H2 => wipe σ2 vs = wipe σ vs ∧ t σ2 H2 fun b H3 =>
        if b = true then te σ2 H3 fun y H4 => ∃ acc, H4 Dl = some (.lst acc) ∧ acc.length < sizeLine ∧ Nx (upd H4 Dl (.lst (acc ++ [y]))) else Nx H3) := by
  refine lc_list (xs := xs) (fun i H' => ∃ as : Nts, Ex H1 H' ∧ as.map Prod.snd = gvn i f us ∧ H' Dl = some (.lst (nrefs as)) ∧ NtAt H' as) ⟨[], Ex.new hD, rfl, upd_same, fun q hq => by simp at hq⟩ (fun i H' _ p => ?_) (fun i x H' hi p => ⟨hw x, ?_⟩) (fun H' p => ?_)
  · obtain ⟨as, e, _⟩ := p
    exact ex_l e hx
  · obtain ⟨as, e, hs, hl, hn⟩ := p
    refine ht i x hi H' e _ fun H3 e3 => ?_
    cases hf : f i with
    | true =>
      rw [if_pos rfl]
      refine he i x hi hf H3 (e.trans e3) _ fun p H4 hp e4 h4 => ?_
      have hl4 := (e3.trans e4) _ _ hl
      have hlen : as.length ≤ i := by
        have := congrArg List.length hs
        rw [List.length_map] at this
        have := gvn_len i f us
        omega
      refine ⟨nrefs as, hl4, sz_lt (by rw [nrefs_len]; have := (List.getElem?_eq_some_iff.mp hi).1; omega), as ++ [(p, us i)], Ex.mut ((e.trans e3).trans e4) hD, ?_, ?_, ?_⟩
      · rw [gvn_yes hf, List.map_append, hs]
        rfl
      · rw [upd_same]
        simp [nrefs]
      · intro q hq
        rw [List.mem_append] at hq
        rcases hq with hq | hq
        · exact (hn.ex (e3.trans e4)).mut hl4 q hq
        · rw [List.mem_singleton] at hq
          subst hq
          rw [upd_ne (by rintro rfl; rw [hl4] at h4; cases h4)]
          exact h4
    | false =>
      rw [if_neg (by decide)]
      refine ⟨as, e.trans e3, ?_, e3 _ _ hl, hn.ex e3⟩
      rw [gvn_no hf]
      exact hs
  · obtain ⟨as, e, hs, hl, hn⟩ := p
    exact hd H' as e hs hl hn
theorem en_lcNL {xs : List V} {j : Nat} {vs : List Nat} (f : Nat → Bool) (us : Nat → List V) (h : EvL tl σ H xs) (hz : xs.length ≤ 40000) (hw : ∀ x, wipe ((wipe σ vs).set j (some x)) vs = wipe σ vs)
    (ht : ∀ (i : Nat) (x : V) H1, Ex H H1 → xs[i]? = some x → EvT t ((wipe σ vs).set j (some x)) H1 (f i)) (he : ∀ (i : Nat) (x : V) H1, Ex H H1 → xs[i]? = some x → f i = true → EvU te ((wipe σ vs).set j (some x)) H1 (us i)) :
    EvN (tLc (iList K tl) (gName j) t te vs) σ H (gvn xs.length f us) := fun H0 e Q q => h H0 e _ fun a H1 ha e1 hx => ⟨a, rfl, ⟨xs, sq_of hx⟩, fun Dl hD =>
  lc_new f us (sq_of hx) hD hz hw (fun i x hi => ht i x H1 (e.trans e1) hi) (fun i x hi hf => he i x H1 (e.trans e1) hi hf) fun H' as e2 hs hl hn => q Dl H' as (fresh_back e1 hD) (e1.trans e2) hs hl hn⟩
theorem s_extN {l : Addr} {xs : List V} {uss : List (List V)} (hl : H l = some (.lst xs)) (ha : Ev ta σ H (.ref l)) (h : EvN te σ H uss) (hz : xs.length + uss.length ≤ 100000) (k : ∀ H1 (as : Nts), Ex H H1 → as.map Prod.snd = uss → NtAt H1 as → D.nx σ (upd H1 l (.lst (xs ++ nrefs as)))) :
    tDrop (tBM K "list" rExtend ta (tCons te tNil)) D σ H := ha H (Ex.refl H) _ fun H1 e1 =>
  ⟨Or.inl ⟨rfl, xs, sq_of (e1 l _ hl)⟩, h H1 e1 _ fun p H2 as hp e2 hs h2 hn => ⟨l, p, xs, nrefs as, rfl, rfl, e2 l _ (e1 l _ hl), h2, sz_of (by rw [nrefs_len, show as.length = uss.length by rw [← hs, List.length_map]]; exact hz), k H2 as (e1.trans e2) hs hn⟩⟩
theorem ev_neI {tb : TE} {i j : Int} (ha : Ev ta σ H (.int i)) (hb : Ev tb σ H (.int j)) : Ev (tOp rNe ta tb) σ H (.bl (decide (i ≠ j))) := by
  have : decide (i ≠ j) = !decide (V.int i = V.int j) := by rw [deq_int]; simp
  rw [this]
  exact ev_op ha hb (rv_ne rfl)
end

/-! ### min of a list of tuples of three ints -/
def trV (t : Tr) : List V := [.int t.1, .int t.2.1, .int t.2.2]
def trL (t : Tr) : List Int := [t.1, t.2.1, t.2.2]
theorem listLt_lt3 (a b : Tr) : PySem.W.listLt (trL a) (trL b) = lt3 a b := by
  unfold trL lt3
  simp only [PySem.W.listLt]
  show (if a.1 = b.1 then (if a.2.1 = b.2.1 then (if a.2.2 = b.2.2 then false else decide (a.2.2 < b.2.2)) else decide (a.2.1 < b.2.1)) else decide (a.1 < b.1)) = _
  by_cases h1 : a.1 = b.1
  · rw [if_pos h1]
    by_cases h2 : a.2.1 = b.2.1
    · rw [if_pos h2]
      by_cases h3 : a.2.2 = b.2.2
      · rw [if_pos h3]
        symm
        apply decide_eq_false
        omega
      · rw [if_neg h3]
        apply decide_eq_decide.mpr
        omega
    · rw [if_neg h2]
      apply decide_eq_decide.mpr
      omega
  · rw [if_neg h1]
    apply decide_eq_decide.mpr
    omega
def tpOf (t : Tr) : PySem.W.Tup Int := PySem.W.Tup.mk (trL t)
theorem minOf_tr : ∀ (L : List Tr) (b : Tr), PySem.W.minOf (tpOf b) (L.map tpOf) = tpOf (L.foldl min3 b)
  | [], b => rfl
  | a :: L, b => by
    have ih := minOf_tr L (min3 b a)
    unfold PySem.W.minOf at *
    rw [List.map_cons, List.foldl_cons, List.foldl_cons, ← ih]
    congr 1
    show (if PySem.W.listLt (trL a) (trL b) = true then tpOf a else tpOf b) = _
    rw [listLt_lt3]
    unfold min3
    split <;> rfl
theorem trL_inj {a b : Tr} (h : trL a = trL b) : a = b := by
  unfold trL at h
  injection h with h1 h
  injection h with h2 h
  injection h with h3 h
  exact Prod.ext h1 (Prod.ext h2 h3)
def rMinU (K : PySem.W.Frag) : List V → Hp → VK → Prop := fun vs H Q => ∃ (a : Addr) (ps : List (Addr × Tr)), vs = [V.ref a] ∧ SqL K H a (ps.map fun q => V.ref q.1) ∧ (∀ q ∈ ps, SqT K H q.1 (trV q.2)) ∧ ps ≠ [] ∧
  ∀ q ∈ ps, q.2 = mbest3 (ps.map Prod.snd) → Q (.ref q.1) H
theorem hold_trs {X : Cx} {pins : List (Addr × Obj)} {σ : L2.St} {H : Hp} {s : Shared} (I : Inv X pins σ H s) : ∀ {ps : List (Addr × Tr)} {its : List Value}, Vals (ps.map fun q => V.ref q.1) its → (∀ q ∈ ps, SqT X.K H q.1 (trV q.2)) →
    PySem.W.HoldAll s.heap its (ps.map fun q => tpOf q.2) ∧ its = ps.map fun q => Value.ref q.1
  | [], its, r, _ => by
    cases r
    exact ⟨PySem.W.HoldAll.nil, rfl⟩
  | q :: ps, its, r, h => by
    cases r with
    | cons r1 rs =>
      obtain ⟨h1, h2⟩ := hold_trs I rs (fun q' hq' => h q' (List.mem_cons_of_mem _ hq'))
      obtain ⟨ts, rv, hT, _⟩ := I.tuple (h q List.mem_cons_self)
      cases r1
      have hi : IntsAre ts.toArray.toList (trL q.2) := by
        have : Vals ((trL q.2).map V.int) ts := rv
        simpa using this.ints
      refine ⟨PySem.W.HoldAll.cons (PySem.W.holds_tup hT (PySem.W.HoldAll.of_ints hi)) h1, ?_⟩
      rw [h2]
      rfl
end NP

set_option Elab.async false
set_option linter.unusedVariables false
set_option maxRecDepth 100000
set_option maxHeartbeats 400000
namespace NP
open PySem PySem.Spec PyProof.Rows L2 Evl NS
theorem hold_uniq {h : Heap} {v : Value} {x y : Tr} (hx : PySem.W.Holds h v (tpOf x)) (hy : PySem.W.Holds h v (tpOf y)) : x = y := by
  obtain ⟨l1, vs1, e2, t1, a1⟩ := PySem.W.tup_of_holds hx
  obtain ⟨l2, vs2, e3, t2, a2⟩ := PySem.W.tup_of_holds hy
  have el : l1 = l2 := by
    have := e2.symm.trans e3
    injection this
  subst el
  obtain ⟨o1, g1, _, n1, d1⟩ := t1
  obtain ⟨o2, g2, _, n2, d2⟩ := t2
  have eo : o1 = o2 := by
    have := g1.symm.trans g2
    injection this
  subst eo
  have ev : vs1 = vs2 := by
    have := d1.symm.trans d2
    injection this
  subst ev
  have i1 := a1.toInts.numsOf
  have i2 := a2.toInts.numsOf
  exact trL_inj (i1.symm.trans i2)
theorem min_raw3 {prog : Program} {w : World} {A : Around} {E : Value → Shared → Prop} {s : Shared} {l : Addr} {its : List Value} {q0 : Addr × Tr} {ps : List (Addr × Tr)} {Q : Value → Shared → Prop} (hh : A.handled = none) (hl : s.heap.IsList l its.toArray)
    (h1 : PySem.W.HoldAll s.heap its (tpOf q0.2 :: (ps.map Prod.snd).map tpOf)) (h2 : its = (q0 :: ps).map fun q => Value.ref q.1) (hu : A.units + 64 < cLine)
    (k : ∀ q ∈ q0 :: ps, ∀ h' tk, q.2 = mbest3 ((q0 :: ps).map Prod.snd) → (∀ b o, s.heap.get? b = some o → h'.get? b = some o) → Q (.ref q.1) { s with heap := h', toks := tk }) :
    wpAny (model prog w) A (call (.builtin "min") [.ref l]) Q E s := by
  have hd : PySem.W.Datum.depth (PySem.W.Tup Int) ≤ 8 := by decide
  refine PySem.W.min_list_datum (α := PySem.W.Tup Int) (x := tpOf q0.2) (xs := (ps.map Prod.snd).map tpOf) hh hl h1 (by omega) ?_
  intro i v h' tk hv hold hk
  have hv' : its[i]? = some v := by
    rw [List.getElem?_toArray] at hv
    exact hv
  rw [h2, List.getElem?_map] at hv'
  obtain ⟨qi, hqi, rfl⟩ := Option.map_eq_some_iff.mp hv'
  have hm : qi ∈ q0 :: ps := List.mem_of_getElem? hqi
  obtain ⟨x, hx1, hx2⟩ := PySem.W.HoldAll.at h1 (i := i) (v := Value.ref qi.1) (by rw [h2, List.getElem?_map, hqi]; rfl)
  have e1 : tpOf q0.2 :: (ps.map Prod.snd).map tpOf = (q0 :: ps).map fun q => tpOf q.2 := by rw [List.map_map, List.map_cons]; rfl
  rw [e1, List.getElem?_map, hqi] at hx1
  have ex : tpOf qi.2 = x := Option.some.inj hx1
  subst ex
  rw [minOf_tr] at hold
  exact k qi hm h' tk (hold_uniq (hx2.keeps hk) hold) hk
theorem cr_minU {X : Cx} {k : Nat} (hc : X.calm = true) (hr : Room k X.A) : CallR X (.builtin "min") (rMinU X.K) := by
  intro pins s σ H vs us Q I r h
  obtain ⟨a, ps, rfl, hs, hx, hne, q⟩ := h
  obtain ⟨its, rv, hl, _⟩ := I.list hs
  rw [Vals.ref1 r]
  obtain ⟨h1, h2⟩ := hold_trs I rv hx
  cases ps with
  | nil => exact absurd rfl hne
  | cons q0 ps =>
    have e1 : ((q0 :: ps).map fun q => tpOf q.2) = tpOf q0.2 :: (ps.map Prod.snd).map tpOf := by rw [List.map_map, List.map_cons]; rfl
    rw [e1] at h1
    exact min_raw3 (I.ok.hd hc) hl.isList h1 h2 hr.units fun qi hm h' tk heq hk => ⟨.ref qi.1, H, I.kept hk, rfl, q qi hm heq⟩
end NP

set_option Elab.async false
set_option linter.unusedVariables false
set_option maxRecDepth 100000
set_option maxHeartbeats 1000000
namespace NP
open PySem PySem.Spec PyProof.Rows L2 Evl NS

section
variable {P : Program} {w : World} {K : PySem.W.Frag} {mg : Str → Option Value} {base : Heap}
/-! ### middles -/
theorem nts_pl {as : Nts} {cs : List Pl} (h : as.map Prod.snd = cs.map plV) : ∃ ps : List (Addr × Pl), ps.map Prod.snd = cs ∧ nrefs as = refs ps ∧ ∀ H, NtAt H as → AllAt K H ps := by
  refine ⟨(as.map Prod.fst).zip cs, ?_, ?_, ?_⟩
  · have hl : (as.map Prod.fst).length = cs.length := by
      have := congrArg List.length h
      simpa using this
    exact List.map_snd_zip (by omega)
  · have hl : (as.map Prod.fst).length = cs.length := by
      have := congrArg List.length h
      simpa using this
    have e : ((as.map Prod.fst).zip cs).map Prod.fst = as.map Prod.fst := List.map_fst_zip (by omega)
    unfold nrefs refs
    have e1 : as.map (fun q => V.ref q.1) = (as.map Prod.fst).map V.ref := by rw [List.map_map]; rfl
    have e2 : ((as.map Prod.fst).zip cs).map (fun q => V.ref q.1) = (((as.map Prod.fst).zip cs).map Prod.fst).map V.ref := by rw [List.map_map]; rfl
    rw [e1, e2, e]
  · intro H hn q hq
    obtain ⟨i, hi, rfl⟩ := List.getElem_of_mem hq
    have hi' := hi
    rw [List.length_zip, List.length_map] at hi'
    have ha : i < as.length := by omega
    have hc : i < cs.length := by omega
    have hz : ((as.map Prod.fst).zip cs)[i] = (as[i].1, cs[i]) := by simp
    rw [hz]
    have h0 := hn as[i] (List.getElem_mem ha)
    have h1 : as[i].2 = plV cs[i] := by
      have := congrArg (fun l => l[i]?) h
      simp only [List.getElem?_map, List.getElem?_eq_getElem ha, List.getElem?_eq_getElem hc, Option.map_some] at this
      exact Option.some.inj this
    rw [h1] at h0
    exact st_of h0
def spMiddles (K : PySem.W.Frag) : Sp := fun vs H Q _ => ∃ (p : Addr) (ps : List (Addr × IP)), vs = [.ref p] ∧ IsAt K H p ps ∧ ps.length ≤ 8 ∧ (∀ q ∈ ps, SmallS q.2) ∧ RetCs K (mmiddles (ps.map Prod.snd)) H Q
theorem mids2_len (l : List IP) (a : IP) (j : Nat) (hj : j ≤ 8) : (mmids2 l a j).length ≤ 9 := by
  unfold mmids2 mmids3
  rw [List.length_cons, List.length_map]
  have := List.length_filter_le (fun c => decide (mturn a (l.getD j zip0) c ≠ 0)) (l.take j)
  rw [List.length_take] at this
  omega
theorem ok_middles (T : Tx K mg) : FnOk P w K mg base CX0 3 T.middles.f T.middles.d ["sites"] (spMiddles K) := by
  have G_as_place : FnOk P w K mg base CX0 1 T.as_place.f T.as_place.d ["site"] (spAsPlace K) := ok_asplace T
  have G_halfway : FnOk P w K mg base CX0 1 T.halfway.f T.halfway.d ["one", "other"] (spHalf K) := ok_half T
  have G_turn : FnOk P w K mg base CX0 1 T.turn.f T.turn.d ["one", "other", "third"] (spTurn K) := ok_turn T
  have G_as_far_from : FnOk P w K mg base CX0 2 T.as_far_from.f T.as_far_from.d ["one", "other", "third"] (spAfar K) := ok_afar T
  refine T.middles.F.ok sc_middles (fun vs H Q E h => ?_) (fun cdv A outer s H vs Q E hr h => ?_)
  · obtain ⟨p, ps, rfl, _⟩ := h
    rfl
  · obtain ⟨p, ps, rfl, ⟨hp, hi0⟩, hlen, hsm, k⟩ := h
    refine ⟨_, (pss_cons (ps_set (i := 1) sc_middles.nd rfl (Or.inl rfl) (pe_lst pa_nil))
      (pss_cons (ps_for PassesOwn.never rfl (pi_range1 rfl T.b_range (pa_cons (pe_callB call_len_seq (by rfl) T.b_len PySem.boot_len (pa_cons (pv 0) pa_nil)) pa_nil)) (pg_name (i := 2) sc_middles.nd rfl (Or.inr rfl))
        (pss_cons (ps_expr (pe_bm PySem.F.plainAttrs_list PySem.F.slot_list_append PySem.F.type_list_append mt_append (pv 1) (pa_cons (pe_call G_as_place (hr.mono (by decide)) rfl T.as_place.mg T.as_place.F.kp T.as_place.b .nil pass0 (pa_cons (pe_ix ix_list (pv 0) (pv 2) (fun _ _ => rfl)) pa_nil)) pa_nil)))
        (pss_one (ps_for PassesOwn.never rfl (pi_range1 rfl T.b_range (pa_cons (pv 2) pa_nil)) (pg_name (i := 3) sc_middles.nd rfl (Or.inr rfl))
          (pss_cons (ps_expr (pe_bm PySem.F.plainAttrs_list PySem.F.slot_list_append PySem.F.type_list_append mt_append (pv 1) (pa_cons (pe_call G_halfway (hr.mono (by decide)) rfl T.halfway.mg T.halfway.F.kp T.halfway.b .nil pass0 (pa_cons (pe_ix ix_list (pv 0) (pv 2) (fun _ _ => rfl)) (pa_cons (pe_ix ix_list (pv 0) (pv 3) (fun _ _ => rfl)) pa_nil))) pa_nil)))
          (pss_one (ps_expr (pe_bm PySem.F.plainAttrs_list PySem.F.slot_list_extend PySem.F.type_list_extend mt_extend (pv 1) (pa_cons (pe_lc (own := [("third", 4)]) (g := gName 4) rfl sc_middles.nd (pi_list (pe_slice sl_list (pv 0) po_none (po_some (pv 3)))) (blkOk_by (own := [("third", 4)]) (N := ["sites", "found", "at", "before", "third"]) (sc := defScope s_middles) (by decide +kernel)) (fun _ _ _ _ _ => pg_name (i := 4) sc_middles.nd rfl (Or.inl rfl)) (fun _ _ _ _ _ => by exact (pts_one (pt_cmpR op_ne (pe_call G_turn (hr.mono (by decide)) rfl T.turn.mg T.turn.F.kp T.turn.b .nil pass0 (pa_cons (by exact pe_ix (r := rIxL K) ix_list (pv 0) (pv 2) (fun _ _ => rfl)) (pa_cons (by exact pe_ix (r := rIxL K) ix_list (pv 0) (pv 3) (fun _ _ => rfl)) (pa_cons (pv 4) pa_nil)))) pe_int (nomark _)))) (fun _ _ _ _ _ => by exact (pe_call G_as_far_from (hr.mono (by decide)) rfl T.as_far_from.mg T.as_far_from.F.kp T.as_far_from.b .nil pass0 (pa_cons (by exact pe_ix (r := rIxL K) ix_list (pv 0) (pv 2) (fun _ _ => rfl)) (pa_cons (by exact pe_ix (r := rIxL K) ix_list (pv 0) (pv 3) (fun _ _ => rfl)) (pa_cons (pv 4) pa_nil)))))) pa_nil)))))))))
      (pss_one (ps_ret (pv 1))))), ?_⟩
    have hgd : ∀ {i : Nat} {a : Addr} {s : IP}, ps[i]? = some (a, s) → (ps.map Prod.snd).getD i zip0 = s := by
      intro i a s h
      refine getD_of ?_
      rw [List.getElem?_map, h]
      rfl
    have hir : ∀ {i : Nat} {a : Addr} {s : IP}, ps[i]? = some (a, s) → atI (irefs ps) (i : Int) = some (.ref a) := by
      intro i a s h
      refine at_nat ?_
      unfold irefs
      rw [List.getElem?_map, h]
      rfl
    refine q_asgL (el_lst ea_nil (by show 0 ≤ 100000; decide)) fun fd H1 hfd e1 hf1 => ?_
    refine q_forR1 (n := (ps.length : Int)) (ea_cons (ev_is (ev_len (ev_var rfl) (ex_l e1 hp)) (by rw [irefs_len])) ea_nil) (by omega) (fun i σ' H' => ∃ (x y : Option V) (qs : List (Addr × Pl)),
        σ' = [some (.ref p), some (.ref fd), x, y, none] ∧ Ex H H' ∧ H' fd = some (.lst (refs qs)) ∧ AllAt K H' qs ∧ qs.map Prod.snd = (List.range i).flatMap (mmids1 (ps.map Prod.snd)) ∧ qs.length ≤ 100 * i) ?_ ?_ ?_
    · intro H2 e2
      exact ⟨none, none, [], rfl, e1.trans e2, e2 _ _ hf1, fun q hq => by simp at hq, by simp, by simp⟩
    · rintro i σ' H' hi ⟨x, y, qs, rfl, e, hfl, hall, hqs, hql⟩
      obtain ⟨⟨a, s⟩, ha⟩ : ∃ q, ps[i]? = some q := ⟨_, List.getElem?_eq_getElem (by omega)⟩
      have ham := List.mem_of_getElem? ha
      refine q_appU hfl (ev_var rfl) (eu_call (vs := [.ref a]) (ea_cons (ev_op (ev_var rfl) (ev_var rfl) (rv_ixL (ex_l e hp) (hir ha))) ea_nil) (spAsPlace_U ((hi0 _ ham).ex e))) (by rw [refs_len]; omega) fun n H2 hn e2 h2 => ?_
      have hfl2 := e2 _ _ hfl
      have e02 : Ex H (upd H2 fd (.lst (refs qs ++ [.ref n]))) := Ex.mut (e.trans e2) hfd
      have hall2 : AllAt K (upd H2 fd (.lst (refs qs ++ [.ref n]))) (qs ++ [(n, mas s)]) := by
        intro q hq
        rw [List.mem_append] at hq
        rcases hq with hq | hq
        · exact (hall.ex e2).mut hfl2 q hq
        · rw [List.mem_singleton] at hq
          subst hq
          exact PlAt.mut (st_of h2) hfl2
      refine s_forR1 (n := (i : Int)) (ea_cons (ev_var rfl) ea_nil) (by omega) (fun j σ' H' => ∃ (y : Option V) (qs2 : List (Addr × Pl)),
        σ' = [some (.ref p), some (.ref fd), some (.int (i : Int)), y, none] ∧ Ex H H' ∧ H' fd = some (.lst (refs qs2)) ∧ AllAt K H' qs2 ∧ qs2.map Prod.snd = (List.range i).flatMap (mmids1 (ps.map Prod.snd)) ++ mas s :: (List.range j).flatMap (mmids2 (ps.map Prod.snd) s) ∧ qs2.length ≤ 100 * i + 1 + 9 * j) ?_ ?_ ?_
      · intro H3 e3
        refine ⟨y, qs ++ [(n, mas s)], rfl, e02.trans e3, ?_, hall2.ex e3, ?_, ?_⟩
        · rw [e3 _ _ upd_same]
          simp [refs]
        · rw [List.map_append, hqs]
          simp
        · simp
          omega
      · rintro j σ' H' hj ⟨y', qs2, rfl, e', hfl', hall', hqs', hql'⟩
        obtain ⟨⟨b, t⟩, hb⟩ : ∃ q, ps[j]? = some q := ⟨_, List.getElem?_eq_getElem (by omega)⟩
        have hbm := List.mem_of_getElem? hb
        refine q_appU hfl' (ev_var rfl) (eu_call (vs := [.ref a, .ref b]) (ea_cons (ev_op (ev_var rfl) (ev_var rfl) (rv_ixL (ex_l e' hp) (hir ha))) (ea_cons (ev_op (ev_var rfl) (ev_var rfl) (rv_ixL (ex_l e' hp) (hir hb))) ea_nil)) (spHalf_U ((hi0 _ ham).ex e') ((hi0 _ hbm).ex e'))) (by rw [refs_len]; omega) fun n3 H3 hn3 e3 h3 => ?_
        have hfl3 := e3 _ _ hfl'
        have e03 : Ex H (upd H3 fd (.lst (refs qs2 ++ [.ref n3]))) := Ex.mut (e'.trans e3) hfd
        have hall3 : AllAt K (upd H3 fd (.lst (refs qs2 ++ [.ref n3]))) (qs2 ++ [(n3, mhalf s t)]) := by
          intro q hq
          rw [List.mem_append] at hq
          rcases hq with hq | hq
          · exact (hall'.ex e3).mut hfl3 q hq
          · rw [List.mem_singleton] at hq
            subst hq
            exact PlAt.mut (st_of h3) hfl3
        have hfl4 : (upd H3 fd (.lst (refs qs2 ++ [.ref n3]))) fd = some (.lst (refs (qs2 ++ [(n3, mhalf s t)]))) := by
          rw [upd_same]
          simp [refs]
        generalize upd H3 fd (.lst (refs qs2 ++ [.ref n3])) = H4 at *
        have hjl : j ≤ (irefs ps).length := by rw [irefs_len]; omega
        have hcut : cutV (irefs ps) none (some (j : Int)) = irefs (ps.take j) := by
          rw [cut_to hjl]
          unfold irefs
          rw [List.map_take]
        have hsl := el_sl (K := K) (σ := [some (.ref p), some (.ref fd), some (.int (i : Int)), some (.int (j : Int)), none]) (H := H4) (te := tVar 0) (tl := tNoPart) (th := tPart (tVar 3)) (ev_var rfl) eo_none (eo_some (ev_var rfl)) (ex_l e03 hp)
        rw [hcut] at hsl
        have htj : (ps.take j).length = j := by rw [List.length_take]; omega
        have hcomp := en_lcNL (K := K) (j := 4) (vs := [4]) (t := tTest (tOp rNe (tCall (spTurn K) [] E0 (tCons (tOp (rIxL K) (tVar 0) (tVar 2)) (tCons (tOp (rIxL K) (tVar 0) (tVar 3)) (tCons (tVar 4) tNil)))) (tC (.int 0)))) (te := tCall (spAfar K) [] E0 (tCons (tOp (rIxL K) (tVar 0) (tVar 2)) (tCons (tOp (rIxL K) (tVar 0) (tVar 3)) (tCons (tVar 4) tNil))))
          (fun m => decide (mturn s t ((ps.take j).getD m zis).2 ≠ 0)) (fun m => plV (mafar s t ((ps.take j).getD m zis).2)) hsl (by rw [irefs_len]; omega) (fun x => rfl) (by
            intro m x H5 e5 hx
            obtain ⟨c, u, hc, rfl⟩ := irefs_get hx
            rw [getD_of hc]
            have hcm : (c, u) ∈ ps := List.mem_of_mem_take (List.mem_of_getElem? hc)
            have e05 := e03.trans e5
            exact et_test (ev_neI (ev_call (vs := [.ref a, .ref b, .ref c]) (ea_cons (ev_op (ev_var rfl) (ev_var rfl) (rv_ixL (ex_l e05 hp) (hir ha))) (ea_cons (ev_op (ev_var rfl) (ev_var rfl) (rv_ixL (ex_l e05 hp) (hir hb))) (ea_cons (ev_var rfl) ea_nil)))
              (spTurn_V ((hi0 _ ham).ex e05) ((hi0 _ hbm).ex e05) ((hi0 _ hcm).ex e05) (hsm _ ham) (hsm _ hbm) (hsm _ hcm))) ev_c)) (by
            intro m x H5 e5 hx _
            obtain ⟨c, u, hc, rfl⟩ := irefs_get hx
            rw [getD_of hc]
            have hcm : (c, u) ∈ ps := List.mem_of_mem_take (List.mem_of_getElem? hc)
            have e05 := e03.trans e5
            exact eu_call (vs := [.ref a, .ref b, .ref c]) (ea_cons (ev_op (ev_var rfl) (ev_var rfl) (rv_ixL (ex_l e05 hp) (hir ha))) (ea_cons (ev_op (ev_var rfl) (ev_var rfl) (rv_ixL (ex_l e05 hp) (hir hb))) (ea_cons (ev_var rfl) ea_nil)))
              (spAfar_U ((hi0 _ ham).ex e05) ((hi0 _ hbm).ex e05) ((hi0 _ hcm).ex e05) (hsm _ ham) (hsm _ hbm) (hsm _ hcm)))
        rw [irefs_len, gvn_filter (ps.take j) zis (fun z => decide (mturn s t z.2 ≠ 0)) (fun z => plV (mafar s t z.2))] at hcomp
        have hm3 : ((ps.take j).filter fun z => decide (mturn s t z.2 ≠ 0)).map (fun z => plV (mafar s t z.2)) = (mmids3 (ps.map Prod.snd) s t j).map plV := by
          unfold mmids3
          rw [← List.map_take, List.filter_map, List.map_map, List.map_map]
          rfl
        rw [hm3] at hcomp
        have hm2 : mmids2 (ps.map Prod.snd) s j = mhalf s t :: mmids3 (ps.map Prod.snd) s t j := by
          unfold mmids2
          rw [hgd hb]
        have hl2 := mids2_len (ps.map Prod.snd) s j (by omega)
        rw [hm2, List.length_cons] at hl2
        refine s_extN hfl4 (ev_var rfl) hcomp (by rw [refs_len, List.length_append, List.length_map]; simp; omega) fun H5 as e5 has hnt => ?_
        obtain ⟨ps5, q1, q2, q3⟩ := nts_pl (K := K) has
        rw [q2]
        refine ⟨some (.int (j : Int)), qs2 ++ [(n3, mhalf s t)] ++ ps5, rfl, Ex.mut (e03.trans e5) hfd, ?_, ?_, ?_, ?_⟩
        · rw [upd_same]
          simp [refs]
        · intro q hq
          rw [List.mem_append] at hq
          rcases hq with hq | hq
          · exact (hall3.ex e5).mut (e5 _ _ hfl4) q hq
          · exact (q3 H5 hnt).mut (e5 _ _ hfl4) q hq
        · rw [List.map_append, List.map_append, hqs', q1, List.range_succ, List.flatMap_append]
          simp [hm2]
        · have : ps5.length = (mmids3 (ps.map Prod.snd) s t j).length := by rw [← q1, List.length_map]
          simp
          omega
      · rintro σ' H' ⟨y', qs2, rfl, e', hfl', hall', hqs', hql'⟩
        have hti : (i : Int).toNat = i := by omega
        rw [hti] at hqs' hql'
        refine ⟨some (.int (i : Int)), y', qs2, rfl, e', hfl', hall', ?_, by omega⟩
        rw [hqs', List.range_succ, List.flatMap_append]
        have hm1 : mmids1 (ps.map Prod.snd) i = mas s :: (List.range i).flatMap (mmids2 (ps.map Prod.snd) s) := by
          unfold mmids1
          rw [hgd ha]
        simp [hm1]
    · rintro σ' H' ⟨x, y, qs, rfl, e, hfl, hall, hqs, hql⟩
      refine s_ret (ev_var rfl) fun H3 e3 => ?_
      refine k fd H3 qs hfd (e.trans e3) ?_ (e3 _ _ hfl) (hall.ex e3)
      rw [hqs]
      unfold mmiddles
      have hti : (ps.length : Int).toNat = (ps.map Prod.snd).length := by simp
      rw [hti]
end
end NP

set_option Elab.async false
set_option linter.unusedVariables false
set_option maxRecDepth 100000
set_option maxHeartbeats 1000000
namespace NP
open PySem PySem.Spec PyProof.Rows L2 Evl NS
section
variable {P : Program} {w : World} {K : PySem.W.Frag} {mg : Str → Option Value} {base : Heap}
theorem land_get {H : Hp} {m : Ld} {qs : Qs} {z : Nat × IP} (wf : Wf m) (h3 : qsS qs = m.sites) (h4 : QsAt K H qs) (hz : z ∈ m.sites) : ∃ a, valV (qsV qs) (Sum.inl (z.1 : Int)) = some (.ref a) ∧ IpAt K H a z.2 := by
  have hrise : (qs.map Prod.fst).Pairwise (· < ·) := by rw [← qs_fst, h3]; exact wf.rise
  rw [← h3] at hz
  unfold qsS at hz
  obtain ⟨q, hq, rfl⟩ := List.mem_map.mp hz
  obtain ⟨i, hi, rfl⟩ := List.getElem_of_mem hq
  exact ⟨_, qsV_get hrise (List.getElem?_eq_getElem hi), h4 _ hq⟩
def nmV (m : Ld) : List V := m.sites.map fun z => V.int (z.1 : Int)
theorem sorted_vals {qs : Qs} {m : Ld} (h3 : qsS qs = m.sites) : ((qs.map fun q => (q.1 : Int)).map V.int) = nmV m := by
  unfold nmV
  rw [← h3]
  unfold qsS
  rw [List.map_map, List.map_map]
  rfl
theorem el_sortedM {σ : L2.St} {H : Hp} {ta : TE} {d : Addr} {qs : Qs} {m : Ld} (wf : Wf m) (h3 : qsS qs = m.sites) (ha : Ev ta σ H (.ref d)) (hd : H d = some (.dK (qsV qs))) :
    EvL (tCB (fun xs H Q => ∃ (a : Addr) (kvs : List (Key × V)) (ks : List Int), xs = [.ref a] ∧ Rd H a (.dK kvs) ∧ kvs.map (·.1) = ks.map Sum.inl ∧ ks.length < 64 ∧ ∀ (ys : List Int) (p : Addr), ys.Perm ks → ys.Pairwise (· ≤ ·) → H p = none → Q (.ref p) (upd H p (.lst (ys.map V.int)))) (tCons ta tNil)) σ H
      (nmV m) := by
  rw [← sorted_vals h3]
  have hrise : (qs.map Prod.fst).Pairwise (· < ·) := by rw [← qs_fst, h3]; exact wf.rise
  have hlq : qs.length = m.sites.length := by rw [← h3]; simp [qsS]
  exact el_sortedD ha hd hrise (by have := wf.few; omega)
theorem lenD_m {qs : Qs} {m : Ld} (h3 : qsS qs = m.sites) : (qsV qs).length = m.sites.length := by rw [← h3]; simp [qsV, qsS]
theorem map_get {α : Type} {l : List α} {f : α → V} {i : Nat} {x : V} (h : (l.map f)[i]? = some x) : ∃ z, l[i]? = some z ∧ x = f z := by
  rw [List.getElem?_map] at h
  obtain ⟨z, hz, e⟩ := Option.map_eq_some_iff.mp h
  exact ⟨z, hz, e.symm⟩

/-! ### sites -/
def spSites (K : PySem.W.Frag) (C : Addr) : Sp := fun vs H Q _ => ∃ (l : Addr) (m : Ld), vs = [.ref l] ∧ LandAt K C H l m ∧ Wf m ∧ RetL ((msites m).map V.int) H Q
theorem ok_sites (T : Tx K mg) : FnOk P w K mg base CX0 1 T.sites.f T.sites.d ["self"] (spSites K T.C) := by
  refine T.sites.F.ok sc_sites (fun vs H Q E h => ?_) (fun cdv A outer s H vs Q E hr h => ?_)
  · obtain ⟨l, m, rfl, _⟩ := h
    rfl
  · obtain ⟨l, m, rfl, hL, wf, ret⟩ := h
    have hu := hu_of hr
    refine ⟨_, (pss_cons (ps_set (i := 1) sc_sites.nd rfl (Or.inl rfl) (pe_lst (pa_cons (pe_callB call_lenD (by rfl) T.b_len PySem.boot_len (pa_cons (pe_fld (pv 0) rfl) pa_nil)) pa_nil)))
      (pss_cons (ps_for PassesOwn.never rfl (pi_list (pe_callB (call_sortedDI rfl) (by rfl) T.b_sorted (by decide +kernel) (pa_cons (pe_fld (pv 0) rfl) pa_nil))) (pg_name (i := 2) sc_sites.nd rfl (Or.inl rfl))
        (pss_cons (ps_set (i := 3) sc_sites.nd rfl (Or.inl rfl) (pe_dget hu (pe_fld (pv 0) rfl) (pv 2) (fun _ _ => rfl)))
        (pss_one (ps_expr (pe_bm PySem.F.plainAttrs_list PySem.F.slot_list_extend PySem.F.type_list_extend mt_extend (pv 1) (pa_cons (pe_lst (pa_cons (pv 2) (pa_cons (pe_ix ix_tup (pv 3) pe_int (fun _ _ => rfl)) (pa_cons (pe_ix ix_tup (pv 3) pe_int (fun _ _ => rfl)) pa_nil)))) pa_nil))))))
      (pss_one (ps_ret (pv 1))))), ?_⟩
    obtain ⟨dx, d, qs, h1, h2, h3, h4⟩ := hL
    refine q_asgL (el_lst (ea_cons (ev_is (ev_lenD (ev_places rfl h1) h2) (by rw [lenD_m h3])) ea_nil) (by show 1 ≤ 100000; decide)) fun an H1 han e1 ha1 => ?_
    have hsrt := el_sortedM (σ := [some (.ref l), some (.ref an), none, none]) (H := H1) (ta := tFld K (tVar 0) "places") wf h3 (ev_places (T := T) (i := 0) (n := m.given) (dx := dx) rfl (e1 _ _ h1)) (e1 _ _ h2)
    refine q_forNLn (xs := nmV m) hsrt (fun p i σ' H' => ∃ (x y : Option V), σ' = [some (.ref l), some (.ref an), x, y] ∧ Ex H H' ∧ p ≠ an ∧ H' p = some (.lst (nmV m)) ∧
      H' an = some (.lst (((m.sites.length : Int) :: (m.sites.take i).flatMap fun z => [(z.1 : Int), z.2.1, z.2.2]).map V.int))) ?_ ?_ ?_ ?_
    · intro p H2 hp e2 hp2
      refine ⟨none, none, rfl, e1.trans e2, ?_, hp2, e2 _ _ ha1⟩
      rintro rfl
      rw [ha1] at hp
      cases hp
    · rintro p i σ' H' _ ⟨x, y, rfl, e, hne, hp, _⟩
      exact sq_of hp
    · rintro p i v σ' H' hv ⟨x, y, rfl, e, hne, hp, ha⟩
      unfold nmV at hv
      obtain ⟨z, hz, rfl⟩ := map_get hv
      have hzm := List.mem_of_getElem? hz
      obtain ⟨a, hva, hia⟩ := land_get wf h3 h4 hzm
      refine q_asg (v := .ref a) (ev_dget (k := z.1) (ev_places rfl (e _ _ h1)) (ev_var rfl) (e _ _ h2) hva) fun H2 e2 => ?_
      have hi2 := hia.ex (e.trans e2)
      refine s_extL (e2 _ _ ha) (ev_var rfl) (el_lst (ea_cons (ev_var rfl) (ea_cons (ev_s rfl hi2) (ea_cons (ev_t rfl hi2) ea_nil))) (by show 3 ≤ 100000; decide)) ?_ fun H3 e3 => ?_
      · have hfl : ∀ (L : List (Nat × IP)), (L.flatMap fun z => [(z.1 : Int), z.2.1, z.2.2]).length = 3 * L.length := by
          intro L
          induction L with
          | nil => rfl
          | cons a L ih => rw [List.flatMap_cons, List.length_append, ih]; simp; omega
        rw [List.length_map, List.length_cons, hfl, List.length_take]
        have := wf.few
        simp
        omega
      · refine ⟨_, _, rfl, Ex.mut (e.trans (e2.trans e3)) han, hne, ?_, ?_⟩
        · rw [upd_ne hne]
          exact (e2.trans e3) _ _ hp
        · rw [upd_same, List.take_add_one, hz, List.flatMap_append]
          simp
    · rintro p σ' H' ⟨x, y, rfl, e, hne, hp, ha⟩
      refine s_ret (ev_var rfl) fun H3 e3 => ?_
      refine ret an H3 han (e.trans e3) ?_
      unfold nmV at ha
      rw [e3 _ _ ha, List.length_map, List.take_length]
      rfl

/-! ### beside -/
def spBeside (K : PySem.W.Frag) (C : Addr) : Sp := fun vs H Q _ => ∃ (l : Addr) (m : Ld) (k : Nat), vs = [.ref l, .int (k : Int)] ∧ LandAt K C H l m ∧ Wf m ∧ RetL ((mbeside m k).map V.int) H Q
theorem find_none {m : Ld} {k : Nat} (hb : (!(m.sites.any fun z => decide (z.1 = k))) = true) : m.sites.find? (fun z => decide (z.1 = k)) = none := by
  rw [List.find?_eq_none]
  intro z hz hzk
  have : (m.sites.any fun z => decide (z.1 = k)) = true := List.any_eq_true.mpr ⟨z, hz, hzk⟩
  rw [this] at hb
  cases hb
theorem find_some {m : Ld} {k : Nat} (hb : (!(m.sites.any fun z => decide (z.1 = k))) = false) : ∃ z, m.sites.find? (fun z => decide (z.1 = k)) = some z ∧ z ∈ m.sites ∧ z.1 = k := by
  have : (m.sites.any fun z => decide (z.1 = k)) = true := by simpa using hb
  obtain ⟨z0, hz0, hk0⟩ := List.any_eq_true.mp this
  obtain ⟨z, hz⟩ := Option.isSome_iff_exists.mp (by rw [List.find?_isSome]; exact ⟨z0, hz0, hk0⟩ : (m.sites.find? fun z => decide (z.1 = k)).isSome = true)
  exact ⟨z, hz, List.mem_of_find?_eq_some hz, by have := List.find?_some hz; simpa using this⟩
theorem mothers_len {m : Ld} (wf : Wf m) (s : IP) : (mothers m s).length ≤ 8 := by
  unfold mothers
  refine Nat.le_trans (List.length_filter_le _ _) ?_
  rw [List.length_map]
  exact wf.few
theorem ok_beside (T : Tx K mg) (S : Sqr K mg) : FnOk P w K mg base CX0 5 T.beside.f T.beside.d ["self", "name"] (spBeside K T.C) := by
  have G_corners_of : FnOk P w K mg base CX0 4 T.corners_of.f T.corners_of.d ["self", "name"] (spCorners K T.C) := ok_corners T S
  have G_has_side_towards : FnOk P w K mg base CX0 2 T.has_side_towards.f T.has_side_towards.d ["corners", "own", "other"] (spSide K) := ok_side T
  refine T.beside.F.ok sc_beside (fun vs H Q E h => ?_) (fun cdv A outer s H vs Q E hr h => ?_)
  · obtain ⟨l, m, k, rfl, _⟩ := h
    rfl
  · obtain ⟨l, m, k, rfl, hL, wf, ret⟩ := h
    have hu := hu_of hr
    refine ⟨_, (pss_cons (ps_if (pt_cmp (pc_dnotin hu (pv 1) (pe_fld (pv 0) rfl)))
        (pss_one (ps_ret (pe_lst (pa_cons (pe_glob rfl T.g_NO_SUCH_SITE.choose_spec rel_int) pa_nil))))
        pss_nil)
      (pss_cons (ps_set (i := 2) sc_beside.nd rfl (Or.inr rfl) (pe_dget hu (pe_fld (pv 0) rfl) (pv 1) (fun _ _ => rfl)))
      (pss_cons (ps_set (i := 3) sc_beside.nd rfl (Or.inr rfl) (pe_meth (pv 0) T.cl T.corners_of.m G_corners_of (hr.mono (by decide)) T.corners_of.b .nil pass0 (pa_cons (pv 1) pa_nil)))
      (pss_cons (ps_setLc (i := 4) (own := [("other", 5)]) (g := gName 5) rfl sc_beside.nd rfl rfl (sw_true rfl rfl rfl rfl) (pi_list (pe_callB (call_sortedDI rfl) (by rfl) T.b_sorted (by decide +kernel) (pa_cons (pe_fld (pv 0) rfl) pa_nil))) (blkOk_by (own := [("other", 5)]) (N := ["self", "name", "own", "corners", "others", "other", "names"]) (sc := defScope s_beside) (by decide +kernel)) (fun _ _ _ _ _ => pg_name (i := 5) sc_beside.nd rfl (Or.inl rfl)) (fun _ _ _ _ _ => by exact (pts_one (pt_cmpR op_ne (pv 5) (pv 1) (nomark _)))) (fun _ _ _ _ _ => by exact (pv 5)))
      (pss_cons (ps_setLc (i := 6) (own := [("other", 5)]) (g := gName 5) rfl sc_beside.nd rfl rfl (sw_true rfl rfl rfl rfl) (pi_list (pv 4)) (blkOk_by (own := [("other", 5)]) (N := ["self", "name", "own", "corners", "others", "other", "names"]) (sc := defScope s_beside) (by decide +kernel)) (fun _ _ _ _ _ => pg_name (i := 5) sc_beside.nd rfl (Or.inl rfl)) (fun _ _ _ _ _ => by exact (pts_one (pt_val (pe_call G_has_side_towards (hr.mono (by decide)) rfl T.has_side_towards.mg T.has_side_towards.F.kp T.has_side_towards.b .nil pass0 (pa_cons (pv 3) (pa_cons (pv 2) (pa_cons (by exact pe_dget (td := tFld K (tVar 0) "places") (ty := tVar 5) hu (pe_fld (pv 0) rfl) (pv 5) (fun _ _ => rfl)) pa_nil))))))) (fun _ _ _ _ _ => by exact (pv 5)))
      (pss_one (ps_ret (pe_op op_cat (pe_lst (pa_cons (pe_callB call_len_seq (by rfl) T.b_len PySem.boot_len (pa_cons (pv 6) pa_nil)) pa_nil)) (pv 6))))))))), ?_⟩
    have hL0 := hL
    obtain ⟨dx, d, qs, h1, h2, h3, h4⟩ := hL
    unfold mbeside at ret
    refine q_when (et_notin (k := k) (qs := qs) (ev_var rfl) (ev_places rfl h1) h2) (fun hb H1 e1 => ?_) (fun hb H1 e1 => ?_)
    · rw [h3] at hb
      rw [find_none hb] at ret
      exact s_retL (el_lst (ea_cons ev_c ea_nil) (by show 1 ≤ 100000; decide)) fun p H2 hp e2 hl => ret.go e1 hp e2 hl
    · rw [h3] at hb
      obtain ⟨z, hz, hzm, hzk⟩ := find_some hb
      rw [hz] at ret
      simp only at ret
      have hks : (k, z.2) ∈ m.sites := by rw [← hzk]; exact hzm
      obtain ⟨oa, hoa, hia⟩ := land_get wf h3 h4 hks
      refine q_asg (v := .ref oa) (ev_dget (k := k) (ev_places rfl (e1 _ _ h1)) (ev_var rfl) (e1 _ _ h2) hoa) fun H2 e2 => ?_
      have e02 := e1.trans e2
      have hoth := mothers_ok wf z.2
      have hsq : InSq z.2 := wf.sq z hzm
      have hsm := mring_small hsq hoth
      have hln := mring_len hsq hoth
      have hol := mothers_len wf z.2
      refine ⟨_, rfl, l, dx, _, rfl, e02 _ _ h1, lF_none _ _ _ (by decide +kernel) (by decide +kernel), _, rfl, ⟨l, m, k, z.2, rfl, hL0.ex e02, wf, hks, fun cp H3 ps hcp e3 hps hcl hall => ?_⟩⟩
      unfold mbesideN at ret
      generalize mring z.2 (mothers m z.2) = cs at *
      have e03 := e02.trans e3
      have hcs : CsAt K H3 cp cs := ⟨ps, hps, sq_of hcl, hall⟩
      have ho := el_lcNL (K := K) (σ := [some (.ref l), some (.int (k : Int)), some (.ref oa), some (.ref cp), none, none, none]) (H := H3) (t := tTest (tOp rNe (tVar 5) (tVar 1))) (te := tVar 5) (j := 5) (vs := [5])
        (fun i => decide ((m.sites.getD i zst).1 ≠ k)) (fun i => V.int ((m.sites.getD i zst).1 : Int)) (el_sortedM (ta := tFld K (tVar 0) "places") wf h3 (ev_places (T := T) (i := 0) (n := m.given) (dx := dx) rfl (e03 _ _ h1)) (e03 _ _ h2)) (by have := wf.few; simp [nmV]; omega) (fun x => rfl) (by
          intro i x H4 e4 hx
          unfold nmV at hx
          obtain ⟨y, hy, rfl⟩ := map_get hx
          rw [getD_of hy]
          refine et_is (et_test (ev_neI (ev_var rfl) (ev_var rfl))) (decide_eq_decide.mpr ?_)
          omega) (by
          intro i x H4 e4 hx _
          unfold nmV at hx
          obtain ⟨y, hy, rfl⟩ := map_get hx
          rw [getD_of hy]
          exact ev_var rfl)
      rw [show (nmV m).length = m.sites.length by simp [nmV], given_filter m.sites zst (fun y => decide (y.1 ≠ k)) (fun y => V.int (y.1 : Int))] at ho
      have hfs : ∀ y ∈ m.sites.filter (fun y => decide (y.1 ≠ k)), y ∈ m.sites := fun y hy => (List.mem_filter.mp hy).1
      have hfl : (m.sites.filter fun y => decide (y.1 ≠ k)).length ≤ 8 := Nat.le_trans (List.length_filter_le _ _) wf.few
      generalize m.sites.filter (fun y => decide (y.1 ≠ k)) = fs at *
      refine q_asgL ho fun ol H4 hol4 e4 h4l => ?_
      have e04 := e03.trans e4
      have hn := el_lcL (K := K) (σ := [some (.ref l), some (.int (k : Int)), some (.ref oa), some (.ref cp), some (.ref ol), none, none]) (H := H4) (t := tB (tCall (spSide K) [] E0 (tCons (tVar 3) (tCons (tVar 2) (tCons (tDGet (tFld K (tVar 0) "places") (tVar 5)) tNil))))) (te := tVar 5) (tl := tVar 4) (j := 5) (vs := [5])
        (fun i => mside cs z.2 (fs.getD i zst).2) (fun i => V.int ((fs.getD i zst).1 : Int)) (ev_var rfl) (sq_of h4l) (by simp; omega) (fun x => rfl) (by
          intro i x H5 e5 hx
          obtain ⟨y, hy, rfl⟩ := map_get hx
          rw [getD_of hy]
          have hym := hfs y (List.mem_of_getElem? hy)
          have e05 := e04.trans e5
          obtain ⟨ya, hya, hyi⟩ := land_get wf h3 h4 hym
          exact et_B (ev_call (vs := [.ref cp, .ref oa, .ref ya]) (ea_cons (ev_var rfl) (ea_cons (ev_var rfl) (ea_cons (ev_dget (k := y.1) (ev_places (T := T) (i := 0) (n := m.given) (dx := dx) rfl (e05 _ _ h1)) (ev_var rfl) (e05 _ _ h2) hya) ea_nil)))
            (spSide_V (hcs.ex (e4.trans e5)) (by omega) (fun c hc => smallC_of (hsm c hc)) (hia.ex e05) (hyi.ex e05) (InSq.small hsq) (InSq.small (wf.sq y hym))))) (by
          intro i x H5 e5 hx _
          obtain ⟨y, hy, rfl⟩ := map_get hx
          rw [getD_of hy]
          exact ev_var rfl)
      rw [List.length_map, given_filter fs zst (fun y => mside cs z.2 y.2) (fun y => V.int (y.1 : Int))] at hn
      refine q_asgL hn fun nl H5 hnl e5 h5 => ?_
      have hl2 : (fs.filter fun y => mside cs z.2 y.2).length ≤ 8 := Nat.le_trans (List.length_filter_le _ _) hfl
      generalize fs.filter (fun y => mside cs z.2 y.2) = gs at *
      refine s_retL (el_catNV (el_lst (ea_cons (ev_is (ev_len (ev_var rfl) (sq_of h5)) (by rw [List.length_map])) ea_nil) (by show 1 ≤ 100000; decide)) (ev_var rfl) h5 (by rw [List.length_map]; show 1 + gs.length ≤ 100000; omega)) fun q H6 hq e6 h6 => ?_
      refine ret.go (e04.trans e5) hq e6 ?_
      rw [h6]
      simp
end
end NP

set_option Elab.async false
set_option linter.unusedVariables false
set_option maxRecDepth 100000
set_option maxHeartbeats 1000000
namespace NP
open PySem PySem.Spec PyProof.Rows L2 Evl NS
/-! ### new things told by a word of where they stand -/
def EvR (t : TE) (σ : L2.St) (H : Hp) (R : Addr → Hp → Prop) : Prop := ∀ H1, Ex H H1 → ∀ Q : VK, (∀ p H2, H1 p = none → Ex H1 H2 → R p H2 → Q (.ref p) H2) → t σ H1 Q
section
variable {K : PySem.W.Frag} {σ : L2.St} {H : Hp} {ta te : TE} {D : Ends} {tz : TS}
theorem s_extR {l : Addr} {xs : List V} {R : Addr → Hp → Prop} (hl : H l = some (.lst xs)) (ha : Ev ta σ H (.ref l)) (h : EvR te σ H R) (hR : ∀ p H2, R p H2 → ∃ ys, H2 p = some (.lst ys) ∧ xs.length + ys.length ≤ 100000)
    (k : ∀ p H1 ys, Ex H H1 → R p H1 → H1 p = some (.lst ys) → D.nx σ (upd H1 l (.lst (xs ++ ys)))) : tDrop (tBM K "list" rExtend ta (tCons te tNil)) D σ H := ha H (Ex.refl H) _ fun H1 e1 =>
  ⟨Or.inl ⟨rfl, xs, sq_of (e1 l _ hl)⟩, h H1 e1 _ fun p H2 hp e2 hr => by
    obtain ⟨ys, hy, hz⟩ := hR p H2 hr
    exact ⟨l, p, xs, ys, rfl, rfl, e2 l _ (e1 l _ hl), hy, sz_of hz, k p H2 ys (e1.trans e2) hr hy⟩⟩
theorem q_asgR {i : Nat} {R : Addr → Hp → Prop} (h : EvR te σ H R) (k : ∀ p H1, H p = none → Ex H H1 → R p H1 → tz D (σ.set i (some (.ref p))) H1) : tSeq (tAsg te (gName i)) tz D σ H := h H (Ex.refl H) _ fun p H1 hp e h1 => k p H1 hp e h1
end
theorem nts_zip {B : Type} {as : Nts} {bs : List B} {f : B → List V} (h : as.map Prod.snd = bs.map f) : ∃ cs : List (Addr × B), cs.map Prod.snd = bs ∧ nrefs as = cs.map (fun c => V.ref c.1) ∧ ∀ H, NtAt H as → ∀ c ∈ cs, H c.1 = some (.tup (f c.2)) := by
  have hl : (as.map Prod.fst).length = bs.length := by
    have := congrArg List.length h
    simpa using this
  refine ⟨(as.map Prod.fst).zip bs, List.map_snd_zip (by omega), ?_, ?_⟩
  · have e : ((as.map Prod.fst).zip bs).map Prod.fst = as.map Prod.fst := List.map_fst_zip (by omega)
    unfold nrefs
    have e1 : as.map (fun q => V.ref q.1) = (as.map Prod.fst).map V.ref := by rw [List.map_map]; rfl
    have e2 : ((as.map Prod.fst).zip bs).map (fun q => V.ref q.1) = (((as.map Prod.fst).zip bs).map Prod.fst).map V.ref := by rw [List.map_map]; rfl
    rw [e1, e2, e]
  · intro H hn q hq
    obtain ⟨i, hi, rfl⟩ := List.getElem_of_mem hq
    have hi' := hi
    rw [List.length_zip, List.length_map] at hi'
    have ha : i < as.length := by omega
    have hc : i < bs.length := by omega
    have hz : ((as.map Prod.fst).zip bs)[i] = (as[i].1, bs[i]) := by simp
    rw [hz]
    have h0 := hn as[i] (List.getElem_mem ha)
    have h1 : as[i].2 = f bs[i] := by
      have := congrArg (fun l => l[i]?) h
      simp only [List.getElem?_map, List.getElem?_eq_getElem ha, List.getElem?_eq_getElem hc, Option.map_some] at this
      exact Option.some.inj this
    rw [h1] at h0
    exact h0
/-! ### lists of rings -/
abbrev Rgs := List (Addr × Rg)
def rrefs (rs : Rgs) : List V := rs.map fun q => V.ref q.1
theorem rrefs_len (rs : Rgs) : (rrefs rs).length = rs.length := by simp [rrefs]
theorem rrefs_get {rs : Rgs} {i : Nat} {x : V} (h : (rrefs rs)[i]? = some x) : ∃ a r, rs[i]? = some (a, r) ∧ x = .ref a := by
  unfold rrefs at h
  obtain ⟨z, hz, e⟩ := map_get h
  exact ⟨z.1, z.2, hz, e⟩
section
variable {K : PySem.W.Frag}
def AllRg (K : PySem.W.Frag) (H : Hp) (rs : Rgs) : Prop := ∀ q ∈ rs, RgAt K H q.1 q.2
theorem AllRg.ex {H H' : Hp} {rs : Rgs} (h : AllRg K H rs) (e : Ex H H') : AllRg K H' rs := fun q hq => (h q hq).ex e
theorem RgAt.upd {H : Hp} {a p : Addr} {r : Rg} {o : HO} (h : RgAt K H a r) (h1 : ∀ ys, H p ≠ some (.tup ys)) (h2 : ∀ u ys, H p ≠ some (.frz u (.tup ys))) : RgAt K (L2.upd H p o) a r := by
  obtain ⟨c, k1, k2⟩ := h
  exact ⟨c, sqT_upd k1 h1 h2, sqT_upd k2 h1 h2⟩
theorem AllRg.upd {H : Hp} {p : Addr} {rs : Rgs} {o : HO} (h : AllRg K H rs) (h1 : ∀ ys, H p ≠ some (.tup ys)) (h2 : ∀ u ys, H p ≠ some (.frz u (.tup ys))) : AllRg K (L2.upd H p o) rs := fun q hq => (h q hq).upd h1 h2
theorem AllRg.mut {H : Hp} {p : Addr} {rs : Rgs} {ys : List V} {o : HO} (h : AllRg K H rs) (hp : H p = some (.lst ys)) : AllRg K (L2.upd H p o) rs := h.upd (fun zs e => by rw [hp] at e; cases e) (fun u zs e => by rw [hp] at e; cases e)
def RgsAt (K : PySem.W.Frag) (L : List Rg) (p : Addr) (H : Hp) : Prop := ∃ rs : Rgs, rs.map Prod.snd = L ∧ H p = some (.lst (rrefs rs)) ∧ AllRg K H rs
/-- from tuples (place, far) just made -/
theorem rings_of {as : Nts} {ps : List (Addr × Pl)} {g : Pl → Int} {H : Hp} {p : Addr} (h : as.map Prod.snd = ps.map fun q => [V.ref q.1, V.int (g q.2)]) (hl : H p = some (.lst (nrefs as))) (hn : NtAt H as) (ha : AllAt K H ps) : RgsAt K ((ps.map Prod.snd).map fun c => (c, g c)) p H := by
  obtain ⟨cs, c1, c2, c3⟩ := nts_zip h
  refine ⟨cs.map fun c => (c.1, (c.2.2, g c.2.2)), ?_, ?_, ?_⟩
  · rw [← c1, List.map_map, List.map_map, List.map_map]
    rfl
  · rw [hl, c2]
    unfold rrefs
    rw [List.map_map]
    rfl
  · intro q hq
    obtain ⟨c, hc, rfl⟩ := List.mem_map.mp hq
    have hcp : c.2 ∈ ps := by rw [← c1]; exact List.mem_map_of_mem hc
    exact ⟨c.2.1, st_of (c3 H hn c hc), ha _ hcp⟩
end

/-! ### the land under the lock -/
def FzAt (K : PySem.W.Frag) (C : Addr) (H : Hp) (l : Addr) (m : Ld) : Prop := ∃ dx d od qs, H l = some (.ins C dx (lF d m.given)) ∧ H d = some (.frz od (.dK (qsV qs))) ∧ qsS qs = m.sites ∧ QsAt K H qs
theorem FzAt.ex {K : PySem.W.Frag} {C : Addr} {H H' : Hp} {l : Addr} {m : Ld} (h : FzAt K C H l m) (e : Ex H H') : FzAt K C H' l m := by
  obtain ⟨dx, d, od, qs, h1, h2, h3, h4⟩ := h
  exact ⟨dx, d, od, qs, e _ _ h1, e _ _ h2, h3, h4.ex e⟩
section
variable {P : Program} {w : World} {K : PySem.W.Frag} {mg : Str → Option Value} {base : Heap}
theorem ev_dgetF {σ : L2.St} {H : Hp} {ta tb : TE} {d a : Addr} {od : Obj} {qs : Qs} {k : Nat} (ha : Ev ta σ H (.ref d)) (hb : Ev tb σ H (.int (k : Int))) (hd : H d = some (.frz od (.dK (qsV qs)))) (hv : valV (qsV qs) (Sum.inl (k : Int)) = some (.ref a)) :
    Ev (tDGet ta tb) σ H (.ref a) := fun H1 e Q q =>
  ha H1 e _ fun H2 e2 => hb H2 (e.trans e2) _ fun H3 e3 => ⟨d, .ref a, rfl, by rw [← hv]; exact .inl ⟨qsV qs, Sum.inl (k : Int), .inr ⟨od, (e.trans (e2.trans e3)) _ _ hd⟩, rfl, rfl⟩, q H3 (e2.trans e3)⟩
theorem q_forValsF {σ : L2.St} {H : Hp} {td : TE} {tu tz : TS} {D : Ends} {d : Addr} {od : Obj} {kvs : List (Key × V)} {j : Nat} (hd : H d = some (.frz od (.dK kvs))) (htd : Ev td σ H (.ref d))
    (Pv : Nat → L2.St → Hp → Prop) (h0 : ∀ H1, Ex H H1 → Pv 0 σ H1) (hG : ∀ i σ' H', Pv i σ' H' → Ex H H')
    (hs : ∀ rt bk ct i k x σ' H', kvs[i]? = some (k, x) → Pv i σ' H' → tu ⟨Pv (i + 1), rt, bk, ct⟩ (σ'.set j (some x)) H')
    (hk : ∀ σ' H', Pv kvs.length σ' H' → tz D σ' H') : tSeq (tFor (iVals td) (gName j) tu) tz D σ H := by
  refine htd H (Ex.refl _) _ fun H1 e1 => ?_
  refine ⟨d, od, kvs, rfl, e1 _ _ hd, for_it walk_values Pv (h0 H1 e1) (fun i σ' H' _ p => hG i σ' H' p _ _ hd) ?_ ?_⟩
  · rintro i x σ' H2 H' hi p ⟨rfl, k, hx⟩
    exact hs _ _ _ i k x σ' H' hx p
  · intro σ' H' p
    exact hk σ' H' p
theorem q_forKeys {σ : L2.St} {H : Hp} {td : TE} {tu tz : TS} {D : Ends} {d : Addr} {kvs : List (Key × V)} {j : Nat} (hd : H d = some (.dK kvs)) (htd : ∀ od, Ev td σ (upd H d (.frz od (.dK kvs))) (.ref d))
    (Pv : Obj → Nat → L2.St → Hp → Prop) (h0 : ∀ od H1, Ex (upd H d (.frz od (.dK kvs))) H1 → Pv od 0 σ H1) (hG : ∀ od i σ' H', Pv od i σ' H' → Ex (upd H d (.frz od (.dK kvs))) H')
    (hs : ∀ rt bk ct od i k x σ' H', kvs[i]? = some (k, x) → Pv od i σ' H' → tu ⟨Pv od (i + 1), rt, bk, ct⟩ (σ'.set j (some (kV k))) H')
    (hk : ∀ od σ' H', Pv od kvs.length σ' H' → tz D σ' (upd H' d (.dK kvs))) : tSeq (tLock (tFor (iKeys td) (gName j) tu)) tz D σ H := by
  refine ⟨d, _, hd, trivial, fun od => ?_⟩
  refine htd od _ (Ex.refl _) _ fun H1 e1 => ?_
  have g1 : ∀ H', Ex (upd H d (.frz od (.dK kvs))) H' → H' d = some (.frz od (.dK kvs)) := fun H' e => e _ _ upd_same
  refine ⟨d, od, rfl, .inl ⟨kvs, g1 H1 e1, for_it walk_keys (Pv od) (h0 od H1 e1) (fun i σ' H' _ p => g1 H' (hG od i σ' H' p)) ?_ ?_⟩⟩
  · rintro i x σ' H2 H' hi p ⟨rfl, k, v, hx, rfl⟩
    exact hs _ _ _ od i k v σ' H' hx p
  · intro σ' H' p
    exact ⟨g1 H' (hG od _ σ' H' p), hk od σ' H' p⟩

/-! ### corners_of, the land locked -/
def spCornersF (K : PySem.W.Frag) (C : Addr) : Sp := fun vs H Q _ => ∃ (l : Addr) (m : Ld) (k : Nat) (s : IP), vs = [.ref l, .int (k : Int)] ∧ FzAt K C H l m ∧ Wf m ∧ (k, s) ∈ m.sites ∧ RetCs K (mring s (mothers m s)) H Q
theorem ok_cornersF (T : Tx K mg) (S : Sqr K mg) : FnOk P w K mg base CX0 4 T.corners_of.f T.corners_of.d ["self", "name"] (spCornersF K T.C) := by
  have G_cut : FnOk P w K mg base CX0 3 T.cut.f T.cut.d ["corners", "own", "other"] (spCut K) := ok_cut T
  refine T.corners_of.F.ok sc_corners_of (fun vs H Q E h => ?_) (fun cdv A outer s H vs Q E hr h => ?_)
  · obtain ⟨l, m, k, s, rfl, _⟩ := h
    rfl
  · obtain ⟨l, m, k, s, rfl, hL, wf, hks, ret⟩ := h
    have hu := hu_of hr
    refine ⟨_, (pss_cons (ps_set (i := 2) sc_corners_of.nd rfl (Or.inl rfl) (pe_dget hu (pe_fld (pv 0) rfl) (pv 1) (fun _ _ => rfl)))
      (pss_cons (ps_set (i := 3) sc_corners_of.nd rfl (Or.inl rfl) (pe_callTy call_list_of (by rfl) T.b_list (by decide +kernel) (pa_cons (pe_glob (v := .ref S.a) rfl S.g rfl) pa_nil)))
      (pss_cons (ps_for PassesOwn.never rfl (pi_values (pe_fld (pv 0) rfl)) (pg_name (i := 4) sc_corners_of.nd rfl (Or.inl rfl))
        (pss_one (ps_if (pt_cmpR (op_neD hr.units) (pv 4) (pv 2) (nomark _))
          (pss_one (ps_set (i := 3) sc_corners_of.nd rfl (Or.inl rfl) (pe_call G_cut (hr.mono (by decide)) rfl T.cut.mg T.cut.F.kp T.cut.b .nil pass0 (pa_cons (pv 3) (pa_cons (pv 2) (pa_cons (pv 4) pa_nil))))))
          pss_nil)))
      (pss_one (ps_ret (pv 3)))))), ?_⟩
    obtain ⟨dx, d, od, qs, h1, h2, h3, h4⟩ := hL
    obtain ⟨a0, hva, hia⟩ := land_get wf h3 h4 hks
    refine q_asg (v := .ref a0) (ev_dgetF (k := k) (ev_places rfl h1) (ev_var rfl) h2 hva) fun H1 e1 => ?_
    refine q_asgL (xs := refs S.ps) (el_cb (vs := [.ref S.a]) (ea_cons ev_c ea_nil) (fun H2 e2 Q q => ⟨S.a, refs S.ps, rfl, .inr (S.at_ H2), fun n hn => q n _ hn (Ex.new hn) upd_same⟩)) fun cp H2 hcp e2 hc2 => ?_
    have e02 := e1.trans e2
    refine q_forValsF (e02 _ _ h2) (ev_places (T := T) (i := 0) (n := m.given) (dx := dx) rfl (e02 _ _ h1)) (fun i σ' H' => ∃ (x : Option V) (c : Addr) (ps : List (Addr × Pl)), σ' = [some (.ref l), some (.int (k : Int)), some (.ref a0), some (.ref c), x] ∧
        Ex H2 H' ∧ H c = none ∧ H' c = some (.lst (refs ps)) ∧ AllAt K H' ps ∧ ps.map Prod.snd = mring s ((((qsS qs).take i).map Prod.snd).filter fun t => decide (t ≠ s))) ?_ ?_ ?_ ?_
    · intro H3 e3
      exact ⟨none, cp, S.ps, rfl, e3, fresh_back e1 hcp, e3 _ _ hc2, S.all _, S.is⟩
    · rintro i σ' H' ⟨x, c, ps, rfl, e, _⟩
      exact e
    · rintro rt bk ct i kk x0 σ' H' hx ⟨x, c, ps, rfl, e, hc0, hc, hall, hps⟩
      obtain ⟨q, hq, hqe⟩ : ∃ q, qs[i]? = some q ∧ x0 = .ref q.2.1 := by
        unfold qsV at hx
        rw [List.getElem?_map] at hx
        obtain ⟨q, hq, e⟩ := Option.map_eq_some_iff.mp hx
        exact ⟨q, hq, (congrArg Prod.snd e).symm⟩
      subst hqe
      have hqm := List.mem_of_getElem? hq
      have ht : (qsS qs).take (i + 1) = (qsS qs).take i ++ [(q.1, q.2.2)] := by
        rw [List.take_add_one]
        unfold qsS
        rw [List.getElem?_map, hq]
        rfl
      have hoth : ∀ (j : Nat), ∀ t ∈ (((qsS qs).take j).map Prod.snd).filter (fun t => decide (t ≠ s)), InSq t ∧ s ≠ t := by
        intro j t htm
        obtain ⟨h5, h6⟩ := List.mem_filter.mp htm
        obtain ⟨z, hz, rfl⟩ := List.mem_map.mp h5
        have hz' : z ∈ m.sites := by rw [← h3]; exact List.mem_of_mem_take hz
        exact ⟨wf.sq z hz', fun e => (of_decide_eq_true h6) e.symm⟩
      have hsq : InSq s := wf.sq _ hks
      have hsm := mring_small hsq (hoth i)
      have hln := mring_len hsq (hoth i)
      have hfl : ((((qsS qs).take i).map Prod.snd).filter fun t => decide (t ≠ s)).length ≤ 8 := by
        refine Nat.le_trans (List.length_filter_le _ _) ?_
        rw [List.length_map, List.length_take, h3]
        have := wf.few
        omega
      have e0 := e02.trans e
      have iq : IpAt K H' q.2.1 q.2.2 := (h4 q hqm).ex e0
      have i0' : IpAt K H' a0 s := hia.ex e0
      refine s_when (et_test (ev_neIp (ev_var rfl) (ev_var rfl) iq i0')) (fun hb H3 e3 => ?_) (fun hb H3 e3 => ?_)
      · have hne : q.2.2 ≠ s := by simpa using hb
        have hqS : InSq q.2.2 := wf.sq (q.1, q.2.2) (by rw [← h3]; unfold qsS; exact List.mem_map_of_mem (f := fun q : Nat × Addr × IP => (q.1, q.2.2)) hqm)
        refine s_asgCs (K := K) (cs := mcut s q.2.2 (mring s ((((qsS qs).take i).map Prod.snd).filter fun t => decide (t ≠ s)))) (vs := [.ref c, .ref a0, .ref q.2.1]) (ea_cons (ev_var rfl) (ea_cons (ev_var rfl) (ea_cons (ev_var rfl) ea_nil))) ?_ ?_
        · intro H4 e4 Q2 r2 E2
          refine ⟨c, a0, q.2.1, _, s, q.2.2, rfl, ⟨ps, hps, sq_of ((e3.trans e4) _ _ hc), hall.ex (e3.trans e4)⟩, ?_, by omega, fun c0 hc0 => smallC_of (hsm c0 hc0), i0'.ex (e3.trans e4), iq.ex (e3.trans e4), InSq.small hsq, InSq.small hqS, r2⟩
          intro hnil
          rw [hnil] at hln
          simp at hln
        · intro p H4 ps4 hp4 e4 hps4 hp4l hall4
          refine ⟨some (.ref q.2.1), p, ps4, rfl, e.trans (e3.trans e4), fresh_back (e0.trans e3) hp4, hp4l, hall4, ?_⟩
          rw [hps4, ht, List.map_append, List.filter_append]
          have e5 : (List.filter (fun t => decide (t ≠ s)) (List.map Prod.snd [(q.1, q.2.2)])) = [q.2.2] := by
            simp [hne]
          rw [e5]
          unfold mring
          rw [List.foldl_append]
          rfl
      · have heq : q.2.2 = s := by simpa using hb
        refine ⟨some (.ref q.2.1), c, ps, rfl, e.trans e3, hc0, e3 _ _ hc, hall.ex e3, ?_⟩
        rw [hps, ht, List.map_append, List.filter_append]
        have e5 : (List.filter (fun t => decide (t ≠ s)) (List.map Prod.snd [(q.1, q.2.2)])) = [] := by
          simp [heq]
        rw [e5, List.append_nil]
    · rintro σ' H' ⟨x, c, ps, rfl, e, hc0, hc, hall, hps⟩
      refine s_ret (ev_var rfl) fun H3 e3 => ?_
      refine ret c H3 ps hc0 (e02.trans (e.trans e3)) ?_ (e3 _ _ hc) (hall.ex e3)
      rw [hps]
      unfold mothers
      rw [← h3]
      congr 3
      have : (qsV qs).length = (qsS qs).length := by simp [qsV, qsS]
      rw [this, List.take_length]
end
end NP

set_option Elab.async false
set_option linter.unusedVariables false
set_option maxRecDepth 100000
set_option maxHeartbeats 1000000
namespace NP
open PySem PySem.Spec PyProof.Rows L2 Evl NS
section
variable {P : Program} {w : World} {K : PySem.W.Frag} {mg : Str → Option Value} {base : Heap}
theorem q_forKeysW {σ : L2.St} {H : Hp} {td : TE} {tu tz : TS} {D : Ends} {d : Addr} {kvs : List (Key × V)} {j : Nat} (hd : H d = some (.dK kvs)) (htd : ∀ od, Ev td σ (upd H d (.frz od (.dK kvs))) (.ref d))
    (Pv : Obj → Nat → L2.St → Hp → Prop) (h0 : ∀ od H1, Ex (upd H d (.frz od (.dK kvs))) H1 → Pv od 0 σ H1) (hG : ∀ od i σ' H', Pv od i σ' H' → H' d = some (.frz od (.dK kvs)))
    (hs : ∀ rt bk ct od i k x σ' H', kvs[i]? = some (k, x) → Pv od i σ' H' → tu ⟨Pv od (i + 1), rt, bk, ct⟩ (σ'.set j (some (kV k))) H')
    (hk : ∀ od σ' H', Pv od kvs.length σ' H' → tz D σ' (upd H' d (.dK kvs))) : tSeq (tLock (tFor (iKeys td) (gName j) tu)) tz D σ H := by
  refine ⟨d, _, hd, trivial, fun od => ?_⟩
  refine htd od _ (Ex.refl _) _ fun H1 e1 => ?_
  refine ⟨d, od, rfl, .inl ⟨kvs, e1 _ _ upd_same, for_it walk_keys (Pv od) (h0 od H1 e1) (fun i σ' H' _ p => hG od i σ' H' p) ?_ ?_⟩⟩
  · rintro i x σ' H2 H' hi p ⟨rfl, k, v, hx, rfl⟩
    exact hs _ _ _ od i k v σ' H' hx p
  · intro σ' H' p
    exact ⟨hG od _ σ' H' p, hk od σ' H' p⟩
theorem ringsOf_small {m : Ld} (wf : Wf m) {z : Nat × IP} (hz : z ∈ m.sites) : ∀ r ∈ mringsOf m z.2, SmallR r ∧ 0 < r.1.2.2 := by
  intro r hr
  obtain ⟨c, hc, rfl⟩ := List.mem_map.mp hr
  have h := smallC_of (mring_small (wf.sq z hz) (mothers_ok wf z.2) c hc)
  exact ⟨⟨h.1, (mfar_bd h.1 (InSq.small (wf.sq z hz))).mono (by decide)⟩, h.2⟩
theorem rings_small {m : Ld} (wf : Wf m) : ∀ r ∈ mrings m, SmallR r ∧ 0 < r.1.2.2 := by
  intro r hr
  obtain ⟨z, hz, hr⟩ := List.mem_flatMap.mp hr
  exact ringsOf_small wf hz r hr
theorem ringsOf_len {m : Ld} (wf : Wf m) {z : Nat × IP} (hz : z ∈ m.sites) : (mringsOf m z.2).length ≤ 12 := by
  unfold mringsOf
  rw [List.length_map]
  have := (mring_len (wf.sq z hz) (mothers_ok wf z.2)).2
  have := mothers_len wf z.2
  omega
theorem er_rings {C : Addr} {σ : L2.St} {H : Hp} {l sa rl : Addr} {m : Ld} {k : Nat} {s : IP} (hL : FzAt K C H l m) (wf : Wf m) (hks : (k, s) ∈ m.sites) (hi : IpAt K H sa s)
    (hσ : σ = [some (.ref l), some (.ref rl), some (.int (k : Int)), some (.ref sa), none, none, none]) :
    EvR (tLc (iList K (tMeth C "corners_of" (spCornersF K C) [] E0 (tVar 0) (tCons (tVar 2) tNil))) (gName 4) tYes (tTup (tCons (tVar 4) (tCons (tCall (spFar K) [] E0 (tCons (tVar 4) (tCons (tVar 3) tNil))) tNil))) [4]) σ H (RgsAt K (mringsOf m s)) := by
  subst hσ
  intro H1 e Q q
  have hL1 := hL.ex e
  have hL1' := hL1
  obtain ⟨dx, d, od, qs, h1, h2, h3, h4⟩ := hL1'
  have hsq : InSq s := wf.sq _ hks
  have hsm := mring_small hsq (mothers_ok wf s)
  have hln := mring_len hsq (mothers_ok wf s)
  have hol := mothers_len wf s
  refine ⟨_, rfl, l, dx, _, rfl, h1, lF_none _ _ _ (by decide +kernel) (by decide +kernel), _, rfl, ⟨l, m, k, s, rfl, hL1, wf, hks, fun cp H2 ps hcp e2 hps hcl hall => ?_⟩⟩
  have hpl : ps.length = (mring s (mothers m s)).length := by rw [← hps, List.length_map]
  refine ⟨cp, rfl, ⟨_, sq_of hcl⟩, fun Dl hD => lc_new (fun _ => true) (fun i => [V.ref (ps.getD i zpl).1, V.int (mfar (ps.getD i zpl).2 s)]) (sq_of hcl) hD (by rw [refs_len]; omega) (fun x => rfl) (fun i x hx => et_yes) ?_ ?_⟩
  · intro i x hx _
    obtain ⟨a', c, hi', rfl⟩ := refs_get hx
    rw [getD_of hi']
    have hm := List.mem_of_getElem? hi'
    have hc : c ∈ mring s (mothers m s) := by rw [← hps]; exact List.mem_map_of_mem (f := Prod.snd) hm
    exact eu_tup (ea_cons (ev_var rfl) (ea_cons (ev_call (vs := [.ref a', .ref sa]) (ea_cons (ev_var rfl) (ea_cons (ev_var rfl) ea_nil)) (spFar_V (hall _ hm) (hi.ex (e.trans e2)) (smallC_of (hsm c hc)).1 (InSq.small hsq))) ea_nil)) (by show 2 ≤ 100000; decide)
  · intro H' as e3 has hl hn
    rw [refs_len, gvn_all ps zpl (fun q => [V.ref q.1, V.int (mfar q.2 s)])] at has
    refine q Dl H' (fresh_back e2 hD) (e2.trans e3) ?_
    have := rings_of (K := K) (g := fun c => mfar c s) has hl hn (hall.ex e3)
    rw [hps] at this
    exact this

/-! ### loneliest -/
def spLoneliest (K : PySem.W.Frag) (C : Addr) : Sp := fun vs H Q _ => ∃ (l : Addr) (m : Ld), vs = [.ref l] ∧ LandAt K C H l m ∧ Wf m ∧ RetL ((mloneliest m).map V.int) H Q
theorem ok_loneliest (T : Tx K mg) (S : Sqr K mg) : FnOk P w K mg base CX0 5 T.loneliest.f T.loneliest.d ["self"] (spLoneliest K T.C) := by
  have G_corners_of : FnOk P w K mg base CX0 4 T.corners_of.f T.corners_of.d ["self", "name"] (spCornersF K T.C) := ok_cornersF T S
  have G_far_times : FnOk P w K mg base CX0 1 T.far_times.f T.far_times.d ["place", "site"] (spFar K) := ok_far T
  have G_is_lonelier : FnOk P w K mg base CX0 2 T.is_lonelier.f T.is_lonelier.d ["ring", "other"] (spLonelier K) := ok_lonelier T
  have G_numbers_of : FnOk P w K mg base CX0 4 T.numbers_of.f T.numbers_of.d ["ring"] (spNumbers K) := ok_numbers T
  refine T.loneliest.F.ok sc_loneliest (fun vs H Q E h => ?_) (fun cdv A outer s H vs Q E hr h => ?_)
  · obtain ⟨l, m, rfl, _⟩ := h
    rfl
  · obtain ⟨l, m, rfl, hL, wf, ret⟩ := h
    have hu := hu_of hr
    refine ⟨_, (pss_cons (ps_if (pt_cmpR op_eq (pe_callB call_lenD (by rfl) T.b_len PySem.boot_len (pa_cons (pe_fld (pv 0) rfl) pa_nil)) pe_int (nomark _))
        (pss_one (ps_ret (pe_lst (pa_cons (pe_glob rfl T.g_TOO_FEW_SITES.choose_spec rel_int) pa_nil))))
        pss_nil)
      (pss_cons (ps_set (i := 1) sc_loneliest.nd rfl (Or.inl rfl) (pe_lst pa_nil))
      (pss_cons (ps_lock (ps_for PassesOwn.never rfl (pi_keys (pe_fld (pv 0) rfl)) (pg_name (i := 2) sc_loneliest.nd rfl (Or.inl rfl))
        (pss_cons (ps_set (i := 3) sc_loneliest.nd rfl (Or.inr rfl) (pe_dget hu (pe_fld (pv 0) rfl) (pv 2) (fun _ _ => rfl)))
        (pss_one (ps_expr (pe_bm PySem.F.plainAttrs_list PySem.F.slot_list_extend PySem.F.type_list_extend mt_extend (pv 1) (pa_cons (pe_lc (own := [("corner", 4)]) (g := gName 4) rfl sc_loneliest.nd (pi_list (pe_meth (pv 0) T.cl T.corners_of.m G_corners_of (hr.mono (by decide)) T.corners_of.b .nil pass0 (pa_cons (pv 2) pa_nil))) (blkOk_by (own := [("corner", 4)]) (N := ["self", "rings", "name", "site", "corner", "best", "ring"]) (sc := defScope s_loneliest) (by decide +kernel)) (fun _ _ _ _ _ => pg_name (i := 4) sc_loneliest.nd rfl (Or.inl rfl)) (fun _ _ _ _ _ => by exact pts_nil) (fun _ _ _ _ _ => by exact (pe_tup (pa_cons (pv 4) (pa_cons (pe_call G_far_times (hr.mono (by decide)) rfl T.far_times.mg T.far_times.F.kp T.far_times.b .nil pass0 (pa_cons (pv 4) (pa_cons (pv 3) pa_nil))) pa_nil))))) pa_nil)))))))
      (pss_cons (ps_set (i := 5) sc_loneliest.nd rfl (Or.inl rfl) (pe_ix ix_list (pv 1) pe_int (fun _ _ => rfl)))
      (pss_cons (ps_for PassesOwn.never rfl (pi_list (pv 1)) (pg_name (i := 6) sc_loneliest.nd rfl (Or.inl rfl))
        (pss_one (ps_if (pt_val (pe_call G_is_lonelier (hr.mono (by decide)) rfl T.is_lonelier.mg T.is_lonelier.F.kp T.is_lonelier.b .nil pass0 (pa_cons (pv 6) (pa_cons (pv 5) pa_nil))))
          (pss_one (ps_set (i := 5) sc_loneliest.nd rfl (Or.inl rfl) (pv 6)))
          pss_nil)))
      (pss_one (ps_ret (pe_call G_numbers_of (hr.mono (by decide)) rfl T.numbers_of.mg T.numbers_of.F.kp T.numbers_of.b .nil pass0 (pa_cons (pv 5) pa_nil))))))))), ?_⟩
    obtain ⟨dx, d, qs, h1, h2, h3, h4⟩ := hL
    unfold mloneliest at ret
    refine q_when (et_test (ev_eqI (ev_is (ev_lenD (ev_places rfl h1) h2) (by rw [lenD_m h3])) ev_c)) (fun hb H1 e1 => ?_) (fun hb H1 e1 => ?_)
    · rw [if_pos (by have := of_decide_eq_true hb; omega)] at ret
      exact s_retL (el_lst (ea_cons ev_c ea_nil) (by show 1 ≤ 100000; decide)) fun q H3 hq e3 hl => ret.go e1 hq e3 hl
    have hne0 : m.sites.length ≠ 0 := by have := of_decide_eq_false hb; omega
    rw [if_neg hne0] at ret
    refine q_asgL (el_lst ea_nil (by show 0 ≤ 100000; decide)) fun rl H2 hrl e2 hr2 => ?_
    have e02 := e1.trans e2
    have hrH : H rl = none := fresh_back e1 hrl
    have hld : l ≠ d := by
      rintro rfl
      rw [h1] at h2
      cases h2
    have hrd : rl ≠ d := by
      rintro rfl
      rw [h2] at hrH
      cases hrH
    have nt : ∀ ys, H d ≠ some (.tup ys) := fun ys hy => by rw [h2] at hy; cases hy
    have nf : ∀ u ys, H d ≠ some (.frz u (.tup ys)) := fun u ys hy => by rw [h2] at hy; cases hy
    have hFz : ∀ od, FzAt K T.C (upd H d (.frz od (.dK (qsV qs)))) l m := fun od =>
      ⟨dx, d, od, qs, by rw [upd_ne hld]; exact h1, upd_same, h3, fun q hq => sqT_upd (h4 q hq) nt nf⟩
    refine q_forKeysW (e02 _ _ h2) (fun od => ev_places (T := T) (i := 0) (n := m.given) (dx := dx) rfl (by rw [upd_ne hld]; exact e02 _ _ h1)) (fun od i σ' H' => ∃ (x y : Option V) (rs : Rgs),
      σ' = [some (.ref l), some (.ref rl), x, y, none, none, none] ∧ Ex (upd H d (.frz od (.dK (qsV qs)))) H' ∧ H' rl = some (.lst (rrefs rs)) ∧ AllRg K H' rs ∧ rs.map Prod.snd = (m.sites.take i).flatMap (fun z => mringsOf m z.2) ∧ rs.length ≤ 12 * i) ?_ ?_ ?_ ?_
    · intro od H3 e3
      exact ⟨none, none, [], rfl, (upd_ex e02).trans e3, e3 _ _ (by rw [upd_ne hrd]; exact hr2), fun q hq => by simp at hq, by simp, by simp⟩
    · rintro od i σ' H' ⟨x, y, rs, rfl, e, _⟩
      exact e _ _ upd_same
    · rintro rt bk ct od i kk x0 σ' H' hx ⟨x, y, rs, rfl, e, hrl', hall, hrs, hln⟩
      obtain ⟨q, hq, hqe⟩ : ∃ q, qs[i]? = some q ∧ kk = Sum.inl (q.1 : Int) := by
        unfold qsV at hx
        rw [List.getElem?_map] at hx
        obtain ⟨q, hq, e⟩ := Option.map_eq_some_iff.mp hx
        exact ⟨q, hq, (congrArg Prod.fst e).symm⟩
      subst hqe
      have hzi : m.sites[i]? = some (q.1, q.2.2) := by
        rw [← h3]
        unfold qsS
        rw [List.getElem?_map, hq]
        rfl
      have hzm := List.mem_of_getElem? hzi
      have hFz' := (hFz od).ex e
      have hi1 : i < m.sites.length := (List.getElem?_eq_some_iff.mp hzi).1
      have hfew := wf.few
      obtain ⟨a, hva, hia⟩ := land_get wf h3 (H := upd H d (.frz od (.dK (qsV qs)))) (K := K) (fun q hq => sqT_upd (h4 q hq) nt nf) hzm
      refine q_asg (v := .ref a) (ev_dgetF (k := q.1) (ev_places (T := T) (i := 0) (n := m.given) (dx := dx) rfl (e _ _ (by rw [upd_ne hld]; exact h1))) (ev_var rfl) (e _ _ upd_same) hva) fun H3 e3 => ?_
      have hrl3 := e3 _ _ hrl'
      have hlen2 : (mringsOf m q.2.2).length ≤ 12 := ringsOf_len (z := (q.1, q.2.2)) wf hzm
      refine s_extR hrl3 (ev_var rfl) (er_rings (rl := rl) (hFz'.ex e3) wf hzm (hia.ex (e.trans e3)) rfl) ?_ ?_
      · rintro p H4 ⟨rs4, r1, r2, r3⟩
        refine ⟨_, r2, ?_⟩
        have : rs4.length = (mringsOf m q.2.2).length := by rw [← r1, List.length_map]
        rw [rrefs_len, rrefs_len]
        omega
      · rintro p H4 ys e4 ⟨rs4, r1, r2, r3⟩ hy
        rw [r2] at hy
        cases hy
        have hrd' : (upd H d (.frz od (.dK (qsV qs)))) rl = none := by rw [upd_ne hrd]; exact hrH
        have hrl4 := e4 _ _ hrl3
        refine ⟨_, _, rs ++ rs4, rfl, Ex.mut (e.trans (e3.trans e4)) hrd', ?_, ?_, ?_, ?_⟩
        · rw [upd_same]
          simp [rrefs]
        · intro z hz
          rw [List.mem_append] at hz
          rcases hz with hz | hz
          · exact (hall.ex (e3.trans e4)).mut hrl4 z hz
          · exact r3.mut hrl4 z hz
        · rw [List.map_append, hrs, r1, List.take_add_one, hzi, List.flatMap_append]
          simp
        · have : rs4.length = (mringsOf m q.2.2).length := by rw [← r1, List.length_map]
          rw [List.length_append]
          omega
    · rintro od σ' H' ⟨x, y, rs, rfl, e, hrl', hall, hrs, hln⟩
      have e5 : Ex H (upd H' d (.dK (qsV qs))) := upd_back h2 e
      have hHd : H' d = some (.frz od (.dK (qsV qs))) := e _ _ upd_same
      have hrl5 : (upd H' d (.dK (qsV qs))) rl = some (.lst (rrefs rs)) := by rw [upd_ne hrd]; exact hrl'
      have hall5 : AllRg K (upd H' d (.dK (qsV qs))) rs := hall.upd (fun ys hy => by rw [hHd] at hy; cases hy) (fun u ys hy => by rw [hHd] at hy; cases hy)
      rw [lenD_m h3, List.take_length] at hrs
      have hrs' : rs.map Prod.snd = mrings m := hrs
      clear hrs hall hrl' hHd hln
      generalize upd H' d (.dK (qsV qs)) = H5 at *
      have hsml := rings_small wf
      have hneL := mrings_ne wf hne0
      rw [← hrs'] at hsml hneL ret
      have hsmr : ∀ q ∈ rs, SmallR q.2 ∧ 0 < q.2.1.2.2 := fun q hq => hsml _ (List.mem_map_of_mem hq)
      obtain ⟨⟨a0, r0⟩, rs', rfl⟩ : ∃ q rs', rs = q :: rs' := by
        cases rs with
        | nil => simp at hneL
        | cons q rs' => exact ⟨q, rs', rfl⟩
      have hall0 := hall5 (a0, r0) (by simp)
      have hsm0 := hsmr (a0, r0) (by simp)
      have hbest : mbestL (((a0, r0) :: rs').map Prod.snd) = (((a0, r0) :: rs').map Prod.snd).foldl mlstep r0 := rfl
      rw [hbest] at ret
      generalize hrr : (a0, r0) :: rs' = rr at *
      refine q_asg (v := .ref a0) (ev_op (ev_var rfl) ev_c (rv_ixL (sq_of hrl5) (by rw [← hrr]; exact at_nat (i := 0) rfl))) fun H6 e6 => ?_
      refine q_forLn (ev_var rfl) (sq_of (e6 _ _ hrl5)) (fun i σ' H' => ∃ (x2 : Option V) (a : Addr) (r : Rg), σ' = [some (.ref l), some (.ref rl), x, y, none, some (.ref a), x2] ∧ Ex H5 H' ∧ RgAt K H' a r ∧ SmallR r ∧ 0 < r.1.2.2 ∧
        r = ((rr.map Prod.snd).take i).foldl mlstep r0) ?_ ?_ ?_ ?_
      · intro H7 e7
        exact ⟨none, a0, r0, rfl, e6.trans e7, hall0.ex (e6.trans e7), hsm0.1, hsm0.2, by simp⟩
      · rintro i σ' H' _ ⟨x2, a, r, rfl, e, _⟩
        exact sq_of (e _ _ hrl5)
      · rintro i v σ' H' hv ⟨x2, a, r, rfl, e, hra, hrsm, hrw, hre⟩
        obtain ⟨a', r', hi, rfl⟩ := rrefs_get hv
        have hm := List.mem_of_getElem? hi
        have hsm' := hsmr _ hm
        have hstep : ((rr.map Prod.snd).take (i + 1)).foldl mlstep r0 = mlstep r r' := by
          rw [List.take_add_one, List.getElem?_map, hi, List.foldl_append, ← hre]
          rfl
        refine s_when (b := mlonelier r' r) (et_B (ev_call (vs := [.ref a', .ref a]) (ea_cons (ev_var rfl) (ea_cons (ev_var rfl) ea_nil)) (spLonelier_V ((hall5 _ hm).ex e) hra hsm'.1 hrsm))) (fun hb1 H7 e7 => ?_) (fun hb1 H7 e7 => ?_)
        · refine s_asg (ev_var rfl) fun H8 e8 => ?_
          refine ⟨_, a', r', rfl, e.trans (e7.trans e8), (hall5 _ hm).ex (e.trans (e7.trans e8)), hsm'.1, hsm'.2, ?_⟩
          rw [hstep]
          unfold mlstep
          rw [if_pos hb1]
        · refine ⟨_, a, r, rfl, e.trans e7, hra.ex e7, hrsm, hrw, ?_⟩
          rw [hstep]
          unfold mlstep
          rw [if_neg (by rw [hb1]; decide)]
      · rintro σ' H' ⟨x2, a, r, rfl, e, hra, hrsm, hrw, hre⟩
        rw [rrefs_len, show rr.length = (rr.map Prod.snd).length by rw [List.length_map], List.take_length] at hre
        rw [← hre] at ret
        exact s_retL (el_call (vs := [.ref a]) (ea_cons (ev_var rfl) ea_nil) (spNumbers_L hra hrsm hrw)) fun q H9 hq e9 h9 => ret.go (e5.trans e) hq e9 h9
end
end NP

set_option Elab.async false
set_option linter.unusedVariables false
set_option maxRecDepth 100000
set_option maxHeartbeats 1000000
namespace NP
open PySem PySem.Spec PyProof.Rows L2 Evl NS
section
variable {P : Program} {w : World} {K : PySem.W.Frag} {mg : Str → Option Value} {base : Heap}
theorem el_listVals {σ : L2.St} {H : Hp} {td : TE} {d : Addr} {kvs : List (Key × V)} (hd : Ev td σ H (.ref d)) (hh : H d = some (.dK kvs)) : EvL (tListVals td) σ H (kvs.map fun kv => kv.2) := fun H1 e Q q =>
  hd H1 e _ fun H2 e2 => ⟨d, kvs, rfl, (e.trans e2) _ _ hh, fun n hn => q n _ (fresh_back e2 hn) (e2.trans (Ex.new hn)) upd_same⟩
def qsP (qs : Qs) : List (Addr × IP) := qs.map fun q => (q.2.1, q.2.2)
theorem qsP_vals (qs : Qs) : ((qsV qs).map fun kv => kv.2) = irefs (qsP qs) := by
  unfold qsV irefs qsP
  rw [List.map_map, List.map_map]
  rfl
theorem qsP_snd {qs : Qs} {m : Ld} (h3 : qsS qs = m.sites) : (qsP qs).map Prod.snd = mplaces m := by
  unfold mplaces qsP
  rw [← h3]
  unfold qsS
  rw [List.map_map, List.map_map]
  rfl
theorem Bd.neg {n : Nat} {i : Int} (h : Bd n i) : Bd n (-i) := by
  unfold Bd at *
  rw [Int.natAbs_neg]
  exact h
theorem middles_small {l : List IP} (h : ∀ s ∈ l, SmallS s) : ∀ c ∈ mmiddles l, SmallP c := by
  intro c hc
  rcases (mem_mmiddles l c).mp hc with ⟨a, ha, rfl⟩ | ⟨i, j, a, b, _, ha, hb, rfl⟩ | ⟨i, j, k, a, b, d, _, _, ha, hb, hd, ht, rfl⟩
  · obtain ⟨s1, s2⟩ := h a ha
    exact ⟨s1.mono (by decide), s2.mono (by decide), show Bd 100 1 by unfold Bd; decide⟩
  · obtain ⟨s1, s2⟩ := h a (List.mem_of_getElem? ha)
    obtain ⟨t1, t2⟩ := h b (List.mem_of_getElem? hb)
    exact ⟨(s1.add t1).mono (by decide), (s2.add t2).mono (by decide), show Bd 100 2 by unfold Bd; decide⟩
  · have sa := h a (List.mem_of_getElem? ha)
    have sb := h b (List.mem_of_getElem? hb)
    have sd := h d (List.mem_of_getElem? hd)
    unfold mafar
    split
    · exact ⟨(mfarX_bd sa sb sd).mono (by decide), (mfarY_bd sa sb sd).mono (by decide), (mfarW_bd sa sb sd).mono (by decide)⟩
    · exact ⟨(mfarX_bd sa sb sd).neg.mono (by decide), (mfarY_bd sa sb sd).neg.mono (by decide), (mfarW_bd sa sb sd).neg.mono (by decide)⟩
theorem round_small {l : List IP} (hl : l ≠ []) (h : ∀ s ∈ l, SmallS s) : ∀ r ∈ (mmiddles l).map (mround l), SmallR r ∧ 0 < r.1.2.2 := by
  intro r hr
  obtain ⟨c, hc, rfl⟩ := List.mem_map.mp hr
  have h1 := middles_small h c hc
  obtain ⟨k1, _⟩ := mmost_spec c hl
  obtain ⟨s, hs, e⟩ := List.mem_map.mp k1
  refine ⟨⟨h1, ?_⟩, mmiddles_pos c hc⟩
  show Bd 400 (mmost l c)
  rw [← e]
  exact (mfar_bd h1 (h s hs)).mono (by decide)
theorem middles_len {l : List IP} (h : l.length ≤ 8) : (mmiddles l).length ≤ 1000 := by
  unfold mmiddles
  have h2 : ∀ (a : IP) (n : Nat), n ≤ 8 → ((List.range n).flatMap (mmids2 l a)).length ≤ 9 * n := by
    intro a n
    induction n with
    | zero => intro _; simp
    | succ n ih =>
      intro hn
      rw [List.range_succ, List.flatMap_append, List.length_append]
      have := ih (by omega)
      have := mids2_len l a n (by omega)
      rw [List.flatMap_cons, List.flatMap_nil, List.append_nil]
      omega
  have h1 : ∀ (n : Nat), n ≤ 8 → ((List.range n).flatMap (mmids1 l)).length ≤ 73 * n := by
    intro n
    induction n with
    | zero => intro _; simp
    | succ n ih =>
      intro hn
      rw [List.range_succ, List.flatMap_append, List.length_append]
      have := ih (by omega)
      have h3 : (mmids1 l n).length ≤ 73 := by
        unfold mmids1
        have := h2 (l.getD n zip0) n (by omega)
        rw [List.length_cons]
        omega
      rw [List.flatMap_cons, List.flatMap_nil, List.append_nil]
      omega
  have := h1 l.length h
  omega
theorem er_round {σ : L2.St} {H : Hp} {l p : Addr} {ps : List (Addr × IP)} (hp : IsAt K H p ps) (hne : ps ≠ []) (hlen : ps.length ≤ 8) (hsm : ∀ q ∈ ps, SmallS q.2)
    (hσ : σ = [some (.ref l), some (.ref p), none, none, none, none]) :
    EvR (tLc (iList K (tCall (spMiddles K) [] E0 (tCons (tVar 1) tNil))) (gName 3) tYes (tCall (spRound K) [] E0 (tCons (tVar 3) (tCons (tVar 1) tNil))) [3]) σ H (RgsAt K ((mmiddles (ps.map Prod.snd)).map (mround (ps.map Prod.snd)))) := by
  subst hσ
  intro H1 e Q q
  have hS : ∀ s ∈ ps.map Prod.snd, SmallS s := by
    intro s hs
    obtain ⟨z, hz, rfl⟩ := List.mem_map.mp hs
    exact hsm z hz
  have hpl := middles_len (l := ps.map Prod.snd) (by rw [List.length_map]; exact hlen)
  refine ⟨_, rfl, ⟨p, ps, rfl, hp.ex e, hlen, hsm, fun cp H2 qs hcp e2 hqs hcl hall => ?_⟩⟩
  have hql : qs.length = (mmiddles (ps.map Prod.snd)).length := by rw [← hqs, List.length_map]
  refine ⟨cp, rfl, ⟨_, sq_of hcl⟩, fun Dl hD => lc_new (fun _ => true) (fun i => [V.ref (qs.getD i zpl).1, V.int (mmost (ps.map Prod.snd) (qs.getD i zpl).2)]) (sq_of hcl) hD (by rw [refs_len]; omega) (fun x => rfl) (fun i x hx => et_yes) ?_ ?_⟩
  · intro i x hx _
    obtain ⟨a', c, hi', rfl⟩ := refs_get hx
    rw [getD_of hi']
    have hm := List.mem_of_getElem? hi'
    have hc : c ∈ mmiddles (ps.map Prod.snd) := by rw [← hqs]; exact List.mem_map_of_mem (f := Prod.snd) hm
    exact eu_call (vs := [.ref a', .ref p]) (ea_cons (ev_var rfl) (ea_cons (ev_var rfl) ea_nil)) (spRound_U (hall _ hm) (middles_small hS c hc) (hp.ex (e.trans e2)) hne (by omega) hsm)
  · intro H' as e3 has hl hn
    rw [refs_len, gvn_all qs zpl (fun q => [V.ref q.1, V.int (mmost (ps.map Prod.snd) q.2)])] at has
    refine q Dl H' (fresh_back e2 hD) (e2.trans e3) ?_
    have := rings_of (K := K) (g := fun c => mmost (ps.map Prod.snd) c) has hl hn (hall.ex e3)
    rw [hqs] at this
    exact this

/-! ### around -/
def spAround (K : PySem.W.Frag) (C : Addr) : Sp := fun vs H Q _ => ∃ (l : Addr) (m : Ld), vs = [.ref l] ∧ LandAt K C H l m ∧ Wf m ∧ RetL ((maround m).map V.int) H Q
theorem ok_around (T : Tx K mg) : FnOk P w K mg base CX0 5 T.around.f T.around.d ["self"] (spAround K T.C) := by
  have G_middles : FnOk P w K mg base CX0 3 T.middles.f T.middles.d ["sites"] (spMiddles K) := ok_middles T
  have G_ring_round : FnOk P w K mg base CX0 2 T.ring_round.f T.ring_round.d ["middle", "sites"] (spRound K) := ok_round T
  have G_excess : FnOk P w K mg base CX0 1 T.excess.f T.excess.d ["ring", "other"] (spExcess K) := ok_excess T
  have G_numbers_of : FnOk P w K mg base CX0 4 T.numbers_of.f T.numbers_of.d ["ring"] (spNumbers K) := ok_numbers T
  refine T.around.F.ok sc_around (fun vs H Q E h => ?_) (fun cdv A outer s H vs Q E hr h => ?_)
  · obtain ⟨l, m, rfl, _⟩ := h
    rfl
  · obtain ⟨l, m, rfl, hL, wf, ret⟩ := h
    have hu := hu_of hr
    refine ⟨_, (pss_cons (ps_if (pt_cmpR op_eq (pe_callB call_lenD (by rfl) T.b_len PySem.boot_len (pa_cons (pe_fld (pv 0) rfl) pa_nil)) pe_int (nomark _))
        (pss_one (ps_ret (pe_lst (pa_cons (pe_glob rfl T.g_TOO_FEW_SITES.choose_spec rel_int) pa_nil))))
        pss_nil)
      (pss_cons (ps_set (i := 1) sc_around.nd rfl (Or.inr rfl) (pe_listVals rfl rfl T.b_list (pe_fld (pv 0) rfl)))
      (pss_cons (ps_setLc (i := 2) (own := [("middle", 3)]) (g := gName 3) rfl sc_around.nd rfl rfl (sw_true rfl rfl rfl rfl) (pi_list (pe_call G_middles (hr.mono (by decide)) rfl T.middles.mg T.middles.F.kp T.middles.b .nil pass0 (pa_cons (pv 1) pa_nil))) (blkOk_by (own := [("middle", 3)]) (N := ["self", "sites", "rings", "middle", "best", "ring"]) (sc := defScope s_around) (by decide +kernel)) (fun _ _ _ _ _ => pg_name (i := 3) sc_around.nd rfl (Or.inl rfl)) (fun _ _ _ _ _ => by exact pts_nil) (fun _ _ _ _ _ => by exact (pe_call G_ring_round (hr.mono (by decide)) rfl T.ring_round.mg T.ring_round.F.kp T.ring_round.b .nil pass0 (pa_cons (pv 3) (pa_cons (pv 1) pa_nil)))))
      (pss_cons (ps_set (i := 4) sc_around.nd rfl (Or.inl rfl) (pe_ix ix_list (pv 2) pe_int (fun _ _ => rfl)))
      (pss_cons (ps_for PassesOwn.never rfl (pi_list (pv 2)) (pg_name (i := 5) sc_around.nd rfl (Or.inl rfl))
        (pss_one (ps_if (pt_cmpR op_gt (pe_call G_excess (hr.mono (by decide)) rfl T.excess.mg T.excess.F.kp T.excess.b .nil pass0 (pa_cons (pv 4) (pa_cons (pv 5) pa_nil))) pe_int (nomark _))
          (pss_one (ps_set (i := 4) sc_around.nd rfl (Or.inl rfl) (pv 5)))
          pss_nil)))
      (pss_one (ps_ret (pe_call G_numbers_of (hr.mono (by decide)) rfl T.numbers_of.mg T.numbers_of.F.kp T.numbers_of.b .nil pass0 (pa_cons (pv 4) pa_nil))))))))), ?_⟩
    obtain ⟨dx, d, qs, h1, h2, h3, h4⟩ := hL
    unfold maround at ret
    refine q_when (et_test (ev_eqI (ev_is (ev_lenD (ev_places rfl h1) h2) (by rw [lenD_m h3])) ev_c)) (fun hb H1 e1 => ?_) (fun hb H1 e1 => ?_)
    · rw [if_pos (by have := of_decide_eq_true hb; omega)] at ret
      exact s_retL (el_lst (ea_cons ev_c ea_nil) (by show 1 ≤ 100000; decide)) fun q H3 hq e3 hl => ret.go e1 hq e3 hl
    have hne0 : m.sites.length ≠ 0 := by have := of_decide_eq_false hb; omega
    rw [if_neg hne0] at ret
    have hlv := el_listVals (σ := [some (.ref l), none, none, none, none, none]) (H := H1) (td := tFld K (tVar 0) "places") (ev_places (T := T) (i := 0) (n := m.given) (dx := dx) rfl (e1 _ _ h1)) (e1 _ _ h2)
    rw [qsP_vals] at hlv
    refine q_asgL hlv fun sp H2 hsp e2 h2l => ?_
    have e02 := e1.trans e2
    have hplc := qsP_snd h3
    have hqsl : (qsP qs).length = m.sites.length := by rw [← h3]; simp [qsP, qsS]
    have hpne : qsP qs ≠ [] := by
      intro e
      rw [e] at hqsl
      simp at hqsl
      omega
    have hsmP : ∀ q ∈ qsP qs, SmallS q.2 := by
      intro q hq
      have : q.2 ∈ mplaces m := by rw [← hplc]; exact List.mem_map_of_mem hq
      unfold mplaces at this
      obtain ⟨z, hz, e⟩ := List.mem_map.mp this
      rw [← e]
      exact InSq.small (wf.sq z hz)
    have hIs : IsAt K H2 sp (qsP qs) := ⟨sq_of h2l, fun q hq => by
      unfold qsP at hq
      obtain ⟨q0, hq0, rfl⟩ := List.mem_map.mp hq
      exact (h4 q0 hq0).ex e02⟩
    have hfew := wf.few
    refine q_asgR (er_round (l := l) hIs hpne (by omega) hsmP rfl) fun rl H5 hrl e3 hR => ?_
    have e5 := e02.trans e3
    obtain ⟨rs, hrs', hrl5, hall5⟩ := hR
    rw [hplc] at hrs'
    have hpne2 : mplaces m ≠ [] := by rw [← hplc]; simpa using hpne
    have hsml := round_small hpne2 (fun s hs => by
      rw [← hplc] at hs
      obtain ⟨z, hz, rfl⟩ := List.mem_map.mp hs
      exact hsmP z hz)
    have hneL : (mmiddles (mplaces m)).map (mround (mplaces m)) ≠ [] := by
      obtain ⟨a, ha⟩ := List.exists_mem_of_ne_nil _ hpne2
      exact List.ne_nil_of_mem (List.mem_map_of_mem ((mem_mmiddles (mplaces m) (mas a)).mpr (.inl ⟨a, ha, rfl⟩)))
    rw [← hrs'] at hsml hneL ret
    have hsmr : ∀ q ∈ rs, SmallR q.2 ∧ 0 < q.2.1.2.2 := fun q hq => hsml _ (List.mem_map_of_mem hq)
    obtain ⟨⟨a0, r0⟩, rs', rfl⟩ : ∃ q rs', rs = q :: rs' := by
      cases rs with
      | nil => simp at hneL
      | cons q rs' => exact ⟨q, rs', rfl⟩
    have hall0 := hall5 (a0, r0) (by simp)
    have hsm0 := hsmr (a0, r0) (by simp)
    have hbest : mbestA (((a0, r0) :: rs').map Prod.snd) = (((a0, r0) :: rs').map Prod.snd).foldl mastep r0 := rfl
    rw [hbest] at ret
    generalize hrr : (a0, r0) :: rs' = rr at *
    refine q_asg (v := .ref a0) (ev_op (ev_var rfl) ev_c (rv_ixL (sq_of hrl5) (by rw [← hrr]; exact at_nat (i := 0) rfl))) fun H6 e6 => ?_
    refine q_forLn (ev_var rfl) (sq_of (e6 _ _ hrl5)) (fun i σ' H' => ∃ (x2 : Option V) (a : Addr) (r : Rg), σ' = [some (.ref l), some (.ref sp), some (.ref rl), none, some (.ref a), x2] ∧ Ex H5 H' ∧ RgAt K H' a r ∧ SmallR r ∧ 0 < r.1.2.2 ∧
      r = ((rr.map Prod.snd).take i).foldl mastep r0) ?_ ?_ ?_ ?_
    · intro H7 e7
      exact ⟨none, a0, r0, rfl, e6.trans e7, hall0.ex (e6.trans e7), hsm0.1, hsm0.2, by simp⟩
    · rintro i σ' H' _ ⟨x2, a, r, rfl, e, _⟩
      exact sq_of (e _ _ hrl5)
    · rintro i v σ' H' hv ⟨x2, a, r, rfl, e, hra, hrsm, hrw, hre⟩
      obtain ⟨a', r', hi, rfl⟩ := rrefs_get hv
      have hm := List.mem_of_getElem? hi
      have hsm' := hsmr _ hm
      have hstep : ((rr.map Prod.snd).take (i + 1)).foldl mastep r0 = mastep r r' := by
        rw [List.take_add_one, List.getElem?_map, hi, List.foldl_append, ← hre]
        rfl
      refine s_when (b := decide (0 < mexcess r r')) (et_test (ev_op (ev_call (vs := [.ref a, .ref a']) (ea_cons (ev_var rfl) (ea_cons (ev_var rfl) ea_nil)) (spExcess_V hra ((hall5 _ hm).ex e) hrsm hsm'.1)) ev_c rv_I0)) (fun hb1 H7 e7 => ?_) (fun hb1 H7 e7 => ?_)
      · refine s_asg (ev_var rfl) fun H8 e8 => ?_
        refine ⟨_, a', r', rfl, e.trans (e7.trans e8), (hall5 _ hm).ex (e.trans (e7.trans e8)), hsm'.1, hsm'.2, ?_⟩
        rw [hstep]
        unfold mastep
        rw [if_pos (of_decide_eq_true hb1)]
      · refine ⟨_, a, r, rfl, e.trans e7, hra.ex e7, hrsm, hrw, ?_⟩
        rw [hstep]
        unfold mastep
        rw [if_neg (of_decide_eq_false hb1)]
    · rintro σ' H' ⟨x2, a, r, rfl, e, hra, hrsm, hrw, hre⟩
      rw [rrefs_len, show rr.length = (rr.map Prod.snd).length by rw [List.length_map], List.take_length] at hre
      rw [← hre] at ret
      exact s_retL (el_call (vs := [.ref a]) (ea_cons (ev_var rfl) ea_nil) (spNumbers_L hra hrsm hrw)) fun q H9 hq e9 h9 => ret.go (e5.trans e) hq e9 h9

/-! ### closest -/
def spClosest (K : PySem.W.Frag) (C : Addr) : Sp := fun vs H Q _ => ∃ (l : Addr) (m : Ld), vs = [.ref l] ∧ LandAt K C H l m ∧ Wf m ∧ RetL ((mclosest m).map V.int) H Q
theorem ok_closest (T : Tx K mg) : FnOk P w K mg base CX0 2 T.closest.f T.closest.d ["self"] (spClosest K T.C) := by
  have G_as_place : FnOk P w K mg base CX0 1 T.as_place.f T.as_place.d ["site"] (spAsPlace K) := ok_asplace T
  have G_far_times : FnOk P w K mg base CX0 1 T.far_times.f T.far_times.d ["place", "site"] (spFar K) := ok_far T
  refine T.closest.F.ok sc_closest (fun vs H Q E h => ?_) (fun cdv A outer s H vs Q E hr h => ?_)
  · obtain ⟨l, m, rfl, _⟩ := h
    rfl
  · obtain ⟨l, m, rfl, hL, wf, ret⟩ := h
    have hu := hu_of hr
    refine ⟨_, (pss_cons (ps_if (pt_cmpR op_lt (pe_callB call_lenD (by rfl) T.b_len PySem.boot_len (pa_cons (pe_fld (pv 0) rfl) pa_nil)) pe_int (nomark _))
        (pss_one (ps_ret (pe_lst (pa_cons (pe_glob rfl T.g_TOO_FEW_SITES.choose_spec rel_int) pa_nil))))
        pss_nil)
      (pss_cons (ps_set (i := 1) sc_closest.nd rfl (Or.inr rfl) (pe_callB (call_sortedDI rfl) (by rfl) T.b_sorted (by decide +kernel) (pa_cons (pe_fld (pv 0) rfl) pa_nil)))
      (pss_cons (ps_set (i := 2) sc_closest.nd rfl (Or.inl rfl) (pe_lst pa_nil))
      (pss_cons (ps_for PassesOwn.never rfl (pi_range2 rfl T.b_range (pa_cons pe_int (pa_cons (pe_callB call_len_seq (by rfl) T.b_len PySem.boot_len (pa_cons (pv 1) pa_nil)) pa_nil))) (pg_name (i := 3) sc_closest.nd rfl (Or.inr rfl))
        (pss_cons (ps_set (i := 4) sc_closest.nd rfl (Or.inr rfl) (pe_call G_as_place (hr.mono (by decide)) rfl T.as_place.mg T.as_place.F.kp T.as_place.b .nil pass0 (pa_cons (pe_dget hu (pe_fld (pv 0) rfl) (pe_ix ix_list (pv 1) (pv 3) (fun _ _ => rfl)) (fun _ _ => rfl)) pa_nil)))
        (pss_one (ps_expr (pe_bm PySem.F.plainAttrs_list PySem.F.slot_list_extend PySem.F.type_list_extend mt_extend (pv 2) (pa_cons (pe_lc (own := [("name", 5)]) (g := gName 5) rfl sc_closest.nd (pi_list (pe_slice sl_list (pv 1) po_none (po_some (pv 3)))) (blkOk_by (own := [("name", 5)]) (N := ["self", "names", "twos", "at", "place", "name", "best"]) (sc := defScope s_closest) (by decide +kernel)) (fun _ _ _ _ _ => pg_name (i := 5) sc_closest.nd rfl (Or.inl rfl)) (fun _ _ _ _ _ => by exact pts_nil) (fun _ _ _ _ _ => by exact (pe_tup (pa_cons (pe_call G_far_times (hr.mono (by decide)) rfl T.far_times.mg T.far_times.F.kp T.far_times.b .nil pass0 (pa_cons (pv 4) (pa_cons (by exact pe_dget (td := tFld K (tVar 0) "places") (ty := tVar 5) hu (pe_fld (pv 0) rfl) (pv 5) (fun _ _ => rfl)) pa_nil))) (pa_cons (pv 5) (pa_cons (by exact pe_ix (r := rIxL K) ix_list (pv 1) (pv 3) (fun _ _ => rfl)) pa_nil)))))) pa_nil))))))
      (pss_cons (ps_set (i := 6) sc_closest.nd rfl (Or.inl rfl) (pe_callB (cr_minU rfl hr) (by rfl) T.b_min (by decide +kernel) (pa_cons (pv 2) pa_nil)))
      (pss_one (ps_ret (pe_lst (pa_cons (pe_ix ix_tup (pv 6) pe_int (fun _ _ => rfl)) (pa_cons (pe_ix ix_tup (pv 6) pe_int (fun _ _ => rfl)) (pa_cons (pe_ix ix_tup (pv 6) pe_int (fun _ _ => rfl)) (pa_cons pe_int pa_nil)))))))))))), ?_⟩
    obtain ⟨dx, d, qs, h1, h2, h3, h4⟩ := hL
    unfold mclosest at ret
    refine q_when (et_test (ev_lt (ev_is (ev_lenD (ev_places rfl h1) h2) (by rw [lenD_m h3])) ev_c)) (fun hb H1 e1 => ?_) (fun hb H1 e1 => ?_)
    · rw [if_pos (by have := of_decide_eq_true hb; omega)] at ret
      exact s_retL (el_lst (ea_cons ev_c ea_nil) (by show 1 ≤ 100000; decide)) fun q H3 hq e3 hl => ret.go e1 hq e3 hl
    have hne0 : ¬ m.sites.length < 2 := by have := of_decide_eq_false hb; omega
    rw [if_neg hne0] at ret
    have hfew := wf.few
    have hsrt := el_sortedM (σ := [some (.ref l), none, none, none, none, none, none]) (H := H1) (ta := tFld K (tVar 0) "places") wf h3 (ev_places (T := T) (i := 0) (n := m.given) (dx := dx) rfl (e1 _ _ h1)) (e1 _ _ h2)
    refine q_asgL hsrt fun nl H2 hnl e2 hn2 => ?_
    refine q_asgL (el_lst ea_nil (by show 0 ≤ 100000; decide)) fun tl H3 htl e3 ht3 => ?_
    have e03 := e1.trans (e2.trans e3)
    have htH : H tl = none := fresh_back (e1.trans e2) htl
    have hn3 := e3 _ _ hn2
    have hntl : nl ≠ tl := by
      rintro rfl
      rw [hn2] at htl
      cases htl
    have hnlen : (nmV m).length = m.sites.length := by simp [nmV]
    have hnget : ∀ {i : Nat} {z : Nat × IP}, m.sites[i]? = some z → atI (nmV m) (i : Int) = some (.int (z.1 : Int)) := by
      intro i z hz
      refine at_nat ?_
      unfold nmV
      rw [List.getElem?_map, hz]
      rfl
    refine q_forR2 (lo := 1) (n := (m.sites.length : Int)) (ea_cons ev_c (ea_cons (ev_is (ev_len (ev_var rfl) (sq_of hn3)) (by rw [hnlen])) ea_nil)) (by omega) (fun i σ' H' => ∃ (x y : Option V) (ts : List (Addr × Tr)),
      σ' = [some (.ref l), some (.ref nl), some (.ref tl), x, y, none, none] ∧ Ex H H' ∧ H' nl = some (.lst (nmV m)) ∧ H' tl = some (.lst (ts.map fun q => V.ref q.1)) ∧ (∀ q ∈ ts, H' q.1 = some (.tup (trV q.2))) ∧
      ts.map Prod.snd = (List.range' 1 i).flatMap (mtwosAt m.sites) ∧ ts.length ≤ 8 * i) ?_ ?_ ?_
    · intro H4 e4
      exact ⟨none, none, [], rfl, e03.trans e4, e4 _ _ hn3, e4 _ _ ht3, fun q hq => by simp at hq, by simp, by simp⟩
    · rintro i σ' H' hi ⟨x, y, ts, rfl, e, hnl', htl', hts, hteq, htln⟩
      obtain ⟨z, hz⟩ : ∃ z, m.sites[1 + i]? = some z := ⟨_, List.getElem?_eq_getElem (by omega)⟩
      have hzm := List.mem_of_getElem? hz
      obtain ⟨a, hva, hia⟩ := land_get wf h3 h4 hzm
      have ei : (1 : Int) + (i : Int) = ((1 + i : Nat) : Int) := by omega
      rw [ei]
      refine q_asgU (eu_call (vs := [.ref a]) (ea_cons (ev_dget (k := z.1) (ev_places (T := T) (i := 0) (n := m.given) (dx := dx) rfl (e _ _ h1)) (ev_op (ev_var rfl) (ev_var rfl) (rv_ixL (sq_of hnl') (hnget hz))) (e _ _ h2) hva) ea_nil) (spAsPlace_U (hia.ex e))) fun pl H4 hpl e4 hp4 => ?_
      have e04 := e.trans e4
      have hplA : PlAt K H4 pl (mas z.2) := st_of hp4
      have sz := InSq.small (wf.sq z hzm)
      have hplS : SmallP (mas z.2) := ⟨sz.1.mono (by decide), sz.2.mono (by decide), show Bd 100 1 by unfold Bd; decide⟩
      have hnl4 := e4 _ _ hnl'
      have htl4 := e4 _ _ htl'
      have hcut : cutV (nmV m) none (some ((1 + i : Nat) : Int)) = (m.sites.take (1 + i)).map fun z => V.int (z.1 : Int) := by
        rw [cut_to (by rw [hnlen]; omega)]
        unfold nmV
        rw [List.map_take]
      have hsl := el_sl (K := K) (σ := [some (.ref l), some (.ref nl), some (.ref tl), some (.int ((1 + i : Nat) : Int)), some (.ref pl), none, none]) (H := H4) (te := tVar 1) (tl := tNoPart) (th := tPart (tVar 3)) (ev_var rfl) eo_none (eo_some (ev_var rfl)) (sq_of hnl4)
      rw [hcut] at hsl
      have hcomp := en_lcNL (K := K) (j := 5) (vs := [5]) (t := tYes) (te := tTup (tCons (tCall (spFar K) [] E0 (tCons (tVar 4) (tCons (tDGet (tFld K (tVar 0) "places") (tVar 5)) tNil))) (tCons (tVar 5) (tCons (tOp (rIxL K) (tVar 1) (tVar 3)) tNil))))
        (fun _ => true) (fun j => trV (mfar (mas z.2) ((m.sites.take (1 + i)).getD j zst).2, (((m.sites.take (1 + i)).getD j zst).1 : Int), (z.1 : Int))) hsl (by rw [List.length_map, List.length_take]; omega) (fun x => rfl) (fun j x H5 e5 hx => et_yes) (by
          intro j x H5 e5 hx _
          obtain ⟨u, hu', rfl⟩ := map_get hx
          rw [getD_of hu']
          have hum : u ∈ m.sites := List.mem_of_mem_take (List.mem_of_getElem? hu')
          have e05 := e04.trans e5
          obtain ⟨ua, hua, hui⟩ := land_get wf h3 h4 hum
          exact eu_tup (ea_cons (ev_call (vs := [.ref pl, .ref ua]) (ea_cons (ev_var rfl) (ea_cons (ev_dget (k := u.1) (ev_places (T := T) (i := 0) (n := m.given) (dx := dx) rfl (e05 _ _ h1)) (ev_var rfl) (e05 _ _ h2) hua) ea_nil)) (spFar_V (hplA.ex e5) (hui.ex e05) hplS (InSq.small (wf.sq u hum))))
            (ea_cons (ev_var rfl) (ea_cons (ev_op (ev_var rfl) (ev_var rfl) (rv_ixL (sq_of (e5 _ _ hnl4)) (hnget hz))) ea_nil))) (by show 3 ≤ 100000; decide))
      rw [List.length_map, gvn_all (m.sites.take (1 + i)) zst (fun u => trV (mfar (mas z.2) u.2, (u.1 : Int), (z.1 : Int)))] at hcomp
      have htw : (m.sites.take (1 + i)).map (fun u => trV (mfar (mas z.2) u.2, (u.1 : Int), (z.1 : Int))) = (mtwosAt m.sites (1 + i)).map trV := by
        unfold mtwosAt
        rw [getD_of hz, List.map_map]
        rfl
      rw [htw] at hcomp
      have hl8 : (mtwosAt m.sites (1 + i)).length ≤ 8 := by
        unfold mtwosAt
        rw [List.length_map, List.length_take]
        omega
      refine s_extN htl4 (ev_var rfl) hcomp (by rw [List.length_map, List.length_map]; omega) fun H5 as e5 has hnt => ?_
      obtain ⟨cs, c1, c2, c3⟩ := nts_zip has
      rw [c2]
      have htl5 := e5 _ _ htl4
      refine ⟨_, _, ts ++ cs, rfl, Ex.mut (e04.trans e5) htH, ?_, ?_, ?_, ?_, ?_⟩
      · rw [upd_ne hntl]
        exact e5 _ _ hnl4
      · rw [upd_same, List.map_append]
      · intro q hq
        rw [List.mem_append] at hq
        have hne : ∀ {o}, H5 q.1 = some (.tup o) → q.1 ≠ tl := by
          intro o ho e
          rw [e, htl5] at ho
          cases ho
        rcases hq with hq | hq
        · have := (e4.trans e5) _ _ (hts q hq)
          rw [upd_ne (hne this)]
          exact this
        · have := c3 H5 hnt q hq
          rw [upd_ne (hne this)]
          exact this
      · rw [List.map_append, hteq, c1, List.range'_concat, List.flatMap_append]
        simp
      · have : cs.length = (mtwosAt m.sites (1 + i)).length := by rw [← c1, List.length_map]
        rw [List.length_append]
        omega
    · rintro σ' H' ⟨x, y, ts, rfl, e, hnl', htl', hts, hteq, htln⟩
      have hti : ((m.sites.length : Int) - 1).toNat = m.sites.length - 1 := by omega
      rw [hti] at hteq
      have hteq' : ts.map Prod.snd = mtwos m.sites := hteq
      have hne : mtwos m.sites ≠ [] := by
        have : (mfar ((m.sites[1]).2.1, (m.sites[1]).2.2, 1) (m.sites[0]).2, ((m.sites[0]).1 : Int), ((m.sites[1]).1 : Int)) ∈ mtwos m.sites :=
          (mem_mtwos _ _).mpr ⟨0, 1, m.sites[0], m.sites[1], by omega, List.getElem?_eq_getElem (by omega), List.getElem?_eq_getElem (by omega), rfl⟩
        exact List.ne_nil_of_mem this
      rw [← hteq'] at ret hne
      have htne : ts ≠ [] := by
        rintro rfl
        simp at hne
      refine ⟨_, rfl, tl, ts, rfl, sq_of htl', fun q hq => st_of (hts q hq), htne, fun q hq hqe => ?_⟩
      have hq1 : SqT K H' q.1 (trV q.2) := st_of (hts q hq)
      rw [← hqe] at ret
      exact s_retL (el_lst (ea_cons (ev_it (j := 1) (v := .int q.2.2.1) rfl hq1 rfl) (ea_cons (ev_it (j := 2) (v := .int q.2.2.2) rfl hq1 rfl) (ea_cons (ev_it (j := 0) (v := .int q.2.1) rfl hq1 rfl) (ea_cons ev_c ea_nil)))) (by show 4 ≤ 100000; decide)) fun p H9 hp e9 h9 => ret.go e hp e9 h9
end
end NP

set_option Elab.async false
set_option linter.unusedVariables false
set_option maxRecDepth 100000
set_option maxHeartbeats 1000000
namespace NP
open PySem PySem.Spec PyProof.Rows L2 Evl NS

/-! ### what each call hands over -/
theorem len0 {l : List Int} (h : l.length = 0) : l = [] := List.length_eq_zero_iff.mp h
theorem len1 {l : List Int} (h : l.length = 1) : ∃ a, l = [a] := by
  match l, h with
  | [a], _ => exact ⟨a, rfl⟩
theorem len2 {l : List Int} (h : l.length = 2) : ∃ a b, l = [a, b] := by
  match l, h with
  | [a, b], _ => exact ⟨a, b, rfl⟩
theorem len4 {l : List Int} (h : l.length = 4) : ∃ a b c d, l = [a, b, c, d] := by
  match l, h with
  | [a, b, c, d], _ => exact ⟨a, b, c, d, rfl⟩
theorem len5 {l : List Int} (h : l.length = 5) : ∃ a b c d e, l = [a, b, c, d, e] := by
  match l, h with
  | [a, b, c, d, e], _ => exact ⟨a, b, c, d, e, rfl⟩
theorem co_len {p : Int} {args : List Int} {n : Nat} (h : CallOk p args) (hp : PyGk04.shape p = some (n, 0)) : args.length = n := by
  have h1 := h.1
  rw [hp] at h1
  injection h1 with h1
  injection h1 with h1 _
  exact h1.symm
theorem in_lo {lo hi x : Int} {b : List (Int × Int)} {xs : List Int} (h : PyInside.each ((lo, hi) :: b) (x :: xs) = true) : lo ≤ x ∧ x ≤ hi := by
  unfold PyInside.each at h
  rw [Bool.and_eq_true] at h
  have h1 := h.1
  unfold PyInside.within at h1
  rw [Bool.and_eq_true] at h1
  exact ⟨of_decide_eq_true h1.1, of_decide_eq_true h1.2⟩
theorem co0 {args : List Int} (h : CallOk 0 args) : ∃ x y, args = [x, y] := len2 (co_len h (by rfl))
theorem nat_of {k : Int} (h : 0 ≤ k) : ∃ n : Nat, k = (n : Int) := ⟨k.toNat, by omega⟩
theorem co1 {args : List Int} (h : CallOk 1 args) : ∃ k : Nat, args = [(k : Int)] := by
  obtain ⟨k, rfl⟩ := len1 (co_len h (by rfl))
  obtain ⟨n, rfl⟩ := nat_of (in_lo (lo := 0) (hi := 4294967295) (b := []) h.2).1
  exact ⟨n, rfl⟩
theorem co2 {args : List Int} (h : CallOk 2 args) : ∃ a b c d, args = [a, b, c, d] := len4 (co_len h (by rfl))
theorem co3 {args : List Int} (h : CallOk 3 args) : ∃ (r : Nat) (a b c d : Int), args = [(r : Int), a, b, c, d] ∧ r ≤ 4294967295 := by
  obtain ⟨k, a, b, c, d, rfl⟩ := len5 (co_len h (by rfl))
  obtain ⟨h1, h2⟩ := in_lo (lo := 0) (hi := 4294967295) (b := [(-4294967295, 4294967295), (-4294967295, 4294967295), (-4294967295, 4294967295), (-4294967295, 4294967295)]) h.2
  obtain ⟨n, rfl⟩ := nat_of h1
  exact ⟨n, a, b, c, d, rfl, by omega⟩
theorem co4 {args : List Int} (h : CallOk 4 args) : ∃ k : Nat, args = [(k : Int)] := by
  obtain ⟨k, rfl⟩ := len1 (co_len h (by rfl))
  obtain ⟨n, rfl⟩ := nat_of (in_lo (lo := 0) (hi := 4294967295) (b := []) h.2).1
  exact ⟨n, rfl⟩
theorem co5 {args : List Int} (h : CallOk 5 args) : ∃ k : Nat, args = [(k : Int)] := by
  obtain ⟨k, rfl⟩ := len1 (co_len h (by rfl))
  obtain ⟨n, rfl⟩ := nat_of (in_lo (lo := 0) (hi := 4294967295) (b := []) h.2).1
  exact ⟨n, rfl⟩
theorem co6 {args : List Int} (h : CallOk 6 args) : args = [] := len0 (co_len h (by rfl))
theorem co7 {args : List Int} (h : CallOk 7 args) : args = [] := len0 (co_len h (by rfl))
theorem co8 {args : List Int} (h : CallOk 8 args) : args = [] := len0 (co_len h (by rfl))
theorem co9 {args : List Int} (h : CallOk 9 args) : args = [] := len0 (co_len h (by rfl))
/-- one call, as the program takes it -/
def msF : MS := fun m p args =>
  if p = 0 then madd m (args.getD 0 0) (args.getD 1 0) else
  if p = 1 then mgone m (args.getD 0 0).toNat else
  if p = 2 then (m, mnearest m (args.getD 0 0) (args.getD 1 0) (args.getD 2 0) (args.getD 3 0)) else
  if p = 3 then (m, mwithin m (args.getD 0 0) (args.getD 1 0) (args.getD 2 0) (args.getD 3 0) (args.getD 4 0)) else
  if p = 4 then (m, mcellM m (args.getD 0 0).toNat) else
  if p = 5 then (m, mbeside m (args.getD 0 0).toNat) else
  if p = 6 then (m, mloneliest m) else
  if p = 7 then (m, mclosest m) else
  if p = 8 then (m, maround m) else (m, msites m)
theorem ms_0 (m : Ld) (x y : Int) : msF m 0 [x, y] = madd m x y := rfl
theorem ms_1 (m : Ld) (k : Nat) : msF m 1 [(k : Int)] = mgone m k := rfl
theorem ms_2 (m : Ld) (a b c d : Int) : msF m 2 [a, b, c, d] = (m, mnearest m a b c d) := rfl
theorem ms_3 (m : Ld) (r a b c d : Int) : msF m 3 [r, a, b, c, d] = (m, mwithin m r a b c d) := rfl
theorem ms_4 (m : Ld) (k : Nat) : msF m 4 [(k : Int)] = (m, mcellM m k) := rfl
theorem ms_5 (m : Ld) (k : Nat) : msF m 5 [(k : Int)] = (m, mbeside m k) := rfl
theorem ms_6 (m : Ld) : msF m 6 [] = (m, mloneliest m) := rfl
theorem ms_7 (m : Ld) : msF m 7 [] = (m, mclosest m) := rfl
theorem ms_8 (m : Ld) : msF m 8 [] = (m, maround m) := rfl
theorem ms_9 (m : Ld) : msF m 9 [] = (m, msites m) := rfl
theorem ms_same {m : Ld} {p : Int} {args xs : List Int} (wf : Wf m) (h : msF m p args = (m, xs)) (hs : specStep (toSt m) p args = (toSt m, xs)) : Wf (msF m p args).1 ∧ (msF m p args).1.given ≤ m.given + 1 ∧ specStep (toSt m) p args = (toSt (msF m p args).1, (msF m p args).2) := by
  rw [h]
  exact ⟨wf, by simp, hs⟩
theorem msF_ok : MsOk msF := by
  intro m p args wf hg hc
  rcases shape_cases hc.1 with ⟨rfl, _⟩ | ⟨rfl, _⟩ | ⟨rfl, _⟩ | ⟨rfl, _⟩ | ⟨rfl, _⟩ | ⟨rfl, _⟩ | ⟨rfl, _⟩ | ⟨rfl, _⟩ | ⟨rfl, _⟩ | ⟨rfl, _⟩
  · obtain ⟨x, y, rfl⟩ := co0 hc
    rw [ms_0]
    have := madd_wf wf x y (by omega)
    exact ⟨this.1, this.2, add_step m x y⟩
  · obtain ⟨k, rfl⟩ := co1 hc
    rw [ms_1]
    have := mgone_wf wf k
    exact ⟨this.1, by rw [this.2]; omega, gone_step m k⟩
  · obtain ⟨a, b, c, d, rfl⟩ := co2 hc
    exact ms_same wf (ms_2 m a b c d) (nearest_step m a b c d)
  · obtain ⟨r, a, b, c, d, rfl, _⟩ := co3 hc
    exact ms_same wf (ms_3 m r a b c d) (within_step m r a b c d)
  · obtain ⟨k, rfl⟩ := co4 hc
    exact ms_same wf (ms_4 m k) (cell_step wf k)
  · obtain ⟨k, rfl⟩ := co5 hc
    exact ms_same wf (ms_5 m k) (beside_step wf k)
  · have e := co6 hc
    subst e
    exact ms_same wf (ms_6 m) (loneliest_step wf)
  · have e := co7 hc
    subst e
    exact ms_same wf (ms_7 m) (closest_step wf)
  · have e := co8 hc
    subst e
    exact ms_same wf (ms_8 m) (around_step wf)
  · have e := co9 hc
    subst e
    exact ms_same wf (ms_9 m) (sites_step m)
end NP

set_option Elab.async false
set_option linter.unusedVariables false
set_option maxRecDepth 100000
set_option maxHeartbeats 1000000
namespace NP
open PySem PySem.Spec PyProof.Rows L2 Evl NS
section
variable {P : Program} {w : World} {K : PySem.W.Frag} {mg : Str → Option Value} {base : Heap}
theorem RetM.ex {C : Addr} {H H1 : Hp} {l : Addr} {r : Ld × List Int} {Q : VK} (h : RetM K C H l r Q) (e : Ex H H1) : RetM K C H1 l r Q :=
  fun p H' hp kp hL hl => h p H' (fresh_back e hp) ((Keep.of e).trans kp) hL hl
theorem RetM.l {C : Addr} {H : Hp} {l : Addr} {m : Ld} {xs : List Int} {Q : VK} (h : RetM K C H l (m, xs) Q) (hL : LandAt K C H l m) : RetL (xs.map V.int) H Q :=
  fun p H' hp e hl => h p H' hp (Keep.of e) (hL.ex e) hl
/-- a method that reads the land alone -/
theorem s_retMeth {σ : L2.St} {H : Hp} {Q : VK} {C l : Addr} {f : Str} {sp : Sp} {t : TA} {m : Ld} {vs : List V} {xs : List Int} (hv : σ[0]? = some (some (.ref l))) (hL : LandAt K C H l m) (h1 : (f == ("places" : Str)) = false) (h2 : (f == ("fresh_name" : Str)) = false)
    (ha : EvA t σ H vs) (hs : ∀ H1, Ex H H1 → ∀ Q : VK, RetL (xs.map V.int) H1 Q → ∀ E : XK, sp (.ref l :: (vs ++ [])) H1 Q E) (ret : RetM K C H l (m, xs) Q) {D : Ends} (hD : D.rt = Q) : tRet (tMeth C f sp [] E0 (tVar 0) t) D σ H := by
  have hL' := hL
  obtain ⟨dx, d, qs, g1, _⟩ := hL'
  subst hD
  exact s_retL (el_meth (ev_var hv) g1 (lF_none _ _ _ h1 h2) ha (fun H1 e Q2 q2 E2 => hs H1 e Q2 (fun p H' hp e' hl => q2 p H' hp e' hl) E2)) fun p H2 hp e2 hl => (ret.l hL) p H2 hp e2 hl
theorem ok_answer_of (T : Tx K mg) (S : Sqr K mg) : FnOk P w K mg base CX0 6 T.answer_of.f T.answer_of.d ["land", "call", "given"] (spOf K T.C msF) := by
  have G_add : FnOk P w K mg base CX0 1 T.add.f T.add.d ["self", "across", "up"] (spAdd K T.C) := ok_add T
  have G_gone : FnOk P w K mg base CX0 1 T.gone.f T.gone.d ["self", "name"] (spGone K T.C) := ok_gone T
  have G_nearest : FnOk P w K mg base CX0 3 T.nearest.f T.nearest.d ["self", "told"] (spNearest K T.C) := ok_nearest T
  have G_within : FnOk P w K mg base CX0 3 T.within.f T.within.d ["self", "far", "told"] (spWithin K T.C) := ok_within T
  have G_cell : FnOk P w K mg base CX0 5 T.cell.f T.cell.d ["self", "name"] (spCell K T.C) := ok_cell T S
  have G_beside : FnOk P w K mg base CX0 5 T.beside.f T.beside.d ["self", "name"] (spBeside K T.C) := ok_beside T S
  have G_loneliest : FnOk P w K mg base CX0 5 T.loneliest.f T.loneliest.d ["self"] (spLoneliest K T.C) := ok_loneliest T S
  have G_closest : FnOk P w K mg base CX0 2 T.closest.f T.closest.d ["self"] (spClosest K T.C) := ok_closest T
  have G_around : FnOk P w K mg base CX0 5 T.around.f T.around.d ["self"] (spAround K T.C) := ok_around T
  have G_sites : FnOk P w K mg base CX0 1 T.sites.f T.sites.d ["self"] (spSites K T.C) := ok_sites T
  refine T.answer_of.F.ok sc_answer_of (fun vs H Q E h => ?_) (fun cdv A outer s H vs Q E hr h => ?_)
  · obtain ⟨l, q, m, p, args, rfl, _⟩ := h
    rfl
  · obtain ⟨l, q, m, p, args, rfl, hL, wf, hg, hc, hS, ret⟩ := h
    have hu := hu_of hr
    refine ⟨_, (pss_cons (ps_if (pt_cmpR op_eq (pv 1) (pe_glob rfl T.g_ADD.choose_spec rel_int) (nomark _))
        (pss_one (ps_ret (pe_meth (pv 0) T.cl T.add.m G_add (hr.mono (by decide)) T.add.b .nil pass0 (pa_cons (pe_ix ix_list (pv 2) pe_int (fun _ _ => rfl)) (pa_cons (pe_ix ix_list (pv 2) pe_int (fun _ _ => rfl)) pa_nil)))))
        pss_nil)
      (pss_cons (ps_if (pt_cmpR op_eq (pv 1) (pe_glob rfl T.g_GONE.choose_spec rel_int) (nomark _))
        (pss_one (ps_ret (pe_meth (pv 0) T.cl T.gone.m G_gone (hr.mono (by decide)) T.gone.b .nil pass0 (pa_cons (pe_ix ix_list (pv 2) pe_int (fun _ _ => rfl)) pa_nil))))
        pss_nil)
      (pss_cons (ps_if (pt_cmpR op_eq (pv 1) (pe_glob rfl T.g_NEAREST.choose_spec rel_int) (nomark _))
        (pss_one (ps_ret (pe_meth (pv 0) T.cl T.nearest.m G_nearest (hr.mono (by decide)) T.nearest.b .nil pass0 (pa_cons (pv 2) pa_nil))))
        pss_nil)
      (pss_cons (ps_if (pt_cmpR op_eq (pv 1) (pe_glob rfl T.g_WITHIN.choose_spec rel_int) (nomark _))
        (pss_one (ps_ret (pe_meth (pv 0) T.cl T.within.m G_within (hr.mono (by decide)) T.within.b .nil pass0 (pa_cons (pe_ix ix_list (pv 2) pe_int (fun _ _ => rfl)) (pa_cons (pe_slice sl_list (pv 2) (po_some pe_int) po_none) pa_nil)))))
        pss_nil)
      (pss_cons (ps_if (pt_cmpR op_eq (pv 1) (pe_glob rfl T.g_CELL.choose_spec rel_int) (nomark _))
        (pss_one (ps_ret (pe_meth (pv 0) T.cl T.cell.m G_cell (hr.mono (by decide)) T.cell.b .nil pass0 (pa_cons (pe_ix ix_list (pv 2) pe_int (fun _ _ => rfl)) pa_nil))))
        pss_nil)
      (pss_cons (ps_if (pt_cmpR op_eq (pv 1) (pe_glob rfl T.g_BESIDE.choose_spec rel_int) (nomark _))
        (pss_one (ps_ret (pe_meth (pv 0) T.cl T.beside.m G_beside (hr.mono (by decide)) T.beside.b .nil pass0 (pa_cons (pe_ix ix_list (pv 2) pe_int (fun _ _ => rfl)) pa_nil))))
        pss_nil)
      (pss_cons (ps_if (pt_cmpR op_eq (pv 1) (pe_glob rfl T.g_LONELIEST.choose_spec rel_int) (nomark _))
        (pss_one (ps_ret (pe_meth0 (pv 0) T.cl T.loneliest.m G_loneliest (hr.mono (by decide)) T.loneliest.b .nil pass0)))
        pss_nil)
      (pss_cons (ps_if (pt_cmpR op_eq (pv 1) (pe_glob rfl T.g_CLOSEST.choose_spec rel_int) (nomark _))
        (pss_one (ps_ret (pe_meth0 (pv 0) T.cl T.closest.m G_closest (hr.mono (by decide)) T.closest.b .nil pass0)))
        pss_nil)
      (pss_cons (ps_if (pt_cmpR op_eq (pv 1) (pe_glob rfl T.g_AROUND.choose_spec rel_int) (nomark _))
        (pss_one (ps_ret (pe_meth0 (pv 0) T.cl T.around.m G_around (hr.mono (by decide)) T.around.b .nil pass0)))
        pss_nil)
      (pss_one (ps_ret (pe_meth0 (pv 0) T.cl T.sites.m G_sites (hr.mono (by decide)) T.sites.b .nil pass0)))))))))))), ?_⟩
    -- add
    refine q_when (et_test (ev_eqI (ev_var rfl) ev_c)) (fun hb H1 e1 => ?_) (fun hb0 H1 e1 => ?_)
    · have hp := of_decide_eq_true hb
      subst hp
      obtain ⟨x, y, rfl⟩ := co0 hc
      rw [ms_0] at ret
      replace hL := hL.ex e1
      replace hS := ex_l e1 hS
      have hL' := hL
      obtain ⟨dx, d, qs, g1, _⟩ := hL'
      refine ⟨_, rfl, l, dx, _, rfl, g1, lF_none _ _ _ (by decide +kernel) (by decide +kernel), ?_⟩
      refine (ea_cons (x := .int x) (ev_il rfl hS rfl) (ea_cons (x := .int y) (ev_il rfl hS rfl) ea_nil)) H1 (Ex.refl _) _ fun H2 e2 => ?_
      exact ⟨l, m, x, y, rfl, hL.ex e2, wf, fun p H' hp kp hL' hl => (ret.ex (e1.trans e2)) p H' hp kp hL' hl⟩
    replace hL := hL.ex e1
    replace hS := ex_l e1 hS
    replace ret := ret.ex e1
    clear e1
    -- gone
    refine q_when (et_test (ev_eqI (ev_var rfl) ev_c)) (fun hb H2 e1 => ?_) (fun hb1 H2 e1 => ?_)
    · have hp := of_decide_eq_true hb
      subst hp
      obtain ⟨k, rfl⟩ := co1 hc
      rw [ms_1] at ret
      replace hL := hL.ex e1
      replace hS := ex_l e1 hS
      have hL' := hL
      obtain ⟨dx, d, qs, g1, _⟩ := hL'
      refine ⟨_, rfl, l, dx, _, rfl, g1, lF_none _ _ _ (by decide +kernel) (by decide +kernel), ?_⟩
      refine (ea_cons (x := .int (k : Int)) (ev_il rfl hS rfl) ea_nil) H2 (Ex.refl _) _ fun H3 e2 => ?_
      exact ⟨l, m, k, rfl, hL.ex e2, wf, fun p H' hp kp hL' hl => (ret.ex (e1.trans e2)) p H' hp kp hL' hl⟩
    replace hL := hL.ex e1
    replace hS := ex_l e1 hS
    replace ret := ret.ex e1
    clear e1
    -- nearest
    refine q_when (et_test (ev_eqI (ev_var rfl) ev_c)) (fun hb H3 e1 => ?_) (fun hb2 H3 e1 => ?_)
    · have hp := of_decide_eq_true hb
      subst hp
      obtain ⟨a, b, c, d, rfl⟩ := co2 hc
      rw [ms_2] at ret
      replace hS := ex_l e1 hS
      exact s_retMeth (vs := [.ref q]) rfl (hL.ex e1) (by decide +kernel) (by decide +kernel) (ea_cons (ev_var rfl) ea_nil) (fun H4 e4 Q4 r4 E4 => ⟨l, q, m, a, b, c, d, rfl, hL.ex (e1.trans e4), wf, ex_l e4 hS, r4⟩) (ret.ex e1) rfl
    replace hL := hL.ex e1
    replace hS := ex_l e1 hS
    replace ret := ret.ex e1
    clear e1
    -- within
    refine q_when (et_test (ev_eqI (ev_var rfl) ev_c)) (fun hb H4 e1 => ?_) (fun hb3 H4 e1 => ?_)
    · have hp := of_decide_eq_true hb
      subst hp
      obtain ⟨r, a, b, c, d, rfl, hr32⟩ := co3 hc
      rw [ms_3] at ret
      replace hL := hL.ex e1
      replace hS := ex_l e1 hS
      replace ret := ret.ex e1
      have hL' := hL
      obtain ⟨dx, dd, qs, g1, _⟩ := hL'
      refine ⟨_, rfl, l, dx, _, rfl, g1, lF_none _ _ _ (by decide +kernel) (by decide +kernel), ?_⟩
      refine (ev_il (v := .int (r : Int)) rfl hS rfl) H4 (Ex.refl _) _ fun H5 e5 => ?_
      refine (el_sl (lo := some ((1 : Nat) : Int)) (hi := none) (ev_var rfl) (eo_some ev_c) eo_none hS) H5 e5 _ fun q2 H6 hq e6 h6 => ?_
      rw [cut_from (by simp)] at h6
      have e46 := e5.trans e6
      refine ⟨l, q2, m, (r : Int), a, b, c, d, rfl, hL.ex e46, wf, sq_of h6, ?_, fun p H' hp e' hl => (ret.ex e46).l (hL.ex e46) p H' hp e' hl⟩
      unfold Bd
      have : (r : Int).natAbs = r := by omega
      rw [this]
      exact Nat.lt_of_le_of_lt hr32 (by decide)
    replace hL := hL.ex e1
    replace hS := ex_l e1 hS
    replace ret := ret.ex e1
    clear e1
    -- cell
    refine q_when (et_test (ev_eqI (ev_var rfl) ev_c)) (fun hb H5 e1 => ?_) (fun hb4 H5 e1 => ?_)
    · have hp := of_decide_eq_true hb
      subst hp
      obtain ⟨k, rfl⟩ := co4 hc
      rw [ms_4] at ret
      replace hS := ex_l e1 hS
      exact s_retMeth (vs := [.int (k : Int)]) rfl (hL.ex e1) (by decide +kernel) (by decide +kernel) (ea_cons (ev_il rfl hS rfl) ea_nil) (fun H6 e6 Q6 r6 E6 => ⟨l, m, k, rfl, hL.ex (e1.trans e6), wf, r6⟩) (ret.ex e1) rfl
    replace hL := hL.ex e1
    replace hS := ex_l e1 hS
    replace ret := ret.ex e1
    clear e1
    -- beside
    refine q_when (et_test (ev_eqI (ev_var rfl) ev_c)) (fun hb H6 e1 => ?_) (fun hb5 H6 e1 => ?_)
    · have hp := of_decide_eq_true hb
      subst hp
      obtain ⟨k, rfl⟩ := co5 hc
      rw [ms_5] at ret
      replace hS := ex_l e1 hS
      exact s_retMeth (vs := [.int (k : Int)]) rfl (hL.ex e1) (by decide +kernel) (by decide +kernel) (ea_cons (ev_il rfl hS rfl) ea_nil) (fun H7 e7 Q7 r7 E7 => ⟨l, m, k, rfl, hL.ex (e1.trans e7), wf, r7⟩) (ret.ex e1) rfl
    replace hL := hL.ex e1
    replace hS := ex_l e1 hS
    replace ret := ret.ex e1
    clear e1
    -- loneliest
    refine q_when (et_test (ev_eqI (ev_var rfl) ev_c)) (fun hb H7 e1 => ?_) (fun hb6 H7 e1 => ?_)
    · have hp := of_decide_eq_true hb
      subst hp
      have e := co6 hc
      subst e
      rw [ms_6] at ret
      exact s_retMeth (vs := []) rfl (hL.ex e1) (by decide +kernel) (by decide +kernel) ea_nil (fun H8 e8 Q8 r8 E8 => ⟨l, m, rfl, hL.ex (e1.trans e8), wf, r8⟩) (ret.ex e1) rfl
    replace hL := hL.ex e1
    replace hS := ex_l e1 hS
    replace ret := ret.ex e1
    clear e1
    -- closest
    refine q_when (et_test (ev_eqI (ev_var rfl) ev_c)) (fun hb H8 e1 => ?_) (fun hb7 H8 e1 => ?_)
    · have hp := of_decide_eq_true hb
      subst hp
      have e := co7 hc
      subst e
      rw [ms_7] at ret
      exact s_retMeth (vs := []) rfl (hL.ex e1) (by decide +kernel) (by decide +kernel) ea_nil (fun H9 e9 Q9 r9 E9 => ⟨l, m, rfl, hL.ex (e1.trans e9), wf, r9⟩) (ret.ex e1) rfl
    replace hL := hL.ex e1
    replace hS := ex_l e1 hS
    replace ret := ret.ex e1
    clear e1
    -- around
    refine q_when (et_test (ev_eqI (ev_var rfl) ev_c)) (fun hb H9 e1 => ?_) (fun hb8 H9 e1 => ?_)
    · have hp := of_decide_eq_true hb
      subst hp
      have e := co8 hc
      subst e
      rw [ms_8] at ret
      exact s_retMeth (vs := []) rfl (hL.ex e1) (by decide +kernel) (by decide +kernel) ea_nil (fun H10 e10 Q10 r10 E10 => ⟨l, m, rfl, hL.ex (e1.trans e10), wf, r10⟩) (ret.ex e1) rfl
    replace hL := hL.ex e1
    replace hS := ex_l e1 hS
    replace ret := ret.ex e1
    clear e1
    -- sites
    have hp : p = 9 := by
      have a0 := of_decide_eq_false hb0
      have a1 := of_decide_eq_false hb1
      have a2 := of_decide_eq_false hb2
      have a3 := of_decide_eq_false hb3
      have a4 := of_decide_eq_false hb4
      have a5 := of_decide_eq_false hb5
      have a6 := of_decide_eq_false hb6
      have a7 := of_decide_eq_false hb7
      have a8 := of_decide_eq_false hb8
      have := shape_cases hc.1
      omega
    subst hp
    have e := co9 hc
    subst e
    rw [ms_9] at ret
    exact s_retMeth (vs := []) rfl hL (by decide +kernel) (by decide +kernel) ea_nil (fun H10 e10 Q10 r10 E10 => ⟨l, m, rfl, hL.ex e10, wf, r10⟩) ret rfl
end
end NP

set_option Elab.async false
set_option linter.unusedVariables false
set_option maxRecDepth 100000
set_option maxHeartbeats 2000000
namespace NP
open PySem PySem.Spec PyProof.Rows L2 Evl NS
def nbXs : List Int := [2, 1, 4, 5, 1, 1, 0, 0, 0, 0]
theorem nb_is : ∀ (p : Int) (n : Nat), PyGk04.shape p = some (n, 0) → 0 ≤ p ∧ nbXs[p.toNat]? = some (n : Int) := by
  intro p n h
  rcases shape_cases h with ⟨rfl, rfl⟩ | ⟨rfl, rfl⟩ | ⟨rfl, rfl⟩ | ⟨rfl, rfl⟩ | ⟨rfl, rfl⟩ | ⟨rfl, rfl⟩ | ⟨rfl, rfl⟩ | ⟨rfl, rfl⟩ | ⟨rfl, rfl⟩ | ⟨rfl, rfl⟩ <;> exact ⟨by decide, rfl⟩
theorem all_mk {P : Program} {w : World} {K : PySem.W.Frag} {h : Heap} {mg : Str → Option Value} {fa f_answers f_answer_of f_is_place f_is_fraction f_place_of f_as_place f_far_times f_common f_lowest f_fractions_of f_lead f_cut f_between f_area f_from_first_on f_is_ahead f_has_side_towards f_excess f_is_lonelier f_numbers_of f_ring_round f_middles f_halfway f_turn f_as_far_from C f_init_m f_add_m f_gone_m f_nearest_m f_within_m f_cell_m f_beside_m f_loneliest_m f_closest_m f_around_m f_sites_m f_names_up_to_m f_corners_of_m s_aNUMBERS_BEHIND s_aSQUARE s_aSQUARE_0 s_aSQUARE_1 s_aSQUARE_2 s_aSQUARE_3 : Addr} (X : K.In h) (G : h.Ns mainGlobals mg) (hfa : mg "answers" = some (.ref fa))
    {od_answers an_answers od_answer_of an_answer_of od_is_place an_is_place od_is_fraction an_is_fraction od_place_of an_place_of od_as_place an_as_place od_far_times an_far_times od_common an_common od_lowest an_lowest od_fractions_of an_fractions_of od_lead an_lead od_cut an_cut od_between an_between od_area an_area od_from_first_on an_from_first_on od_is_ahead an_is_ahead od_has_side_towards an_has_side_towards od_excess an_excess od_is_lonelier an_is_lonelier od_numbers_of an_numbers_of od_ring_round an_ring_round od_middles an_middles od_halfway an_halfway od_turn an_turn od_as_far_from an_as_far_from od_init_m an_init_m od_add_m an_add_m od_gone_m an_gone_m od_nearest_m an_nearest_m od_within_m an_within_m od_cell_m an_cell_m od_beside_m an_beside_m od_loneliest_m an_loneliest_m od_closest_m an_closest_m od_around_m an_around_m od_sites_m an_sites_m od_names_up_to_m an_names_up_to_m od_corners_of_m an_corners_of_m s_dNUMBERS_BEHIND s_dSQUARE s_dSQUARE_0 s_dSQUARE_1 s_dSQUARE_2 s_dSQUARE_3 : Option Addr} {sl_answers sl_answer_of sl_is_place sl_is_fraction sl_place_of sl_as_place sl_far_times sl_common sl_lowest sl_fractions_of sl_lead sl_cut sl_between sl_area sl_from_first_on sl_is_ahead sl_has_side_towards sl_excess sl_is_lonelier sl_numbers_of sl_ring_round sl_middles sl_halfway sl_turn sl_as_far_from sl_init_m sl_add_m sl_gone_m sl_nearest_m sl_within_m sl_cell_m sl_beside_m sl_loneliest_m sl_closest_m sl_around_m sl_sites_m sl_names_up_to_m sl_corners_of_m s_sNUMBERS_BEHIND s_sSQUARE s_sSQUARE_0 s_sSQUARE_1 s_sSQUARE_2 s_sSQUARE_3 : Array (Option Value)} {oc_answers kV_answers dc_answers pm_answers cd_answers ct_answers oc_answer_of kV_answer_of dc_answer_of pm_answer_of cd_answer_of ct_answer_of oc_is_place kV_is_place dc_is_place pm_is_place cd_is_place ct_is_place oc_is_fraction kV_is_fraction dc_is_fraction pm_is_fraction cd_is_fraction ct_is_fraction oc_place_of kV_place_of dc_place_of pm_place_of cd_place_of ct_place_of oc_as_place kV_as_place dc_as_place pm_as_place cd_as_place ct_as_place oc_far_times kV_far_times dc_far_times pm_far_times cd_far_times ct_far_times oc_common kV_common dc_common pm_common cd_common ct_common oc_lowest kV_lowest dc_lowest pm_lowest cd_lowest ct_lowest oc_fractions_of kV_fractions_of dc_fractions_of pm_fractions_of cd_fractions_of ct_fractions_of oc_lead kV_lead dc_lead pm_lead cd_lead ct_lead oc_cut kV_cut dc_cut pm_cut cd_cut ct_cut oc_between kV_between dc_between pm_between cd_between ct_between oc_area kV_area dc_area pm_area cd_area ct_area oc_from_first_on kV_from_first_on dc_from_first_on pm_from_first_on cd_from_first_on ct_from_first_on oc_is_ahead kV_is_ahead dc_is_ahead pm_is_ahead cd_is_ahead ct_is_ahead oc_has_side_towards kV_has_side_towards dc_has_side_towards pm_has_side_towards cd_has_side_towards ct_has_side_towards oc_excess kV_excess dc_excess pm_excess cd_excess ct_excess oc_is_lonelier kV_is_lonelier dc_is_lonelier pm_is_lonelier cd_is_lonelier ct_is_lonelier oc_numbers_of kV_numbers_of dc_numbers_of pm_numbers_of cd_numbers_of ct_numbers_of oc_ring_round kV_ring_round dc_ring_round pm_ring_round cd_ring_round ct_ring_round oc_middles kV_middles dc_middles pm_middles cd_middles ct_middles oc_halfway kV_halfway dc_halfway pm_halfway cd_halfway ct_halfway oc_turn kV_turn dc_turn pm_turn cd_turn ct_turn oc_as_far_from kV_as_far_from dc_as_far_from pm_as_far_from cd_as_far_from ct_as_far_from oc_init_m kV_init_m dc_init_m pm_init_m cd_init_m ct_init_m oc_add_m kV_add_m dc_add_m pm_add_m cd_add_m ct_add_m oc_gone_m kV_gone_m dc_gone_m pm_gone_m cd_gone_m ct_gone_m oc_nearest_m kV_nearest_m dc_nearest_m pm_nearest_m cd_nearest_m ct_nearest_m oc_within_m kV_within_m dc_within_m pm_within_m cd_within_m ct_within_m oc_cell_m kV_cell_m dc_cell_m pm_cell_m cd_cell_m ct_cell_m oc_beside_m kV_beside_m dc_beside_m pm_beside_m cd_beside_m ct_beside_m oc_loneliest_m kV_loneliest_m dc_loneliest_m pm_loneliest_m cd_loneliest_m ct_loneliest_m oc_closest_m kV_closest_m dc_closest_m pm_closest_m cd_closest_m ct_closest_m oc_around_m kV_around_m dc_around_m pm_around_m cd_around_m ct_around_m oc_sites_m kV_sites_m dc_sites_m pm_sites_m cd_sites_m ct_sites_m oc_names_up_to_m kV_names_up_to_m dc_names_up_to_m pm_names_up_to_m cd_names_up_to_m ct_names_up_to_m oc_corners_of_m kV_corners_of_m dc_corners_of_m pm_corners_of_m cd_corners_of_m ct_corners_of_m : Value} {t_ADD t_GONE t_NEAREST t_WITHIN t_CELL t_BESIDE t_LONELIEST t_CLOSEST t_AROUND t_WRONG_PLACE t_NO_ROOM t_NO_SUCH_SITE t_TAKEN t_TOO_FEW_SITES t_REACH t_MOST_SITES t_MOST_ABOVE t_MOST_BELOW tNUMBERS_BEHIND_0 tNUMBERS_BEHIND_1 tNUMBERS_BEHIND_2 tNUMBERS_BEHIND_3 tNUMBERS_BEHIND_4 tNUMBERS_BEHIND_5 tNUMBERS_BEHIND_6 tNUMBERS_BEHIND_7 tNUMBERS_BEHIND_8 tNUMBERS_BEHIND_9 tSQUARE_0_0 tSQUARE_0_1 tSQUARE_0_2 tSQUARE_1_0 tSQUARE_1_1 tSQUARE_1_2 tSQUARE_2_0 tSQUARE_2_1 tSQUARE_2_2 tSQUARE_3_0 tSQUARE_3_1 tSQUARE_3_2 : Tok} {s_nNUMBERS_BEHIND s_nSQUARE s_nSQUARE_0 s_nSQUARE_1 s_nSQUARE_2 s_nSQUARE_3 : Nat}
    (a_answers : PySem.W.nsIn K mainGlobals "answers" = some (some (.ref f_answers)))
    (l_answers : K.lookup f_answers = some ⟨oc_answers, od_answers, .func (PySem.W.fnOf "answers" "answers" (defArgs s_answers) (defBody s_answers) (defScope s_answers) .none kV_answers dc_answers pm_answers an_answers cd_answers ct_answers), sl_answers⟩)
    (c_answers : PySem.W.codeIn K cd_answers "answers" = true)
    (k_answers : PySem.W.keepIn K (.ref f_answers) = true)
    (a_answer_of : PySem.W.nsIn K mainGlobals "answer_of" = some (some (.ref f_answer_of)))
    (l_answer_of : K.lookup f_answer_of = some ⟨oc_answer_of, od_answer_of, .func (PySem.W.fnOf "answer_of" "answer_of" (defArgs s_answer_of) (defBody s_answer_of) (defScope s_answer_of) .none kV_answer_of dc_answer_of pm_answer_of an_answer_of cd_answer_of ct_answer_of), sl_answer_of⟩)
    (c_answer_of : PySem.W.codeIn K cd_answer_of "answer_of" = true)
    (k_answer_of : PySem.W.keepIn K (.ref f_answer_of) = true)
    (a_is_place : PySem.W.nsIn K mainGlobals "is_place" = some (some (.ref f_is_place)))
    (l_is_place : K.lookup f_is_place = some ⟨oc_is_place, od_is_place, .func (PySem.W.fnOf "is_place" "is_place" (defArgs s_is_place) (defBody s_is_place) (defScope s_is_place) .none kV_is_place dc_is_place pm_is_place an_is_place cd_is_place ct_is_place), sl_is_place⟩)
    (c_is_place : PySem.W.codeIn K cd_is_place "is_place" = true)
    (k_is_place : PySem.W.keepIn K (.ref f_is_place) = true)
    (a_is_fraction : PySem.W.nsIn K mainGlobals "is_fraction" = some (some (.ref f_is_fraction)))
    (l_is_fraction : K.lookup f_is_fraction = some ⟨oc_is_fraction, od_is_fraction, .func (PySem.W.fnOf "is_fraction" "is_fraction" (defArgs s_is_fraction) (defBody s_is_fraction) (defScope s_is_fraction) .none kV_is_fraction dc_is_fraction pm_is_fraction an_is_fraction cd_is_fraction ct_is_fraction), sl_is_fraction⟩)
    (c_is_fraction : PySem.W.codeIn K cd_is_fraction "is_fraction" = true)
    (k_is_fraction : PySem.W.keepIn K (.ref f_is_fraction) = true)
    (a_place_of : PySem.W.nsIn K mainGlobals "place_of" = some (some (.ref f_place_of)))
    (l_place_of : K.lookup f_place_of = some ⟨oc_place_of, od_place_of, .func (PySem.W.fnOf "place_of" "place_of" (defArgs s_place_of) (defBody s_place_of) (defScope s_place_of) .none kV_place_of dc_place_of pm_place_of an_place_of cd_place_of ct_place_of), sl_place_of⟩)
    (c_place_of : PySem.W.codeIn K cd_place_of "place_of" = true)
    (k_place_of : PySem.W.keepIn K (.ref f_place_of) = true)
    (a_as_place : PySem.W.nsIn K mainGlobals "as_place" = some (some (.ref f_as_place)))
    (l_as_place : K.lookup f_as_place = some ⟨oc_as_place, od_as_place, .func (PySem.W.fnOf "as_place" "as_place" (defArgs s_as_place) (defBody s_as_place) (defScope s_as_place) .none kV_as_place dc_as_place pm_as_place an_as_place cd_as_place ct_as_place), sl_as_place⟩)
    (c_as_place : PySem.W.codeIn K cd_as_place "as_place" = true)
    (k_as_place : PySem.W.keepIn K (.ref f_as_place) = true)
    (a_far_times : PySem.W.nsIn K mainGlobals "far_times" = some (some (.ref f_far_times)))
    (l_far_times : K.lookup f_far_times = some ⟨oc_far_times, od_far_times, .func (PySem.W.fnOf "far_times" "far_times" (defArgs s_far_times) (defBody s_far_times) (defScope s_far_times) .none kV_far_times dc_far_times pm_far_times an_far_times cd_far_times ct_far_times), sl_far_times⟩)
    (c_far_times : PySem.W.codeIn K cd_far_times "far_times" = true)
    (k_far_times : PySem.W.keepIn K (.ref f_far_times) = true)
    (a_common : PySem.W.nsIn K mainGlobals "common" = some (some (.ref f_common)))
    (l_common : K.lookup f_common = some ⟨oc_common, od_common, .func (PySem.W.fnOf "common" "common" (defArgs s_common) (defBody s_common) (defScope s_common) .none kV_common dc_common pm_common an_common cd_common ct_common), sl_common⟩)
    (c_common : PySem.W.codeIn K cd_common "common" = true)
    (k_common : PySem.W.keepIn K (.ref f_common) = true)
    (a_lowest : PySem.W.nsIn K mainGlobals "lowest" = some (some (.ref f_lowest)))
    (l_lowest : K.lookup f_lowest = some ⟨oc_lowest, od_lowest, .func (PySem.W.fnOf "lowest" "lowest" (defArgs s_lowest) (defBody s_lowest) (defScope s_lowest) .none kV_lowest dc_lowest pm_lowest an_lowest cd_lowest ct_lowest), sl_lowest⟩)
    (c_lowest : PySem.W.codeIn K cd_lowest "lowest" = true)
    (k_lowest : PySem.W.keepIn K (.ref f_lowest) = true)
    (a_fractions_of : PySem.W.nsIn K mainGlobals "fractions_of" = some (some (.ref f_fractions_of)))
    (l_fractions_of : K.lookup f_fractions_of = some ⟨oc_fractions_of, od_fractions_of, .func (PySem.W.fnOf "fractions_of" "fractions_of" (defArgs s_fractions_of) (defBody s_fractions_of) (defScope s_fractions_of) .none kV_fractions_of dc_fractions_of pm_fractions_of an_fractions_of cd_fractions_of ct_fractions_of), sl_fractions_of⟩)
    (c_fractions_of : PySem.W.codeIn K cd_fractions_of "fractions_of" = true)
    (k_fractions_of : PySem.W.keepIn K (.ref f_fractions_of) = true)
    (a_lead : PySem.W.nsIn K mainGlobals "lead" = some (some (.ref f_lead)))
    (l_lead : K.lookup f_lead = some ⟨oc_lead, od_lead, .func (PySem.W.fnOf "lead" "lead" (defArgs s_lead) (defBody s_lead) (defScope s_lead) .none kV_lead dc_lead pm_lead an_lead cd_lead ct_lead), sl_lead⟩)
    (c_lead : PySem.W.codeIn K cd_lead "lead" = true)
    (k_lead : PySem.W.keepIn K (.ref f_lead) = true)
    (a_cut : PySem.W.nsIn K mainGlobals "cut" = some (some (.ref f_cut)))
    (l_cut : K.lookup f_cut = some ⟨oc_cut, od_cut, .func (PySem.W.fnOf "cut" "cut" (defArgs s_cut) (defBody s_cut) (defScope s_cut) .none kV_cut dc_cut pm_cut an_cut cd_cut ct_cut), sl_cut⟩)
    (c_cut : PySem.W.codeIn K cd_cut "cut" = true)
    (k_cut : PySem.W.keepIn K (.ref f_cut) = true)
    (a_between : PySem.W.nsIn K mainGlobals "between" = some (some (.ref f_between)))
    (l_between : K.lookup f_between = some ⟨oc_between, od_between, .func (PySem.W.fnOf "between" "between" (defArgs s_between) (defBody s_between) (defScope s_between) .none kV_between dc_between pm_between an_between cd_between ct_between), sl_between⟩)
    (c_between : PySem.W.codeIn K cd_between "between" = true)
    (k_between : PySem.W.keepIn K (.ref f_between) = true)
    (a_area : PySem.W.nsIn K mainGlobals "area" = some (some (.ref f_area)))
    (l_area : K.lookup f_area = some ⟨oc_area, od_area, .func (PySem.W.fnOf "area" "area" (defArgs s_area) (defBody s_area) (defScope s_area) .none kV_area dc_area pm_area an_area cd_area ct_area), sl_area⟩)
    (c_area : PySem.W.codeIn K cd_area "area" = true)
    (k_area : PySem.W.keepIn K (.ref f_area) = true)
    (a_from_first_on : PySem.W.nsIn K mainGlobals "from_first_on" = some (some (.ref f_from_first_on)))
    (l_from_first_on : K.lookup f_from_first_on = some ⟨oc_from_first_on, od_from_first_on, .func (PySem.W.fnOf "from_first_on" "from_first_on" (defArgs s_from_first_on) (defBody s_from_first_on) (defScope s_from_first_on) .none kV_from_first_on dc_from_first_on pm_from_first_on an_from_first_on cd_from_first_on ct_from_first_on), sl_from_first_on⟩)
    (c_from_first_on : PySem.W.codeIn K cd_from_first_on "from_first_on" = true)
    (k_from_first_on : PySem.W.keepIn K (.ref f_from_first_on) = true)
    (a_is_ahead : PySem.W.nsIn K mainGlobals "is_ahead" = some (some (.ref f_is_ahead)))
    (l_is_ahead : K.lookup f_is_ahead = some ⟨oc_is_ahead, od_is_ahead, .func (PySem.W.fnOf "is_ahead" "is_ahead" (defArgs s_is_ahead) (defBody s_is_ahead) (defScope s_is_ahead) .none kV_is_ahead dc_is_ahead pm_is_ahead an_is_ahead cd_is_ahead ct_is_ahead), sl_is_ahead⟩)
    (c_is_ahead : PySem.W.codeIn K cd_is_ahead "is_ahead" = true)
    (k_is_ahead : PySem.W.keepIn K (.ref f_is_ahead) = true)
    (a_has_side_towards : PySem.W.nsIn K mainGlobals "has_side_towards" = some (some (.ref f_has_side_towards)))
    (l_has_side_towards : K.lookup f_has_side_towards = some ⟨oc_has_side_towards, od_has_side_towards, .func (PySem.W.fnOf "has_side_towards" "has_side_towards" (defArgs s_has_side_towards) (defBody s_has_side_towards) (defScope s_has_side_towards) .none kV_has_side_towards dc_has_side_towards pm_has_side_towards an_has_side_towards cd_has_side_towards ct_has_side_towards), sl_has_side_towards⟩)
    (c_has_side_towards : PySem.W.codeIn K cd_has_side_towards "has_side_towards" = true)
    (k_has_side_towards : PySem.W.keepIn K (.ref f_has_side_towards) = true)
    (a_excess : PySem.W.nsIn K mainGlobals "excess" = some (some (.ref f_excess)))
    (l_excess : K.lookup f_excess = some ⟨oc_excess, od_excess, .func (PySem.W.fnOf "excess" "excess" (defArgs s_excess) (defBody s_excess) (defScope s_excess) .none kV_excess dc_excess pm_excess an_excess cd_excess ct_excess), sl_excess⟩)
    (c_excess : PySem.W.codeIn K cd_excess "excess" = true)
    (k_excess : PySem.W.keepIn K (.ref f_excess) = true)
    (a_is_lonelier : PySem.W.nsIn K mainGlobals "is_lonelier" = some (some (.ref f_is_lonelier)))
    (l_is_lonelier : K.lookup f_is_lonelier = some ⟨oc_is_lonelier, od_is_lonelier, .func (PySem.W.fnOf "is_lonelier" "is_lonelier" (defArgs s_is_lonelier) (defBody s_is_lonelier) (defScope s_is_lonelier) .none kV_is_lonelier dc_is_lonelier pm_is_lonelier an_is_lonelier cd_is_lonelier ct_is_lonelier), sl_is_lonelier⟩)
    (c_is_lonelier : PySem.W.codeIn K cd_is_lonelier "is_lonelier" = true)
    (k_is_lonelier : PySem.W.keepIn K (.ref f_is_lonelier) = true)
    (a_numbers_of : PySem.W.nsIn K mainGlobals "numbers_of" = some (some (.ref f_numbers_of)))
    (l_numbers_of : K.lookup f_numbers_of = some ⟨oc_numbers_of, od_numbers_of, .func (PySem.W.fnOf "numbers_of" "numbers_of" (defArgs s_numbers_of) (defBody s_numbers_of) (defScope s_numbers_of) .none kV_numbers_of dc_numbers_of pm_numbers_of an_numbers_of cd_numbers_of ct_numbers_of), sl_numbers_of⟩)
    (c_numbers_of : PySem.W.codeIn K cd_numbers_of "numbers_of" = true)
    (k_numbers_of : PySem.W.keepIn K (.ref f_numbers_of) = true)
    (a_ring_round : PySem.W.nsIn K mainGlobals "ring_round" = some (some (.ref f_ring_round)))
    (l_ring_round : K.lookup f_ring_round = some ⟨oc_ring_round, od_ring_round, .func (PySem.W.fnOf "ring_round" "ring_round" (defArgs s_ring_round) (defBody s_ring_round) (defScope s_ring_round) .none kV_ring_round dc_ring_round pm_ring_round an_ring_round cd_ring_round ct_ring_round), sl_ring_round⟩)
    (c_ring_round : PySem.W.codeIn K cd_ring_round "ring_round" = true)
    (k_ring_round : PySem.W.keepIn K (.ref f_ring_round) = true)
    (a_middles : PySem.W.nsIn K mainGlobals "middles" = some (some (.ref f_middles)))
    (l_middles : K.lookup f_middles = some ⟨oc_middles, od_middles, .func (PySem.W.fnOf "middles" "middles" (defArgs s_middles) (defBody s_middles) (defScope s_middles) .none kV_middles dc_middles pm_middles an_middles cd_middles ct_middles), sl_middles⟩)
    (c_middles : PySem.W.codeIn K cd_middles "middles" = true)
    (k_middles : PySem.W.keepIn K (.ref f_middles) = true)
    (a_halfway : PySem.W.nsIn K mainGlobals "halfway" = some (some (.ref f_halfway)))
    (l_halfway : K.lookup f_halfway = some ⟨oc_halfway, od_halfway, .func (PySem.W.fnOf "halfway" "halfway" (defArgs s_halfway) (defBody s_halfway) (defScope s_halfway) .none kV_halfway dc_halfway pm_halfway an_halfway cd_halfway ct_halfway), sl_halfway⟩)
    (c_halfway : PySem.W.codeIn K cd_halfway "halfway" = true)
    (k_halfway : PySem.W.keepIn K (.ref f_halfway) = true)
    (a_turn : PySem.W.nsIn K mainGlobals "turn" = some (some (.ref f_turn)))
    (l_turn : K.lookup f_turn = some ⟨oc_turn, od_turn, .func (PySem.W.fnOf "turn" "turn" (defArgs s_turn) (defBody s_turn) (defScope s_turn) .none kV_turn dc_turn pm_turn an_turn cd_turn ct_turn), sl_turn⟩)
    (c_turn : PySem.W.codeIn K cd_turn "turn" = true)
    (k_turn : PySem.W.keepIn K (.ref f_turn) = true)
    (a_as_far_from : PySem.W.nsIn K mainGlobals "as_far_from" = some (some (.ref f_as_far_from)))
    (l_as_far_from : K.lookup f_as_far_from = some ⟨oc_as_far_from, od_as_far_from, .func (PySem.W.fnOf "as_far_from" "as_far_from" (defArgs s_as_far_from) (defBody s_as_far_from) (defScope s_as_far_from) .none kV_as_far_from dc_as_far_from pm_as_far_from an_as_far_from cd_as_far_from ct_as_far_from), sl_as_far_from⟩)
    (c_as_far_from : PySem.W.codeIn K cd_as_far_from "as_far_from" = true)
    (k_as_far_from : PySem.W.keepIn K (.ref f_as_far_from) = true)
    (aC : PySem.W.nsIn K mainGlobals "Land" = some (some (.ref C)))
    (a_init_m : PySem.W.findIn K (.ref C) "__init__" = some (some (.ref f_init_m)))
    (i_init_m : PySem.W.isFn K (.ref f_init_m) = true)
    (l_init_m : K.lookup f_init_m = some ⟨oc_init_m, od_init_m, .func (PySem.W.fnOf "__init__" "Land.__init__" (defArgs s_init) (defBody s_init) (defScope s_init) .none kV_init_m dc_init_m pm_init_m an_init_m cd_init_m ct_init_m), sl_init_m⟩)
    (c_init_m : PySem.W.codeIn K cd_init_m "Land.__init__" = true)
    (k_init_m : PySem.W.keepIn K (.ref f_init_m) = true)
    (a_add_m : PySem.W.findIn K (.ref C) "add" = some (some (.ref f_add_m)))
    (i_add_m : PySem.W.isFn K (.ref f_add_m) = true)
    (l_add_m : K.lookup f_add_m = some ⟨oc_add_m, od_add_m, .func (PySem.W.fnOf "add" "Land.add" (defArgs s_add) (defBody s_add) (defScope s_add) .none kV_add_m dc_add_m pm_add_m an_add_m cd_add_m ct_add_m), sl_add_m⟩)
    (c_add_m : PySem.W.codeIn K cd_add_m "Land.add" = true)
    (k_add_m : PySem.W.keepIn K (.ref f_add_m) = true)
    (a_gone_m : PySem.W.findIn K (.ref C) "gone" = some (some (.ref f_gone_m)))
    (i_gone_m : PySem.W.isFn K (.ref f_gone_m) = true)
    (l_gone_m : K.lookup f_gone_m = some ⟨oc_gone_m, od_gone_m, .func (PySem.W.fnOf "gone" "Land.gone" (defArgs s_gone) (defBody s_gone) (defScope s_gone) .none kV_gone_m dc_gone_m pm_gone_m an_gone_m cd_gone_m ct_gone_m), sl_gone_m⟩)
    (c_gone_m : PySem.W.codeIn K cd_gone_m "Land.gone" = true)
    (k_gone_m : PySem.W.keepIn K (.ref f_gone_m) = true)
    (a_nearest_m : PySem.W.findIn K (.ref C) "nearest" = some (some (.ref f_nearest_m)))
    (i_nearest_m : PySem.W.isFn K (.ref f_nearest_m) = true)
    (l_nearest_m : K.lookup f_nearest_m = some ⟨oc_nearest_m, od_nearest_m, .func (PySem.W.fnOf "nearest" "Land.nearest" (defArgs s_nearest) (defBody s_nearest) (defScope s_nearest) .none kV_nearest_m dc_nearest_m pm_nearest_m an_nearest_m cd_nearest_m ct_nearest_m), sl_nearest_m⟩)
    (c_nearest_m : PySem.W.codeIn K cd_nearest_m "Land.nearest" = true)
    (k_nearest_m : PySem.W.keepIn K (.ref f_nearest_m) = true)
    (a_within_m : PySem.W.findIn K (.ref C) "within" = some (some (.ref f_within_m)))
    (i_within_m : PySem.W.isFn K (.ref f_within_m) = true)
    (l_within_m : K.lookup f_within_m = some ⟨oc_within_m, od_within_m, .func (PySem.W.fnOf "within" "Land.within" (defArgs s_within) (defBody s_within) (defScope s_within) .none kV_within_m dc_within_m pm_within_m an_within_m cd_within_m ct_within_m), sl_within_m⟩)
    (c_within_m : PySem.W.codeIn K cd_within_m "Land.within" = true)
    (k_within_m : PySem.W.keepIn K (.ref f_within_m) = true)
    (a_cell_m : PySem.W.findIn K (.ref C) "cell" = some (some (.ref f_cell_m)))
    (i_cell_m : PySem.W.isFn K (.ref f_cell_m) = true)
    (l_cell_m : K.lookup f_cell_m = some ⟨oc_cell_m, od_cell_m, .func (PySem.W.fnOf "cell" "Land.cell" (defArgs s_cell) (defBody s_cell) (defScope s_cell) .none kV_cell_m dc_cell_m pm_cell_m an_cell_m cd_cell_m ct_cell_m), sl_cell_m⟩)
    (c_cell_m : PySem.W.codeIn K cd_cell_m "Land.cell" = true)
    (k_cell_m : PySem.W.keepIn K (.ref f_cell_m) = true)
    (a_beside_m : PySem.W.findIn K (.ref C) "beside" = some (some (.ref f_beside_m)))
    (i_beside_m : PySem.W.isFn K (.ref f_beside_m) = true)
    (l_beside_m : K.lookup f_beside_m = some ⟨oc_beside_m, od_beside_m, .func (PySem.W.fnOf "beside" "Land.beside" (defArgs s_beside) (defBody s_beside) (defScope s_beside) .none kV_beside_m dc_beside_m pm_beside_m an_beside_m cd_beside_m ct_beside_m), sl_beside_m⟩)
    (c_beside_m : PySem.W.codeIn K cd_beside_m "Land.beside" = true)
    (k_beside_m : PySem.W.keepIn K (.ref f_beside_m) = true)
    (a_loneliest_m : PySem.W.findIn K (.ref C) "loneliest" = some (some (.ref f_loneliest_m)))
    (i_loneliest_m : PySem.W.isFn K (.ref f_loneliest_m) = true)
    (l_loneliest_m : K.lookup f_loneliest_m = some ⟨oc_loneliest_m, od_loneliest_m, .func (PySem.W.fnOf "loneliest" "Land.loneliest" (defArgs s_loneliest) (defBody s_loneliest) (defScope s_loneliest) .none kV_loneliest_m dc_loneliest_m pm_loneliest_m an_loneliest_m cd_loneliest_m ct_loneliest_m), sl_loneliest_m⟩)
    (c_loneliest_m : PySem.W.codeIn K cd_loneliest_m "Land.loneliest" = true)
    (k_loneliest_m : PySem.W.keepIn K (.ref f_loneliest_m) = true)
    (a_closest_m : PySem.W.findIn K (.ref C) "closest" = some (some (.ref f_closest_m)))
    (i_closest_m : PySem.W.isFn K (.ref f_closest_m) = true)
    (l_closest_m : K.lookup f_closest_m = some ⟨oc_closest_m, od_closest_m, .func (PySem.W.fnOf "closest" "Land.closest" (defArgs s_closest) (defBody s_closest) (defScope s_closest) .none kV_closest_m dc_closest_m pm_closest_m an_closest_m cd_closest_m ct_closest_m), sl_closest_m⟩)
    (c_closest_m : PySem.W.codeIn K cd_closest_m "Land.closest" = true)
    (k_closest_m : PySem.W.keepIn K (.ref f_closest_m) = true)
    (a_around_m : PySem.W.findIn K (.ref C) "around" = some (some (.ref f_around_m)))
    (i_around_m : PySem.W.isFn K (.ref f_around_m) = true)
    (l_around_m : K.lookup f_around_m = some ⟨oc_around_m, od_around_m, .func (PySem.W.fnOf "around" "Land.around" (defArgs s_around) (defBody s_around) (defScope s_around) .none kV_around_m dc_around_m pm_around_m an_around_m cd_around_m ct_around_m), sl_around_m⟩)
    (c_around_m : PySem.W.codeIn K cd_around_m "Land.around" = true)
    (k_around_m : PySem.W.keepIn K (.ref f_around_m) = true)
    (a_sites_m : PySem.W.findIn K (.ref C) "sites" = some (some (.ref f_sites_m)))
    (i_sites_m : PySem.W.isFn K (.ref f_sites_m) = true)
    (l_sites_m : K.lookup f_sites_m = some ⟨oc_sites_m, od_sites_m, .func (PySem.W.fnOf "sites" "Land.sites" (defArgs s_sites) (defBody s_sites) (defScope s_sites) .none kV_sites_m dc_sites_m pm_sites_m an_sites_m cd_sites_m ct_sites_m), sl_sites_m⟩)
    (c_sites_m : PySem.W.codeIn K cd_sites_m "Land.sites" = true)
    (k_sites_m : PySem.W.keepIn K (.ref f_sites_m) = true)
    (a_names_up_to_m : PySem.W.findIn K (.ref C) "names_up_to" = some (some (.ref f_names_up_to_m)))
    (i_names_up_to_m : PySem.W.isFn K (.ref f_names_up_to_m) = true)
    (l_names_up_to_m : K.lookup f_names_up_to_m = some ⟨oc_names_up_to_m, od_names_up_to_m, .func (PySem.W.fnOf "names_up_to" "Land.names_up_to" (defArgs s_names_up_to) (defBody s_names_up_to) (defScope s_names_up_to) .none kV_names_up_to_m dc_names_up_to_m pm_names_up_to_m an_names_up_to_m cd_names_up_to_m ct_names_up_to_m), sl_names_up_to_m⟩)
    (c_names_up_to_m : PySem.W.codeIn K cd_names_up_to_m "Land.names_up_to" = true)
    (k_names_up_to_m : PySem.W.keepIn K (.ref f_names_up_to_m) = true)
    (a_corners_of_m : PySem.W.findIn K (.ref C) "corners_of" = some (some (.ref f_corners_of_m)))
    (i_corners_of_m : PySem.W.isFn K (.ref f_corners_of_m) = true)
    (l_corners_of_m : K.lookup f_corners_of_m = some ⟨oc_corners_of_m, od_corners_of_m, .func (PySem.W.fnOf "corners_of" "Land.corners_of" (defArgs s_corners_of) (defBody s_corners_of) (defScope s_corners_of) .none kV_corners_of_m dc_corners_of_m pm_corners_of_m an_corners_of_m cd_corners_of_m ct_corners_of_m), sl_corners_of_m⟩)
    (c_corners_of_m : PySem.W.codeIn K cd_corners_of_m "Land.corners_of" = true)
    (k_corners_of_m : PySem.W.keepIn K (.ref f_corners_of_m) = true)
    (pg : PySem.W.plainGet K C Str.empty = true)
    (hd : PySem.W.hasDictIn K C = true)
    (po : PySem.W.plainOver K C = true)
    (sa : PySem.W.findIn K (.ref C) "__setattr__" = some (some (.builtin "object.__setattr__")))
    (mkc : PySem.W.makesIn K C = true)
    (kc : PySem.W.keepIn K (.ref C) = true)
    (n_places : PySem.W.findIn K (.ref C) "places" = some none)
    (n_fresh_name : PySem.W.findIn K (.ref C) "fresh_name" = some none)
    (g_ADD : PySem.W.nsIn K mainGlobals "ADD" = some (some (.int (0) t_ADD)))
    (g_GONE : PySem.W.nsIn K mainGlobals "GONE" = some (some (.int (1) t_GONE)))
    (g_NEAREST : PySem.W.nsIn K mainGlobals "NEAREST" = some (some (.int (2) t_NEAREST)))
    (g_WITHIN : PySem.W.nsIn K mainGlobals "WITHIN" = some (some (.int (3) t_WITHIN)))
    (g_CELL : PySem.W.nsIn K mainGlobals "CELL" = some (some (.int (4) t_CELL)))
    (g_BESIDE : PySem.W.nsIn K mainGlobals "BESIDE" = some (some (.int (5) t_BESIDE)))
    (g_LONELIEST : PySem.W.nsIn K mainGlobals "LONELIEST" = some (some (.int (6) t_LONELIEST)))
    (g_CLOSEST : PySem.W.nsIn K mainGlobals "CLOSEST" = some (some (.int (7) t_CLOSEST)))
    (g_AROUND : PySem.W.nsIn K mainGlobals "AROUND" = some (some (.int (8) t_AROUND)))
    (g_WRONG_PLACE : PySem.W.nsIn K mainGlobals "WRONG_PLACE" = some (some (.int (-1) t_WRONG_PLACE)))
    (g_NO_ROOM : PySem.W.nsIn K mainGlobals "NO_ROOM" = some (some (.int (-2) t_NO_ROOM)))
    (g_NO_SUCH_SITE : PySem.W.nsIn K mainGlobals "NO_SUCH_SITE" = some (some (.int (-3) t_NO_SUCH_SITE)))
    (g_TAKEN : PySem.W.nsIn K mainGlobals "TAKEN" = some (some (.int (-4) t_TAKEN)))
    (g_TOO_FEW_SITES : PySem.W.nsIn K mainGlobals "TOO_FEW_SITES" = some (some (.int (-6) t_TOO_FEW_SITES)))
    (g_REACH : PySem.W.nsIn K mainGlobals "REACH" = some (some (.int (100) t_REACH)))
    (g_MOST_SITES : PySem.W.nsIn K mainGlobals "MOST_SITES" = some (some (.int (8) t_MOST_SITES)))
    (g_MOST_ABOVE : PySem.W.nsIn K mainGlobals "MOST_ABOVE" = some (some (.int (100000) t_MOST_ABOVE)))
    (g_MOST_BELOW : PySem.W.nsIn K mainGlobals "MOST_BELOW" = some (some (.int (1000) t_MOST_BELOW)))
    (b_abs : PySem.W.nsIn K mainGlobals "abs" = some none)
    (b_len : PySem.W.nsIn K mainGlobals "len" = some none)
    (b_range : PySem.W.nsIn K mainGlobals "range" = some none)
    (b_list : PySem.W.nsIn K mainGlobals "list" = some none)
    (b_min : PySem.W.nsIn K mainGlobals "min" = some none)
    (b_sorted : PySem.W.nsIn K mainGlobals "sorted" = some none)
    (b_max : PySem.W.nsIn K mainGlobals "max" = some none)
    (g_NUMBERS_BEHIND : PySem.W.nsIn K mainGlobals "NUMBERS_BEHIND" = some (some (.ref s_aNUMBERS_BEHIND)))
    (wNUMBERS_BEHIND : K.lookup s_aNUMBERS_BEHIND = some ⟨.type "tuple", s_dNUMBERS_BEHIND, .seq #[.int (2) tNUMBERS_BEHIND_0, .int (1) tNUMBERS_BEHIND_1, .int (4) tNUMBERS_BEHIND_2, .int (5) tNUMBERS_BEHIND_3, .int (1) tNUMBERS_BEHIND_4, .int (1) tNUMBERS_BEHIND_5, .int (0) tNUMBERS_BEHIND_6, .int (0) tNUMBERS_BEHIND_7, .int (0) tNUMBERS_BEHIND_8, .int (0) tNUMBERS_BEHIND_9] s_nNUMBERS_BEHIND, s_sNUMBERS_BEHIND⟩)
    (g_SQUARE : PySem.W.nsIn K mainGlobals "SQUARE" = some (some (.ref s_aSQUARE)))
    (wSQUARE : K.lookup s_aSQUARE = some ⟨.type "tuple", s_dSQUARE, .seq #[.ref s_aSQUARE_0, .ref s_aSQUARE_1, .ref s_aSQUARE_2, .ref s_aSQUARE_3] s_nSQUARE, s_sSQUARE⟩)
    (wSQUARE_0 : K.lookup s_aSQUARE_0 = some ⟨.type "tuple", s_dSQUARE_0, .seq #[.int (-100) tSQUARE_0_0, .int (-100) tSQUARE_0_1, .int (1) tSQUARE_0_2] s_nSQUARE_0, s_sSQUARE_0⟩)
    (wSQUARE_1 : K.lookup s_aSQUARE_1 = some ⟨.type "tuple", s_dSQUARE_1, .seq #[.int (100) tSQUARE_1_0, .int (-100) tSQUARE_1_1, .int (1) tSQUARE_1_2] s_nSQUARE_1, s_sSQUARE_1⟩)
    (wSQUARE_2 : K.lookup s_aSQUARE_2 = some ⟨.type "tuple", s_dSQUARE_2, .seq #[.int (100) tSQUARE_2_0, .int (100) tSQUARE_2_1, .int (1) tSQUARE_2_2] s_nSQUARE_2, s_sSQUARE_2⟩)
    (wSQUARE_3 : K.lookup s_aSQUARE_3 = some ⟨.type "tuple", s_dSQUARE_3, .seq #[.int (-100) tSQUARE_3_0, .int (100) tSQUARE_3_1, .int (1) tSQUARE_3_2] s_nSQUARE_3, s_sSQUARE_3⟩)
    : ∃ fd : FuncData, (∀ (s : Shared) (us : List Value), us.length = (["calls"] : List Str).length → BindsTo s fd ⟨us, []⟩ ((["calls"] : List Str).zip us)) ∧ ∀ base : Heap, K.In base → base.Ns mainGlobals mg → FnOk P w K mg base CX0 7 fa fd ["calls"] (spAns K) := by
  have e := hfa.symm.trans (PySem.W.mg_of X G a_answers)
  cases e
  have F_answers := fun_mk (st := s_answers) l_answers c_answers k_answers
  have F_answer_of := fun_mk (st := s_answer_of) l_answer_of c_answer_of k_answer_of
  have F_is_place := fun_mk (st := s_is_place) l_is_place c_is_place k_is_place
  have F_is_fraction := fun_mk (st := s_is_fraction) l_is_fraction c_is_fraction k_is_fraction
  have F_place_of := fun_mk (st := s_place_of) l_place_of c_place_of k_place_of
  have F_as_place := fun_mk (st := s_as_place) l_as_place c_as_place k_as_place
  have F_far_times := fun_mk (st := s_far_times) l_far_times c_far_times k_far_times
  have F_common := fun_mk (st := s_common) l_common c_common k_common
  have F_lowest := fun_mk (st := s_lowest) l_lowest c_lowest k_lowest
  have F_fractions_of := fun_mk (st := s_fractions_of) l_fractions_of c_fractions_of k_fractions_of
  have F_lead := fun_mk (st := s_lead) l_lead c_lead k_lead
  have F_cut := fun_mk (st := s_cut) l_cut c_cut k_cut
  have F_between := fun_mk (st := s_between) l_between c_between k_between
  have F_area := fun_mk (st := s_area) l_area c_area k_area
  have F_from_first_on := fun_mk (st := s_from_first_on) l_from_first_on c_from_first_on k_from_first_on
  have F_is_ahead := fun_mk (st := s_is_ahead) l_is_ahead c_is_ahead k_is_ahead
  have F_has_side_towards := fun_mk (st := s_has_side_towards) l_has_side_towards c_has_side_towards k_has_side_towards
  have F_excess := fun_mk (st := s_excess) l_excess c_excess k_excess
  have F_is_lonelier := fun_mk (st := s_is_lonelier) l_is_lonelier c_is_lonelier k_is_lonelier
  have F_numbers_of := fun_mk (st := s_numbers_of) l_numbers_of c_numbers_of k_numbers_of
  have F_ring_round := fun_mk (st := s_ring_round) l_ring_round c_ring_round k_ring_round
  have F_middles := fun_mk (st := s_middles) l_middles c_middles k_middles
  have F_halfway := fun_mk (st := s_halfway) l_halfway c_halfway k_halfway
  have F_turn := fun_mk (st := s_turn) l_turn c_turn k_turn
  have F_as_far_from := fun_mk (st := s_as_far_from) l_as_far_from c_as_far_from k_as_far_from
  have F_init_m := fun_mk (st := s_init) l_init_m c_init_m k_init_m
  have F_add_m := fun_mk (st := s_add) l_add_m c_add_m k_add_m
  have F_gone_m := fun_mk (st := s_gone) l_gone_m c_gone_m k_gone_m
  have F_nearest_m := fun_mk (st := s_nearest) l_nearest_m c_nearest_m k_nearest_m
  have F_within_m := fun_mk (st := s_within) l_within_m c_within_m k_within_m
  have F_cell_m := fun_mk (st := s_cell) l_cell_m c_cell_m k_cell_m
  have F_beside_m := fun_mk (st := s_beside) l_beside_m c_beside_m k_beside_m
  have F_loneliest_m := fun_mk (st := s_loneliest) l_loneliest_m c_loneliest_m k_loneliest_m
  have F_closest_m := fun_mk (st := s_closest) l_closest_m c_closest_m k_closest_m
  have F_around_m := fun_mk (st := s_around) l_around_m c_around_m k_around_m
  have F_sites_m := fun_mk (st := s_sites) l_sites_m c_sites_m k_sites_m
  have F_names_up_to_m := fun_mk (st := s_names_up_to) l_names_up_to_m c_names_up_to_m k_names_up_to_m
  have F_corners_of_m := fun_mk (st := s_corners_of) l_corners_of_m c_corners_of_m k_corners_of_m
  let T : Tx K mg := {
    answer_of := ⟨f_answer_of, _, F_answer_of, PySem.W.mg_of X G a_answer_of, F_answer_of.binds (ps := ["land", "call", "given"]) fun _ _ _ _ _ _ us hl => match us, hl with | [_, _, _], _ => rfl⟩
    is_place := ⟨f_is_place, _, F_is_place, PySem.W.mg_of X G a_is_place, F_is_place.binds (ps := ["told"]) fun _ _ _ _ _ _ us hl => match us, hl with | [_], _ => rfl⟩
    is_fraction := ⟨f_is_fraction, _, F_is_fraction, PySem.W.mg_of X G a_is_fraction, F_is_fraction.binds (ps := ["above", "below"]) fun _ _ _ _ _ _ us hl => match us, hl with | [_, _], _ => rfl⟩
    place_of := ⟨f_place_of, _, F_place_of, PySem.W.mg_of X G a_place_of, F_place_of.binds (ps := ["told"]) fun _ _ _ _ _ _ us hl => match us, hl with | [_], _ => rfl⟩
    as_place := ⟨f_as_place, _, F_as_place, PySem.W.mg_of X G a_as_place, F_as_place.binds (ps := ["site"]) fun _ _ _ _ _ _ us hl => match us, hl with | [_], _ => rfl⟩
    far_times := ⟨f_far_times, _, F_far_times, PySem.W.mg_of X G a_far_times, F_far_times.binds (ps := ["place", "site"]) fun _ _ _ _ _ _ us hl => match us, hl with | [_, _], _ => rfl⟩
    common := ⟨f_common, _, F_common, PySem.W.mg_of X G a_common, F_common.binds (ps := ["one", "other"]) fun _ _ _ _ _ _ us hl => match us, hl with | [_, _], _ => rfl⟩
    lowest := ⟨f_lowest, _, F_lowest, PySem.W.mg_of X G a_lowest, F_lowest.binds (ps := ["above", "below"]) fun _ _ _ _ _ _ us hl => match us, hl with | [_, _], _ => rfl⟩
    fractions_of := ⟨f_fractions_of, _, F_fractions_of, PySem.W.mg_of X G a_fractions_of, F_fractions_of.binds (ps := ["place"]) fun _ _ _ _ _ _ us hl => match us, hl with | [_], _ => rfl⟩
    lead := ⟨f_lead, _, F_lead, PySem.W.mg_of X G a_lead, F_lead.binds (ps := ["place", "own", "other"]) fun _ _ _ _ _ _ us hl => match us, hl with | [_, _, _], _ => rfl⟩
    cut := ⟨f_cut, _, F_cut, PySem.W.mg_of X G a_cut, F_cut.binds (ps := ["corners", "own", "other"]) fun _ _ _ _ _ _ us hl => match us, hl with | [_, _, _], _ => rfl⟩
    between := ⟨f_between, _, F_between, PySem.W.mg_of X G a_between, F_between.binds (ps := ["one", "weight", "other", "other_weight"]) fun _ _ _ _ _ _ us hl => match us, hl with | [_, _, _, _], _ => rfl⟩
    area := ⟨f_area, _, F_area, PySem.W.mg_of X G a_area, F_area.binds (ps := ["corners"]) fun _ _ _ _ _ _ us hl => match us, hl with | [_], _ => rfl⟩
    from_first_on := ⟨f_from_first_on, _, F_from_first_on, PySem.W.mg_of X G a_from_first_on, F_from_first_on.binds (ps := ["corners"]) fun _ _ _ _ _ _ us hl => match us, hl with | [_], _ => rfl⟩
    is_ahead := ⟨f_is_ahead, _, F_is_ahead, PySem.W.mg_of X G a_is_ahead, F_is_ahead.binds (ps := ["one", "other"]) fun _ _ _ _ _ _ us hl => match us, hl with | [_, _], _ => rfl⟩
    has_side_towards := ⟨f_has_side_towards, _, F_has_side_towards, PySem.W.mg_of X G a_has_side_towards, F_has_side_towards.binds (ps := ["corners", "own", "other"]) fun _ _ _ _ _ _ us hl => match us, hl with | [_, _, _], _ => rfl⟩
    excess := ⟨f_excess, _, F_excess, PySem.W.mg_of X G a_excess, F_excess.binds (ps := ["ring", "other"]) fun _ _ _ _ _ _ us hl => match us, hl with | [_, _], _ => rfl⟩
    is_lonelier := ⟨f_is_lonelier, _, F_is_lonelier, PySem.W.mg_of X G a_is_lonelier, F_is_lonelier.binds (ps := ["ring", "other"]) fun _ _ _ _ _ _ us hl => match us, hl with | [_, _], _ => rfl⟩
    numbers_of := ⟨f_numbers_of, _, F_numbers_of, PySem.W.mg_of X G a_numbers_of, F_numbers_of.binds (ps := ["ring"]) fun _ _ _ _ _ _ us hl => match us, hl with | [_], _ => rfl⟩
    ring_round := ⟨f_ring_round, _, F_ring_round, PySem.W.mg_of X G a_ring_round, F_ring_round.binds (ps := ["middle", "sites"]) fun _ _ _ _ _ _ us hl => match us, hl with | [_, _], _ => rfl⟩
    middles := ⟨f_middles, _, F_middles, PySem.W.mg_of X G a_middles, F_middles.binds (ps := ["sites"]) fun _ _ _ _ _ _ us hl => match us, hl with | [_], _ => rfl⟩
    halfway := ⟨f_halfway, _, F_halfway, PySem.W.mg_of X G a_halfway, F_halfway.binds (ps := ["one", "other"]) fun _ _ _ _ _ _ us hl => match us, hl with | [_, _], _ => rfl⟩
    turn := ⟨f_turn, _, F_turn, PySem.W.mg_of X G a_turn, F_turn.binds (ps := ["one", "other", "third"]) fun _ _ _ _ _ _ us hl => match us, hl with | [_, _, _], _ => rfl⟩
    as_far_from := ⟨f_as_far_from, _, F_as_far_from, PySem.W.mg_of X G a_as_far_from, F_as_far_from.binds (ps := ["one", "other", "third"]) fun _ _ _ _ _ _ us hl => match us, hl with | [_, _, _], _ => rfl⟩
    C := C
    gC := PySem.W.mg_of X G aC
    cl := ⟨pg, hd, po, sa⟩
    init := ⟨f_init_m, _, F_init_m, ⟨a_init_m, i_init_m, k_init_m⟩, F_init_m.binds (ps := ["self"]) fun _ _ _ _ _ _ us hl => match us, hl with | [_], _ => rfl⟩
    add := ⟨f_add_m, _, F_add_m, ⟨a_add_m, i_add_m, k_add_m⟩, F_add_m.binds (ps := ["self", "across", "up"]) fun _ _ _ _ _ _ us hl => match us, hl with | [_, _, _], _ => rfl⟩
    gone := ⟨f_gone_m, _, F_gone_m, ⟨a_gone_m, i_gone_m, k_gone_m⟩, F_gone_m.binds (ps := ["self", "name"]) fun _ _ _ _ _ _ us hl => match us, hl with | [_, _], _ => rfl⟩
    nearest := ⟨f_nearest_m, _, F_nearest_m, ⟨a_nearest_m, i_nearest_m, k_nearest_m⟩, F_nearest_m.binds (ps := ["self", "told"]) fun _ _ _ _ _ _ us hl => match us, hl with | [_, _], _ => rfl⟩
    within := ⟨f_within_m, _, F_within_m, ⟨a_within_m, i_within_m, k_within_m⟩, F_within_m.binds (ps := ["self", "far", "told"]) fun _ _ _ _ _ _ us hl => match us, hl with | [_, _, _], _ => rfl⟩
    cell := ⟨f_cell_m, _, F_cell_m, ⟨a_cell_m, i_cell_m, k_cell_m⟩, F_cell_m.binds (ps := ["self", "name"]) fun _ _ _ _ _ _ us hl => match us, hl with | [_, _], _ => rfl⟩
    beside := ⟨f_beside_m, _, F_beside_m, ⟨a_beside_m, i_beside_m, k_beside_m⟩, F_beside_m.binds (ps := ["self", "name"]) fun _ _ _ _ _ _ us hl => match us, hl with | [_, _], _ => rfl⟩
    loneliest := ⟨f_loneliest_m, _, F_loneliest_m, ⟨a_loneliest_m, i_loneliest_m, k_loneliest_m⟩, F_loneliest_m.binds (ps := ["self"]) fun _ _ _ _ _ _ us hl => match us, hl with | [_], _ => rfl⟩
    closest := ⟨f_closest_m, _, F_closest_m, ⟨a_closest_m, i_closest_m, k_closest_m⟩, F_closest_m.binds (ps := ["self"]) fun _ _ _ _ _ _ us hl => match us, hl with | [_], _ => rfl⟩
    around := ⟨f_around_m, _, F_around_m, ⟨a_around_m, i_around_m, k_around_m⟩, F_around_m.binds (ps := ["self"]) fun _ _ _ _ _ _ us hl => match us, hl with | [_], _ => rfl⟩
    sites := ⟨f_sites_m, _, F_sites_m, ⟨a_sites_m, i_sites_m, k_sites_m⟩, F_sites_m.binds (ps := ["self"]) fun _ _ _ _ _ _ us hl => match us, hl with | [_], _ => rfl⟩
    names_up_to := ⟨f_names_up_to_m, _, F_names_up_to_m, ⟨a_names_up_to_m, i_names_up_to_m, k_names_up_to_m⟩, F_names_up_to_m.binds (ps := ["self", "most", "place"]) fun _ _ _ _ _ _ us hl => match us, hl with | [_, _, _], _ => rfl⟩
    corners_of := ⟨f_corners_of_m, _, F_corners_of_m, ⟨a_corners_of_m, i_corners_of_m, k_corners_of_m⟩, F_corners_of_m.binds (ps := ["self", "name"]) fun _ _ _ _ _ _ us hl => match us, hl with | [_, _], _ => rfl⟩
    mkC := ⟨mkc, a_init_m, i_init_m, kc⟩
    n_places := n_places
    n_fresh_name := n_fresh_name
    g_ADD := ⟨_, PySem.W.mg_of X G g_ADD⟩
    g_GONE := ⟨_, PySem.W.mg_of X G g_GONE⟩
    g_NEAREST := ⟨_, PySem.W.mg_of X G g_NEAREST⟩
    g_WITHIN := ⟨_, PySem.W.mg_of X G g_WITHIN⟩
    g_CELL := ⟨_, PySem.W.mg_of X G g_CELL⟩
    g_BESIDE := ⟨_, PySem.W.mg_of X G g_BESIDE⟩
    g_LONELIEST := ⟨_, PySem.W.mg_of X G g_LONELIEST⟩
    g_CLOSEST := ⟨_, PySem.W.mg_of X G g_CLOSEST⟩
    g_AROUND := ⟨_, PySem.W.mg_of X G g_AROUND⟩
    g_WRONG_PLACE := ⟨_, PySem.W.mg_of X G g_WRONG_PLACE⟩
    g_NO_ROOM := ⟨_, PySem.W.mg_of X G g_NO_ROOM⟩
    g_NO_SUCH_SITE := ⟨_, PySem.W.mg_of X G g_NO_SUCH_SITE⟩
    g_TAKEN := ⟨_, PySem.W.mg_of X G g_TAKEN⟩
    g_TOO_FEW_SITES := ⟨_, PySem.W.mg_of X G g_TOO_FEW_SITES⟩
    g_REACH := ⟨_, PySem.W.mg_of X G g_REACH⟩
    g_MOST_SITES := ⟨_, PySem.W.mg_of X G g_MOST_SITES⟩
    g_MOST_ABOVE := ⟨_, PySem.W.mg_of X G g_MOST_ABOVE⟩
    g_MOST_BELOW := ⟨_, PySem.W.mg_of X G g_MOST_BELOW⟩
    b_abs := PySem.W.mg_none_of X G b_abs
    b_len := PySem.W.mg_none_of X G b_len
    b_range := PySem.W.mg_none_of X G b_range
    b_list := PySem.W.mg_none_of X G b_list
    b_min := PySem.W.mg_none_of X G b_min
    b_sorted := PySem.W.mg_none_of X G b_sorted
    b_max := PySem.W.mg_none_of X G b_max
  }
  have A_NUMBERS_BEHIND : ∀ H, SqT K H s_aNUMBERS_BEHIND [.int (2), .int (1), .int (4), .int (5), .int (1), .int (1), .int (0), .int (0), .int (0), .int (0)] := fun H => .inr ⟨_, _, _, wNUMBERS_BEHIND, rfl, rfl, (by show 10 ≤ sizeLine; decide), .cons ⟨_, rfl⟩ (.cons ⟨_, rfl⟩ (.cons ⟨_, rfl⟩ (.cons ⟨_, rfl⟩ (.cons ⟨_, rfl⟩ (.cons ⟨_, rfl⟩ (.cons ⟨_, rfl⟩ (.cons ⟨_, rfl⟩ (.cons ⟨_, rfl⟩ (.cons ⟨_, rfl⟩ (.nil))))))))))⟩
  let S : Sqr K mg := {
    a := s_aSQUARE
    g := PySem.W.mg_of X G g_SQUARE
    ps := [(s_aSQUARE_0, (-100, -100, 1)), (s_aSQUARE_1, (100, -100, 1)), (s_aSQUARE_2, (100, 100, 1)), (s_aSQUARE_3, (-100, 100, 1))]
    is := rfl
    at_ := fun H => .inr ⟨_, _, _, wSQUARE, rfl, rfl, (by show 4 ≤ sizeLine; decide), .cons rfl (.cons rfl (.cons rfl (.cons rfl (.nil))))⟩
    all := fun H q hq => by
      simp only [List.mem_cons, List.not_mem_nil, or_false] at hq
      rcases hq with rfl | rfl | rfl | rfl
      · exact .inr ⟨_, _, _, wSQUARE_0, rfl, rfl, (by show 3 ≤ sizeLine; decide), .cons ⟨_, rfl⟩ (.cons ⟨_, rfl⟩ (.cons ⟨_, rfl⟩ (.nil)))⟩
      · exact .inr ⟨_, _, _, wSQUARE_1, rfl, rfl, (by show 3 ≤ sizeLine; decide), .cons ⟨_, rfl⟩ (.cons ⟨_, rfl⟩ (.cons ⟨_, rfl⟩ (.nil)))⟩
      · exact .inr ⟨_, _, _, wSQUARE_2, rfl, rfl, (by show 3 ≤ sizeLine; decide), .cons ⟨_, rfl⟩ (.cons ⟨_, rfl⟩ (.cons ⟨_, rfl⟩ (.nil)))⟩
      · exact .inr ⟨_, _, _, wSQUARE_3, rfl, rfl, (by show 3 ≤ sizeLine; decide), .cons ⟨_, rfl⟩ (.cons ⟨_, rfl⟩ (.cons ⟨_, rfl⟩ (.nil)))⟩
  }
  let N : Nb K mg := {
    a := s_aNUMBERS_BEHIND
    g := PySem.W.mg_of X G g_NUMBERS_BEHIND
    xs := nbXs
    at_ := A_NUMBERS_BEHIND
    is := nb_is
  }
  refine ⟨_, fun s us hl => .of_eq ?_, fun base hK hN => ok_answers T N msF msF_ok ⟨_, _, F_answers, PySem.W.mg_of X G a_answers, F_answers.binds (ps := ["calls"]) fun _ _ _ _ _ _ us hl => match us, hl with | [_], _ => rfl⟩ (kk := 6) (by decide) (ok_answer_of T S)⟩
  match us, hl with
  | [_], _ => rfl
end NP
open PySem PySem.W PyProof.Rows
set_option maxRecDepth 100000 in
set_option maxHeartbeats 8000000 in
theorem PySem.Challenge.cw_nearestsites_s01_answers_holds : PySem.Challenge.rw_nearestsites_s01_answers.Holds := by
  w_on; k_headS; (case hw => exact ⟨[.list [.int 9]], by decide +kernel, by decide +kernel⟩)
  k_fillS
  refine L2.walk_specK (r := PySem.Challenge.rw_nearestsites_s01_answers) (k := 7) (CX := L2.CX0) (ps := ["calls"]) (sp := NP.spAns) (by decide +kernel) rfl rfl ⟨rfl, by decide, by decide⟩ (fun w h Y => PySem.W.kIn_of Y) ?F ?S (fun _ _ _ _ z => z)
  case F =>
    intro w mg fa h Y KX G hmg
    refine' NP.all_mk KX G hmg ?a_answers ?l_answers ?c_answers ?k_answers ?a_answer_of ?l_answer_of ?c_answer_of ?k_answer_of ?a_is_place ?l_is_place ?c_is_place ?k_is_place ?a_is_fraction ?l_is_fraction ?c_is_fraction ?k_is_fraction ?a_place_of ?l_place_of ?c_place_of ?k_place_of ?a_as_place ?l_as_place ?c_as_place ?k_as_place ?a_far_times ?l_far_times ?c_far_times ?k_far_times ?a_common ?l_common ?c_common ?k_common ?a_lowest ?l_lowest ?c_lowest ?k_lowest ?a_fractions_of ?l_fractions_of ?c_fractions_of ?k_fractions_of ?a_lead ?l_lead ?c_lead ?k_lead ?a_cut ?l_cut ?c_cut ?k_cut ?a_between ?l_between ?c_between ?k_between ?a_area ?l_area ?c_area ?k_area ?a_from_first_on ?l_from_first_on ?c_from_first_on ?k_from_first_on ?a_is_ahead ?l_is_ahead ?c_is_ahead ?k_is_ahead ?a_has_side_towards ?l_has_side_towards ?c_has_side_towards ?k_has_side_towards ?a_excess ?l_excess ?c_excess ?k_excess ?a_is_lonelier ?l_is_lonelier ?c_is_lonelier ?k_is_lonelier ?a_numbers_of ?l_numbers_of ?c_numbers_of ?k_numbers_of ?a_ring_round ?l_ring_round ?c_ring_round ?k_ring_round ?a_middles ?l_middles ?c_middles ?k_middles ?a_halfway ?l_halfway ?c_halfway ?k_halfway ?a_turn ?l_turn ?c_turn ?k_turn ?a_as_far_from ?l_as_far_from ?c_as_far_from ?k_as_far_from ?aC ?a_init_m ?i_init_m ?l_init_m ?c_init_m ?k_init_m ?a_add_m ?i_add_m ?l_add_m ?c_add_m ?k_add_m ?a_gone_m ?i_gone_m ?l_gone_m ?c_gone_m ?k_gone_m ?a_nearest_m ?i_nearest_m ?l_nearest_m ?c_nearest_m ?k_nearest_m ?a_within_m ?i_within_m ?l_within_m ?c_within_m ?k_within_m ?a_cell_m ?i_cell_m ?l_cell_m ?c_cell_m ?k_cell_m ?a_beside_m ?i_beside_m ?l_beside_m ?c_beside_m ?k_beside_m ?a_loneliest_m ?i_loneliest_m ?l_loneliest_m ?c_loneliest_m ?k_loneliest_m ?a_closest_m ?i_closest_m ?l_closest_m ?c_closest_m ?k_closest_m ?a_around_m ?i_around_m ?l_around_m ?c_around_m ?k_around_m ?a_sites_m ?i_sites_m ?l_sites_m ?c_sites_m ?k_sites_m ?a_names_up_to_m ?i_names_up_to_m ?l_names_up_to_m ?c_names_up_to_m ?k_names_up_to_m ?a_corners_of_m ?i_corners_of_m ?l_corners_of_m ?c_corners_of_m ?k_corners_of_m ?pg ?hd ?po ?sa ?mkc ?kc ?n_places ?n_fresh_name ?g_ADD ?g_GONE ?g_NEAREST ?g_WITHIN ?g_CELL ?g_BESIDE ?g_LONELIEST ?g_CLOSEST ?g_AROUND ?g_WRONG_PLACE ?g_NO_ROOM ?g_NO_SUCH_SITE ?g_TAKEN ?g_TOO_FEW_SITES ?g_REACH ?g_MOST_SITES ?g_MOST_ABOVE ?g_MOST_BELOW ?b_abs ?b_len ?b_range ?b_list ?b_min ?b_sorted ?b_max ?g_NUMBERS_BEHIND ?wNUMBERS_BEHIND ?g_SQUARE ?wSQUARE ?wSQUARE_0 ?wSQUARE_1 ?wSQUARE_2 ?wSQUARE_3
    (case a_answers => k_is)
    (case l_answers => k_is)
    (case c_answers => k_is)
    (case k_answers => k_is)
    (case a_answer_of => k_is)
    (case l_answer_of => k_is)
    (case c_answer_of => k_is)
    (case k_answer_of => k_is)
    (case a_is_place => k_is)
    (case l_is_place => k_is)
    (case c_is_place => k_is)
    (case k_is_place => k_is)
    (case a_is_fraction => k_is)
    (case l_is_fraction => k_is)
    (case c_is_fraction => k_is)
    (case k_is_fraction => k_is)
    (case a_place_of => k_is)
    (case l_place_of => k_is)
    (case c_place_of => k_is)
    (case k_place_of => k_is)
    (case a_as_place => k_is)
    (case l_as_place => k_is)
    (case c_as_place => k_is)
    (case k_as_place => k_is)
    (case a_far_times => k_is)
    (case l_far_times => k_is)
    (case c_far_times => k_is)
    (case k_far_times => k_is)
    (case a_common => k_is)
    (case l_common => k_is)
    (case c_common => k_is)
    (case k_common => k_is)
    (case a_lowest => k_is)
    (case l_lowest => k_is)
    (case c_lowest => k_is)
    (case k_lowest => k_is)
    (case a_fractions_of => k_is)
    (case l_fractions_of => k_is)
    (case c_fractions_of => k_is)
    (case k_fractions_of => k_is)
    (case a_lead => k_is)
    (case l_lead => k_is)
    (case c_lead => k_is)
    (case k_lead => k_is)
    (case a_cut => k_is)
    (case l_cut => k_is)
    (case c_cut => k_is)
    (case k_cut => k_is)
    (case a_between => k_is)
    (case l_between => k_is)
    (case c_between => k_is)
    (case k_between => k_is)
    (case a_area => k_is)
    (case l_area => k_is)
    (case c_area => k_is)
    (case k_area => k_is)
    (case a_from_first_on => k_is)
    (case l_from_first_on => k_is)
    (case c_from_first_on => k_is)
    (case k_from_first_on => k_is)
    (case a_is_ahead => k_is)
    (case l_is_ahead => k_is)
    (case c_is_ahead => k_is)
    (case k_is_ahead => k_is)
    (case a_has_side_towards => k_is)
    (case l_has_side_towards => k_is)
    (case c_has_side_towards => k_is)
    (case k_has_side_towards => k_is)
    (case a_excess => k_is)
    (case l_excess => k_is)
    (case c_excess => k_is)
    (case k_excess => k_is)
    (case a_is_lonelier => k_is)
    (case l_is_lonelier => k_is)
    (case c_is_lonelier => k_is)
    (case k_is_lonelier => k_is)
    (case a_numbers_of => k_is)
    (case l_numbers_of => k_is)
    (case c_numbers_of => k_is)
    (case k_numbers_of => k_is)
    (case a_ring_round => k_is)
    (case l_ring_round => k_is)
    (case c_ring_round => k_is)
    (case k_ring_round => k_is)
    (case a_middles => k_is)
    (case l_middles => k_is)
    (case c_middles => k_is)
    (case k_middles => k_is)
    (case a_halfway => k_is)
    (case l_halfway => k_is)
    (case c_halfway => k_is)
    (case k_halfway => k_is)
    (case a_turn => k_is)
    (case l_turn => k_is)
    (case c_turn => k_is)
    (case k_turn => k_is)
    (case a_as_far_from => k_is)
    (case l_as_far_from => k_is)
    (case c_as_far_from => k_is)
    (case k_as_far_from => k_is)
    (case aC => k_is)
    (case a_init_m => k_is)
    (case i_init_m => k_is)
    (case l_init_m => k_is)
    (case c_init_m => k_is)
    (case k_init_m => k_is)
    (case a_add_m => k_is)
    (case i_add_m => k_is)
    (case l_add_m => k_is)
    (case c_add_m => k_is)
    (case k_add_m => k_is)
    (case a_gone_m => k_is)
    (case i_gone_m => k_is)
    (case l_gone_m => k_is)
    (case c_gone_m => k_is)
    (case k_gone_m => k_is)
    (case a_nearest_m => k_is)
    (case i_nearest_m => k_is)
    (case l_nearest_m => k_is)
    (case c_nearest_m => k_is)
    (case k_nearest_m => k_is)
    (case a_within_m => k_is)
    (case i_within_m => k_is)
    (case l_within_m => k_is)
    (case c_within_m => k_is)
    (case k_within_m => k_is)
    (case a_cell_m => k_is)
    (case i_cell_m => k_is)
    (case l_cell_m => k_is)
    (case c_cell_m => k_is)
    (case k_cell_m => k_is)
    (case a_beside_m => k_is)
    (case i_beside_m => k_is)
    (case l_beside_m => k_is)
    (case c_beside_m => k_is)
    (case k_beside_m => k_is)
    (case a_loneliest_m => k_is)
    (case i_loneliest_m => k_is)
    (case l_loneliest_m => k_is)
    (case c_loneliest_m => k_is)
    (case k_loneliest_m => k_is)
    (case a_closest_m => k_is)
    (case i_closest_m => k_is)
    (case l_closest_m => k_is)
    (case c_closest_m => k_is)
    (case k_closest_m => k_is)
    (case a_around_m => k_is)
    (case i_around_m => k_is)
    (case l_around_m => k_is)
    (case c_around_m => k_is)
    (case k_around_m => k_is)
    (case a_sites_m => k_is)
    (case i_sites_m => k_is)
    (case l_sites_m => k_is)
    (case c_sites_m => k_is)
    (case k_sites_m => k_is)
    (case a_names_up_to_m => k_is)
    (case i_names_up_to_m => k_is)
    (case l_names_up_to_m => k_is)
    (case c_names_up_to_m => k_is)
    (case k_names_up_to_m => k_is)
    (case a_corners_of_m => k_is)
    (case i_corners_of_m => k_is)
    (case l_corners_of_m => k_is)
    (case c_corners_of_m => k_is)
    (case k_corners_of_m => k_is)
    (case pg => k_is)
    (case hd => k_is)
    (case po => k_is)
    (case sa => k_is)
    (case mkc => k_is)
    (case kc => k_is)
    (case n_places => k_is)
    (case n_fresh_name => k_is)
    (case g_ADD => k_is)
    (case g_GONE => k_is)
    (case g_NEAREST => k_is)
    (case g_WITHIN => k_is)
    (case g_CELL => k_is)
    (case g_BESIDE => k_is)
    (case g_LONELIEST => k_is)
    (case g_CLOSEST => k_is)
    (case g_AROUND => k_is)
    (case g_WRONG_PLACE => k_is)
    (case g_NO_ROOM => k_is)
    (case g_NO_SUCH_SITE => k_is)
    (case g_TAKEN => k_is)
    (case g_TOO_FEW_SITES => k_is)
    (case g_REACH => k_is)
    (case g_MOST_SITES => k_is)
    (case g_MOST_ABOVE => k_is)
    (case g_MOST_BELOW => k_is)
    (case b_abs => k_is)
    (case b_len => k_is)
    (case b_range => k_is)
    (case b_list => k_is)
    (case b_min => k_is)
    (case b_sorted => k_is)
    (case b_max => k_is)
    (case g_NUMBERS_BEHIND => k_is)
    (case wNUMBERS_BEHIND => k_is)
    (case g_SQUARE => k_is)
    (case wSQUARE => k_is)
    (case wSQUARE_0 => k_is)
    (case wSQUARE_1 => k_is)
    (case wSQUARE_2 => k_is)
    (case wSQUARE_3 => k_is)
  case S =>
    intro K H xs a hO hwi hask hx
    cases hx with
    | cons h1 h2 =>
      cases h2
      cases h1 with
      | lst hs ha =>
        have e := L2.ints_dw a.1 _ ha
        subst e
        have q : ((Codec.inLen 0 240 a.1 && a.1.all (Codec.inInt (-4294967295) 4294967295)) && true) = true := hwi
        rw [Bool.and_eq_true, Bool.and_eq_true] at q
        exact ⟨_, a.1, rfl, hs, (Codec.inNat_iff.mp q.1.1).2, hask, fun H' p hp => .lst (L2.SqL.of hp) (L2.dw_ints _)⟩

