import PyProof.Rows.All
import Wide.All
import OpenK.AllK
import Wide.FinOn
import Open.SpecLaws
import KE.OsHead
import KE.OsGo
import KE.DataFind
import HandS.ForSpec
import HandS.ForMost
import HandS.Deep
import HandS.Walk
import HandS.Rev
import HandS.SortKw
import HandS.More
import PySem.Challenge.RW_systemrounds_s01_answers
set_option Elab.async false
set_option maxRecDepth 100000
set_option maxHeartbeats 2000000
/-! The mathematics of systemrounds: plain Lean about lists and numbers, against the specification's own functions. -/
namespace Sr
open Ge02

/-! ### 1. Told by what's between -/
inductive TC (b : List (Nat × Nat)) : Nat → Nat → Prop
  | one {i j : Nat} : (i, j) ∈ b → TC b i j
  | cons {i k j : Nat} : (i, k) ∈ b → TC b k j → TC b i j

theorem TC.trans {b : List (Nat × Nat)} {i k j : Nat} (h : TC b i k) (g : TC b k j) : TC b i j := by
  induction h with
  | one e => exact .cons e g
  | cons e _ ih => exact .cons e (ih g)
theorem TC.snoc {b : List (Nat × Nat)} {i k j : Nat} (h : TC b i k) (g : (k, j) ∈ b) : TC b i j := h.trans (.one g)
theorem TC.mono {b c : List (Nat × Nat)} (s : ∀ x ∈ b, x ∈ c) {i j : Nat} (h : TC b i j) : TC c i j := by
  induction h with
  | one e => exact .one (s _ e)
  | cons e _ ih => exact .cons (s _ e) ih
theorem TC.head {b : List (Nat × Nat)} {i j : Nat} (h : TC b i j) : ∃ k, (i, k) ∈ b := by
  cases h with
  | one e => exact ⟨_, e⟩
  | cons e _ => exact ⟨_, e⟩
theorem TC.last {b : List (Nat × Nat)} {i j : Nat} (h : TC b i j) : ∃ k, (k, j) ∈ b := by
  induction h with
  | one e => exact ⟨_, e⟩
  | cons _ _ ih => exact ih
/-- the way from a set closed under the pairs stays in it -/
theorem TC.closed {b : List (Nat × Nat)} {i j : Nat} (h : TC b i j) : ∀ R : List Nat, (∀ x ∈ b, x.1 = i → x.2 ∈ R) → (∀ x ∈ b, x.1 ∈ R → x.2 ∈ R) → j ∈ R := by
  induction h with
  | one e => exact fun R h1 _ => h1 _ e rfl
  | cons e _ ih =>
    intro R h1 h2
    refine ih R (fun x hx ex => h2 x hx ?_) h2
    rw [ex]
    exact h1 _ e rfl

def pass (b : List (Nat × Nat)) (l : List Nat) : List Nat := b.foldl (fun m x => if m.contains x.1 = true ∧ m.contains x.2 = false then m ++ [x.2] else m) l
theorem pass_nil (l : List Nat) : pass [] l = l := rfl
theorem pass_in {x : Nat × Nat} {c : List (Nat × Nat)} {l : List Nat} (h1 : x.1 ∈ l) (h2 : x.2 ∉ l) : pass (x :: c) l = pass c (l ++ [x.2]) := by
  unfold pass
  rw [List.foldl_cons, if_pos ⟨List.contains_iff_mem.mpr h1, by
    cases e : l.contains x.2 with
    | false => rfl
    | true => exact absurd (List.contains_iff_mem.mp e) h2⟩]
theorem pass_out {x : Nat × Nat} {c : List (Nat × Nat)} {l : List Nat} (h : ¬ (x.1 ∈ l ∧ x.2 ∉ l)) : pass (x :: c) l = pass c l := by
  unfold pass
  rw [List.foldl_cons, if_neg (fun q => h ⟨List.contains_iff_mem.mp q.1, fun z => by
    rw [List.contains_iff_mem.mpr z] at q
    exact Bool.noConfusion q.2⟩)]
theorem pass_len : ∀ (c : List (Nat × Nat)) (l : List Nat), l.length ≤ (pass c l).length
  | [], l => Nat.le_refl _
  | x :: c, l => by
    by_cases h : x.1 ∈ l ∧ x.2 ∉ l
    · rw [pass_in h.1 h.2]
      have := pass_len c (l ++ [x.2])
      rw [List.length_append, List.length_singleton] at this
      omega
    · rw [pass_out h]
      exact pass_len c l
theorem pass_sub : ∀ (c : List (Nat × Nat)) (l : List Nat) (y : Nat), y ∈ l → y ∈ pass c l
  | [], l, y, h => h
  | x :: c, l, y, hy => by
    by_cases h : x.1 ∈ l ∧ x.2 ∉ l
    · rw [pass_in h.1 h.2]
      exact pass_sub c _ y (List.mem_append_left _ hy)
    · rw [pass_out h]
      exact pass_sub c l y hy
theorem pass_fix : ∀ (c : List (Nat × Nat)) (l : List Nat), (pass c l).length = l.length → pass c l = l ∧ ∀ x ∈ c, x.1 ∈ l → x.2 ∈ l
  | [], l, _ => ⟨rfl, fun _ h => absurd h List.not_mem_nil⟩
  | x :: c, l, e => by
    by_cases h : x.1 ∈ l ∧ x.2 ∉ l
    · rw [pass_in h.1 h.2] at e
      have := pass_len c (l ++ [x.2])
      rw [List.length_append, List.length_singleton] at this
      omega
    · rw [pass_out h] at e ⊢
      obtain ⟨e1, e2⟩ := pass_fix c l e
      refine ⟨e1, fun y hy hl => ?_⟩
      rcases List.mem_cons.mp hy with rfl | hy
      · exact Classical.byContradiction fun q => h ⟨hl, q⟩
      · exact e2 y hy hl
/-- what a pass brings is told from what was there -/
theorem pass_cl {b : List (Nat × Nat)} : ∀ (c : List (Nat × Nat)) (l : List Nat), (∀ x ∈ c, x ∈ b) → ∀ y ∈ pass c l, y ∈ l ∨ ∃ s ∈ l, TC b s y
  | [], l, _, y, hy => .inl hy
  | x :: c, l, hb, y, hy => by
    by_cases h : x.1 ∈ l ∧ x.2 ∉ l
    · rw [pass_in h.1 h.2] at hy
      have hx : (x.1, x.2) ∈ b := hb _ (List.mem_cons_self ..)
      rcases pass_cl c _ (fun z hz => hb z (List.mem_cons_of_mem _ hz)) y hy with q | ⟨s, hs, t⟩
      · rcases List.mem_append.mp q with q | q
        · exact .inl q
        · rw [List.mem_singleton] at q
          subst q
          exact .inr ⟨x.1, h.1, .one hx⟩
      · rcases List.mem_append.mp hs with q | q
        · exact .inr ⟨s, q, t⟩
        · rw [List.mem_singleton] at q
          subst q
          exact .inr ⟨x.1, h.1, .cons hx t⟩
    · rw [pass_out h] at hy
      exact pass_cl c l (fun z hz => hb z (List.mem_cons_of_mem _ hz)) y hy
theorem pass_from : ∀ (c : List (Nat × Nat)) (l : List Nat), ∀ y ∈ pass c l, y ∈ l ∨ ∃ x ∈ c, x.2 = y
  | [], l, y, hy => .inl hy
  | x :: c, l, y, hy => by
    by_cases h : x.1 ∈ l ∧ x.2 ∉ l
    · rw [pass_in h.1 h.2] at hy
      rcases pass_from c _ y hy with q | ⟨z, hz, e⟩
      · rcases List.mem_append.mp q with q | q
        · exact .inl q
        · rw [List.mem_singleton] at q
          exact .inr ⟨x, List.mem_cons_self .., q.symm⟩
      · exact .inr ⟨z, List.mem_cons_of_mem _ hz, e⟩
    · rw [pass_out h] at hy
      rcases pass_from c l y hy with q | ⟨z, hz, e⟩
      · exact .inl q
      · exact .inr ⟨z, List.mem_cons_of_mem _ hz, e⟩

theorem filter_len_le {α : Type} {p q : α → Bool} : ∀ (l : List α), (∀ x ∈ l, p x = true → q x = true) → (l.filter p).length ≤ (l.filter q).length
  | [], _ => Nat.le_refl _
  | a :: l, h => by
    have ih := filter_len_le (p := p) (q := q) l fun x hx => h x (List.mem_cons_of_mem _ hx)
    rw [List.filter_cons, List.filter_cons]
    by_cases hp : p a = true
    · rw [if_pos hp, if_pos (h a (List.mem_cons_self ..) hp)]
      exact Nat.succ_le_succ ih
    · rw [if_neg hp]
      by_cases hq : q a = true
      · rw [if_pos hq]
        exact Nat.le_succ_of_le ih
      · rw [if_neg hq]
        exact ih
theorem filter_len_lt {α : Type} {p q : α → Bool} : ∀ (l : List α), (∀ x ∈ l, p x = true → q x = true) → (∃ x ∈ l, q x = true ∧ ¬ p x = true) → (l.filter p).length < (l.filter q).length
  | [], _, ⟨_, hx, _⟩ => absurd hx List.not_mem_nil
  | a :: l, h, ⟨x, hx, hq, hp⟩ => by
    have hle := filter_len_le (p := p) (q := q) l fun x hx => h x (List.mem_cons_of_mem _ hx)
    rw [List.filter_cons, List.filter_cons]
    rcases List.mem_cons.mp hx with rfl | hx
    · rw [if_neg hp, if_pos hq]
      exact Nat.lt_succ_of_le hle
    · have ih := filter_len_lt (p := p) (q := q) l (fun x hx => h x (List.mem_cons_of_mem _ hx)) ⟨x, hx, hq, hp⟩
      by_cases hpa : p a = true
      · rw [if_pos hpa, if_pos (h a (List.mem_cons_self ..) hpa)]
        exact Nat.succ_lt_succ ih
      · rw [if_neg hpa]
        by_cases hqa : q a = true
        · rw [if_pos hqa]
          exact Nat.lt_succ_of_lt ih
        · rw [if_neg hqa]
          exact ih

def miss (b : List (Nat × Nat)) (l : List Nat) : Nat := (b.filter fun x => !l.contains x.2).length
theorem miss_lt {b : List (Nat × Nat)} {l : List Nat} (h : (pass b l).length ≠ l.length) : miss b (pass b l) < miss b l := by
  have hn : ∃ y ∈ pass b l, y ∉ l := by
    refine Classical.byContradiction fun q => h ?_
    have hall : ∀ (c : List (Nat × Nat)) (m : List Nat), (∀ y ∈ pass c m, y ∈ m) → (pass c m).length = m.length := by
      intro c
      induction c with
      | nil => exact fun m _ => rfl
      | cons x c ih =>
        intro m hm
        by_cases z : x.1 ∈ m ∧ x.2 ∉ m
        · rw [pass_in z.1 z.2] at hm
          exact absurd (hm _ (pass_sub c _ _ (List.mem_append_right _ (List.mem_singleton.mpr rfl)))) z.2
        · rw [pass_out z] at hm ⊢
          exact ih m hm
    exact hall b l fun y hy => Classical.byContradiction fun z => q ⟨y, hy, z⟩
  obtain ⟨y, hy, hyl⟩ := hn
  unfold miss
  refine filter_len_lt b (fun x _ hx => ?_) ?_
  · rw [Bool.not_eq_true'] at hx ⊢
    cases e : l.contains x.2 with
    | false => rfl
    | true =>
      rw [List.contains_iff_mem.mpr (pass_sub b l _ (List.contains_iff_mem.mp e))] at hx
      exact Bool.noConfusion hx
  · rcases pass_from b l y hy with q | ⟨x, hx, e⟩
    · exact absurd q hyl
    · refine ⟨x, hx, ?_, ?_⟩
      · rw [e, Bool.not_eq_true']
        cases z : l.contains y with
        | false => rfl
        | true => exact absurd (List.contains_iff_mem.mp z) hyl
      · rw [e, List.contains_iff_mem.mpr hy]
        exact fun q => Bool.noConfusion q
theorem reach_fix {b : List (Nat × Nat)} {l : List Nat} (h : pass b l = l) : ∀ f, reachFrom f b l = l
  | 0 => rfl
  | f + 1 => by
    show reachFrom f b (pass b l) = l
    rw [h]
    exact reach_fix h f
theorem reach_sub {b : List (Nat × Nat)} : ∀ (f : Nat) (l : List Nat), ∀ y ∈ l, y ∈ reachFrom f b l
  | 0, _, _, h => h
  | f + 1, l, y, h => reach_sub f (pass b l) y (pass_sub b l y h)
theorem reach_cl {b : List (Nat × Nat)} : ∀ (f : Nat) (l : List Nat), ∀ y ∈ reachFrom f b l, y ∈ l ∨ ∃ s ∈ l, TC b s y
  | 0, _, _, h => .inl h
  | f + 1, l, y, h => by
    rcases reach_cl f (pass b l) y h with q | ⟨s, hs, t⟩
    · exact pass_cl b l (fun _ z => z) y q
    · rcases pass_cl b l (fun _ z => z) s hs with q | ⟨u, hu, t'⟩
      · exact .inr ⟨s, q, t⟩
      · exact .inr ⟨u, hu, t'.trans t⟩
theorem reach_closed {b : List (Nat × Nat)} : ∀ (f : Nat) (l : List Nat), miss b l < f → ∀ x ∈ b, x.1 ∈ reachFrom f b l → x.2 ∈ reachFrom f b l
  | 0, _, h => absurd h (Nat.not_lt_zero _)
  | f + 1, l, h => by
    by_cases e : (pass b l).length = l.length
    · obtain ⟨e1, e2⟩ := pass_fix b l e
      rw [reach_fix e1]
      exact e2
    · exact reach_closed f (pass b l) (Nat.lt_of_lt_of_le (miss_lt e) (Nat.le_of_lt_succ h))
/-- **told, by what's between** -/
theorem told_iff {b : List (Nat × Nat)} {i j : Nat} : toldBefore b i j = true ↔ TC b i j := by
  unfold toldBefore
  rw [List.contains_iff_mem]
  constructor
  · intro h
    have hs : ∀ s, s ∈ ((b.filter fun x => x.1 == i).map fun x => x.2) → (i, s) ∈ b := by
      intro s hs
      obtain ⟨x, hx, rfl⟩ := List.mem_map.mp hs
      obtain ⟨h1, h2⟩ := List.mem_filter.mp hx
      rw [← eq_of_beq h2]
      exact h1
    rcases reach_cl _ _ j h with q | ⟨s, q, t⟩
    · exact .one (hs _ q)
    · exact .cons (hs _ q) t
  · intro h
    refine h.closed _ (fun x hx e => reach_sub _ _ _ (List.mem_map.mpr ⟨x, List.mem_filter.mpr ⟨hx, by rw [e]; exact beq_self_eq_true i⟩, rfl⟩)) (reach_closed _ _ ?_)
    exact Nat.lt_succ_of_le (List.length_filter_le ..)
theorem told_false {b : List (Nat × Nat)} {i j : Nat} : toldBefore b i j = false ↔ ¬ TC b i j := by
  rw [← told_iff]
  cases toldBefore b i j <;> simp
/-- what is told depends on the pairs alone, not on their order -/
theorem told_same {b c : List (Nat × Nat)} (h : ∀ x, x ∈ b ↔ x ∈ c) (i j : Nat) : toldBefore b i j = toldBefore c i j := by
  cases e : toldBefore c i j with
  | true => exact told_iff.mpr ((told_iff.mp e).mono fun x hx => (h x).mpr hx)
  | false => exact told_false.mpr fun q => told_false.mp e (q.mono fun x hx => (h x).mp hx)

/-! ### 2. In order -/
theorem nodup_le : ∀ {l m : List Nat}, l.Nodup → (∀ x ∈ l, x ∈ m) → l.length ≤ m.length
  | [], _, _, _ => Nat.zero_le _
  | a :: l, m, hn, hs => by
    obtain ⟨h1, h2⟩ := List.nodup_cons.mp hn
    have hm : a ∈ m := hs a (List.mem_cons_self ..)
    have ih : l.length ≤ (m.erase a).length := nodup_le h2 fun x hx =>
      (List.mem_erase_of_ne (fun (q : x = a) => h1 (by rw [← q]; exact hx))).mpr (hs x (List.mem_cons_of_mem _ hx))
    rw [List.length_erase_of_mem hm] at ih
    have := List.length_pos_of_mem hm
    show l.length + 1 ≤ m.length
    omega
/-- the next one in order: the specification's own look -/
def nextOf (b : List (Nat × Nat)) (l done : List Nat) : Option Nat := l.find? fun n => !done.contains n && b.all fun x => x.2 != n || done.contains x.1
theorem order_some {f : Nat} {b : List (Nat × Nat)} {l done : List Nat} {n : Nat} (h : nextOf b l done = some n) : orderFrom (f + 1) b l done = orderFrom f b l (done ++ [n]) := by
  show (match nextOf b l done with
    | none => done
    | some n => orderFrom f b l (done ++ [n])) = _
  rw [h]
theorem order_none {f : Nat} {b : List (Nat × Nat)} {l done : List Nat} (h : nextOf b l done = none) : orderFrom (f + 1) b l done = done := by
  show (match nextOf b l done with
    | none => done
    | some n => orderFrom f b l (done ++ [n])) = _
  rw [h]
/-- n may come next -/
def Free (b : List (Nat × Nat)) (done : List Nat) (n : Nat) : Prop := n ∉ done ∧ ∀ x ∈ b, x.2 = n → x.1 ∈ done
theorem free_iff {b : List (Nat × Nat)} {done : List Nat} {n : Nat} : (!done.contains n && b.all fun x => x.2 != n || done.contains x.1) = true ↔ Free b done n := by
  unfold Free
  rw [Bool.and_eq_true, List.all_eq_true, Bool.not_eq_true']
  constructor
  · rintro ⟨h1, h2⟩
    refine ⟨fun q => ?_, fun x hx e => ?_⟩
    · rw [List.contains_iff_mem.mpr q] at h1
      exact Bool.noConfusion h1
    · have := h2 x hx
      rw [e, bne_self_eq_false, Bool.false_or] at this
      exact List.contains_iff_mem.mp this
  · rintro ⟨h1, h2⟩
    refine ⟨?_, fun x hx => ?_⟩
    · cases e : done.contains n with
      | false => rfl
      | true => exact absurd (List.contains_iff_mem.mp e) h1
    · by_cases e : x.2 = n
      · rw [List.contains_iff_mem.mpr (h2 x hx e), Bool.or_true]
      · rw [bne_iff_ne.mpr e, Bool.true_or]
/-- no ring: of those that are left one may come next -/
theorem free_ex {b : List (Nat × Nat)} {l done : List Nat} (ac : ∀ i, ¬ TC b i i) (src : ∀ x ∈ b, x.1 ∈ l) : ∀ (n u : Nat), u ∈ l → u ∉ done → (l.filter fun v => toldBefore b v u).length ≤ n → ∃ m ∈ l, Free b done m := by
  intro n
  induction n with
  | zero =>
    intro u hu hd hn
    refine ⟨u, hu, hd, fun x hx e => ?_⟩
    have : x.1 ∈ l.filter fun v => toldBefore b v u := List.mem_filter.mpr ⟨src x hx, told_iff.mpr (.one (by rw [← e]; exact hx))⟩
    rw [List.length_eq_zero_iff.mp (Nat.le_zero.mp hn)] at this
    exact absurd this List.not_mem_nil
  | succ n ih =>
    intro u hu hd hn
    by_cases h : ∀ x ∈ b, x.2 = u → x.1 ∈ done
    · exact ⟨u, hu, hd, h⟩
    · obtain ⟨x, hx, e, hxd⟩ : ∃ x ∈ b, x.2 = u ∧ x.1 ∉ done := Classical.byContradiction fun q => h fun x hx e => Classical.byContradiction fun z => q ⟨x, hx, e, z⟩
      have t : TC b x.1 u := .one (by rw [← e]; exact hx)
      have lt : (l.filter fun v => toldBefore b v x.1).length < (l.filter fun v => toldBefore b v u).length :=
        filter_len_lt l (fun v _ hv => told_iff.mpr ((told_iff.mp hv).trans t)) ⟨x.1, src x hx, told_iff.mpr t, fun q => ac _ (told_iff.mp q)⟩
      exact ih x.1 (src x hx) hxd (Nat.le_of_lt_succ (Nat.lt_of_lt_of_le lt hn))
theorem next_ex {b : List (Nat × Nat)} {l done : List Nat} (ac : ∀ i, ¬ TC b i i) (src : ∀ x ∈ b, x.1 ∈ l) (nd : l.Nodup) (hl : done.length < l.length) : ∃ m ∈ l, Free b done m := by
  obtain ⟨u, hu, hd⟩ : ∃ u ∈ l, u ∉ done := Classical.byContradiction fun q => by
    have := nodup_le nd (m := done) fun x hx => Classical.byContradiction fun z => q ⟨x, hx, z⟩
    omega
  exact free_ex ac src _ u hu hd (Nat.le_refl _)
/-- the numbers rise: the lowest that may come is the first found -/
theorem next_least {b : List (Nat × Nat)} {done : List Nat} {m : Nat} : ∀ {l : List Nat}, l.Pairwise (· < ·) → m ∈ l → Free b done m → (∀ n ∈ l, Free b done n → m ≤ n) → nextOf b l done = some m
  | [], _, h, _, _ => absurd h List.not_mem_nil
  | a :: l, pw, hm, fm, least => by
    obtain ⟨p1, p2⟩ := List.pairwise_cons.mp pw
    by_cases fa : Free b done a
    · have e : m = a := by
        have h1 := least a (List.mem_cons_self ..) fa
        rcases List.mem_cons.mp hm with q | q
        · exact q
        · have := p1 m q
          omega
      subst e
      exact List.find?_cons_of_pos (free_iff.mpr fa)
    · have hm' : m ∈ l := by
        rcases List.mem_cons.mp hm with q | q
        · exact absurd (q ▸ fm) fa
        · exact q
      exact (List.find?_cons_of_neg (p := fun n => !done.contains n && b.all fun x => x.2 != n || done.contains x.1) (fun q => fa (free_iff.mp q))).trans
        (next_least p2 hm' fm fun n hn => least n (List.mem_cons_of_mem _ hn))
theorem next_stop {b : List (Nat × Nat)} {l done : List Nat} (h : ∀ n ∈ l, n ∈ done) : nextOf b l done = none := by
  refine List.find?_eq_none.mpr fun n hn q => ?_
  exact (free_iff.mp q).1 (h n hn)
/-- an order so far: a part of the numbers, none twice, from which the specification goes on to the same end -/
structure Ord (b : List (Nat × Nat)) (l done : List Nat) : Prop where
  nd : done.Nodup
  sub : ∀ x ∈ done, x ∈ l
  go : orderFrom (l.length + 1 - done.length) b l done = orderFrom (l.length + 1) b l []
theorem Ord.start (b : List (Nat × Nat)) (l : List Nat) : Ord b l [] := ⟨List.nodup_nil, fun _ h => absurd h List.not_mem_nil, rfl⟩
theorem nodup_snoc {done : List Nat} {m : Nat} (nd : done.Nodup) (h : m ∉ done) : (done ++ [m]).Nodup := by
  refine List.nodup_append.mpr ⟨nd, by simp, ?_⟩
  intro a ha b' hb e
  rw [List.mem_singleton] at hb
  exact h (by rw [← hb, ← e]; exact ha)
theorem Ord.step {b : List (Nat × Nat)} {l done : List Nat} {m : Nat} (o : Ord b l done) (hl : done.length < l.length) (h : nextOf b l done = some m) : Ord b l (done ++ [m]) := by
  have hm := List.find?_some h
  have hml : m ∈ l := List.mem_of_find?_eq_some h
  have fr : Free b done m := free_iff.mp hm
  refine ⟨nodup_snoc o.nd fr.1, ?_, ?_⟩
  · intro x hx
    rcases List.mem_append.mp hx with q | q
    · exact o.sub x q
    · rw [List.mem_singleton] at q
      rw [q]
      exact hml
  · rw [← o.go, List.length_append, List.length_singleton]
    obtain ⟨f, hf⟩ : ∃ f, l.length + 1 - done.length = f + 1 := ⟨l.length - done.length, by omega⟩
    rw [hf, order_some h]
    congr 1
    omega
theorem Ord.stop {b : List (Nat × Nat)} {l done : List Nat} (o : Ord b l done) (hl : ¬ done.length < l.length) : orderFrom (l.length + 1) b l [] = done := by
  have hle := nodup_le o.nd o.sub
  have hall : ∀ n ∈ l, n ∈ done := by
    intro n hn
    refine Classical.byContradiction fun q => ?_
    have := nodup_le (nodup_snoc o.nd q) (m := l) fun x hx => by
      rcases List.mem_append.mp hx with z | z
      · exact o.sub x z
      · rw [List.mem_singleton] at z
        rw [z]
        exact hn
    rw [List.length_append, List.length_singleton] at this
    omega
  rw [← o.go, show l.length + 1 - done.length = 0 + 1 by omega, order_none (next_stop hall)]

/-! ### 3. Clash -/
theorem meets_iff {a b : List Nat} : meets a b = true ↔ ∃ k ∈ a, k ∈ b := by
  unfold meets
  rw [List.any_eq_true]
  constructor
  · rintro ⟨k, h1, h2⟩
    exact ⟨k, h1, List.contains_iff_mem.mp h2⟩
  · rintro ⟨k, h1, h2⟩
    exact ⟨k, h1, List.contains_iff_mem.mpr h2⟩
theorem clash_iff {a b : Sys} : clash a b = true ↔ (∃ k ∈ a.writes, k ∈ b.reads ∨ k ∈ b.writes) ∨ (∃ k ∈ b.writes, k ∈ a.reads ∨ k ∈ a.writes) := by
  unfold clash
  rw [Bool.or_eq_true, meets_iff, meets_iff]
  constructor
  · rintro (⟨k, h1, h2⟩ | ⟨k, h1, h2⟩)
    · exact .inl ⟨k, h1, List.mem_append.mp h2⟩
    · exact .inr ⟨k, h1, .inl h2⟩
  · rintro (⟨k, h1, h2⟩ | ⟨k, h1, h2 | h2⟩)
    · exact .inl ⟨k, h1, List.mem_append.mpr h2⟩
    · exact .inr ⟨k, h1, h2⟩
    · exact .inl ⟨k, h2, List.mem_append_right _ h1⟩
end Sr

/-! The house behind each call: what always holds of it, and the pairs as the program keeps them. -/
namespace Sr
open Ge02

/-- the order in which the specification keeps the pairs -/
def plt (p q : Nat × Nat) : Prop := p.1 < q.1 ∨ (p.1 = q.1 ∧ p.2 < q.2)
theorem plt.trans {p q r : Nat × Nat} (h : plt p q) (h' : plt q r) : plt p r := by
  unfold plt at *
  omega
theorem plt.total {p q : Nat × Nat} (h : ¬ plt p q) (ne : p ≠ q) : plt q p := by
  unfold plt at *
  have : p.1 = q.1 → p.2 ≠ q.2 := fun e e' => ne (Prod.ext e e')
  omega
abbrev nums (g : House) : List Nat := g.systems.map fun s => s.number
structure Good (g : House) : Prop where
  asc : (nums g).Pairwise (· < ·)
  lt : ∀ s ∈ g.systems, s.number < g.given
  most : g.systems.length ≤ 10
  ok : ∀ s ∈ g.systems, kindsOk s.reads = true ∧ kindsOk s.writes = true ∧ 1 ≤ s.cost ∧ s.cost ≤ 999
  src : ∀ x ∈ g.before, x.1 ∈ nums g
  tgt : ∀ x ∈ g.before, x.2 ∈ nums g
  nd : g.before.Nodup
  ac : ∀ i, ¬ TC g.before i i
  srt : g.before.Pairwise plt
/-- the house and the pairs in the order in which they were told -/
structure Rel (g : House) (ps : List (Nat × Nat)) : Prop where
  good : Good g
  perm : ps.Perm g.before
theorem Good.init : Good Ge02.init := ⟨List.Pairwise.nil, fun _ h => absurd h List.not_mem_nil, Nat.zero_le _, fun _ h => absurd h List.not_mem_nil, fun _ h => absurd h List.not_mem_nil, fun _ h => absurd h List.not_mem_nil, List.nodup_nil, fun i h => (by
  obtain ⟨k, hk⟩ := h.head
  exact absurd hk List.not_mem_nil), List.Pairwise.nil⟩
theorem Rel.init : Rel Ge02.init [] := ⟨Good.init, .refl _⟩
theorem asc_nodup {l : List Nat} (h : l.Pairwise (· < ·)) : l.Nodup := List.Pairwise.imp (S := (· ≠ ·)) (fun {a b} q (e : a = b) => by
  rw [e] at q
  exact Nat.lt_irrefl _ q) h
theorem Good.ndn {g : House} (G : Good g) : (nums g).Nodup := asc_nodup G.asc
theorem Rel.mem {g : House} {ps : List (Nat × Nat)} (R : Rel g ps) (x : Nat × Nat) : x ∈ ps ↔ x ∈ g.before := R.perm.mem_iff
theorem Rel.nd {g : House} {ps : List (Nat × Nat)} (R : Rel g ps) : ps.Nodup := R.perm.nodup_iff.mpr R.good.nd
theorem Rel.len {g : House} {ps : List (Nat × Nat)} (R : Rel g ps) : ps.length = g.before.length := R.perm.length_eq
theorem Rel.tc {g : House} {ps : List (Nat × Nat)} (R : Rel g ps) {i j : Nat} : TC ps i j ↔ TC g.before i j := ⟨fun h => h.mono fun x hx => (R.mem x).mp hx, fun h => h.mono fun x hx => (R.mem x).mpr hx⟩

/-! ### sysOf -/
theorem find_num : ∀ {l : List Sys} {n : Nat} {s : Sys}, l.find? (fun s => s.number == n) = some s → s ∈ l ∧ s.number = n
  | l, n, s, h => ⟨List.mem_of_find?_eq_some h, eq_of_beq (List.find?_some (p := fun s : Sys => s.number == n) h)⟩
theorem sysOf_some {g : House} {n : Nat} {s : Sys} (h : sysOf g n = some s) : s ∈ g.systems ∧ s.number = n := find_num h
theorem sysOf_none {g : House} {n : Nat} : (sysOf g n).isNone = true ↔ n ∉ nums g := by
  unfold sysOf
  rw [Option.isNone_iff_eq_none, List.find?_eq_none]
  constructor
  · intro h q
    obtain ⟨s, hs, e⟩ := List.mem_map.mp q
    exact h s hs (by rw [e]; exact beq_self_eq_true n)
  · intro h s hs q
    exact h (List.mem_map.mpr ⟨s, hs, eq_of_beq q⟩)
theorem sysOf_mem {g : House} {n : Nat} (h : n ∈ nums g) : ∃ s, sysOf g n = some s := by
  cases e : sysOf g n with
  | none => exact absurd h (sysOf_none.mp (by rw [e]; rfl))
  | some s => exact ⟨s, rfl⟩
theorem find_of : ∀ {l : List Sys}, (l.map fun s => s.number).Nodup → ∀ {s : Sys}, s ∈ l → l.find? (fun t => t.number == s.number) = some s
  | [], _, _, h => absurd h List.not_mem_nil
  | a :: l, nd, s, h => by
    obtain ⟨h1, h2⟩ := List.nodup_cons.mp nd
    rcases List.mem_cons.mp h with rfl | h
    · exact List.find?_cons_of_pos (beq_self_eq_true s.number)
    · refine (List.find?_cons_of_neg (p := fun t : Sys => t.number == s.number) (fun q => h1 ?_)).trans (find_of h2 h)
      exact List.mem_map.mpr ⟨s, h, (eq_of_beq q).symm⟩
theorem sysOf_of {g : House} (G : Good g) {s : Sys} (h : s ∈ g.systems) : sysOf g s.number = some s := find_of G.ndn h

/-! ### system -/
def added (g : House) (c : Nat) (r w : List Nat) : House := { g with systems := g.systems ++ [⟨g.given, r, w, c⟩], given := g.given + 1 }
theorem Rel.added {g : House} {ps : List (Nat × Nat)} (R : Rel g ps) {c : Nat} {r w : List Nat} (hr : kindsOk r = true) (hw : kindsOk w = true) (h1 : 1 ≤ c) (h2 : c ≤ 999) (hm : g.systems.length < 10) : Rel (added g c r w) ps := by
  refine ⟨⟨?_, ?_, ?_, ?_, ?_, ?_, R.good.nd, R.good.ac, R.good.srt⟩, R.perm⟩
  · show ((g.systems ++ [(⟨g.given, r, w, c⟩ : Sys)]).map fun s : Sys => s.number).Pairwise (· < ·)
    rw [List.map_append]
    refine List.pairwise_append.mpr ⟨R.good.asc, List.pairwise_singleton .., ?_⟩
    intro a ha b hb
    obtain ⟨s, hs, rfl⟩ := List.mem_map.mp ha
    rw [List.map_singleton, List.mem_singleton] at hb
    rw [hb]
    exact R.good.lt s hs
  · intro s hs
    rcases List.mem_append.mp hs with q | q
    · exact Nat.lt_succ_of_lt (R.good.lt s q)
    · rw [List.mem_singleton] at q
      rw [q]
      exact Nat.lt_succ_self _
  · show (g.systems ++ [_]).length ≤ 10
    rw [List.length_append, List.length_singleton]
    exact hm
  · intro s hs
    rcases List.mem_append.mp hs with q | q
    · exact R.good.ok s q
    · rw [List.mem_singleton] at q
      rw [q]
      exact ⟨hr, hw, h1, h2⟩
  · intro x hx
    show x.1 ∈ (g.systems ++ [_]).map _
    rw [List.map_append]
    exact List.mem_append_left _ (R.good.src x hx)
  · intro x hx
    show x.2 ∈ (g.systems ++ [_]).map _
    rw [List.map_append]
    exact List.mem_append_left _ (R.good.tgt x hx)

/-! ### gone -/
def gone (g : House) (n : Nat) : House := { g with systems := g.systems.filter fun s => s.number != n, before := g.before.filter fun x => x.1 != n && x.2 != n }
theorem nums_gone (g : House) (n : Nat) : nums (gone g n) = (nums g).filter fun m => m != n := by
  show (g.systems.filter fun s => s.number != n).map (fun s => s.number) = (g.systems.map fun s => s.number).filter fun m => m != n
  rw [List.filter_map]
  rfl
theorem Rel.gone {g : House} {ps : List (Nat × Nat)} (R : Rel g ps) (n : Nat) : Rel (gone g n) (ps.filter fun x => x.1 != n && x.2 != n) := by
  have hx : ∀ x ∈ (Sr.gone g n).before, x ∈ g.before ∧ x.1 ≠ n ∧ x.2 ≠ n := by
    intro x hx
    obtain ⟨h1, h2⟩ := List.mem_filter.mp hx
    rw [Bool.and_eq_true, bne_iff_ne, bne_iff_ne] at h2
    exact ⟨h1, h2.1, h2.2⟩
  refine ⟨⟨?_, ?_, ?_, ?_, ?_, ?_, R.good.nd.filter _, ?_, R.good.srt.filter _⟩, R.perm.filter _⟩
  · rw [nums_gone]
    exact R.good.asc.filter _
  · intro s hs
    exact R.good.lt s (List.mem_filter.mp hs).1
  · exact Nat.le_trans (List.length_filter_le ..) R.good.most
  · intro s hs
    exact R.good.ok s (List.mem_filter.mp hs).1
  · intro x q
    rw [nums_gone]
    exact List.mem_filter.mpr ⟨R.good.src x (hx x q).1, bne_iff_ne.mpr (hx x q).2.1⟩
  · intro x q
    rw [nums_gone]
    exact List.mem_filter.mpr ⟨R.good.tgt x (hx x q).1, bne_iff_ne.mpr (hx x q).2.2⟩
  · intro i t
    exact R.good.ac i (t.mono fun x q => (hx x q).1)

/-! ### before -/
theorem insert_perm (p : Nat × Nat) : ∀ l : List (Nat × Nat), p ∉ l → (insertPair p l).Perm (p :: l)
  | [], _ => .refl _
  | x :: l, h => by
    unfold insertPair
    split
    · exact .refl _
    · split
      · rename_i e
        exact absurd (e ▸ List.mem_cons_self ..) h
      · exact ((insert_perm p l fun q => h (List.mem_cons_of_mem _ q)).cons x).trans (.swap ..)
theorem insert_sorted (p : Nat × Nat) : ∀ l : List (Nat × Nat), l.Pairwise plt → p ∉ l → (insertPair p l).Pairwise plt
  | [], _, _ => List.pairwise_singleton ..
  | x :: l, h, np => by
    obtain ⟨h1, h2⟩ := List.pairwise_cons.mp h
    have npl : p ∉ l := fun q => np (List.mem_cons_of_mem _ q)
    unfold insertPair
    split
    · rename_i c
      refine List.pairwise_cons.mpr ⟨fun y hy => ?_, h⟩
      rcases List.mem_cons.mp hy with rfl | hy
      · exact c
      · exact plt.trans c (h1 y hy)
    · rename_i c
      split
      · exact h
      · rename_i e
        refine List.pairwise_cons.mpr ⟨fun y hy => ?_, insert_sorted p l h2 npl⟩
        rcases List.mem_cons.mp ((insert_perm p l npl).mem_iff.mp hy) with rfl | hy
        · exact plt.total c e
        · exact h1 y hy
theorem tc_cons {b : List (Nat × Nat)} {i j u v : Nat} (h : TC ((i, j) :: b) u v) : TC b u v ∨ ((u = i ∨ TC b u i) ∧ (v = j ∨ TC b j v)) := by
  induction h with
  | one e =>
    rcases List.mem_cons.mp e with q | q
    · cases q
      exact .inr ⟨.inl rfl, .inl rfl⟩
    · exact .inl (.one q)
  | cons e _ ih =>
    rcases List.mem_cons.mp e with q | q
    · cases q
      rcases ih with t | ⟨_, t⟩
      · exact .inr ⟨.inl rfl, .inr t⟩
      · exact .inr ⟨.inl rfl, t⟩
    · rcases ih with t | ⟨t1, t2⟩
      · exact .inl (.cons q t)
      · refine .inr ⟨.inr ?_, t2⟩
        rcases t1 with rfl | t1
        · exact .one q
        · exact .cons q t1
def told (g : House) (i j : Nat) : House := { g with before := insertPair (i, j) g.before }
theorem Rel.told {g : House} {ps : List (Nat × Nat)} (R : Rel g ps) {i j : Nat} (hi : i ∈ nums g) (hj : j ∈ nums g) (ne : i ≠ j) (nt : ¬ TC g.before j i) (nb : (i, j) ∉ g.before) : Rel (told g i j) (ps ++ [(i, j)]) := by
  have pm := insert_perm (i, j) g.before nb
  have hx : ∀ x ∈ (Sr.told g i j).before, x = (i, j) ∨ x ∈ g.before := fun x q => List.mem_cons.mp (pm.mem_iff.mp q)
  refine ⟨⟨R.good.asc, R.good.lt, R.good.most, R.good.ok, ?_, ?_, ?_, ?_, insert_sorted (i, j) g.before R.good.srt nb⟩, ?_⟩
  · intro x q
    rcases hx x q with rfl | z
    · exact hi
    · exact R.good.src x z
  · intro x q
    rcases hx x q with rfl | z
    · exact hj
    · exact R.good.tgt x z
  · exact pm.nodup_iff.mpr (List.nodup_cons.mpr ⟨nb, R.good.nd⟩)
  · intro u t
    have t' : TC ((i, j) :: g.before) u u := t.mono fun x q => pm.mem_iff.mp q
    rcases tc_cons t' with q | ⟨q1, q2⟩
    · exact R.good.ac u q
    · rcases q1 with rfl | q1
      · rcases q2 with q2 | q2
        · exact ne q2
        · exact nt q2
      · rcases q2 with rfl | q2
        · exact nt q1
        · exact nt (q2.trans q1)
  · exact List.perm_append_comm.trans ((R.perm.cons (i, j)).trans pm.symm)

/-! ### free -/
def freed (g : House) (i j : Nat) : House := { g with before := g.before.filter fun x => x != (i, j) }
theorem erase_filter {p : Nat × Nat} : ∀ {l : List (Nat × Nat)}, l.Nodup → l.erase p = l.filter fun x => x != p
  | [], _ => rfl
  | a :: l, nd => by
    obtain ⟨h1, h2⟩ := List.nodup_cons.mp nd
    by_cases e : a = p
    · subst e
      rw [List.erase_cons_head, List.filter_cons, if_neg (by rw [bne_self_eq_false]; exact Bool.false_ne_true)]
      exact (List.filter_eq_self.mpr fun x hx => bne_iff_ne.mpr fun (q : x = a) => h1 (by rw [← q]; exact hx)).symm
    · rw [List.erase_cons_tail (by rw [beq_iff_eq]; exact e), List.filter_cons, if_pos (bne_iff_ne.mpr e), erase_filter h2]
theorem Rel.freed {g : House} {ps : List (Nat × Nat)} (R : Rel g ps) (i j : Nat) : Rel (freed g i j) (ps.erase (i, j)) := by
  rw [erase_filter R.nd]
  refine ⟨⟨R.good.asc, R.good.lt, R.good.most, R.good.ok, ?_, ?_, R.good.nd.filter _, ?_, R.good.srt.filter _⟩, R.perm.filter _⟩
  · intro x q
    exact R.good.src x (List.mem_filter.mp q).1
  · intro x q
    exact R.good.tgt x (List.mem_filter.mp q).1
  · intro u t
    exact R.good.ac u (t.mono fun x q => (List.mem_filter.mp q).1)

/-! ### the order of a house -/
theorem Rel.next {g : House} {ps : List (Nat × Nat)} (R : Rel g ps) {done : List Nat} (hl : done.length < (nums g).length) : ∃ m ∈ nums g, Free ps done m := by
  obtain ⟨m, hm, f⟩ := next_ex R.good.ac R.good.src R.good.ndn hl
  exact ⟨m, hm, f.1, fun x hx => f.2 x ((R.mem x).mp hx)⟩
theorem Rel.free {g : House} {ps : List (Nat × Nat)} (R : Rel g ps) {done : List Nat} {m : Nat} : Free ps done m ↔ Free g.before done m :=
  ⟨fun f => ⟨f.1, fun x hx => f.2 x ((R.mem x).mpr hx)⟩, fun f => ⟨f.1, fun x hx => f.2 x ((R.mem x).mp hx)⟩⟩
theorem Rel.least {g : House} {ps : List (Nat × Nat)} (R : Rel g ps) {done : List Nat} {m : Nat} (hm : m ∈ nums g) (f : Free ps done m) (h : ∀ n ∈ nums g, Free ps done n → m ≤ n) : nextOf g.before (nums g) done = some m :=
  next_least R.good.asc hm (R.free.mp f) fun n hn fn => h n hn (R.free.mpr fn)
/-- the order is made of the numbers, none twice -/
theorem ord_from {b : List (Nat × Nat)} {l : List Nat} : ∀ (f : Nat) (done : List Nat), done.Nodup → (∀ x ∈ done, x ∈ l) → (orderFrom f b l done).Nodup ∧ ∀ x ∈ orderFrom f b l done, x ∈ l
  | 0, done, nd, sub => ⟨nd, sub⟩
  | f + 1, done, nd, sub => by
    cases h : nextOf b l done with
    | none =>
      rw [order_none h]
      exact ⟨nd, sub⟩
    | some m =>
      rw [order_some h]
      have fr : Free b done m := free_iff.mp (List.find?_some (p := fun n => !done.contains n && b.all fun x => x.2 != n || done.contains x.1) h)
      refine ord_from f _ (nodup_snoc nd fr.1) fun x hx => ?_
      rcases List.mem_append.mp hx with q | q
      · exact sub x q
      · rw [List.mem_singleton] at q
        rw [q]
        exact List.mem_of_find?_eq_some h
theorem order_nd (g : House) : (order g).Nodup := (ord_from _ _ List.nodup_nil fun _ h => absurd h List.not_mem_nil).1
theorem order_sub (g : House) : ∀ x ∈ order g, x ∈ nums g := (ord_from _ _ List.nodup_nil fun _ h => absurd h List.not_mem_nil).2
theorem nums_len (g : House) : (nums g).length = g.systems.length := List.length_map ..
theorem order_stop {g : House} {done : List Nat} (o : Ord g.before (nums g) done) (hl : ¬ done.length < (nums g).length) : order g = done := by
  have := o.stop hl
  rw [nums_len] at this
  exact this

/-! ### Rounds -/
theorem foldmax_ge {α : Type} {f : α → Nat} : ∀ (l : List α) (r : Nat), r ≤ l.foldl (fun r x => max r (f x)) r ∧ ∀ x ∈ l, f x ≤ l.foldl (fun r x => max r (f x)) r
  | [], r => ⟨Nat.le_refl _, fun _ h => absurd h List.not_mem_nil⟩
  | a :: l, r => by
    obtain ⟨h1, h2⟩ := foldmax_ge (f := f) l (max r (f a))
    rw [List.foldl_cons]
    refine ⟨Nat.le_trans (Nat.le_max_left ..) h1, fun x hx => ?_⟩
    rcases List.mem_cons.mp hx with rfl | hx
    · exact Nat.le_trans (Nat.le_max_right ..) h1
    · exact h2 x hx
theorem foldmax_is {α : Type} {f : α → Nat} : ∀ (l : List α) (r : Nat), l.foldl (fun r x => max r (f x)) r = r ∨ ∃ x ∈ l, f x = l.foldl (fun r x => max r (f x)) r
  | [], r => .inl rfl
  | a :: l, r => by
    rw [List.foldl_cons]
    rcases foldmax_is (f := f) l (max r (f a)) with q | ⟨x, hx, e⟩
    · rw [q]
      rcases Nat.le_total r (f a) with z | z
      · exact .inr ⟨a, List.mem_cons_self .., (Nat.max_eq_right z).symm⟩
      · exact .inl (Nat.max_eq_left z)
    · exact .inr ⟨x, List.mem_cons_of_mem _ hx, e⟩
def cnt (m : List (Nat × Nat)) : Nat := m.foldl (fun r x => max r (x.2 + 1)) 0
def rnd (mu : Nat → Nat → Bool) (m : List (Nat × Nat)) (n : Nat) : Nat := (m.filter fun x => mu x.1 n).foldl (fun r x => max r (x.2 + 1)) 0
theorem cnt_snoc (m : List (Nat × Nat)) (x : Nat × Nat) : cnt (m ++ [x]) = max (cnt m) (x.2 + 1) := by
  unfold cnt
  rw [List.foldl_append]
  rfl
theorem lt_cnt {m : List (Nat × Nat)} {x : Nat × Nat} (h : x ∈ m) : x.2 < cnt m := (foldmax_ge (f := fun x : Nat × Nat => x.2 + 1) m 0).2 x h
theorem rnd_le (mu : Nat → Nat → Bool) (m : List (Nat × Nat)) (n : Nat) : rnd mu m n ≤ cnt m := by
  rcases foldmax_is (f := fun x : Nat × Nat => x.2 + 1) (m.filter fun x => mu x.1 n) 0 with q | ⟨x, hx, e⟩
  · show List.foldl _ _ _ ≤ _
    rw [q]
    exact Nat.zero_le _
  · show List.foldl _ _ _ ≤ _
    rw [← e]
    exact lt_cnt (List.mem_filter.mp hx).1
/-- the systems of a round, in order -/
def members (m : List (Nat × Nat)) (r : Nat) : List Nat := (m.filter fun x => x.2 == r).map fun x => x.1
/-- the rounds as lists -/
def lay (m : List (Nat × Nat)) : List (List Nat) := (List.range (cnt m)).map (members m)
theorem lay_len (m : List (Nat × Nat)) : (lay m).length = cnt m := by
  unfold lay
  rw [List.length_map, List.length_range]
theorem lay_get {m : List (Nat × Nat)} {r : Nat} (h : r < cnt m) : (lay m)[r]? = some (members m r) := by
  unfold lay
  rw [List.getElem?_map, List.getElem?_range h]
  rfl
theorem mem_members {m : List (Nat × Nat)} {r n : Nat} : n ∈ members m r ↔ (n, r) ∈ m := by
  unfold members
  rw [List.mem_map]
  constructor
  · rintro ⟨x, hx, rfl⟩
    obtain ⟨h1, h2⟩ := List.mem_filter.mp hx
    rw [← eq_of_beq h2]
    exact h1
  · intro h
    exact ⟨(n, r), List.mem_filter.mpr ⟨h, beq_self_eq_true r⟩, rfl⟩
theorem members_snoc (m : List (Nat × Nat)) (n p r : Nat) : members (m ++ [(n, p)]) r = if p = r then members m r ++ [n] else members m r := by
  unfold members
  rw [List.filter_append, List.map_append, List.filter_cons, List.filter_nil]
  by_cases e : p = r
  · rw [if_pos (by rw [beq_iff_eq]; exact e), if_pos e]
    rfl
  · rw [if_neg (by rw [beq_iff_eq]; exact e), if_neg e]
    exact List.append_nil _
/-- what the program's search through the first k rounds has found -/
def found (mu : Nat → Nat → Bool) (m : List (Nat × Nat)) (n : Nat) : Nat → Nat
  | 0 => 0
  | k + 1 => if (members m k).any (fun e => mu e n) = true then k + 1 else found mu m n k
theorem found_le (mu : Nat → Nat → Bool) (m : List (Nat × Nat)) (n : Nat) : ∀ k, found mu m n k ≤ k
  | 0 => Nat.le_refl _
  | k + 1 => by
    unfold found
    split
    · exact Nat.le_refl _
    · exact Nat.le_succ_of_le (found_le mu m n k)
theorem found_ge {mu : Nat → Nat → Bool} {m : List (Nat × Nat)} {n : Nat} : ∀ {k : Nat} {x : Nat × Nat}, x ∈ m → mu x.1 n = true → x.2 < k → x.2 + 1 ≤ found mu m n k
  | 0, _, _, _, h => absurd h (Nat.not_lt_zero _)
  | k + 1, x, hx, hm, h => by
    unfold found
    split
    · omega
    · rename_i q
      refine found_ge hx hm (Nat.lt_of_le_of_ne (Nat.le_of_lt_succ h) fun e => q ?_)
      exact List.any_eq_true.mpr ⟨x.1, mem_members.mpr (by rw [← e]; exact hx), hm⟩
theorem found_is {mu : Nat → Nat → Bool} {m : List (Nat × Nat)} {n : Nat} : ∀ k, found mu m n k = 0 ∨ ∃ x ∈ m, mu x.1 n = true ∧ x.2 + 1 = found mu m n k
  | 0 => .inl rfl
  | k + 1 => by
    unfold found
    split
    · rename_i q
      obtain ⟨e, he, hm⟩ := List.any_eq_true.mp q
      exact .inr ⟨(e, k), mem_members.mp he, hm, rfl⟩
    · exact found_is k
theorem found_rnd (mu : Nat → Nat → Bool) (m : List (Nat × Nat)) (n : Nat) : found mu m n (cnt m) = rnd mu m n := by
  refine Nat.le_antisymm ?_ ?_
  · rcases found_is (mu := mu) (m := m) (n := n) (cnt m) with q | ⟨x, hx, hm, e⟩
    · rw [q]
      exact Nat.zero_le _
    · rw [← e]
      exact (foldmax_ge (f := fun x : Nat × Nat => x.2 + 1) (m.filter fun x => mu x.1 n) 0).2 x (List.mem_filter.mpr ⟨hx, hm⟩)
  · rcases foldmax_is (f := fun x : Nat × Nat => x.2 + 1) (m.filter fun x => mu x.1 n) 0 with q | ⟨x, hx, e⟩
    · show List.foldl _ _ _ ≤ _
      rw [q]
      exact Nat.zero_le _
    · show List.foldl _ _ _ ≤ _
      rw [← e]
      obtain ⟨h1, h2⟩ := List.mem_filter.mp hx
      exact found_ge h1 h2 (lt_cnt h1)
theorem lay_new {m : List (Nat × Nat)} {n p : Nat} (h : p = cnt m) : lay (m ++ [(n, p)]) = lay m ++ [[n]] := by
  subst h
  unfold lay
  have e : cnt (m ++ [(n, cnt m)]) = cnt m + 1 := by
    rw [cnt_snoc]
    exact Nat.max_eq_right (Nat.le_succ _)
  rw [e, List.range_succ, List.map_append]
  congr 1
  · refine List.map_congr_left fun r hr => ?_
    rw [members_snoc, if_neg]
    intro q
    rw [← q] at hr
    exact absurd (List.mem_range.mp hr) (Nat.lt_irrefl _)
  · rw [List.map_singleton, members_snoc, if_pos rfl]
    have : members m (cnt m) = [] := by
      refine List.eq_nil_iff_forall_not_mem.mpr fun x hx => ?_
      exact absurd (lt_cnt (mem_members.mp hx)) (Nat.lt_irrefl _)
    rw [this]
    rfl
theorem lay_old {m : List (Nat × Nat)} {n p : Nat} (h : p < cnt m) : lay (m ++ [(n, p)]) = (lay m).set p (members m p ++ [n]) := by
  have e : cnt (m ++ [(n, p)]) = cnt m := by
    rw [cnt_snoc]
    exact Nat.max_eq_left h
  refine List.ext_getElem? fun r => ?_
  by_cases hr : r < cnt m
  · rw [lay_get (by rw [e]; exact hr), members_snoc]
    by_cases q : p = r
    · subst q
      rw [if_pos rfl, List.getElem?_set_self (by rw [lay_len]; exact h)]
    · rw [if_neg q, List.getElem?_set_ne q, lay_get hr]
  · rw [List.getElem?_eq_none (by rw [lay_len, e]; omega), List.getElem?_eq_none (by rw [List.length_set, lay_len]; omega)]
/-- the specification's rounds, one system more at a time -/
def rds (mu : Nat → Nat → Bool) (l : List Nat) : List (Nat × Nat) := l.foldl (fun m n => m ++ [(n, rnd mu m n)]) []
theorem rds_snoc (mu : Nat → Nat → Bool) (l : List Nat) (n : Nat) : rds mu (l ++ [n]) = rds mu l ++ [(n, rnd mu (rds mu l) n)] := by
  unfold rds
  rw [List.foldl_append]
  rfl
theorem rds_map (mu : Nat → Nat → Bool) : ∀ l : List Nat, (rds mu l).map (·.1) = l := by
  intro l
  have : ∀ (l : List Nat) (m : List (Nat × Nat)), (l.foldl (fun m n => m ++ [(n, rnd mu m n)]) m).map (·.1) = m.map (·.1) ++ l := by
    intro l
    induction l with
    | nil => exact fun m => (List.append_nil _).symm
    | cons a l ih =>
      intro m
      rw [List.foldl_cons, ih, List.map_append, List.append_assoc]
      rfl
  exact this l []
theorem cnt_le (mu : Nat → Nat → Bool) (l : List Nat) : cnt (rds mu l) ≤ (rds mu l).length := by
  have : ∀ (l : List Nat) (m : List (Nat × Nat)), cnt m ≤ m.length → cnt (l.foldl (fun m n => m ++ [(n, rnd mu m n)]) m) ≤ (l.foldl (fun m n => m ++ [(n, rnd mu m n)]) m).length := by
    intro l
    induction l with
    | nil => exact fun m h => h
    | cons a l ih =>
      intro m h
      rw [List.foldl_cons]
      refine ih _ ?_
      rw [cnt_snoc, List.length_append, List.length_singleton]
      have := rnd_le mu m a
      show max (cnt m) (rnd mu m a + 1) ≤ m.length + 1
      omega
  exact this l [] (Nat.le_refl _)
theorem roundsOf_eq (g : House) : roundsOf g = rds (must g) (order g) := rfl
theorem roundCount_eq (g : House) : roundCount g = cnt (roundsOf g) := rfl
theorem rounds_answer (g : House) : (roundCount g :: (List.range (roundCount g)).flatMap fun r => ((roundsOf g).filter fun x => x.2 == r).length :: ((roundsOf g).filter fun x => x.2 == r).map fun x => x.1)
    = (lay (roundsOf g)).length :: (lay (roundsOf g)).flatMap fun l => l.length :: l := by
  rw [lay_len, roundCount_eq]
  congr 1
  unfold lay
  rw [List.flatMap_map]
  refine congrArg (fun f => List.flatMap f _) (funext fun r => ?_)
  show _ = (members (roundsOf g) r).length :: members (roundsOf g) r
  unfold members
  rw [List.length_map]
end Sr

/-! Rows of pairs: how many steps it is to the last one, and the shortest row with the lowest numbers. -/
namespace Sr
open Ge02

/-! ### rows of k pairs -/
/-- a row of k pairs from x to j -/
def Wk (b : List (Nat × Nat)) (j : Nat) : Nat → Nat → Prop
  | 0, x => x = j
  | k + 1, x => ∃ s, (x, s) ∈ b ∧ Wk b j k s
theorem Wk.tc {b : List (Nat × Nat)} {j : Nat} : ∀ {k x : Nat}, Wk b j (k + 1) x → TC b x j
  | 0, _, ⟨s, h, e⟩ => by
    have e' : s = j := e
    rw [e'] at h
    exact .one h
  | k + 1, _, ⟨_, h, w⟩ => .cons h (Wk.tc (k := k) w)
theorem TC.wk {b : List (Nat × Nat)} {x j : Nat} (h : TC b x j) : ∃ k, Wk b j (k + 1) x := by
  induction h with
  | one e => exact ⟨0, _, e, rfl⟩
  | cons e _ ih =>
    obtain ⟨k, hk⟩ := ih
    exact ⟨k + 1, _, e, hk⟩
theorem Wk.mono {b c : List (Nat × Nat)} (s : ∀ x ∈ b, x ∈ c) {j : Nat} : ∀ {k x : Nat}, Wk b j k x → Wk c j k x
  | 0, _, e => e
  | _ + 1, _, ⟨y, h, w⟩ => ⟨y, s _ h, w.mono s⟩
/-- a row in a house without rings has no number twice -/
theorem Wk.nodes {b : List (Nat × Nat)} {j : Nat} {l : List Nat} (ac : ∀ i, ¬ TC b i i) (src : ∀ x ∈ b, x.1 ∈ l) (hj : j ∈ l) : ∀ {k x : Nat}, Wk b j k x → ∃ m : List Nat, m.length = k + 1 ∧ m.Nodup ∧ (∀ y ∈ m, y ∈ l) ∧ ∀ y ∈ m, y = x ∨ TC b x y
  | 0, x, e => by
    have e' : x = j := e
    refine ⟨[x], rfl, by simp, fun y hy => ?_, fun y hy => .inl (List.mem_singleton.mp hy)⟩
    rw [List.mem_singleton.mp hy, e']
    exact hj
  | k + 1, x, ⟨s, h, w⟩ => by
    obtain ⟨m, h1, h2, h3, h4⟩ := Wk.nodes ac src hj (k := k) w
    have tx : ∀ y ∈ m, TC b x y := fun y hy => by
      rcases h4 y hy with e | e
      · rw [e]
        exact .one h
      · exact .cons h e
    refine ⟨x :: m, by rw [List.length_cons, h1], List.nodup_cons.mpr ⟨fun q => ac x (tx x q), h2⟩, fun y hy => ?_, fun y hy => ?_⟩
    · rcases List.mem_cons.mp hy with e | e
      · rw [e]
        exact src _ h
      · exact h3 y e
    · rcases List.mem_cons.mp hy with e | e
      · exact .inl e
      · exact .inr (tx y e)
theorem Wk.short {b : List (Nat × Nat)} {j k x : Nat} {l : List Nat} (ac : ∀ i, ¬ TC b i i) (src : ∀ x ∈ b, x.1 ∈ l) (hj : j ∈ l) (h : Wk b j k x) : k < l.length := by
  obtain ⟨m, h1, h2, h3, _⟩ := h.nodes ac src hj
  have := nodup_le h2 h3
  omega

/-! ### the search from the last one back -/
structure Stp (ps : List (Nat × Nat)) (j : Nat) (D : List (Nat × Nat)) (n : Nat) : Prop where
  hd : D[0]? = some (j, 0)
  nd : (D.map (·.1)).Nodup
  wk : ∀ x ∈ D, Wk ps j x.2 x.1
  srt : D.Pairwise fun a b => a.2 ≤ b.2
  tp : ∀ u, D[n]? = some u → ∀ x ∈ D, x.2 ≤ u.2 + 1
  dn : ∀ k, k < n → ∀ u, D[k]? = some u → ∀ y, (y, u.1) ∈ ps → ∃ x ∈ D, x.1 = y ∧ x.2 ≤ u.2 + 1
theorem Stp.start (ps : List (Nat × Nat)) (j : Nat) : Stp ps j [(j, 0)] 0 := by
  refine ⟨rfl, by simp, fun x hx => ?_, by simp, fun u hu x hx => ?_, fun k hk => absurd hk (Nat.not_lt_zero _)⟩
  · rw [List.mem_singleton.mp hx]
    exact rfl
  · rw [List.mem_singleton.mp hx]
    exact Nat.zero_le _
theorem Stp.add {ps : List (Nat × Nat)} {j : Nat} {D : List (Nat × Nat)} {n y : Nat} {u : Nat × Nat} (s : Stp ps j D n) (hn : D[n]? = some u) (hy : (y, u.1) ∈ ps) (ny : y ∉ D.map (·.1)) : Stp ps j (D ++ [(y, u.2 + 1)]) n := by
  have hlt := (List.getElem?_eq_some_iff.mp hn).1
  have hum := List.mem_of_getElem? hn
  refine ⟨?_, ?_, ?_, ?_, ?_, ?_⟩
  · rw [List.getElem?_append_left (by omega)]
    exact s.hd
  · rw [List.map_append]
    exact nodup_snoc s.nd ny
  · intro x hx
    rcases List.mem_append.mp hx with q | q
    · exact s.wk x q
    · rw [List.mem_singleton.mp q]
      exact ⟨u.1, hy, s.wk u hum⟩
  · refine List.pairwise_append.mpr ⟨s.srt, by simp, fun a ha b hb => ?_⟩
    rw [List.mem_singleton.mp hb]
    exact s.tp u hn a ha
  · intro v hv x hx
    rw [List.getElem?_append_left hlt, hn] at hv
    cases hv
    rcases List.mem_append.mp hx with q | q
    · exact s.tp u hn x q
    · rw [List.mem_singleton.mp q]
      exact Nat.le_refl _
  · intro k hk v hv z hz
    rw [List.getElem?_append_left (by omega)] at hv
    obtain ⟨x, h1, h2, h3⟩ := s.dn k hk v hv z hz
    exact ⟨x, List.mem_append_left _ h1, h2, h3⟩
theorem Stp.next {ps : List (Nat × Nat)} {j : Nat} {D : List (Nat × Nat)} {n : Nat} {u : Nat × Nat} (s : Stp ps j D n) (hn : D[n]? = some u) (h : ∀ x ∈ ps, x.2 = u.1 → x.1 ∈ D.map (·.1)) : Stp ps j D (n + 1) := by
  refine ⟨s.hd, s.nd, s.wk, s.srt, fun v hv x hx => ?_, fun k hk v hv y hy => ?_⟩
  · have h1 := s.tp u hn x hx
    obtain ⟨l1, e1⟩ := List.getElem?_eq_some_iff.mp hn
    obtain ⟨l2, e2⟩ := List.getElem?_eq_some_iff.mp hv
    have h2 := List.pairwise_iff_getElem.mp s.srt n (n + 1) l1 l2 (Nat.lt_succ_self n)
    rw [e1, e2] at h2
    omega
  · by_cases e : k = n
    · subst e
      rw [hn] at hv
      cases hv
      obtain ⟨x, hx, ex⟩ := List.mem_map.mp (h (y, u.1) hy rfl)
      exact ⟨x, hx, ex, s.tp u hn x hx⟩
    · exact s.dn k (by omega) v hv y hy
theorem Stp.len {ps : List (Nat × Nat)} {j : Nat} {D : List (Nat × Nat)} {n : Nat} (s : Stp ps j D n) : D.length ≤ ps.length + 1 := by
  have := nodup_le s.nd (m := j :: ps.map (·.1)) fun x hx => by
    obtain ⟨e, he, rfl⟩ := List.mem_map.mp hx
    have w := s.wk e he
    cases q : e.2 with
    | zero =>
      rw [q] at w
      exact List.mem_cons.mpr (.inl w)
    | succ k =>
      rw [q] at w
      obtain ⟨y, hy, _⟩ := w
      exact List.mem_cons.mpr (.inr (List.mem_map.mpr ⟨_, hy, rfl⟩))
  rw [List.length_map, List.length_cons, List.length_map] at this
  exact this
/-- how many steps it is from each from which there is a row to j -/
structure Steps (ps : List (Nat × Nat)) (j : Nat) (D : List (Nat × Nat)) : Prop where
  nd : (D.map (·.1)).Nodup
  wk : ∀ x ∈ D, Wk ps j x.2 x.1
  all : ∀ k x, Wk ps j k x → ∃ e ∈ D, e.1 = x ∧ e.2 ≤ k
  len : D.length ≤ ps.length + 1
theorem Stp.stop {ps : List (Nat × Nat)} {j : Nat} {D : List (Nat × Nat)} {n : Nat} (s : Stp ps j D n) (hn : D.length ≤ n) : Steps ps j D := by
  refine ⟨s.nd, s.wk, fun k => ?_, s.len⟩
  induction k with
  | zero =>
    intro x h
    have e : x = j := h
    exact ⟨(j, 0), List.mem_of_getElem? s.hd, e.symm, Nat.le_refl _⟩
  | succ k ih =>
    rintro x ⟨y, hy, w⟩
    obtain ⟨e, he, e1, e2⟩ := ih y w
    obtain ⟨i, hi⟩ := List.mem_iff_getElem?.mp he
    have hil := (List.getElem?_eq_some_iff.mp hi).1
    rw [← e1] at hy
    obtain ⟨z, hz, z1, z2⟩ := s.dn i (by omega) e hi x hy
    exact ⟨z, hz, z1, by omega⟩
theorem keys_inj : ∀ {D : List (Nat × Nat)}, (D.map (·.1)).Nodup → ∀ {x y : Nat × Nat}, x ∈ D → y ∈ D → x.1 = y.1 → x = y
  | [], _, _, _, h, _, _ => absurd h List.not_mem_nil
  | a :: D, nd, x, y, hx, hy, e => by
    obtain ⟨n1, n2⟩ := List.nodup_cons.mp nd
    rcases List.mem_cons.mp hx with p | p
    · rcases List.mem_cons.mp hy with q | q
      · rw [p, q]
      · exact absurd (List.mem_map.mpr ⟨y, q, by rw [← e, p]⟩) n1
    · rcases List.mem_cons.mp hy with q | q
      · exact absurd (List.mem_map.mpr ⟨x, p, by rw [e, q]⟩) n1
      · exact keys_inj n2 p q e
theorem Steps.least {ps : List (Nat × Nat)} {j : Nat} {D : List (Nat × Nat)} (s : Steps ps j D) {x k k' : Nat} (h : (x, k) ∈ D) (w : Wk ps j k' x) : k ≤ k' := by
  obtain ⟨e, he, e1, e2⟩ := s.all k' x w
  have := keys_inj s.nd he h e1
  rw [this] at e2
  exact e2
/-- told by what's between: there is a number of steps -/
theorem Steps.told {ps : List (Nat × Nat)} {j : Nat} {D : List (Nat × Nat)} (s : Steps ps j D) {i : Nat} (ne : i ≠ j) : (D.map (·.1)).contains i = toldBefore ps i j := by
  cases e : toldBefore ps i j with
  | true =>
    obtain ⟨k, hk⟩ := (told_iff.mp e).wk
    obtain ⟨z, hz, z1, _⟩ := s.all _ _ hk
    exact List.contains_iff_mem.mpr (List.mem_map.mpr ⟨z, hz, z1⟩)
  | false =>
    cases q : (D.map (·.1)).contains i with
    | false => rfl
    | true =>
      obtain ⟨z, hz, z1⟩ := List.mem_map.mp (List.contains_iff_mem.mp q)
      have w := s.wk z hz
      rw [z1] at w
      cases c : z.2 with
      | zero =>
        rw [c] at w
        exact absurd w ne
      | succ k =>
        rw [c] at w
        exact absurd w.tc (told_false.mp e)

/-! ### the first of the rows of k pairs -/
def succs (b : List (Nat × Nat)) (x : Nat) : List Nat := (b.filter fun p => p.1 == x).map fun p => p.2
theorem mem_succs {b : List (Nat × Nat)} {x s : Nat} : s ∈ succs b x ↔ (x, s) ∈ b := by
  unfold succs
  rw [List.mem_map]
  constructor
  · rintro ⟨p, hp, e⟩
    obtain ⟨h1, h2⟩ := List.mem_filter.mp hp
    have e1 := beq_iff_eq.mp h2
    rw [← e1, ← e]
    exact h1
  · exact fun h => ⟨(x, s), List.mem_filter.mpr ⟨h, beq_self_eq_true x⟩, rfl⟩
theorem succs_asc {x : Nat} : ∀ {b : List (Nat × Nat)}, b.Pairwise plt → (succs b x).Pairwise (· < ·)
  | [], _ => List.Pairwise.nil
  | p :: b, h => by
    obtain ⟨h1, h2⟩ := List.pairwise_cons.mp h
    have ih := succs_asc (x := x) h2
    unfold succs at ih ⊢
    by_cases c : p.1 = x
    · rw [List.filter_cons_of_pos (p := fun q : Nat × Nat => q.1 == x) (beq_iff_eq.mpr c), List.map_cons]
      refine List.pairwise_cons.mpr ⟨fun s hs => ?_, ih⟩
      have hm : (x, s) ∈ b := mem_succs.mp hs
      have := h1 _ hm
      unfold plt at this
      simp only at this
      omega
    · rw [List.filter_cons_of_neg (p := fun q : Nat × Nat => q.1 == x) (fun q => c (beq_iff_eq.mp q))]
      exact ih
def wayK (b : List (Nat × Nat)) (j : Nat) : Nat → Nat → Option (List Nat)
  | 0, x => if x = j then some [x] else none
  | k + 1, x => (succs b x).findSome? fun s => (wayK b j k s).map fun p => x :: p
theorem findSome_some {α β : Type} {f : α → Option β} : ∀ {l : List α}, (l.findSome? f).isSome = true ↔ ∃ x ∈ l, (f x).isSome = true
  | [] => by simp
  | a :: l => by
    rw [List.findSome?_cons]
    cases e : f a with
    | some v =>
      constructor
      · exact fun _ => ⟨a, List.mem_cons_self .., by rw [e]; rfl⟩
      · exact fun _ => rfl
    | none =>
      have ih := findSome_some (f := f) (l := l)
      constructor
      · intro h
        obtain ⟨x, hx, hs⟩ := ih.mp h
        exact ⟨x, List.mem_cons_of_mem _ hx, hs⟩
      · rintro ⟨x, hx, hs⟩
        rcases List.mem_cons.mp hx with q | q
        · rw [q, e] at hs
          cases hs
        · exact ih.mpr ⟨x, q, hs⟩
theorem wayK_some {b : List (Nat × Nat)} {j : Nat} : ∀ {k x : Nat}, (wayK b j k x).isSome = true ↔ Wk b j k x
  | 0, x => by
    unfold wayK Wk
    by_cases c : x = j
    · rw [if_pos c]
      exact ⟨fun _ => c, fun _ => rfl⟩
    · rw [if_neg c]
      exact ⟨fun h => (by cases h), fun h => absurd h c⟩
  | k + 1, x => by
    unfold wayK Wk
    rw [findSome_some]
    constructor
    · rintro ⟨s, hs, h⟩
      rw [Option.isSome_map] at h
      exact ⟨s, mem_succs.mp hs, wayK_some.mp h⟩
    · rintro ⟨s, hs, h⟩
      refine ⟨s, mem_succs.mpr hs, ?_⟩
      rw [Option.isSome_map]
      exact wayK_some.mpr h
theorem find_low {β : Type} {f : Nat → Option β} {m : Nat} : ∀ {l : List Nat}, l.Pairwise (· < ·) → m ∈ l → (∀ s ∈ l, s < m → f s = none) → (f m).isSome = true → l.findSome? f = f m
  | [], _, h, _, _ => absurd h List.not_mem_nil
  | a :: l, pw, hm, hlt, hs => by
    obtain ⟨p1, p2⟩ := List.pairwise_cons.mp pw
    rw [List.findSome?_cons]
    rcases List.mem_cons.mp hm with q | q
    · subst q
      cases e : f m with
      | none =>
        rw [e] at hs
        cases hs
      | some v => rfl
    · rw [hlt a (List.mem_cons_self ..) (p1 m q)]
      exact find_low p2 q (fun s h1 h2 => hlt s (List.mem_cons_of_mem _ h1) h2) hs
/-- one step on: by the lowest of those from which one step less is left -/
theorem wayK_step {b : List (Nat × Nat)} {j k x m : Nat} (srt : b.Pairwise plt) (hm : (x, m) ∈ b) (w : Wk b j k m) (low : ∀ s, (x, s) ∈ b → Wk b j k s → m ≤ s) : wayK b j (k + 1) x = (wayK b j k m).map fun p => x :: p := by
  refine find_low (f := fun s => (wayK b j k s).map fun p => x :: p) (succs_asc srt) (mem_succs.mpr hm) (fun s hs hlt => ?_) ?_
  · cases e : wayK b j k s with
    | none => rfl
    | some v =>
      have := low s (mem_succs.mp hs) (wayK_some.mp (by rw [e]; rfl))
      omega
  · rw [Option.isSome_map]
    exact wayK_some.mpr w

/-! ### the specification's search, level by level -/
def ext (b : List (Nat × Nat)) (l : List (List Nat)) : List (List Nat) := l.flatMap fun w => ((b.filter fun x => some x.1 == w.head?).map fun x => x.2).filterMap fun n => if w.contains n = true then none else some (n :: w)
def Rows (b : List (Nat × Nat)) (l : List (List Nat)) : Prop := ∀ w ∈ l, ∃ h t, w = h :: t ∧ ∀ x ∈ w, x = h ∨ TC b x h
theorem filterMap_all {α β : Type} {f : α → Option β} {g : α → β} : ∀ {l : List α}, (∀ x ∈ l, f x = some (g x)) → l.filterMap f = l.map g
  | [], _ => rfl
  | a :: l, h => by
    rw [List.filterMap_cons_some (h a (List.mem_cons_self ..)), List.map_cons, filterMap_all fun x hx => h x (List.mem_cons_of_mem _ hx)]
theorem ext_one {b : List (Nat × Nat)} (ac : ∀ i, ¬ TC b i i) {h : Nat} {t : List Nat} (g : ∀ x ∈ h :: t, x = h ∨ TC b x h) :
    (((b.filter fun x => some x.1 == (h :: t).head?).map fun x => x.2).filterMap fun n => if (h :: t).contains n = true then none else some (n :: h :: t)) = (succs b h).map fun n => n :: h :: t := by
  refine filterMap_all fun n hn => ?_
  have hm : (h, n) ∈ b := mem_succs.mp hn
  refine if_neg fun q => ?_
  rcases g n (List.contains_iff_mem.mp q) with e | e
  · rw [e] at hm
    exact ac h (.one hm)
  · exact ac n (e.snoc hm)
theorem Rows.ext {b : List (Nat × Nat)} (ac : ∀ i, ¬ TC b i i) {l : List (List Nat)} (g : Rows b l) : Rows b (ext b l) := by
  intro w hw
  obtain ⟨v, hv, hw⟩ := List.mem_flatMap.mp hw
  obtain ⟨h, t, rfl, gv⟩ := g v hv
  rw [ext_one ac gv] at hw
  obtain ⟨n, hn, rfl⟩ := List.mem_map.mp hw
  refine ⟨n, h :: t, rfl, fun x hx => ?_⟩
  rcases List.mem_cons.mp hx with e | e
  · exact .inl e
  · have hm : (h, n) ∈ b := mem_succs.mp hn
    rcases gv x e with q | q
    · rw [q]
      exact .inr (.one hm)
    · exact .inr (q.snoc hm)
/-- the first of the rows of k more pairs -/
def lookAt (b : List (Nat × Nat)) (j k : Nat) : List Nat → Option (List Nat)
  | [] => none
  | h :: t => (wayK b j k h).map fun p => t.reverse ++ p
def look (b : List (Nat × Nat)) (j k : Nat) (l : List (List Nat)) : Option (List Nat) := l.findSome? (lookAt b j k)
theorem findSome_flat {α β γ : Type} {f : α → List β} {g : β → Option γ} : ∀ l : List α, (l.flatMap f).findSome? g = l.findSome? fun x => (f x).findSome? g
  | [] => rfl
  | a :: l => by
    rw [List.flatMap_cons, List.findSome?_append, List.findSome?_cons, findSome_flat l]
    cases (f a).findSome? g <;> rfl
theorem findSome_same {α β : Type} {f g : α → Option β} : ∀ {l : List α}, (∀ x ∈ l, f x = g x) → l.findSome? f = l.findSome? g
  | [], _ => rfl
  | a :: l, h => by
    rw [List.findSome?_cons, List.findSome?_cons, h a (List.mem_cons_self ..), findSome_same fun x hx => h x (List.mem_cons_of_mem _ hx)]
theorem findSome_mapped {α β γ : Type} {f : α → Option β} {g : β → γ} : ∀ l : List α, (l.findSome? f).map g = l.findSome? fun x => (f x).map g
  | [] => rfl
  | a :: l => by
    rw [List.findSome?_cons, List.findSome?_cons, ← findSome_mapped l]
    cases f a <;> rfl
theorem look_ext {b : List (Nat × Nat)} (ac : ∀ i, ¬ TC b i i) {j k : Nat} {l : List (List Nat)} (g : Rows b l) : look b j k (ext b l) = look b j (k + 1) l := by
  unfold look Sr.ext
  rw [findSome_flat]
  refine findSome_same fun w hw => ?_
  obtain ⟨h, t, rfl, gv⟩ := g w hw
  rw [ext_one ac gv, List.findSome?_map]
  show _ = (wayK b j (k + 1) h).map fun p => t.reverse ++ p
  show _ = ((succs b h).findSome? fun s => (wayK b j k s).map fun p => h :: p).map fun p => t.reverse ++ p
  rw [findSome_mapped]
  refine findSome_same fun n _ => ?_
  show (wayK b j k n).map (fun p => (h :: t).reverse ++ p) = _
  rw [Option.map_map]
  congr 1
  funext p
  simp
theorem look_hit {b : List (Nat × Nat)} {j k h : Nat} {t p : List Nat} {l : List (List Nat)} (e : wayK b j k h = some p) : look b j k ((h :: t) :: l) = some (t.reverse ++ p) :=
  (by
    have e' : lookAt b j k (h :: t) = some (t.reverse ++ p) := by
      show (wayK b j k h).map _ = _
      rw [e]
      rfl
    unfold look
    rw [List.findSome?_cons, e'])
theorem look_miss {b : List (Nat × Nat)} {j k h : Nat} {t : List Nat} {l : List (List Nat)} (e : wayK b j k h = none) : look b j k ((h :: t) :: l) = look b j k l := by
  have e' : lookAt b j k (h :: t) = none := by
    show (wayK b j k h).map _ = _
    rw [e]
    rfl
  unfold look
  rw [List.findSome?_cons, e']
theorem look_zero {b : List (Nat × Nat)} {j : Nat} : ∀ {l : List (List Nat)}, Rows b l → look b j 0 l = (l.find? fun w => w.head? == some j).map List.reverse
  | [], _ => rfl
  | w :: l, g => by
    obtain ⟨h, t, rfl, _⟩ := g w (List.mem_cons_self ..)
    have ih := look_zero (j := j) (l := l) fun v hv => g v (List.mem_cons_of_mem _ hv)
    by_cases c : h = j
    · rw [look_hit (show wayK b j 0 h = some [h] from if_pos c), List.find?_cons_of_pos (by rw [c]; exact beq_self_eq_true (some j))]
      simp
    · rw [look_miss (show wayK b j 0 h = none from if_neg c), List.find?_cons_of_neg (p := fun w : List Nat => w.head? == some j) (a := h :: t) (fun q => c (Option.some.inj (beq_iff_eq.mp (show (some h == some j) = true from q))))]
      exact ih
theorem wayFrom_ext {b : List (Nat × Nat)} {j f : Nat} {l : List (List Nat)} (g : Rows b l) : wayFrom b j (f + 1) l = match look b j 0 l with
    | some p => some p
    | none => wayFrom b j f (ext b l) := by
  rw [look_zero g]
  show (match l.find? fun w => w.head? == some j with
    | some w => some w.reverse
    | none => wayFrom b j f (ext b l)) = _
  cases l.find? fun w => w.head? == some j <;> rfl
theorem wayFrom_none {b : List (Nat × Nat)} (ac : ∀ i, ¬ TC b i i) {j : Nat} : ∀ {f : Nat} {l : List (List Nat)}, Rows b l → (∀ k, k < f → look b j k l = none) → wayFrom b j f l = none
  | 0, _, _, _ => rfl
  | f + 1, l, g, h => by
    rw [wayFrom_ext g, h 0 (Nat.succ_pos _)]
    exact wayFrom_none ac (g.ext ac) fun k hk => by
      rw [look_ext ac g]
      exact h (k + 1) (by omega)
theorem wayFrom_some {b : List (Nat × Nat)} (ac : ∀ i, ¬ TC b i i) {j : Nat} {p : List Nat} : ∀ {f k : Nat} {l : List (List Nat)}, Rows b l → k < f → look b j k l = some p → (∀ m, m < k → look b j m l = none) → wayFrom b j f l = some p
  | 0, _, _, _, h, _, _ => absurd h (Nat.not_lt_zero _)
  | f + 1, 0, l, g, _, h, _ => by
    rw [wayFrom_ext g, h]
  | f + 1, k + 1, l, g, hk, h, hn => by
    rw [wayFrom_ext g, hn 0 (Nat.succ_pos _)]
    refine wayFrom_some ac (k := k) (g.ext ac) (by omega) ?_ fun m hm => ?_
    · rw [look_ext ac g]
      exact h
    · rw [look_ext ac g]
      exact hn (m + 1) (by omega)
theorem rows_one (b : List (Nat × Nat)) (i : Nat) : Rows b [[i]] := fun w hw => by
  rw [List.mem_singleton.mp hw]
  exact ⟨i, [], rfl, fun x hx => .inl (List.mem_singleton.mp hx)⟩
theorem look_one (b : List (Nat × Nat)) (j k i : Nat) : look b j k [[i]] = wayK b j k i := by
  cases e : wayK b j k i with
  | none => exact look_miss e
  | some p => exact look_hit e

/-! ### the program's steps, the specification's way -/
theorem Rel.wk {g : House} {ps : List (Nat × Nat)} (R : Rel g ps) {j k x : Nat} : Wk ps j k x ↔ Wk g.before j k x := ⟨fun h => h.mono fun x hx => (R.mem x).mp hx, fun h => h.mono fun x hx => (R.mem x).mpr hx⟩
theorem way_no {g : House} {ps D : List (Nat × Nat)} (R : Rel g ps) {i j : Nat} (s : Steps ps j D) (h : i ∉ D.map (·.1)) : wayFrom g.before j (g.systems.length + 1) [[i]] = none := by
  refine wayFrom_none R.good.ac (rows_one _ _) fun k _ => ?_
  rw [look_one]
  cases e : wayK g.before j k i with
  | none => rfl
  | some p =>
    obtain ⟨z, hz, z1, _⟩ := s.all k i (R.wk.mpr (wayK_some.mp (by rw [e]; rfl)))
    exact absurd (List.mem_map.mpr ⟨z, hz, z1⟩) h
theorem way_yes {g : House} {ps D : List (Nat × Nat)} (R : Rel g ps) {i j k : Nat} (hj : j ∈ nums g) (s : Steps ps j D) (h : (i, k) ∈ D) {p : List Nat} (hp : wayK g.before j k i = some p) : wayFrom g.before j (g.systems.length + 1) [[i]] = some p := by
  have w := R.wk.mp (s.wk _ h)
  have hk := w.short R.good.ac R.good.src hj
  rw [nums_len] at hk
  refine wayFrom_some R.good.ac (k := k) (rows_one _ _) (by omega) (by rw [look_one]; exact hp) fun m hm => ?_
  rw [look_one]
  cases e : wayK g.before j m i with
  | none => rfl
  | some q =>
    have := s.least h (R.wk.mpr (wayK_some.mp (by rw [e]; rfl)))
    omega
/-- from one from which k + 1 steps are left: the followers from which k are -/
theorem Steps.follow {ps D : List (Nat × Nat)} {j k x y : Nat} (s : Steps ps j D) (h : (x, k + 1) ∈ D) (hy : (x, y) ∈ ps) : (y, k) ∈ D ↔ Wk ps j k y := by
  constructor
  · exact fun q => s.wk _ q
  · intro w
    obtain ⟨e, he, e1, e2⟩ := s.all k y w
    have w' : Wk ps j (e.2 + 1) x := ⟨y, hy, by rw [← e1]; exact s.wk e he⟩
    have := s.least h w'
    have e3 : e = (y, k) := by
      rw [← e1]
      exact Prod.ext rfl (by show e.2 = k; omega)
    rw [← e3]
    exact he
theorem Steps.has {ps D : List (Nat × Nat)} {j k x : Nat} (s : Steps ps j D) (h : (x, k + 1) ∈ D) : ∃ y, (x, y) ∈ ps ∧ (y, k) ∈ D := by
  obtain ⟨y, hy, w⟩ := s.wk _ h
  exact ⟨y, hy, (s.follow h hy).mpr w⟩
theorem Rel.wayStep {g : House} {ps D : List (Nat × Nat)} (R : Rel g ps) {j k x m : Nat} (s : Steps ps j D) (h : (x, k + 1) ∈ D) (hm : (x, m) ∈ ps) (hk : (m, k) ∈ D) (low : ∀ y, (x, y) ∈ ps → (y, k) ∈ D → m ≤ y) : wayK g.before j (k + 1) x = (wayK g.before j k m).map fun p => x :: p :=
  wayK_step R.good.srt ((R.mem _).mp hm) (R.wk.mp (s.wk _ hk)) fun y hy w => low y ((R.mem _).mpr hy) ((s.follow h ((R.mem _).mpr hy)).mpr (R.wk.mpr w))
end Sr

/-! Kinds for which two clash; pairs that nobody told; when each is over, and the chain. -/
namespace Sr
open Ge02

/-! ### kinds -/
def kindFor (a b : Sys) (k : Nat) : Bool := (a.writes.contains k && (b.reads.contains k || b.writes.contains k)) || (b.writes.contains k && (a.reads.contains k || a.writes.contains k))
def clashKs (a b : Sys) : List Nat := (List.range 16).filter (kindFor a b)
theorem has_app (k : Nat) (l m : List Nat) : (l ++ m).contains k = (l.contains k || m.contains k) := by
  cases e : (l ++ m).contains k with
  | true =>
    rcases List.mem_append.mp (List.contains_iff_mem.mp e) with q | q
    · rw [List.contains_iff_mem.mpr q]
      rfl
    · rw [List.contains_iff_mem.mpr q, Bool.or_true]
  | false =>
    cases c : l.contains k with
    | true =>
      rw [List.contains_iff_mem.mpr (List.mem_append_left m (List.contains_iff_mem.mp c))] at e
      cases e
    | false =>
      cases d : m.contains k with
      | true =>
        rw [List.contains_iff_mem.mpr (List.mem_append_right l (List.contains_iff_mem.mp d))] at e
        cases e
      | false => rfl
theorem clashKs_is (a b : Sys) : ((List.range 16).filter fun k => (a.writes.contains k && (b.reads ++ b.writes).contains k) || (b.writes.contains k && a.reads.contains k)) = clashKs a b := by
  unfold clashKs
  refine List.filter_congr fun k _ => ?_
  unfold kindFor
  rw [has_app]
  cases a.writes.contains k <;> cases b.writes.contains k <;> cases a.reads.contains k <;> cases b.reads.contains k <;> rfl
theorem kinds_le {l : List Nat} (h : kindsOk l = true) {k : Nat} (hk : k ∈ l) : k < 16 := by
  unfold kindsOk at h
  rw [Bool.and_eq_true] at h
  have := of_decide_eq_true (List.all_eq_true.mp h.2 k hk)
  omega
theorem kindFor_iff {a b : Sys} {k : Nat} : kindFor a b k = true ↔ (k ∈ a.writes ∧ (k ∈ b.reads ∨ k ∈ b.writes)) ∨ (k ∈ b.writes ∧ (k ∈ a.reads ∨ k ∈ a.writes)) := by
  unfold kindFor
  rw [Bool.or_eq_true, Bool.and_eq_true, Bool.and_eq_true, Bool.or_eq_true, Bool.or_eq_true]
  simp only [List.contains_iff_mem]
theorem clash_ks {a b : Sys} (ha : kindsOk a.writes = true) (hb : kindsOk b.writes = true) : clash a b = decide (0 < (clashKs a b).length) := by
  cases e : clash a b with
  | true =>
    obtain ⟨k, hk, h16⟩ : ∃ k, kindFor a b k = true ∧ k < 16 := by
      rcases clash_iff.mp e with ⟨k, h1, h2⟩ | ⟨k, h1, h2⟩
      · exact ⟨k, kindFor_iff.mpr (.inl ⟨h1, h2⟩), kinds_le ha h1⟩
      · exact ⟨k, kindFor_iff.mpr (.inr ⟨h1, h2⟩), kinds_le hb h1⟩
    exact (decide_eq_true (List.length_pos_of_mem (List.mem_filter.mpr ⟨List.mem_range.mpr h16, hk⟩))).symm
  | false =>
    refine (decide_eq_false fun q => ?_).symm
    obtain ⟨k, hk⟩ := List.exists_mem_of_length_pos q
    have := kindFor_iff.mp (List.mem_filter.mp hk).2
    have h2 : clash a b = true := clash_iff.mpr (by
      rcases this with ⟨h1, h2⟩ | ⟨h1, h2⟩
      · exact .inl ⟨k, h1, h2⟩
      · exact .inr ⟨k, h1, h2⟩)
    rw [e] at h2
    cases h2
theorem clashKs_len (a b : Sys) : (clashKs a b).length ≤ 16 := by
  have := List.length_filter_le (kindFor a b) (List.range 16)
  rw [List.length_range] at this
  exact this

/-! ### pairs that nobody told -/
def clashOf (g : House) (i j : Nat) : Bool := match sysOf g i, sysOf g j with
  | some a, some b => clash a b
  | _, _ => false
theorem must_is (g : House) (i j : Nat) : must g i j = (toldBefore g.before i j || clashOf g i j) := rfl
theorem clashOf_is {g : House} {i j : Nat} {a b : Sys} (h1 : sysOf g i = some a) (h2 : sysOf g j = some b) : clashOf g i j = clash a b := by
  unfold clashOf
  rw [h1, h2]
def untoldOf (g : House) (i j : Nat) : Bool := clashOf g i j && (!toldBefore g.before i j && !toldBefore g.before j i)
/-- those behind a, with which it is untold -/
def untoldAt (g : House) (a : Nat) (l : List Nat) : List (Nat × Nat) := (l.filter fun b => untoldOf g a b).map fun b => (a, b)
def untoldTo (g : House) : Nat → List (Nat × Nat)
  | 0 => []
  | i + 1 => untoldTo g i ++ (match (nums g)[i]? with
    | some a => untoldAt g a ((nums g).drop (i + 1))
    | none => [])
theorem untoldTo_at {g : House} {i a : Nat} (h : (nums g)[i]? = some a) : untoldTo g (i + 1) = untoldTo g i ++ untoldAt g a ((nums g).drop (i + 1)) := by
  show untoldTo g i ++ _ = _
  rw [h]
theorem filter_asc {p : Nat → Bool} {a : Nat} : ∀ {l : List Nat} {i : Nat}, l.Pairwise (· < ·) → l[i]? = some a → (l.filter fun b => decide (a < b) && p b) = (l.drop (i + 1)).filter p
  | [], i, _, h => by simp at h
  | x :: l, 0, pw, h => by
    obtain ⟨p1, _⟩ := List.pairwise_cons.mp pw
    have e : x = a := Option.some.inj h
    subst e
    rw [List.filter_cons_of_neg (p := fun b => decide (x < b) && p b) (by simp)]
    refine List.filter_congr fun y hy => ?_
    rw [decide_eq_true (p1 y hy), Bool.true_and]
  | x :: l, i + 1, pw, h => by
    obtain ⟨p1, p2⟩ := List.pairwise_cons.mp pw
    have h' : l[i]? = some a := h
    have hlt := p1 a (List.mem_of_getElem? h')
    rw [List.filter_cons_of_neg (p := fun b => decide (a < b) && p b) (by
      rw [decide_eq_false (by omega), Bool.false_and]
      exact Bool.false_ne_true)]
    exact filter_asc p2 h'
theorem take_succ_get {α : Type} : ∀ {l : List α} {i : Nat} {x : α}, l[i]? = some x → l.take (i + 1) = l.take i ++ [x]
  | [], i, x, h => by simp at h
  | a :: l, 0, x, h => by
    have e : a = x := Option.some.inj h
    subst e
    rfl
  | a :: l, i + 1, x, h => by
    have ih := take_succ_get (l := l) (i := i) (x := x) h
    show a :: l.take (i + 1) = a :: l.take i ++ [x]
    rw [ih]
    rfl
def untoldFrom (g : House) (a : Sys) : List (Nat × Nat) := (g.systems.filter fun b => decide (a.number < b.number) && (clash a b && (!toldBefore g.before a.number b.number && !toldBefore g.before b.number a.number))).map fun b => (a.number, b.number)
theorem untold_is (g : House) : untold g = g.systems.flatMap (untoldFrom g) := rfl
theorem untoldFrom_is {g : House} (G : Good g) {i : Nat} {a : Sys} (h : g.systems[i]? = some a) : untoldFrom g a = untoldAt g a.number ((nums g).drop (i + 1)) := by
  have ha := sysOf_of G (List.mem_of_getElem? h)
  have hn : (nums g)[i]? = some a.number := by
    rw [List.getElem?_map, h]
    rfl
  unfold untoldAt
  rw [← filter_asc (p := fun b => untoldOf g a.number b) G.asc hn]
  unfold untoldFrom
  show _ = (List.filter _ (g.systems.map fun s => s.number)).map _
  rw [List.filter_map, List.map_map]
  show (List.filter _ g.systems).map _ = (List.filter _ g.systems).map _
  congr 1
  refine List.filter_congr fun b hb => ?_
  show _ = (decide (a.number < b.number) && untoldOf g a.number b.number)
  unfold untoldOf
  rw [clashOf_is ha (sysOf_of G hb)]
theorem untoldTo_take {g : House} (G : Good g) : ∀ i, i ≤ g.systems.length → untoldTo g i = (g.systems.take i).flatMap (untoldFrom g)
  | 0, _ => rfl
  | i + 1, h => by
    obtain ⟨a, ha⟩ : ∃ a, g.systems[i]? = some a := ⟨_, List.getElem?_eq_getElem (by omega)⟩
    have hn : (nums g)[i]? = some a.number := by
      rw [List.getElem?_map, ha]
      rfl
    rw [untoldTo_at hn, untoldTo_take G i (by omega), take_succ_get ha, List.flatMap_append, List.flatMap_cons, List.flatMap_nil, List.append_nil, untoldFrom_is G ha]
theorem untoldTo_all {g : House} (G : Good g) : untoldTo g (nums g).length = untold g := by
  rw [nums_len, untoldTo_take G _ (Nat.le_refl _), List.take_length, untold_is]
theorem untoldAt_len (g : House) (a : Nat) (l : List Nat) : (untoldAt g a l).length ≤ l.length := by
  unfold untoldAt
  rw [List.length_map]
  exact List.length_filter_le ..
theorem untoldTo_len (g : House) : ∀ i, (untoldTo g i).length ≤ i * (nums g).length
  | 0 => by simp [untoldTo]
  | i + 1 => by
    have ih := untoldTo_len g i
    rw [Nat.succ_mul]
    cases h : (nums g)[i]? with
    | none =>
      show (untoldTo g i ++ _).length ≤ _
      rw [h, List.append_nil]
      omega
    | some a =>
      rw [untoldTo_at h, List.length_append]
      have := untoldAt_len g a ((nums g).drop (i + 1))
      rw [List.length_drop] at this
      omega

/-! ### when each is over -/
def bgn (mu : Nat → Nat → Bool) (m : List (Nat × Nat)) (n : Nat) : Nat := (m.filter fun x => mu x.1 n).foldl (fun r x => max r x.2) 0
def tms (mu : Nat → Nat → Bool) (co : Nat → Nat) (l : List Nat) : List (Nat × Nat) := l.foldl (fun m n => m ++ [(n, bgn mu m n + co n)]) []
def costOf (g : House) (n : Nat) : Nat := ((sysOf g n).map fun s => s.cost).getD 0
theorem ends_is (g : House) : ends g = tms (must g) (costOf g) (order g) := rfl
theorem tms_snoc (mu : Nat → Nat → Bool) (co : Nat → Nat) (l : List Nat) (n : Nat) : tms mu co (l ++ [n]) = tms mu co l ++ [(n, bgn mu (tms mu co l) n + co n)] := by
  unfold tms
  rw [List.foldl_append]
  rfl
theorem tms_rev (mu : Nat → Nat → Bool) (co : Nat → Nat) : ∀ l : List Nat, (tms mu co l.reverse).map (·.1) = l.reverse
  | [] => rfl
  | n :: l => by
    rw [List.reverse_cons, tms_snoc, List.map_append, tms_rev mu co l]
    rfl
theorem tms_map (mu : Nat → Nat → Bool) (co : Nat → Nat) (l : List Nat) : (tms mu co l).map (·.1) = l := by
  have := tms_rev mu co l.reverse
  rw [List.reverse_reverse] at this
  exact this
theorem tms_ge_rev {mu : Nat → Nat → Bool} {co : Nat → Nat} : ∀ {l : List Nat}, (∀ n ∈ l, 1 ≤ co n) → ∀ x ∈ tms mu co l.reverse, 1 ≤ x.2
  | [], _, x, hx => by
    have hx' : x ∈ ([] : List (Nat × Nat)) := hx
    cases hx'
  | n :: l, h, x, hx => by
    rw [List.reverse_cons, tms_snoc] at hx
    rcases List.mem_append.mp hx with q | q
    · exact tms_ge_rev (fun y hy => h y (List.mem_cons_of_mem _ hy)) x q
    · rw [List.mem_singleton.mp q]
      have := h n (List.mem_cons_self ..)
      show 1 ≤ bgn mu (tms mu co l.reverse) n + co n
      omega
theorem tms_ge {mu : Nat → Nat → Bool} {co : Nat → Nat} {l : List Nat} (h : ∀ n ∈ l, 1 ≤ co n) : ∀ x ∈ tms mu co l, 1 ≤ x.2 := by
  have := tms_ge_rev (mu := mu) (co := co) (l := l.reverse) fun n hn => h n (List.mem_reverse.mp hn)
  rw [List.reverse_reverse] at this
  exact this
theorem ends_keys (g : House) : (ends g).map (·.1) = order g := tms_map _ _ _
theorem ends_len (g : House) : (ends g).length = (order g).length := by
  rw [← ends_keys g, List.length_map]
theorem costOf_ge {g : House} (G : Good g) {n : Nat} (h : n ∈ nums g) : 1 ≤ costOf g n := by
  obtain ⟨s, hs⟩ := sysOf_mem h
  unfold costOf
  rw [hs]
  exact (G.ok s (sysOf_some hs).1).2.2.1
theorem ends_ge {g : House} (G : Good g) : ∀ x ∈ ends g, 1 ≤ x.2 := tms_ge fun _ hn => costOf_ge G (order_sub g _ hn)
/-- when one is over -/
def endOf (e : List (Nat × Nat)) (n : Nat) : Nat := ((e.find? fun x => x.1 == n).map fun x => x.2).getD 0
theorem endOf_mem : ∀ {e : List (Nat × Nat)}, (e.map (·.1)).Nodup → ∀ {x : Nat × Nat}, x ∈ e → endOf e x.1 = x.2
  | [], _, _, h => absurd h List.not_mem_nil
  | a :: e, nd, x, hx => by
    obtain ⟨n1, n2⟩ := List.nodup_cons.mp nd
    unfold endOf
    rcases List.mem_cons.mp hx with q | q
    · rw [q, List.find?_cons_of_pos (by exact beq_self_eq_true a.1)]
      rfl
    · rw [List.find?_cons_of_neg (p := fun y : Nat × Nat => y.1 == x.1) (fun z => n1 (List.mem_map.mpr ⟨x, q, (beq_iff_eq.mp z).symm⟩))]
      exact endOf_mem n2 q
theorem foldmax_map {α : Type} {f : α → Nat} : ∀ (l : List α) (r : Nat), l.foldl (fun r x => max r (f x)) r = (l.map f).foldl max r
  | [], _ => rfl
  | a :: l, r => foldmax_map l (max r (f a))
/-- those that must be over before n, and when the last of these is -/
theorem bgn_is {mu : Nat → Nat → Bool} {m : List (Nat × Nat)} (nd : (m.map (·.1)).Nodup) (n : Nat) : bgn mu m n = (((m.map (·.1)).filter fun x => mu x n).map (endOf m)).foldl max 0 := by
  unfold bgn
  rw [foldmax_map, List.filter_map, List.map_map]
  congr 1
  show _ = (m.filter fun x => mu x.1 n).map _
  refine List.map_congr_left fun x hx => ?_
  exact (endOf_mem nd (List.mem_filter.mp hx).1).symm
theorem lasts_is {g : House} (nd : ((ends g).map (·.1)).Nodup) : lasts g = (((ends g).map (·.1)).map (endOf (ends g))).foldl max 0 := by
  unfold lasts
  rw [foldmax_map, List.map_map]
  congr 1
  refine List.map_congr_left fun x hx => ?_
  exact (endOf_mem nd hx).symm
theorem foldmax_app (l : List Nat) : ∀ r : Nat, r ≤ l.foldl max r ∧ (∀ x ∈ l, x ≤ l.foldl max r) ∧ (l.foldl max r = r ∨ l.foldl max r ∈ l) := by
  induction l with
  | nil => exact fun r => ⟨Nat.le_refl _, fun _ h => absurd h List.not_mem_nil, .inl rfl⟩
  | cons a l ih =>
    intro r
    obtain ⟨h1, h2, h3⟩ := ih (max r a)
    show r ≤ l.foldl max (max r a) ∧ (∀ x ∈ a :: l, x ≤ l.foldl max (max r a)) ∧ (l.foldl max (max r a) = r ∨ l.foldl max (max r a) ∈ a :: l)
    refine ⟨by omega, fun x hx => ?_, ?_⟩
    · rcases List.mem_cons.mp hx with q | q
      · omega
      · exact h2 x q
    · rcases h3 with q | q
      · by_cases c : r ≤ a
        · exact .inr (List.mem_cons.mpr (.inl (by omega)))
        · exact .inl (by omega)
      · exact .inr (List.mem_cons_of_mem _ q)
/-- the greatest, or 0 of none -/
theorem max_of {l : List Nat} {m : Int} (h : (l = [] ∧ m = 0) ∨ (m ∈ l.map (fun (n : Nat) => (n : Int)) ∧ ∀ y ∈ l.map (fun (n : Nat) => (n : Int)), y ≤ m)) : m = ((l.foldl max 0 : Nat) : Int) := by
  rcases h with ⟨e, e'⟩ | ⟨h1, h2⟩
  · rw [e, e']
    rfl
  · obtain ⟨n, hn, rfl⟩ := List.mem_map.mp h1
    obtain ⟨_, f2, f3⟩ := foldmax_app l 0
    have a1 := f2 n hn
    have a2 : l.foldl max 0 ≤ n := by
      rcases f3 with q | q
      · omega
      · have := h2 _ (List.mem_map.mpr ⟨_, q, rfl⟩)
        omega
    omega

/-! ### the chain -/
theorem find_head {q : Nat × Nat → Bool} {r : Nat → Bool} : ∀ {p : List (Nat × Nat)}, (∀ x ∈ p, q x = r x.1) → ((p.map (·.1)).filter r).head? = (p.find? q).map (·.1)
  | [], _ => rfl
  | a :: p, h => by
    have ha := h a (List.mem_cons_self ..)
    rw [List.map_cons]
    cases e : r a.1 with
    | true =>
      rw [List.filter_cons_of_pos e, List.find?_cons_of_pos (by rw [ha]; exact e)]
      rfl
    | false =>
      rw [List.filter_cons_of_neg (by rw [e]; exact Bool.false_ne_true), List.find?_cons_of_neg (by rw [ha, e]; exact Bool.false_ne_true)]
      exact find_head fun x hx => h x (List.mem_cons_of_mem _ hx)
theorem takeWhile_at : ∀ {e : List (Nat × Nat)}, (e.map (·.1)).Nodup → ∀ {i : Nat} {x : Nat × Nat}, e[i]? = some x → (e.takeWhile fun y => y.1 != x.1) = e.take i
  | [], _, i, x, h => by simp at h
  | a :: e, _, 0, x, h => by
    have q : a = x := Option.some.inj h
    rw [q, List.takeWhile_cons_of_neg (by simp)]
    rfl
  | a :: e, nd, i + 1, x, h => by
    obtain ⟨n1, n2⟩ := List.nodup_cons.mp nd
    have h' : e[i]? = some x := h
    rw [List.takeWhile_cons_of_pos (by
      rw [bne_iff_ne]
      exact fun q => n1 (List.mem_map.mpr ⟨x, List.mem_of_getElem? h', q.symm⟩)), takeWhile_at n2 h']
    rfl
/-- those that must be over before the one at place i and were just when it began -/
def links (g : House) (e : List (Nat × Nat)) (i n : Nat) : List Nat := (((e.take i).map (·.1)).filter fun y => must g y n).filter fun y => endOf e y == endOf e n - costOf g n
def onFrom (g : House) (e : List (Nat × Nat)) (f : Nat) : Option Nat → List Nat
  | none => []
  | some x => chainFrom g e f x
theorem chain_on {g : House} {e : List (Nat × Nat)} (nd : (e.map (·.1)).Nodup) (ge : ∀ x ∈ e, 1 ≤ x.2) {i f : Nat} {x : Nat × Nat} (h : e[i]? = some x) : chainFrom g e (f + 1) x.1 = x.1 :: onFrom g e f (links g e i x.1).head? := by
  have hb : (links g e i x.1).head? = (((e.takeWhile fun y => y.1 != x.1).find? fun y => must g y.1 x.1 && y.2 == endOf e x.1 - costOf g x.1)).map (·.1) := by
    rw [takeWhile_at nd h]
    unfold links
    rw [List.filter_filter]
    refine find_head (p := e.take i) fun y hy => ?_
    rw [endOf_mem nd (List.mem_of_mem_take hy), Bool.and_comm]
  show x.1 :: (if endOf e x.1 - costOf g x.1 = 0 then [] else match (e.takeWhile fun y => y.1 != x.1).find? fun y => must g y.1 x.1 && y.2 == endOf e x.1 - costOf g x.1 with
      | none => []
      | some y => chainFrom g e f y.1) = _
  congr 1
  by_cases c : endOf e x.1 - costOf g x.1 = 0
  · rw [if_pos c]
    have : (links g e i x.1) = [] := by
      unfold links
      refine List.filter_eq_nil_iff.mpr fun y hy q => ?_
      obtain ⟨z, hz, rfl⟩ := List.mem_map.mp (List.mem_filter.mp hy).1
      have hze := List.mem_of_mem_take hz
      have q' := beq_iff_eq.mp q
      rw [endOf_mem nd hze, c] at q'
      have := ge z hze
      omega
    rw [this]
    rfl
  · rw [if_neg c, hb]
    cases (e.takeWhile fun y => y.1 != x.1).find? fun y => must g y.1 x.1 && y.2 == endOf e x.1 - costOf g x.1 <;> rfl
/-- the first of those that are over last -/
def firsts (g : House) : List Nat := ((ends g).map (·.1)).filter fun y => endOf (ends g) y == lasts g
theorem chain_first {g : House} (nd : ((ends g).map (·.1)).Nodup) : (chain g).reverse = onFrom g (ends g) (g.systems.length + 1) (firsts g).head? := by
  have hb : (firsts g).head? = ((ends g).find? fun x => x.2 == lasts g).map (·.1) := find_head fun x hx => by
    rw [endOf_mem nd hx]
  rw [hb]
  unfold chain
  cases (ends g).find? fun x => x.2 == lasts g with
  | none => rfl
  | some x =>
    show (chainFrom _ _ _ _).reverse.reverse = _
    rw [List.reverse_reverse]
    rfl
theorem links_mem {g : House} {e : List (Nat × Nat)} {i n y : Nat} (h : y ∈ links g e i n) : ∃ k z, k < i ∧ e[k]? = some z ∧ z.1 = y := by
  obtain ⟨z, hz, rfl⟩ := List.mem_map.mp (List.mem_filter.mp (List.mem_filter.mp h).1).1
  obtain ⟨k, hk⟩ := List.mem_iff_getElem?.mp hz
  have hkl := (List.getElem?_eq_some_iff.mp hk).1
  rw [List.length_take] at hkl
  rw [List.getElem?_take_of_lt (by omega)] at hk
  exact ⟨k, z, by omega, hk, rfl⟩
theorem ends_nd (g : House) : ((ends g).map (·.1)).Nodup := by
  rw [ends_keys]
  exact order_nd g
theorem order_len {g : House} : (order g).length ≤ g.systems.length := by
  have := nodup_le (order_nd g) (order_sub g)
  rw [nums_len] at this
  exact this
theorem chainFrom_len {g : House} {e : List (Nat × Nat)} : ∀ (f n : Nat), (chainFrom g e f n).length ≤ f
  | 0, _ => Nat.le_refl _
  | f + 1, n => by
    show (n :: (if endOf e n - costOf g n = 0 then [] else match (e.takeWhile fun y => y.1 != n).find? fun y => must g y.1 n && y.2 == endOf e n - costOf g n with
      | none => []
      | some y => chainFrom g e f y.1)).length ≤ f + 1
    rw [List.length_cons]
    refine Nat.succ_le_succ ?_
    split
    · exact Nat.zero_le _
    · split
      · exact Nat.zero_le _
      · exact chainFrom_len f _
theorem chain_len (g : House) : (chain g).length ≤ g.systems.length + 1 := by
  unfold chain
  split
  · exact Nat.zero_le _
  · rw [List.length_reverse]
    exact chainFrom_len _ _
end Sr

/-! The list of calls, one call at a time: the specification's reading of it. -/
namespace Sr
open Ge02

def nt (l : List Int) : List Nat := l.map Int.toNat
theorem ints_nt : ∀ {l : List Int}, (∀ x ∈ l, 0 ≤ x) → Ge02.ints (nt l) = l
  | [], _ => rfl
  | a :: l, h => by
    show ((a.toNat : Nat) : Int) :: Ge02.ints (nt l) = a :: l
    rw [ints_nt fun x hx => h x (List.mem_cons_of_mem _ hx), Int.toNat_of_nonneg (h a (List.mem_cons_self ..))]
theorem nt_ints : ∀ l : List Nat, nt (Ge02.ints l) = l
  | [] => rfl
  | a :: l => by
    show a :: nt (Ge02.ints l) = a :: l
    rw [nt_ints l]
theorem ints_len (l : List Nat) : (Ge02.ints l).length = l.length := List.length_map ..

theorem row_some {r x s : List Int} (h : PyFlat.row r = some (x, s)) : r = (x.length : Int) :: (x ++ s) := by
  match r, h with
  | [], h => exact nomatch h
  | n :: r, h =>
    unfold PyFlat.row at h
    dsimp only at h
    split at h
    · rename_i q
      obtain ⟨rfl, rfl⟩ := Prod.mk.inj (Option.some.inj h)
      rw [List.take_append_drop, List.length_take, Nat.min_eq_left q.2, Int.toNat_of_nonneg q.1]
    · exact nomatch h
theorem rows_zero {r : List Int} {xs : List (List Int)} {t : List Int} (h : PyFlat.rows 0 r = some (xs, t)) : xs = [] ∧ t = r := by
  obtain ⟨rfl, rfl⟩ := Prod.mk.inj (Option.some.inj h)
  exact ⟨rfl, rfl⟩
theorem rows_succ {k : Nat} {r : List Int} {xs : List (List Int)} {t : List Int} (h : PyFlat.rows (k + 1) r = some (xs, t)) : ∃ x s ys, PyFlat.row r = some (x, s) ∧ PyFlat.rows k s = some (ys, t) ∧ xs = x :: ys := by
  unfold PyFlat.rows at h
  split at h
  · exact nomatch h
  · rename_i x s e
    split at h
    · exact nomatch h
    · rename_i ys t' e'
      obtain ⟨rfl, rfl⟩ := Prod.mk.inj (Option.some.inj h)
      exact ⟨x, s, ys, e, e', rfl⟩
theorem call_some {p : Int} {r : List Int} {n k : Nat} {c : List (List Int)} {t : List Int} (hs : PyGe02.shape p = some (n, k)) (h : PyFlat.call PyGe02.shape (p :: r) = some (c, t)) :
    n ≤ r.length ∧ ∃ xs, PyFlat.rows k (r.drop n) = some (xs, t) ∧ c = (p :: r.take n) :: xs := by
  unfold PyFlat.call at h
  dsimp only at h
  rw [hs] at h
  dsimp only at h
  split at h
  · exact nomatch h
  · rename_i q
    split at h
    · exact nomatch h
    · rename_i xs t' e
      obtain ⟨rfl, rfl⟩ := Prod.mk.inj (Option.some.inj h)
      exact ⟨by omega, xs, e, rfl⟩
theorem call_none {p : Int} {r : List Int} (hs : PyGe02.shape p = none) : PyFlat.call PyGe02.shape (p :: r) = none := by
  unfold PyFlat.call
  dsimp only
  rw [hs]
theorem calls_cons {f : Nat} {p : Int} {r : List Int} {cs : List (List (List Int))} (h : PyFlat.calls PyGe02.shape f (p :: r) = some cs) :
    ∃ f' c t cs', PyFlat.call PyGe02.shape (p :: r) = some (c, t) ∧ PyFlat.calls PyGe02.shape f' t = some cs' ∧ cs = c :: cs' := by
  match f, h with
  | 0, h => exact nomatch h
  | f + 1, h =>
    unfold PyFlat.calls at h
    split at h
    · exact nomatch h
    · rename_i c t e
      split at h
      · exact nomatch h
      · rename_i cs' e'
        exact ⟨f, c, t, cs', e, e', (Option.some.inj h).symm⟩
theorem calls_nil {f : Nat} {cs : List (List (List Int))} (h : PyFlat.calls PyGe02.shape f [] = some cs) : cs = [] := by
  match f, h with
  | 0, h => exact (Option.some.inj h).symm
  | f + 1, h => exact (Option.some.inj h).symm

/-- a call at the head of the list, and what is behind it -/
inductive Parsed : List Int → Ge02.Call → List Int → Prop
  | system (c : Nat) (R W : List Nat) (t : List Int) : R.length ≤ 20 → W.length ≤ 20 → Parsed (0 :: (c : Int) :: (R.length : Int) :: (Ge02.ints R ++ ((W.length : Int) :: (Ge02.ints W ++ t)))) (.system c R W) t
  | gone (n : Nat) (t : List Int) : Parsed (1 :: (n : Int) :: t) (.gone n) t
  | before (i j : Nat) (t : List Int) : Parsed (2 :: (i : Int) :: (j : Int) :: t) (.before i j) t
  | free (i j : Nat) (t : List Int) : Parsed (3 :: (i : Int) :: (j : Int) :: t) (.free i j) t
  | order (t : List Int) : Parsed (4 :: t) .order t
  | rounds (t : List Int) : Parsed (5 :: t) .rounds t
  | untold (t : List Int) : Parsed (6 :: t) .untold t
  | way (i j : Nat) (t : List Int) : Parsed (7 :: (i : Int) :: (j : Int) :: t) (.way i j) t
  | time (t : List Int) : Parsed (8 :: t) .time t
  | apart (i j : Nat) (t : List Int) : Parsed (9 :: (i : Int) :: (j : Int) :: t) (.apart i j) t
  | systems (t : List Int) : Parsed (10 :: t) .systems t
def played (g : House) (cs : List (List (List Int))) : List (List Int) := PyFlat.played (fun s c => Ge02Neutral.step s (c.headD [])) g (cs.map PyGe02.whole)
/-- from the house g the rest of the list is answered by out -/
structure Rest (g : House) (rest out : List Int) : Prop where
  inb : ∀ x ∈ rest, 0 ≤ x ∧ x ≤ 4294967295
  ex : ∃ f cs, PyFlat.calls PyGe02.shape f rest = some cs ∧ PyInside.calls PyGe02.bound cs = true ∧ out = PyFlat.told (played g cs)

theorem nat_ok {l : List Int} (h : ∀ x ∈ l, 0 ≤ x ∧ x ≤ 4294967295) : l.all Ge02Neutral.nat = true := by
  refine List.all_eq_true.mpr fun x hx => ?_
  have := h x hx
  unfold Ge02Neutral.nat
  rw [Bool.and_eq_true, decide_eq_true_iff, decide_eq_true_iff]
  exact ⟨this.1, by have : (2 : Int) ^ 32 = 4294967296 := by decide
                    omega⟩
theorem nstep {g : House} {l : List Int} {c : Ge02.Call} (h : ∀ x ∈ l, 0 ≤ x ∧ x ≤ 4294967295) (e : Ge02Neutral.callIn (nt l) = some c) : Ge02Neutral.step g l = Ge02.step g c := by
  unfold Ge02Neutral.step Ge02Neutral.callOf
  rw [nat_ok h, if_neg (by decide)]
  show (match Ge02Neutral.callIn (nt l) with
    | none => (g, [])
    | some x => Ge02.step g x) = _
  rw [e]
theorem rowIn_app (R t : List Nat) : Ge02Neutral.rowIn (R.length :: (R ++ t)) = some (R, t) := by
  unfold Ge02Neutral.rowIn
  dsimp only
  rw [if_neg (by rw [List.length_append]; omega), List.take_left, List.drop_left]
theorem callIn_system (c : Nat) (R W : List Nat) : Ge02Neutral.callIn (0 :: c :: R.length :: (R ++ (W.length :: W))) = some (.system c R W) := by
  show ((Ge02Neutral.rowIn (R.length :: (R ++ (W.length :: W)))).bind fun x => (Ge02Neutral.rowIn x.2).bind fun y => if y.2 = [] then some (Ge02.Call.system c x.1 y.1) else none) = _
  rw [rowIn_app]
  show ((Ge02Neutral.rowIn (W.length :: W)).bind fun y => if y.2 = [] then some (Ge02.Call.system c R y.1) else none) = _
  have := rowIn_app W []
  rw [List.append_nil] at this
  rw [this]
  show (if ([] : List Nat) = [] then some (Ge02.Call.system c R W) else none) = _
  rw [if_pos rfl]

theorem rest_end {g : House} {out : List Int} (h : Rest g [] out) : out = [] := by
  obtain ⟨f, cs, h1, _, rfl⟩ := h.ex
  rw [calls_nil h1]
  rfl
theorem of_nonneg {x : Int} (h : 0 ≤ x) : ∃ n : Nat, x = (n : Int) := ⟨x.toNat, (Int.toNat_of_nonneg h).symm⟩
theorem shape_cases {p : Int} {x : Nat × Nat} (h : PyGe02.shape p = some x) : (p = 0 ∧ x = (1, 2)) ∨ (p = 1 ∧ x = (1, 0)) ∨ (p = 2 ∧ x = (2, 0)) ∨ (p = 3 ∧ x = (2, 0)) ∨ (p = 4 ∧ x = (0, 0)) ∨ (p = 5 ∧ x = (0, 0)) ∨ (p = 6 ∧ x = (0, 0)) ∨ (p = 7 ∧ x = (2, 0)) ∨ (p = 8 ∧ x = (0, 0)) ∨ (p = 9 ∧ x = (2, 0)) ∨ (p = 10 ∧ x = (0, 0)) := by
  unfold PyGe02.shape at h
  repeat' split at h
  all_goals first | (simp at h; done) | (have e := Option.some.inj h; subst e; simp_all)
theorem two_of {r : List Int} (h : 2 ≤ r.length) : ∃ a b t, r = a :: b :: t := by
  match r, h with
  | a :: b :: t, _ => exact ⟨a, b, t, rfl⟩
theorem one_of {r : List Int} (h : 1 ≤ r.length) : ∃ a t, r = a :: t := by
  match r, h with
  | a :: t, _ => exact ⟨a, t, rfl⟩
/-- one call: from where it stands the specification takes it and goes on -/
theorem rest_step {g : House} {p : Int} {r out : List Int} (h : Rest g (p :: r) out) :
    ∃ c t out', Parsed (p :: r) c t ∧ out = (((Ge02.step g c).2.length : Int) :: (Ge02.step g c).2) ++ out' ∧ Rest (Ge02.step g c).1 t out' := by
  obtain ⟨inb, f, cs, h1, h2, rfl⟩ := h
  obtain ⟨f', c, t, cs', e1, e2, rfl⟩ := calls_cons h1
  have hin : PyInside.call PyGe02.bound c = true ∧ PyInside.calls PyGe02.bound cs' = true := by
    have q : (PyInside.call PyGe02.bound c && PyInside.calls PyGe02.bound cs') = true := h2
    rw [Bool.and_eq_true] at q
    exact q
  -- what is left to show once the call is known
  have key : ∀ (k : Ge02.Call), Parsed (p :: r) k t → (∀ x ∈ t, x ∈ p :: r) → Ge02Neutral.step g ((PyGe02.whole c).headD []) = Ge02.step g k →
      ∃ c' t' out', Parsed (p :: r) c' t' ∧ PyFlat.told (played g (c :: cs')) = (((Ge02.step g c').2.length : Int) :: (Ge02.step g c').2) ++ out' ∧ Rest (Ge02.step g c').1 t' out' := by
    intro k pk ht es
    refine ⟨k, t, PyFlat.told (played (Ge02.step g k).1 cs'), pk, ?_, ⟨fun x hx => inb x (ht x hx), f', cs', e2, hin.2, rfl⟩⟩
    show PyFlat.told ((Ge02Neutral.step g ((PyGe02.whole c).headD [])).2 :: PyFlat.played (fun s c => Ge02Neutral.step s (c.headD [])) (Ge02Neutral.step g ((PyGe02.whole c).headD [])).1 (cs'.map PyGe02.whole)) = _
    rw [es]
    rfl
  cases hs : PyGe02.shape p with
  | none =>
    rw [call_none hs] at e1
    exact nomatch e1
  | some nk =>
    obtain ⟨n, k⟩ := nk
    obtain ⟨hl, xs, hr, rfl⟩ := call_some hs e1
    have sub1 : ∀ x ∈ r, x ∈ p :: r := fun x hx => List.mem_cons_of_mem _ hx
    rcases shape_cases hs with ⟨rfl, e⟩ | ⟨rfl, e⟩ | ⟨rfl, e⟩ | ⟨rfl, e⟩ | ⟨rfl, e⟩ | ⟨rfl, e⟩ | ⟨rfl, e⟩ | ⟨rfl, e⟩ | ⟨rfl, e⟩ | ⟨rfl, e⟩ | ⟨rfl, e⟩ <;> obtain ⟨rfl, rfl⟩ := Prod.mk.inj e
    · -- system
      obtain ⟨a, r, rfl⟩ := one_of hl
      rw [show (a :: r).drop 1 = r from rfl] at hr
      obtain ⟨R, s, ys, g1, hr', rfl⟩ := rows_succ hr
      obtain ⟨W, s', ys', g2, hr'', rfl⟩ := rows_succ hr'
      obtain ⟨rfl, rfl⟩ := rows_zero hr''
      have f2 := row_some g2
      subst f2
      have f1 := row_some g1
      subst f1
      obtain ⟨c, rfl⟩ := of_nonneg (inb a (by simp)).1
      have iR : ∀ x ∈ R, 0 ≤ x ∧ x ≤ 4294967295 := fun x hx => inb x (by simp [hx])
      have iW : ∀ x ∈ W, 0 ≤ x ∧ x ≤ 4294967295 := fun x hx => inb x (by simp [hx])
      have eR := ints_nt fun x hx => (iR x hx).1
      have eW := ints_nt fun x hx => (iW x hx).1
      have hb : (PyInside.each [(0, 4294967295)] [(c : Int)] && PyInside.lists [(0, 4294967295, 0, 20), (0, 4294967295, 0, 20)] [R, W]) = true := hin.1
      simp only [PyInside.lists, Bool.and_eq_true, decide_eq_true_iff] at hb
      have lR : (nt R).length = R.length := List.length_map ..
      have lW : (nt W).length = W.length := List.length_map ..
      refine key (.system c (nt R) (nt W)) ?_ (fun x hx => by simp [hx]) ?_
      · have := Parsed.system c (nt R) (nt W) t (by rw [lR]; omega) (by rw [lW]; omega)
        rw [eR, eW, lR, lW] at this
        exact this
      · have ew : (PyGe02.whole ((0 :: (((c : Int) :: (((R.length : Int)) :: (R ++ ((W.length : Int) :: (W ++ t)))))).take 1) :: [R, W])).headD [] = (0 : Int) :: (c : Int) :: (R.length : Int) :: (R ++ ((W.length : Int) :: W)) := by
          show [0] ++ [(c : Int)] ++ [(R.length : Int)] ++ R ++ [(W.length : Int)] ++ W = _
          simp
        rw [ew]
        refine nstep (fun x hx => inb x ?_) ?_
        · simp only [List.mem_cons, List.mem_append] at hx ⊢
          rcases hx with q | q | q | q | q | q
          · exact .inl q
          · exact .inr (.inl q)
          · exact .inr (.inr (.inl q))
          · exact .inr (.inr (.inr (.inl q)))
          · exact .inr (.inr (.inr (.inr (.inl q))))
          · exact .inr (.inr (.inr (.inr (.inr (.inl q)))))
        · have en : nt ((0 : Int) :: (c : Int) :: (R.length : Int) :: (R ++ ((W.length : Int) :: W))) = 0 :: c :: (nt R).length :: (nt R ++ ((nt W).length :: nt W)) := by
            show 0 :: c :: R.length :: nt (R ++ ((W.length : Int) :: W)) = _
            rw [lR, lW]
            unfold nt
            rw [List.map_append]
            rfl
          rw [en]
          exact callIn_system c (nt R) (nt W)
    · -- gone
      obtain ⟨a, r, rfl⟩ := one_of hl
      obtain ⟨rfl, rfl⟩ := rows_zero hr
      obtain ⟨n, rfl⟩ := of_nonneg (inb a (by simp)).1
      refine key (.gone n) (.gone n _) (fun x hx => by simpa using .inr (.inr hx)) (nstep (l := [1, (n : Int)]) (fun x hx => inb x ?_) rfl)
      simp only [List.mem_cons, List.not_mem_nil, or_false] at hx ⊢
      omega
    · obtain ⟨a, b, r, rfl⟩ := two_of hl
      obtain ⟨rfl, rfl⟩ := rows_zero hr
      obtain ⟨i, rfl⟩ := of_nonneg (inb a (by simp)).1
      obtain ⟨j, rfl⟩ := of_nonneg (inb b (by simp)).1
      refine key (.before i j) (.before i j _) (fun x hx => by simpa using .inr (.inr (.inr hx))) (nstep (l := [2, (i : Int), (j : Int)]) (fun x hx => inb x ?_) rfl)
      simp only [List.mem_cons, List.not_mem_nil, or_false] at hx ⊢
      omega
    · obtain ⟨a, b, r, rfl⟩ := two_of hl
      obtain ⟨rfl, rfl⟩ := rows_zero hr
      obtain ⟨i, rfl⟩ := of_nonneg (inb a (by simp)).1
      obtain ⟨j, rfl⟩ := of_nonneg (inb b (by simp)).1
      refine key (.free i j) (.free i j _) (fun x hx => by simpa using .inr (.inr (.inr hx))) (nstep (l := [3, (i : Int), (j : Int)]) (fun x hx => inb x ?_) rfl)
      simp only [List.mem_cons, List.not_mem_nil, or_false] at hx ⊢
      omega
    · obtain ⟨rfl, rfl⟩ := rows_zero hr
      exact key .order (.order _) sub1 (nstep (l := [4]) (fun x hx => inb x (by simp only [List.mem_singleton] at hx; simp [hx])) rfl)
    · obtain ⟨rfl, rfl⟩ := rows_zero hr
      exact key .rounds (.rounds _) sub1 (nstep (l := [5]) (fun x hx => inb x (by simp only [List.mem_singleton] at hx; simp [hx])) rfl)
    · obtain ⟨rfl, rfl⟩ := rows_zero hr
      exact key .untold (.untold _) sub1 (nstep (l := [6]) (fun x hx => inb x (by simp only [List.mem_singleton] at hx; simp [hx])) rfl)
    · obtain ⟨a, b, r, rfl⟩ := two_of hl
      obtain ⟨rfl, rfl⟩ := rows_zero hr
      obtain ⟨i, rfl⟩ := of_nonneg (inb a (by simp)).1
      obtain ⟨j, rfl⟩ := of_nonneg (inb b (by simp)).1
      refine key (.way i j) (.way i j _) (fun x hx => by simpa using .inr (.inr (.inr hx))) (nstep (l := [7, (i : Int), (j : Int)]) (fun x hx => inb x ?_) rfl)
      simp only [List.mem_cons, List.not_mem_nil, or_false] at hx ⊢
      omega
    · obtain ⟨rfl, rfl⟩ := rows_zero hr
      exact key .time (.time _) sub1 (nstep (l := [8]) (fun x hx => inb x (by simp only [List.mem_singleton] at hx; simp [hx])) rfl)
    · obtain ⟨a, b, r, rfl⟩ := two_of hl
      obtain ⟨rfl, rfl⟩ := rows_zero hr
      obtain ⟨i, rfl⟩ := of_nonneg (inb a (by simp)).1
      obtain ⟨j, rfl⟩ := of_nonneg (inb b (by simp)).1
      refine key (.apart i j) (.apart i j _) (fun x hx => by simpa using .inr (.inr (.inr hx))) (nstep (l := [9, (i : Int), (j : Int)]) (fun x hx => inb x ?_) rfl)
      simp only [List.mem_cons, List.not_mem_nil, or_false] at hx ⊢
      omega
    · obtain ⟨rfl, rfl⟩ := rows_zero hr
      exact key .systems (.systems _) sub1 (nstep (l := [10]) (fun x hx => inb x (by simp only [List.mem_singleton] at hx; simp [hx])) rfl)
/-- the whole list -/
theorem rest_all {ns : List Int} (hb : ∀ x ∈ ns, 0 ≤ x ∧ x ≤ 4294967295) (h : PyGe02.answers_asked ns = true) : Rest Ge02.init ns (PyGe02.answers ns) ∧ (PyGe02.answers ns).length ≤ 10000000 := by
  unfold PyGe02.answers_asked at h
  split at h
  · exact nomatch h
  · rename_i raw e
    simp only [Bool.and_eq_true] at h
    refine ⟨⟨hb, _, raw, e, h.1.1.2, ?_⟩, of_decide_eq_true h.2⟩
    unfold PyGe02.answers PyGe02.calls
    rw [e]
    rfl
end Sr

/-! How the program's objects lie in the heap. -/
namespace Sr
open PySem PySem.Spec PyProof.Rows L2
open Ge02 (House Sys)

/-! ### words -/
theorem lk_here {k : Str} {v : V} {r : List (Str × V)} : List.lookup k ((k, v) :: r) = some v := by
  have e : (k == k) = true := beq_self_eq_true k
  simp only [List.lookup, e]
theorem lk_past {k g : Str} {v : V} {r : List (Str × V)} (h : (k == g) = false) : List.lookup k ((g, v) :: r) = List.lookup k r := by
  simp only [List.lookup, h]
theorem put_here {f : Str} {v x : V} {r : List (Str × V)} : putF f v ((f, x) :: r) = (f, v) :: r := if_pos rfl
theorem put_past {f g : Str} {v x : V} {r : List (Str × V)} (h : ¬ g = f) : putF f v ((g, x) :: r) = (g, x) :: putF f v r := if_neg h
theorem if_true_of {c : Bool} {A B : Prop} (hc : c = true) (h : A) : if c = true then A else B := by
  rw [if_pos hc]
  exact h
theorem if_false_of {c : Bool} {A B : Prop} (hc : c = false) (h : B) : if c = true then A else B := by
  rw [hc, if_neg Bool.false_ne_true]
  exact h
theorem take_more {α : Type} : ∀ {l : List α} {i : Nat} {x : α}, l[i]? = some x → l.take (i + 1) = l.take i ++ [x]
  | [], i, x, h => by simp at h
  | a :: l, 0, x, h => by
    have e : a = x := Option.some.inj h
    subst e
    rfl
  | a :: l, i + 1, x, h => by
    have ih := take_more (l := l) (i := i) (x := x) h
    show a :: l.take (i + 1) = a :: l.take i ++ [x]
    rw [ih]
    rfl
theorem map_get {α β : Type} {f : α → β} {l : List α} {i : Nat} {y : β} (h : (l.map f)[i]? = some y) : ∃ z, l[i]? = some z ∧ y = f z := by
  rw [List.getElem?_map] at h
  cases e : l[i]? with
  | none =>
    rw [e] at h
    cases h
  | some z =>
    rw [e] at h
    exact ⟨z, rfl, (Option.some.inj h).symm⟩
/-- whole numbers as values -/
abbrev vn (n : Nat) : V := .int (n : Int)
def vns (l : List Nat) : List V := l.map vn
theorem vns_ints (l : List Nat) : vns l = (Ge02.ints l).map V.int := by
  unfold vns Ge02.ints
  rw [List.map_map]
  rfl
theorem vns_len (l : List Nat) : (vns l).length = l.length := List.length_map ..
theorem vns_flat : ∀ l : List Nat, (vns l).all flatV = true
  | [] => rfl
  | a :: l => by
    show (flatV (vn a) && (vns l).all flatV) = true
    rw [vns_flat l]
    rfl
theorem eqV_vn (a b : Nat) : eqV (vn a) (vn b) = decide (a = b) := by
  show ((a : Int) == (b : Int)) = decide (a = b)
  by_cases h : a = b
  · rw [h, decide_eq_true rfl]
    exact beq_self_eq_true _
  · rw [decide_eq_false h]
    exact beq_eq_false_iff_ne.mpr (by omega)
theorem inV_vns (k : Nat) : ∀ l : List Nat, inV (vn k) (vns l) = l.contains k
  | [] => rfl
  | a :: l => by
    have ih := inV_vns k l
    unfold inV at ih ⊢
    show (eqV (vn a) (vn k) || (vns l).any _) = (a :: l).contains k
    rw [ih, eqV_vn, List.contains_cons]
    congr 1
    by_cases h : a = k
    · rw [h, decide_eq_true rfl]
      exact (beq_self_eq_true _).symm
    · rw [decide_eq_false h]
      exact (beq_eq_false_iff_ne.mpr fun q => h q.symm).symm
/-- all but these stand as they stood -/
def Keep (S : List Addr) (H H' : Hp) : Prop := ∀ b o, H b = some o → b ∉ S → H' b = some o
theorem Keep.same {S : List Addr} {H H' : Hp} (h : Same H H') : Keep S H H' := fun b o e _ => h b o e
theorem Keep.trans {S : List Addr} {H H1 H2 : Hp} (a : Keep S H H1) (b : Keep S H1 H2) : Keep S H H2 := fun c o e n => b c o (a c o e n) n
theorem Keep.mono {S S' : List Addr} {H H' : Hp} (a : Keep S H H') (s : ∀ x ∈ S, x ∈ S') : Keep S' H H' := fun b o e n => a b o e fun q => n (s b q)
theorem same_upd {H : Hp} {a : Addr} {o : HO} (h : H a = none) : Same H (upd H a o) := fun b u e => by
  rw [upd_ne (ne_of_none e h)]
  exact e
theorem keep_upd {H : Hp} {a : Addr} {o : HO} {S : List Addr} (h : a ∈ S) : Keep S H (upd H a o) := fun b u e n => by
  rw [upd_ne (fun (q : b = a) => n (by rw [q]; exact h))]
  exact e

/-! ### System -/
def sF (c : Nat) (ra wa : Addr) : List (Str × V) := [("cost", vn c), ("reads", .ref ra), ("writes", .ref wa)]
theorem sF_cost (c : Nat) (ra wa : Addr) : (sF c ra wa).lookup ("cost" : Str) = some (vn c) := lk_here
theorem sF_reads (c : Nat) (ra wa : Addr) : (sF c ra wa).lookup ("reads" : Str) = some (.ref ra) := (lk_past (by decide +kernel)).trans lk_here
theorem sF_writes (c : Nat) (ra wa : Addr) : (sF c ra wa).lookup ("writes" : Str) = some (.ref wa) := (lk_past (by decide +kernel)).trans ((lk_past (by decide +kernel)).trans lk_here)
theorem sF_no (c : Nat) (ra wa : Addr) {m : Str} (h1 : (m == ("cost" : Str)) = false) (h2 : (m == ("reads" : Str)) = false) (h3 : (m == ("writes" : Str)) = false) : (sF c ra wa).lookup m = none :=
  (lk_past h1).trans ((lk_past h2).trans ((lk_past h3).trans rfl))
/-- a System stands at a, its lists at ra and wa -/
structure SysA (CS : Addr) (H : Hp) (a ra wa : Addr) (s : Sys) : Prop where
  ob : ∃ dx, H a = some (.ins CS dx (sF s.cost ra wa))
  rd : H ra = some (.lst (vns s.reads))
  wr : H wa = some (.lst (vns s.writes))
theorem SysA.same {CS : Addr} {H H' : Hp} {a ra wa : Addr} {s : Sys} (h : SysA CS H a ra wa s) (e : Same H H') : SysA CS H' a ra wa s := by
  obtain ⟨⟨dx, h1⟩, h2, h3⟩ := h
  exact ⟨⟨dx, e _ _ h1⟩, e _ _ h2, e _ _ h3⟩
/-- its lists are none of F's -/
def SysAt (CS : Addr) (H : Hp) (F : List Addr) (a : Addr) (s : Sys) : Prop := ∃ ra wa, ra ∉ F ∧ wa ∉ F ∧ SysA CS H a ra wa s
theorem SysAt.same {CS : Addr} {H H' : Hp} {F : List Addr} {a : Addr} {s : Sys} (h : SysAt CS H F a s) (e : Same H H') : SysAt CS H' F a s := by
  obtain ⟨ra, wa, h1, h2, h3⟩ := h
  exact ⟨ra, wa, h1, h2, h3.same e⟩

/-! ### Plan -/
def pF (n : Nat) (d l : Addr) : List (Str × V) := [("numbers_given", vn n), ("systems", .ref d), ("pairs", .ref l)]
theorem pF_given (n : Nat) (d l : Addr) : (pF n d l).lookup ("numbers_given" : Str) = some (vn n) := lk_here
theorem pF_systems (n : Nat) (d l : Addr) : (pF n d l).lookup ("systems" : Str) = some (.ref d) := (lk_past (by decide +kernel)).trans lk_here
theorem pF_pairs (n : Nat) (d l : Addr) : (pF n d l).lookup ("pairs" : Str) = some (.ref l) := (lk_past (by decide +kernel)).trans ((lk_past (by decide +kernel)).trans lk_here)
theorem pF_no (n : Nat) (d l : Addr) {m : Str} (h1 : (m == ("numbers_given" : Str)) = false) (h2 : (m == ("systems" : Str)) = false) (h3 : (m == ("pairs" : Str)) = false) : (pF n d l).lookup m = none :=
  (lk_past h1).trans ((lk_past h2).trans ((lk_past h3).trans rfl))
theorem pF_put_given (n m : Nat) (d l : Addr) : putF "numbers_given" (vn m) (pF n d l) = pF m d l := put_here
theorem pF_put_pairs (n : Nat) (d l l' : Addr) : putF "pairs" (.ref l') (pF n d l) = pF n d l' :=
  (put_past (by decide +kernel)).trans (congrArg _ ((put_past (by decide +kernel)).trans (congrArg _ put_here)))
/-- the entries of the systems' dict -/
def kvsOf (ad : Nat → Addr) (ss : List Sys) : List (Key × V) := ss.map fun s => (Sum.inl (s.number : Int), V.ref (ad s.number))
/-- the list of the pairs -/
def prsOf (tp : Nat × Nat → Addr) (ps : List (Nat × Nat)) : List V := ps.map fun x => V.ref (tp x)
/-- a pair's tuple -/
def tupOf (x : Nat × Nat) : HO := .tup [vn x.1, vn x.2]
structure PlanA (CP CS : Addr) (H : Hp) (F : List Addr) (p d l : Addr) (g : House) (ps : List (Nat × Nat)) (ad : Nat → Addr) (tp : Nat × Nat → Addr) : Prop where
  ob : ∃ dx, H p = some (.ins CP dx (pF g.given d l))
  dc : H d = some (.dK (kvsOf ad g.systems))
  ls : H l = some (.lst (prsOf tp ps))
  tu : ∀ x ∈ ps, H (tp x) = some (tupOf x)
  sy : ∀ s ∈ g.systems, SysAt CS H (l :: F) (ad s.number) s
  fl : l ∉ F
/-- a Plan stands at p, its dict at d, its list of pairs at l; F: lists that are none of its own -/
def PlanAt (CP CS : Addr) (H : Hp) (F : List Addr) (p d l : Addr) (g : House) (ps : List (Nat × Nat)) : Prop := ∃ ad tp, PlanA CP CS H F p d l g ps ad tp
theorem PlanA.same {CP CS : Addr} {H H' : Hp} {F : List Addr} {p d l : Addr} {g : House} {ps : List (Nat × Nat)} {ad : Nat → Addr} {tp : Nat × Nat → Addr} (h : PlanA CP CS H F p d l g ps ad tp) (e : Same H H') : PlanA CP CS H' F p d l g ps ad tp := by
  obtain ⟨⟨dx, h1⟩, h2, h3, h4, h5, h6⟩ := h
  exact ⟨⟨dx, e _ _ h1⟩, e _ _ h2, e _ _ h3, fun x hx => e _ _ (h4 x hx), fun s hs => (h5 s hs).same e, h6⟩
theorem PlanAt.same {CP CS : Addr} {H H' : Hp} {F : List Addr} {p d l : Addr} {g : House} {ps : List (Nat × Nat)} (h : PlanAt CP CS H F p d l g ps) (e : Same H H') : PlanAt CP CS H' F p d l g ps := by
  obtain ⟨ad, tp, h⟩ := h
  exact ⟨ad, tp, h.same e⟩
theorem val_find (ad : Nat → Addr) (n : Nat) : ∀ ss : List Sys, valV (kvsOf ad ss) (Sum.inl (n : Int)) = (ss.find? fun s => s.number == n).map fun s => V.ref (ad s.number)
  | [] => rfl
  | s :: ss => by
    by_cases h : s.number = n
    · rw [show kvsOf ad (s :: ss) = (Sum.inl (s.number : Int), V.ref (ad s.number)) :: kvsOf ad ss from rfl, valV_pos (by rw [h]), List.find?_cons_of_pos (by rw [h]; exact beq_self_eq_true n)]
      rfl
    · rw [show kvsOf ad (s :: ss) = (Sum.inl (s.number : Int), V.ref (ad s.number)) :: kvsOf ad ss from rfl, valV_neg (fun q => h (by have := Sum.inl.inj q; omega)), val_find ad n ss]
      rw [List.find?_cons_of_neg (p := fun s : Sys => s.number == n) (by rw [beq_iff_eq]; exact h)]
theorem val_sys (ad : Nat → Addr) (g : House) (n : Nat) : valV (kvsOf ad g.systems) (Sum.inl (n : Int)) = (Ge02.sysOf g n).map fun s => V.ref (ad s.number) := val_find ad n g.systems
theorem val_some {ad : Nat → Addr} {g : House} {n : Nat} {s : Sys} (h : Ge02.sysOf g n = some s) : valV (kvsOf ad g.systems) (Sum.inl (n : Int)) = some (V.ref (ad n)) := by
  rw [val_sys, h, ← (sysOf_some h).2]
  rfl
theorem val_isSome (ad : Nat → Addr) (g : House) (n : Nat) : (valV (kvsOf ad g.systems) (Sum.inl (n : Int))).isSome = decide (n ∈ nums g) := by
  rw [val_sys, Option.isSome_map]
  cases h : Ge02.sysOf g n with
  | none => exact (decide_eq_false (sysOf_none.mp (by rw [h]; rfl))).symm
  | some s =>
    obtain ⟨h1, h2⟩ := sysOf_some h
    exact (decide_eq_true (List.mem_map.mpr ⟨s, h1, h2⟩)).symm

/-! ### Reader -/
def rF (a : Addr) (n : Nat) : List (Str × V) := [("calls", .ref a), ("place", vn n)]
theorem rF_calls (a : Addr) (n : Nat) : (rF a n).lookup ("calls" : Str) = some (.ref a) := lk_here
theorem rF_place (a : Addr) (n : Nat) : (rF a n).lookup ("place" : Str) = some (vn n) := (lk_past (by decide +kernel)).trans lk_here
theorem rF_no (a : Addr) (n : Nat) {m : Str} (h1 : (m == ("calls" : Str)) = false) (h2 : (m == ("place" : Str)) = false) : (rF a n).lookup m = none := (lk_past h1).trans ((lk_past h2).trans rfl)
theorem rF_put (a : Addr) (n m : Nat) : putF "place" (vn m) (rF a n) = rF a m := (put_past (by decide +kernel)).trans (congrArg _ put_here)
/-- a Reader stands at r, at the place n of the list at a -/
def ReadAt (CR : Addr) (H : Hp) (r a : Addr) (n : Nat) : Prop := ∃ dx, H r = some (.ins CR dx (rF a n))

/-- a whole number of the module -/
theorem pe_gi {X : Cx} {x : Str} {i : Int} {pos : Pos} (hg : Gl X x) (h : ∃ t, X.mg x = some (.int i t)) (hd : (x == ("__debug__" : Str)) = false := by decide) : PE X (.Name x pos) (tC (.int i)) := by
  obtain ⟨t, h⟩ := h
  exact pe_glob (v := .int i) hg h ⟨_, rfl⟩ hd
/-! ### the text by places -/
def top (i : Nat) : Stmt := PySem.Challenge.pw_systemrounds_s01_answers.main.body.getD i (.Pass ⟨0, 0, 0, 0⟩)
/-- what the top has written -/
structure Txt (K : PySem.W.Frag) (mg : Str → Option Value) (CR CS CP : Addr) : Prop where
  clR : Cls K CR
  clS : Cls K CS
  clP : Cls K CP
  rCalls : NoAttr K CR "calls"
  rPlace : NoAttr K CR "place"
  sCost : NoAttr K CS "cost"
  sReads : NoAttr K CS "reads"
  sWrites : NoAttr K CS "writes"
  pGiven : NoAttr K CP "numbers_given"
  pSystems : NoAttr K CP "systems"
  pPairs : NoAttr K CP "pairs"
  gR : mg "Reader" = some (.ref CR)
  gS : mg "System" = some (.ref CS)
  gP : mg "Plan" = some (.ref CP)
  len : mg "len" = none
  min : mg "min" = none
  any : mg "any" = none
  enumerate : mg "enumerate" = none
  range : mg "range" = none
  sorted : mg "sorted" = none
  max : mg "max" = none
  list : mg "list" = none
  reversed : mg "reversed" = none
  cSYSTEM : ∃ t, mg "SYSTEM" = some (.int 0 t)
  cGONE : ∃ t, mg "GONE" = some (.int 1 t)
  cBEFORE : ∃ t, mg "BEFORE" = some (.int 2 t)
  cFREE : ∃ t, mg "FREE" = some (.int 3 t)
  cORDER : ∃ t, mg "ORDER" = some (.int 4 t)
  cROUNDS : ∃ t, mg "ROUNDS" = some (.int 5 t)
  cMOST : ∃ t, mg "MOST_SYSTEMS" = some (.int 10 t)
  cCOST : ∃ t, mg "HIGHEST_COST" = some (.int 999 t)
  cKIND : ∃ t, mg "HIGHEST_KIND" = some (.int 15 t)
  cWRONG : ∃ t, mg "WRONG_SYSTEM" = some (.int (-1) t)
  cNOT : ∃ t, mg "NOT_THERE" = some (.int (-2) t)
  cRING : ∃ t, mg "WOULD_BE_RING" = some (.int (-3) t)
  cTOLD : ∃ t, mg "TOLD_ALREADY" = some (.int (-4) t)
  cMANY : ∃ t, mg "TOO_MANY" = some (.int (-5) t)
  cUNTOLD : ∃ t, mg "UNTOLD" = some (.int 6 t)
  cWAY : ∃ t, mg "WAY" = some (.int 7 t)
  cTIME : ∃ t, mg "TIME" = some (.int 8 t)
  cAPART : ∃ t, mg "APART" = some (.int 9 t)
  cSYSTEMS : ∃ t, mg "SYSTEMS" = some (.int 10 t)
  cNOROW : ∃ t, mg "NO_ROW" = some (.int (-6) t)
  cFIRST : ∃ t, mg "FIRST_BEFORE_SECOND" = some (.int 1 t)
  cSECOND : ∃ t, mg "SECOND_BEFORE_FIRST" = some (.int 2 t)
  cNOTTOLD : ∃ t, mg "NOT_TOLD" = some (.int 0 t)
/-- of the class Times -/
structure TxtT (K : PySem.W.Frag) (mg : Str → Option Value) (CT : Addr) : Prop where
  clT : Cls K CT
  tOrder : NoAttr K CT "order"
  tNeeds : NoAttr K CT "needs"
  tBegins : NoAttr K CT "begins"
  tEnds : NoAttr K CT "ends"
  gT : mg "Times" = some (.ref CT)
end Sr

/-! Two rules of my own: max(xs, default=d) of whole numbers, list(reversed(xs)). -/
namespace Sr
open PySem PySem.Spec PyProof.Rows L2

/-! ### max with a default -/
theorem args_maxd (x d : Value) : argsOk "max" ⟨[x], [(Str.ofString "default", d)]⟩ := by
  unfold argsOk; kernel_rfl
section
variable {prog : Program} {w : World} {A : Around} {E : Value → Shared → Prop} {s : Shared}
/-- a built-in with keywords that goes on with another -/
theorem call_on_kw {id : String} {b : Builtin} {as : List Value} {kw : List (Str × Value)} {Q : Value → Shared → Prop} (hk : builtinKind id = none) (hp : plainId id = true) (hb : entryFor table id = some b) (ha : argsOk id ⟨as, kw⟩)
    (hc : wpAny (model prog w) A.in1 (b ⟨as, kw⟩) (fun z s' => match z with
      | .done f => (match (Except.ok f : Result) with | .ok (.ret v) => Q v s' | .ok _ => False | .error x => E x s')
      | .again c => c.quiet = true ∧ codeAny (model prog w) A c (fun r s' => match r with | .ok (.ret v) => Q v s' | .ok _ => False | .error x => E x s') s') E s) : wpAny (model prog w) A (call (.builtin id) as kw) Q E s := by
  refine wpAny_call (codeAny_call_builtin hp hb ?_); simp only [checkBuiltinCall, hk]
  cases q : Manifest.signature? id with
  | none => exact wpAny_pure hc
  | some sig =>
    have z : Bind.checkArgs id sig ⟨as, kw⟩ = pure () := by
      simp only [argsOk, q] at ha; exact ha
    simp only [z]; exact wpAny_pure hc
variable {R : Result → Shared → Prop} {I S : Addr} {fp wr : List Addr} {n : Nat} {P : Nat → Value → Prop} {St : Nat → Heap → Prop} {bt : Nat → Nat → Bool} {kw : List (Str × Value)}
theorem mxl_name : (toString "max" ++ toString ".loop" : String) = "max.loop" := by decide
/-- the walk from the second one on, the best so far in the list at S -/
theorem mxl_go (W : Walks prog w A.in1 I fp wr n P St) (hc : CmpOf prog w A.in1 .Gt P bt) (nS : S ∉ fp) : ∀ (k j : Nat) (s : Shared) (best : Value) (c : Nat), n - (j + 1) = k → j + 1 ≤ n → St (j + 1) s.heap → P (argBest bt j) best →
    s.heap.get? S = some { cls := .type "list", dict := none, data := .seq #[best, best] c, slots := #[] } →
    (∀ v h' tk, P (argBest bt (n - 1)) v → (∀ b o, b ∉ wr → b ≠ S → s.heap.get? b = some o → h'.get? b = some o) → R (.ok (.ret v)) { s with heap := h', toks := tk }) →
    codeAny (model prog w) A (.builtin "max.loop" ⟨[.ref I, .none, .ref S], kw⟩) R s := by
  have nw : S ∉ wr := fun q => nS (W.sub _ q)
  intro k
  induction k with
  | zero =>
    intro j s best c hk hj st hb oS fin
    have ej : j + 1 = n := by omega
    refine codeAny_builtin F.entry_max_loop ?_; rw [Around.under_plainId F.plain_max_loop _]
    show wpAny _ _ (seqItems? (.ref S) >>= _) _ _ _
    refine wpAny_bind (wpAny_seqItems oS rfl ?_); show wpAny _ _ (tryCatch (pyNext (.ref I)) _ >>= _) _ _ _
    refine wpAny_bind (wpAny_tryCatch (W.done s _ _ (ej ▸ st) fun h1 tk k1 => ?_)); show wpAny _ _ (updateSeq S (fun _ => #[]) >>= _) _ _ _
    refine wpAny_bind (wpAny_updateSeq (k1 S _ nw oS) rfl (wpAny_bind (wpAny_letGo (wpAny_pure ?_))))
    exact fin best _ tk (by rw [← ej]; exact hb) fun b o b1 b2 e => (Heap.get?_update_other _ _ (Ne.symm b2)).trans (k1 b o b1 e)
  | succ k ih =>
    intro j s best c hk hj st hb oS fin
    have lj : j + 1 < n := by omega
    refine codeAny_builtin F.entry_max_loop ?_; rw [Around.under_plainId F.plain_max_loop _]
    show wpAny _ _ (seqItems? (.ref S) >>= _) _ _ _
    refine wpAny_bind (wpAny_seqItems oS rfl ?_); show wpAny _ _ (tryCatch (pyNext (.ref I)) _ >>= _) _ _ _
    refine wpAny_bind (wpAny_tryCatch (W.item (j + 1) s _ _ lj st fun v h1 tk pv st1 k1 => ?_))
    have oS1 := k1 S _ nw oS
    show wpAny _ _ (tryCatch (holding [v, v] (richCompare .Gt v best >>= _)) _ >>= _) _ _ _
    refine wpAny_bind (wpAny_tryCatch (wpAny_holding (wpAny_bind (hc (j + 1) (argBest bt j) v best _ _ _ pv hb ?_)))); refine wpAny_bind (wpAny_holding (wpAny_truthy_bool ?_))
    refine wpAny_bind (wpAny_letGo (wpAny_pure ?_))
    cases q : bt (j + 1) (argBest bt j) with
    | true =>
      simp only [if_true]; refine wpAny_bind (wpAny_updateSeq oS1 rfl (wpAny_bind (wpAny_letGo ?_))); rw [mxl_name]
      refine wpAny_pure ⟨plainId_quiet F.plain_max_loop _, ih (j + 1) _ v _ (by omega) lj (W.frame _ _ _ st1 fun b hf o e => ?_) (by simp only [argBest, q, if_true]; exact pv) (Heap.get?_update_self _ oS1 rfl) fun u h2 tk2 pu k2 => ?_⟩
      · exact (Heap.get?_update_other _ _ (fun z : S = b => nS (by rw [z]; exact hf))).trans e
      · exact fin u h2 tk2 pu fun b o b1 b2 e => k2 b o b1 b2 ((Heap.get?_update_other _ _ (Ne.symm b2)).trans (k1 b o b1 e))
    | false =>
      simp only [Bool.false_eq_true, if_false]; refine wpAny_bind (wpAny_letGo ?_); rw [mxl_name]
      refine wpAny_pure ⟨plainId_quiet F.plain_max_loop _, ih (j + 1) _ best c (by omega) lj st1 (by simp only [argBest, q, Bool.false_eq_true, if_false]; exact hb) oS1 fun u h2 tk2 pu k2 => ?_⟩
      exact fin u h2 tk2 pu fun b o b1 b2 e => k2 b o b1 b2 (k1 b o b1 e)
theorem mxl_first (W : Walks prog w A.in1 I fp wr n P St) (hc : CmpOf prog w A.in1 .Gt P bt) (nS : S ∉ fp) (hn : 0 < n) {c : Nat} (st : St 0 s.heap) (oS : s.heap.get? S = some { cls := .type "list", dict := none, data := .seq #[] c, slots := #[] })
    (fin : ∀ v h' tk, P (argBest bt (n - 1)) v → (∀ b o, b ∉ wr → b ≠ S → s.heap.get? b = some o → h'.get? b = some o) → R (.ok (.ret v)) { s with heap := h', toks := tk }) :
    codeAny (model prog w) A (.builtin "max.loop" ⟨[.ref I, .none, .ref S], kw⟩) R s := by
  have nw : S ∉ wr := fun q => nS (W.sub _ q)
  refine codeAny_builtin F.entry_max_loop ?_; rw [Around.under_plainId F.plain_max_loop _]
  show wpAny _ _ (seqItems? (.ref S) >>= _) _ _ _
  refine wpAny_bind (wpAny_seqItems oS rfl ?_); show wpAny _ _ (tryCatch (pyNext (.ref I)) _ >>= _) _ _ _
  refine wpAny_bind (wpAny_tryCatch (W.item 0 s _ _ hn st fun v h1 tk pv st1 k1 => ?_))
  have oS1 := k1 S _ nw oS
  show wpAny _ _ (updateSeq S (fun _ => #[v, v]) >>= _) _ _ _
  refine wpAny_bind (wpAny_updateSeq oS1 rfl ?_); rw [mxl_name]
  refine wpAny_pure ⟨plainId_quiet F.plain_max_loop _, mxl_go W hc nS _ 0 _ v _ rfl hn (W.frame _ _ _ st1 fun b hf o e => ?_) pv (Heap.get?_update_self _ oS1 rfl) fun u h2 tk2 pu k2 => ?_⟩
  · exact (Heap.get?_update_other _ _ (fun z : S = b => nS (by rw [z]; exact hf))).trans e
  · exact fin u h2 tk2 pu fun b o b1 b2 e => k2 b o b1 b2 ((Heap.get?_update_other _ _ (Ne.symm b2)).trans (k1 b o b1 e))
/-- none: the default -/
theorem mxl_none {x : Str} {d : Value} (W : Walks prog w A.in1 I fp wr n P St) (nS : S ∉ fp) (hn : n = 0) {c : Nat} (st : St 0 s.heap) (oS : s.heap.get? S = some { cls := .type "list", dict := none, data := .seq #[] c, slots := #[] })
    (fin : ∀ h' tk, (∀ b o, b ∉ wr → s.heap.get? b = some o → h'.get? b = some o) → R (.ok (.ret d)) { s with heap := h', toks := tk }) :
    codeAny (model prog w) A (.builtin "max.loop" ⟨[.ref I, .none, .ref S], [(x, d)]⟩) R s := by
  subst hn
  refine codeAny_builtin F.entry_max_loop ?_; rw [Around.under_plainId F.plain_max_loop _]
  show wpAny _ _ (seqItems? (.ref S) >>= _) _ _ _
  refine wpAny_bind (wpAny_seqItems oS rfl ?_); show wpAny _ _ (tryCatch (pyNext (.ref I)) _ >>= _) _ _ _
  refine wpAny_bind (wpAny_tryCatch (W.done s _ _ st fun h1 tk k1 => ?_)); show wpAny _ _ (rule _ >>= fun _ => ret d) _ _ _
  exact wpAny_bind (wpAny_rule (wpAny_pure (fin h1 tk k1)))
/-- max(l, default=d) of a list of whole numbers -/
theorem call_maxd {l : Addr} {xs : Array (Int × Tok)} {d : Value} {Q : Value → Shared → Prop} (hh : A.handled = none) (hl : s.heap.IsList l (intItems xs))
    (h0 : xs.size = 0 → ∀ h' tk, (∀ b o, s.heap.get? b = some o → h'.get? b = some o) → Q d { s with heap := h', toks := tk })
    (h1 : 0 < xs.size → ∀ v h' tk, (intItems xs)[argBest (fun i j => decide (numAt xs i > numAt xs j)) (xs.size - 1)]? = some v → (∀ b o, s.heap.get? b = some o → h'.get? b = some o) → Q v { s with heap := h', toks := tk }) :
    wpAny (model prog w) A (call (.builtin "max") [.ref l] [(Str.ofString "default", d)]) Q E s := by
  have hsz : (intItems xs).size = xs.size := by simp [intItems]
  refine call_on_kw F.kind_max F.plain_max F.entry_max (args_maxd _ _) ?_
  show wpAny _ _ (Builtin.Builtins.bindParams "max" ["key", "default"] 0 ⟨[], [(Str.ofString "default", d)]⟩ >>= _) _ _ _
  refine wpAny_bind (wpAny_of_eq (show Builtin.Builtins.bindParams "max" ["key", "default"] 0 ⟨[], [(Str.ofString "default", d)]⟩ = pure [none, some d] from by first | rfl | kernel_rfl) (wpAny_bind (wpAny_pure ?_)))
  refine wpAny_bind (iter_intList hl fun s2 e st hf hI => ?_); subst e
  refine wpAny_bind (wpAny_newObj_type ?_)
  have nS : (s.heap.push { cls := .type "list_iterator", data := .fields #[.ref l, .int 0 0] }).objs.size ∉ [s.heap.objs.size, l] := fun q => Nat.lt_irrefl _ (hf _ q)
  have W := Walks.list (prog := prog) (w := w) (A := A.in1) hh s.heap.objs.size l hI (intItems xs)
  rw [mxl_name]
  refine wpAny_pure ⟨plainId_quiet F.plain_max_loop _, ?_⟩
  by_cases c : xs.size = 0
  · refine mxl_none W nS (by rw [hsz]; exact c) (W.frame _ _ _ st fun b _ o e => Heap.get?_push_of_some _ e) (Heap.get?_push_size _ rfl) fun h' tk k => ?_
    exact h0 c h' tk (old_kept fun b o b1 e => k b o b1 (Heap.get?_push_of_some _ e))
  · refine mxl_first W (CmpOf.ints_gt (numAt xs) fun _ _ => intItems_at) nS (by rw [hsz]; omega) (W.frame _ _ _ st fun b _ o e => Heap.get?_push_of_some _ e) (Heap.get?_push_size _ rfl) fun v h' tk pv k => ?_
    rw [hsz] at pv
    exact h1 (by omega) v h' tk pv (old_kept fun b o b1 e => k b o b1 (Nat.ne_of_lt (Heap.lt_size e)) (Heap.get?_push_of_some _ e))
end
def rMaxd (K : PySem.W.Frag) : List V → List V → Hp → VK → Prop := fun vs zs H Q => ∃ (a : Addr) (ns : List Int) (d : Int), vs = [V.ref a] ∧ zs = [V.int d] ∧ SqL K H a (ns.map V.int) ∧
  ∀ m, ((ns = [] ∧ m = d) ∨ (m ∈ ns ∧ ∀ y ∈ ns, y ≤ m)) → Q (.int m) H
theorem cr_maxd {X : Cx} (hc : X.calm = true) : CallRK X (.builtin "max") [Str.ofString "default"] (rMaxd X.K) := by
  intro pins s σ H vs zs us ws Q I r rz h
  obtain ⟨a, ns, d, rfl, rfl, hs, q⟩ := h
  obtain ⟨its, rv, hl, _⟩ := I.list hs
  obtain rfl := Vals.ref1 r
  obtain ⟨w1, rfl, t, e1⟩ := vals1 rz
  subst e1
  obtain ⟨xs, e⟩ := rv.ints.allInts.items
  have hn : numsOf (intItems xs).toList = ns := by rw [← e]; exact rv.ints.numsOf
  rw [nums_intItems] at hn
  subst hn
  have hl' := hl.isList
  rw [e] at hl'
  refine call_maxd (I.ok.hd hc) hl' (fun hz h' tk hk => ⟨.int d, H, I.kept hk, ⟨_, rfl⟩, q d (.inl ⟨?_, rfl⟩)⟩) (fun hz v h' tk hv hk => ?_)
  · have e0 : xs = #[] := Array.eq_empty_of_size_eq_zero hz
    rw [e0]
    rfl
  · obtain ⟨t', rfl⟩ := intItems_at hv
    obtain ⟨g1, g2⟩ := argBest_gt (numAt xs) (xs.size - 1)
    refine ⟨.int _, H, I.kept hk, ⟨_, rfl⟩, q _ (.inr ⟨?_, fun y hy => ?_⟩)⟩
    · rw [numAt_eq]; exact PySem.getD_mem (by rw [List.length_map, Array.length_toList]; omega)
    · obtain ⟨j, hj, rfl⟩ := mem_getD hy
      rw [List.length_map, Array.length_toList] at hj
      rw [← numAt_eq]; exact g2 j (by omega)

/-! ### list(reversed(xs)) -/
section
variable {prog : Program} {w : World} {A : Around} {E : Value → Shared → Prop} {s : Shared}
/-- the list at S, empty so far, takes all that the iterator back over l gives -/
theorem rev_fill {R : Result → Shared → Prop} {it l S : Addr} {items : Array Value} {c : Nat} {res : Value} (hh : A.handled = none) (hit : s.heap.IsRevIter it l ((items.size : Int) - 1)) (hl : s.heap.IsList l items) (ne : l ≠ it) (hz : items.size ≤ sizeLine) (n1 : S ≠ it) (n2 : S ≠ l)
    (oS : s.heap.get? S = some { cls := .type "list", data := .seq #[] c })
    (fin : ∀ h' tk acc c', (∀ b o, b ≠ S → b ≠ it → s.heap.get? b = some o → h'.get? b = some o) → h'.get? S = some { cls := .type "list", dict := none, data := .seq acc c', slots := #[] } → ItemsOf (fun i v => items[items.size - 1 - i]? = some v) acc items.size → R (.ok (.ret res)) { s with heap := h', toks := tk }) :
    wpAny (model prog w) A.in1 (Builtin.List.listExtendWith (.ref S) (.ref it) res) (fun z s' => match z with | .done f => R (.ok f) s' | .again c' => c'.quiet = true ∧ codeAny (model prog w) A c' R s') (fun e s' => R (.error e) s') s := by
  have W := (Walks.listRev (prog := prog) (w := w) (A := A.in1) hh it l ne items).toS
  have nS : S ∉ [it, l] := by
    simp only [List.mem_cons, List.not_mem_nil, or_false, not_or]; exact ⟨n1, n2⟩
  have hT : s.TypeIs (.ref it) "list_reverseiterator" := hit.typeIs
  have hs : Builtin.List.listSameRef (.ref S) (.ref it) = false := by simp [Builtin.List.listSameRef, n1]
  unfold Builtin.List.listExtendWith
  refine wpAny_bind (wpAny_typeOf hT ?_); rw [if_neg (by rw [hs]; decide)]
  refine wpAny_bind (wpAny_pyIter_revIter hit (wpAny_bind (wpAny_holding ?_)))
  unfold Builtin.List.listLengthHint
  refine wpAny_bind (wpAny_specialOf hT RT.nolen_lri ?_); show wpAny _ _ (specialOf (Value.ref it) (Str.ofString "__length_hint__") >>= _) _ _ _
  refine wpAny_bind (wpAny_specialOf hT RT.hint_lri ?_); generalize hq : ("list_reverseiterator.__length_hint__" : String) = q
  wp_delta
  rw [show splitId q = some ("list_reverseiterator", "__length_hint__") from by subst hq; decide +kernel]
  subst hq
  refine wpAny_bind (wpAny_isInstance (b := true) hT (by rw [isSubtype_type]; kernel_rfl) (wpAny_pure ?_)); rw [if_neg (by decide)]
  have e0 : ((items.size : Nat) : Int) - 1 - ((0 : Nat) : Int) = (items.size : Int) - 1 := by omega
  refine wpAny_pure ⟨plainId_quiet F.plain_extend_loop _, codeAny_extend_loopS W hz _ nS _ items.size 0 _ _ _ rfl (Nat.zero_le _) ⟨Nat.zero_le _, by rw [e0]; exact hit, hl⟩ oS (ItemsOf.nil _) fun s' acc c' hm oS' ha => ?_⟩
  rw [Moved.eq_with hm]
  refine fin s'.heap s'.toks acc c' (fun b o b1 b2 e => hm.heap b o (fun q => ?_) e) oS' ha
  rcases List.mem_cons.mp q with z | z
  · exact b1 z
  · exact b2 (List.mem_singleton.mp z)
theorem call_list_rev {it l : Addr} {items : Array Value} {Q : Value → Shared → Prop} (hh : A.handled = none) (hit : s.heap.IsRevIter it l ((items.size : Int) - 1)) (hl : s.heap.IsList l items) (ne : l ≠ it) (hz : items.size ≤ sizeLine)
    (fin : ∀ h' tk acc c', (∀ b o, b ≠ it → s.heap.get? b = some o → h'.get? b = some o) → h'.get? s.heap.objs.size = some { cls := .type "list", dict := none, data := .seq acc c', slots := #[] } → ItemsOf (fun i v => items[items.size - 1 - i]? = some v) acc items.size → Q (.ref s.heap.objs.size) { s with heap := h', toks := tk }) :
    wpAny (model prog w) A (call (.type "list") [.ref it]) Q E s := by
  obtain ⟨oi, hoi, _⟩ := id hit
  obtain ⟨ol, hol, _⟩ := id hl
  have n1 : s.heap.objs.size ≠ it := Nat.ne_of_gt (Heap.lt_size hoi)
  have n2 : s.heap.objs.size ≠ l := Nat.ne_of_gt (Heap.lt_size hol)
  refine callType_codes (Q₁ := fun x s1 => x = .ref s.heap.objs.size ∧ s1 = { s with heap := s.heap.push { cls := .type "list", data := .seq #[] } }) F.called_list (F.typeCall_list_1 _) F.entry_list_init (code_list_new _ ⟨rfl, rfl⟩) fun x s1 h1 => ?_
  obtain ⟨rfl, rfl⟩ := h1
  have oS : (s.heap.push { cls := .type "list", data := .seq #[] }).get? s.heap.objs.size = some { cls := .type "list", data := .seq #[] } := Heap.get?_push_size _ rfl
  refine ⟨⟨_, oS, rfl⟩, F.args_list_init_2 _ _, ?_⟩
  show wpAny _ _ (do let old ← Builtin.List.listItems (.ref s.heap.objs.size); Builtin.List.listUpdate (.ref s.heap.objs.size) (fun _ => #[]); letGo old.toList.reverse; Builtin.List.listExtendWith (.ref s.heap.objs.size) (.ref it) .none) _ _ _
  refine wpAny_bind ?_
  unfold Builtin.List.listItems
  refine wpAny_bind (wpAny_seqItems oS rfl (wpAny_pure ?_)); show wpAny _ _ (updateSeq s.heap.objs.size (fun _ => #[]) >>= fun _ => letGo (#[] : Array Value).toList.reverse >>= fun _ => Builtin.List.listExtendWith (.ref s.heap.objs.size) (.ref it) .none) _ _ _
  refine wpAny_bind (wpAny_updateSeq oS rfl ?_)
  have oS2 := Heap.get?_update_self (Obj.mapSeq fun _ => (#[] : Array Value)) oS rfl
  have oth : ∀ b o, b ≠ s.heap.objs.size → s.heap.get? b = some o → ((s.heap.push { cls := .type "list", data := .seq #[] }).update s.heap.objs.size (Obj.mapSeq fun _ => (#[] : Array Value))).get? b = some o := fun b o b1 e => (Heap.get?_update_other _ _ (Ne.symm b1)).trans (Heap.get?_push_of_some _ e)
  refine wpAny_bind (wpAny_letGo ?_)
  refine rev_fill (A := A.in1) hh (hit.at fun o e => oth _ _ (Ne.symm n1) e) (hl.at fun o e => oth _ _ (Ne.symm n2) e) ne hz n1 n2 oS2 fun h' tk acc c' hk oS' ha => ?_
  exact ⟨rfl, fin h' tk acc c' (fun b o b1 e => hk b o (Nat.ne_of_lt (Heap.lt_size e)) b1 (oth b o (Nat.ne_of_lt (Heap.lt_size e)) e)) oS' ha⟩
end
section
variable {X : Cx}
def tLstRev (K : PySem.W.Frag) (te : TE) : TE := fun σ H Q => te σ H fun v H1 => ∃ (a : Addr) (xs : List V), v = .ref a ∧ SqL K H1 a xs ∧ ∀ q, H1 q = none → Q (.ref q) (upd H1 q (.lst xs.reverse))
theorem pe_lstRev {e : Expr} {te : TE} {p p2 pos pos2 : Pos} (hc : X.calm = true) (hg : Gl X "list") (hm : X.mg "list" = none) (hg2 : Gl X "reversed") (hm2 : X.mg "reversed" = none) (he : PE X e te)
    (hs : starEach [e] X.env = (false, eval e X.env) :: starEach [] X.env := by rfl) (hs2 : starEach [.Call (.Name "reversed" p2) [e] [] pos2] X.env = (false, eval (.Call (.Name "reversed" p2) [e] [] pos2) X.env) :: starEach [] X.env := by rfl) :
    PE X (.Call (.Name "list" p) [.Call (.Name "reversed" p2) [e] [] pos2] [] pos) (tLstRev X.K te) := by
  refine ⟨fun pins s σ H Q I h => ?_⟩
  refine Call_ (ld_blt I hg hm boot_list (PyProof.Rows.callWith_type1 (args_cons (Call_ (ld_blt I hg2 hm2 PyProof.Rows.boot_reversed (PyProof.Rows.callWith_type1 (args_cons (thn (he.run pins s σ H _ I h) fun u s1 ⟨v, H1, I1, r1, q1⟩ => args_nil ?_) hs) hs rfl))) hs2) hs2 rfl))
  obtain ⟨a, xs, ev, hq, q⟩ := q1
  subst ev
  obtain rfl : u = Value.ref a := r1
  obtain ⟨its, rv, pl, hz⟩ := I1.list hq
  refine call_reversed_list pl.isList (args_nil ?_)
  have hl := pl.isList
  obtain ⟨ol, hol, _⟩ := id hl
  have ne : a ≠ s1.heap.objs.size := Nat.ne_of_lt (Heap.lt_size hol)
  have hn : its.toArray.size ≤ sizeLine := by rw [List.size_toArray, ← rv.length]; exact hz
  have I2 : Inv X pins σ H1 { s1 with heap := s1.heap.push (revObj a ((its.toArray.size : Int) - 1)) } := I1.kept (t' := s1.toks) fun b o e => Heap.get?_push_of_some _ e
  have hsz : (s1.heap.push (revObj a ((its.toArray.size : Int) - 1))).objs.size = s1.heap.objs.size + 1 := Heap.size_push ..
  refine call_list_rev (s := { s1 with heap := s1.heap.push (revObj a ((its.toArray.size : Int) - 1)) }) (I1.ok.hd hc) ⟨_, Heap.get?_push_size _ rfl, rfl, rfl⟩ (hl.push _) ne hn fun h' tk acc c' hk hS hi => ?_
  have hS' : h'.get? (s1.heap.objs.size + 1) = some { cls := .type "list", dict := none, data := .seq acc c', slots := #[] } := by rw [← hsz]; exact hS
  show EP X pins σ Q (.ref (s1.heap.push (revObj a ((its.toArray.size : Int) - 1))).objs.size) _
  rw [hsz]
  refine ⟨.ref (s1.heap.objs.size + 1), upd H1 (s1.heap.objs.size + 1) (.lst xs.reverse), I1.laid (t' := tk) (fun b o e => hk b o (Nat.ne_of_lt (Heap.lt_size e)) (Heap.get?_push_of_some _ e)) (Nat.le_succ _) (show ObjOk X.prog X.w _ _ _ (.lst xs.reverse) from ⟨by rw [List.length_reverse]; exact hz, acc.toList, c', RT.vals_rev rv hi, ?_⟩), rfl, q _ (I1.hok.fresh (Nat.le_succ _))⟩
  rw [Array.toArray_toList]
  exact hS'
end
end Sr

/-! Reader, System, clash, kinds_are_right, cost_is_right, with_count. -/
namespace Sr
open PySem PySem.Spec PyProof.Rows L2
open Ge02 (House Sys)
section
variable {P : Program} {w : World} {K : PySem.W.Frag} {mg : Str → Option Value} {base : Heap} {CR CS CP : Addr}

/-! ### Reader.__init__ -/
abbrev sRInit : Stmt := inClass (top 25) 0
def spRInit (CR : Addr) : Sp := fun vs H Q _ => ∃ (p dx a : Addr), vs = [.ref p, .ref a] ∧ H p = some (.ins CR dx []) ∧
  ∀ H' : Hp, ReadAt CR H' p a 0 → Keep [p] H H' → Q .non H'
theorem scRInit : FnScope ["self", "calls"] ["self", "calls"] (defScope sRInit) := ⟨rfl, rfl, rfl, by decide +kernel, rfl, by decide +kernel, by decide +kernel⟩
theorem ok_rinit {f : Addr} {fd : FuncData} (F : Fun K "__init__" "Reader.__init__" sRInit f fd) (T : Txt K mg CR CS CP) : FnOk P w K mg base CX0 1 f fd ["self", "calls"] (spRInit CR) := by
  refine F.ok scRInit (fun vs H Q E h => ?_) (fun cdv A outer s H vs Q E hr h => ?_)
  · obtain ⟨p, dx, a, rfl, _⟩ := h
    rfl
  · obtain ⟨p, dx, a, rfl, hp, k⟩ := h
    refine ⟨_, pss_cons (ps_fld (pv 0) (pv 1) rfl) (pss_one (ps_fld (pv 0) pe_int rfl)), ?_⟩
    refine ⟨_, rfl, _, rfl, p, CR, dx, [], rfl, hp, T.clR, T.rCalls, (by show 0 < 1000; decide), ?_⟩
    refine ⟨_, rfl, p, CR, dx, _, rfl, upd_same, T.clR, T.rPlace, (by show 1 < 1000; decide), ?_⟩
    refine k _ ⟨dx, ?_⟩ fun b o e hb => ?_
    · rw [upd_same]
      exact congrArg (fun q => some (HO.ins CR dx q)) (put_past (by decide +kernel))
    · have hb' : b ≠ p := fun q => hb (by rw [q]; exact List.mem_singleton.mpr rfl)
      rw [upd_ne hb', upd_ne hb']
      exact e

/-! ### Reader.is_over -/
abbrev sOver : Stmt := inClass (top 25) 1
def spOver (K : PySem.W.Frag) (CR : Addr) : Sp := fun vs H Q _ => ∃ (r a : Addr) (n : Nat) (ns : List Int), vs = [.ref r] ∧ ReadAt CR H r a n ∧ SqL K H a (ns.map V.int) ∧ Q (.bl (decide (ns.length ≤ n))) H
theorem scOver : FnScope ["self"] ["self"] (defScope sOver) := ⟨rfl, rfl, rfl, by decide +kernel, rfl, by decide +kernel, by decide +kernel⟩
theorem ok_over {f : Addr} {fd : FuncData} (F : Fun K "is_over" "Reader.is_over" sOver f fd) (T : Txt K mg CR CS CP) : FnOk P w K mg base CX0 1 f fd ["self"] (spOver K CR) := by
  refine F.ok scOver (fun vs H Q E h => ?_) (fun cdv A outer s H vs Q E hr h => ?_)
  · obtain ⟨r, a, n, ns, rfl, _⟩ := h
    rfl
  · obtain ⟨r, a, n, ns, rfl, ⟨dx, hR⟩, hS, k⟩ := h
    refine ⟨_, pss_one (ps_ret (pe_cmpR op_ge (pe_fld (pv 0) rfl) (pe_callB call_len_seq (by rfl) T.len PySem.boot_len (pa_cons (pe_fld (pv 0) rfl) pa_nil)) (nomark _))), ?_⟩
    refine ⟨_, rfl, r, CR, dx, _, _, rfl, hR, T.clR, T.rPlace, rF_place _ _, _, rfl, r, CR, dx, _, _, rfl, hR, T.clR, T.rCalls, rF_calls _ _, a, _, rfl, .inl hS, _, _, rfl, rfl, ?_⟩
    have e : decide ((((ns.map V.int).length : Nat) : Int) ≤ (n : Int)) = decide (ns.length ≤ n) := by
      rw [List.length_map]
      exact decide_eq_decide.mpr (by omega)
    show Q (V.bl (decide ((((ns.map V.int).length : Nat) : Int) ≤ (n : Int)))) H
    rw [e]
    exact k

/-! ### Reader.take_number -/
abbrev sNum : Stmt := inClass (top 25) 2
def spNum (K : PySem.W.Frag) (CR : Addr) : Sp := fun vs H Q _ => ∃ (r a : Addr) (n : Nat) (ns : List Int) (z : Int), vs = [.ref r] ∧ ReadAt CR H r a n ∧ SqL K H a (ns.map V.int) ∧ ns[n]? = some z ∧
  ∀ H' : Hp, ReadAt CR H' r a (n + 1) → Keep [r] H H' → Q (.int z) H'
theorem scNum : FnScope ["self", "number"] ["self"] (defScope sNum) := ⟨rfl, rfl, rfl, by decide +kernel, rfl, by decide +kernel, by decide +kernel⟩
theorem ok_num {f : Addr} {fd : FuncData} (F : Fun K "take_number" "Reader.take_number" sNum f fd) (T : Txt K mg CR CS CP) : FnOk P w K mg base CX0 1 f fd ["self"] (spNum K CR) := by
  refine F.ok scNum (fun vs H Q E h => ?_) (fun cdv A outer s H vs Q E hr h => ?_)
  · obtain ⟨r, a, n, ns, z, rfl, _⟩ := h
    rfl
  · obtain ⟨r, a, n, ns, z, rfl, ⟨dx, hR⟩, hS, hz, k⟩ := h
    refine ⟨_, pss_cons (ps_set (i := 1) scNum.nd rfl (Or.inl rfl) (pe_ix ix_list (pe_fld (pv 0) rfl) (pe_fld (pv 0) rfl) (fun _ _ => rfl)))
      (pss_cons (ps_fld (pv 0) (pe_op op_add (pe_fld (pv 0) rfl) pe_int) rfl)
      (pss_one (ps_ret (pv 1)))), ?_⟩
    refine ⟨_, rfl, r, CR, dx, _, _, rfl, hR, T.clR, T.rCalls, rF_calls _ _, _, rfl, r, CR, dx, _, _, rfl, hR, T.clR, T.rPlace, rF_place _ _, a, _, _, V.int z, rfl, rfl, hS, atI_nat (by rw [List.getElem?_map, hz]; rfl), ?_⟩
    refine ⟨_, rfl, r, CR, dx, _, _, rfl, hR, T.clR, T.rPlace, rF_place _ _, _, _, rfl, rfl, _, rfl, r, CR, dx, _, rfl, hR, T.clR, T.rPlace, (by show 2 < 1000; decide), ?_⟩
    refine ⟨_, rfl, ?_⟩
    refine k _ ⟨dx, ?_⟩ (keep_upd (List.mem_singleton.mpr rfl))
    rw [upd_same]
    exact congrArg (fun q => some (HO.ins CR dx q)) (rF_put a n (n + 1))

/-! ### Reader.take_row -/
theorem cut_row {ns R t : List Int} {n : Nat} (h : ns.drop n = R ++ t) : cutV (ns.map V.int) (some (n : Int)) (some ((n : Int) + (R.length : Int))) = R.map V.int := by
  have hl : ns.length - n = R.length + t.length := by
    have := congrArg List.length h
    rw [List.length_drop, List.length_append] at this
    exact this
  by_cases hn : n ≤ ns.length
  · unfold cutV
    rw [show ((n : Int) + (R.length : Int)) = ((n + R.length : Nat) : Int) by omega, HT.sIx_nat, HT.sIx_nat, List.length_map, Nat.min_eq_left hn, Nat.min_eq_left (by omega), ← List.map_drop, h, List.map_append]
    rw [show n + R.length - n = (R.map V.int).length by rw [List.length_map]; omega, List.take_left]
  · have e : R = [] := List.length_eq_zero_iff.mp (by omega)
    subst e
    unfold cutV
    rw [List.drop_of_length_le, List.take_nil]
    · rfl
    · rw [HT.sIx_nat, List.length_map]
      omega
abbrev sRow : Stmt := inClass (top 25) 3
def spRow (K : PySem.W.Frag) (CR : Addr) : Sp := fun vs H Q _ => ∃ (r a : Addr) (n : Nat) (ns R t : List Int), vs = [.ref r] ∧ ReadAt CR H r a n ∧ SqL K H a (ns.map V.int) ∧ ns.drop n = (R.length : Int) :: (R ++ t) ∧
  ∀ (H' : Hp) (b : Addr), ReadAt CR H' r a (n + 1 + R.length) → Keep [r] H H' → H b = none → H' b = some (.lst (R.map V.int)) → Q (.ref b) H'
theorem scRow : FnScope ["self", "size", "row"] ["self"] (defScope sRow) := ⟨rfl, rfl, rfl, by decide +kernel, rfl, by decide +kernel, by decide +kernel⟩
theorem seq_keep {S : List Addr} {H H' : Hp} {a : Addr} {xs : List V} (h : SqL K H a xs) (e : Keep S H H') (n : ∀ b ∈ S, H b ≠ some (.lst xs) ∧ ∀ o, H b ≠ some (.frz o (.lst xs))) : SqL K H' a xs := by
  rcases h with (h | ⟨o, h⟩) | h
  · exact .inl (.inl (e _ _ h fun q => (n a q).1 h))
  · exact .inl (.inr ⟨o, e _ _ h fun q => (n a q).2 o h⟩)
  · exact .inr h
theorem ins_no {H : Hp} {r C dx : Addr} {fs : List (Str × V)} {xs : List V} (h : H r = some (.ins C dx fs)) : ∀ b ∈ [r], H b ≠ some (.lst xs) ∧ ∀ o, H b ≠ some (.frz o (.lst xs)) := by
  intro b hb
  rw [List.mem_singleton.mp hb, h]
  exact ⟨fun q => (by cases q), fun o q => (by cases q)⟩
theorem ok_row {f fN : Addr} {fd fdN : FuncData} (F : Fun K "take_row" "Reader.take_row" sRow f fd) (T : Txt K mg CR CS CP) (GN : FnOk P w K mg base CX0 1 fN fdN ["self"] (spNum K CR)) (bN : Binds K fdN ["self"] []) (mN : Meth K CR "take_number" fN) : FnOk P w K mg base CX0 2 f fd ["self"] (spRow K CR) := by
  refine F.ok scRow (fun vs H Q E h => ?_) (fun cdv A outer s H vs Q E hr h => ?_)
  · obtain ⟨r, a, n, ns, R, t, rfl, _⟩ := h
    rfl
  · obtain ⟨r, a, n, ns, R, t, rfl, ⟨dx, hR⟩, hS, hd, k⟩ := h
    refine ⟨_, pss_cons (ps_set (i := 1) scRow.nd rfl (Or.inl rfl) (pe_meth0 (pv 0) T.clR mN GN hr bN .nil pass0))
      (pss_cons (ps_set (i := 2) scRow.nd rfl (Or.inl rfl) (pe_slice sl_list (pe_fld (pv 0) rfl) (po_some (pe_fld (pv 0) rfl)) (po_some (pe_op op_add (pe_fld (pv 0) rfl) (pv 1)))))
      (pss_cons (ps_fld (pv 0) (pe_op op_add (pe_fld (pv 0) rfl) (pv 1)) rfl)
      (pss_one (ps_ret (pv 2))))), ?_⟩
    have hz : ns[n]? = some (R.length : Int) := by
      have := List.getElem?_drop (xs := ns) (i := n) (j := 0)
      rw [hd] at this
      exact this.symm
    have hd1 : ns.drop (n + 1) = R ++ t := by
      rw [← List.drop_drop, hd]
      rfl
    refine ⟨_, rfl, r, dx, _, rfl, hR, rF_no _ _ (by decide +kernel) (by decide +kernel), r, a, n, ns, _, rfl, ⟨dx, hR⟩, hS, hz, fun H1 ⟨dx1, hR1⟩ k1 => ?_⟩
    have hS1 := seq_keep hS k1 (ins_no hR)
    refine ⟨_, rfl, r, CR, dx1, _, _, rfl, hR1, T.clR, T.rCalls, rF_calls _ _, _, rfl, r, CR, dx1, _, _, rfl, hR1, T.clR, T.rPlace, rF_place _ _, _, rfl, _, rfl, r, CR, dx1, _, _, rfl, hR1, T.clR, T.rPlace, rF_place _ _, _, rfl, _, _, rfl, rfl, _, rfl, a, _, rfl, hS1, fun b hb => ?_⟩
    have nrb : r ≠ b := ne_of_none hR1 hb
    have hR2 : ∀ o, (upd H1 b o) r = some (.ins CR dx1 (rF a (n + 1))) := fun o => by rw [upd_ne nrb]; exact hR1
    refine ⟨_, rfl, r, CR, dx1, _, _, rfl, hR2 _, T.clR, T.rPlace, rF_place _ _, _, rfl, _, _, rfl, rfl, _, rfl, r, CR, dx1, _, rfl, hR2 _, T.clR, T.rPlace, (by show 2 < 1000; decide), ?_⟩
    refine ⟨_, rfl, ?_⟩
    refine k _ b ⟨dx1, ?_⟩ ?_ ?_ ?_
    · rw [upd_same]
      exact congrArg (fun q => some (HO.ins CR dx1 q)) (rF_put a (n + 1) (n + 1 + R.length))
    · exact (k1.trans (Keep.same (same_upd hb))).trans (keep_upd (List.mem_singleton.mpr rfl))
    · cases e : H b with
      | none => rfl
      | some o =>
        have := k1 b o e (fun q => nrb (List.mem_singleton.mp q).symm)
        rw [hb] at this
        cases this
    · rw [upd_ne nrb.symm, upd_same]
      exact congrArg (fun q => some (HO.lst q)) (cut_row hd1)

/-! ### System.__init__ -/
abbrev sSInit : Stmt := inClass (top 26) 0
def spSInit (CS : Addr) : Sp := fun vs H Q _ => ∃ (p dx ra wa : Addr) (c : Nat), vs = [.ref p, vn c, .ref ra, .ref wa] ∧ H p = some (.ins CS dx []) ∧
  ∀ H' : Hp, H' p = some (.ins CS dx (sF c ra wa)) → Keep [p] H H' → Q .non H'
theorem scSInit : FnScope ["self", "cost", "reads", "writes"] ["self", "cost", "reads", "writes"] (defScope sSInit) := ⟨rfl, rfl, rfl, by decide +kernel, rfl, by decide +kernel, by decide +kernel⟩
theorem sF_new2 (c : Nat) (ra : Addr) : putF "reads" (.ref ra) (putF "cost" (vn c) []) = ([(("cost" : Str), vn c), ("reads", .ref ra)] : List (Str × V)) := (put_past (by decide +kernel)).trans rfl
theorem sF_new (c : Nat) (ra wa : Addr) : putF "writes" (.ref wa) (putF "reads" (.ref ra) (putF "cost" (vn c) [])) = sF c ra wa := by
  rw [sF_new2]
  exact (put_past (by decide +kernel)).trans (congrArg _ ((put_past (by decide +kernel)).trans rfl))
theorem ok_sinit {f : Addr} {fd : FuncData} (F : Fun K "__init__" "System.__init__" sSInit f fd) (T : Txt K mg CR CS CP) : FnOk P w K mg base CX0 1 f fd ["self", "cost", "reads", "writes"] (spSInit CS) := by
  refine F.ok scSInit (fun vs H Q E h => ?_) (fun cdv A outer s H vs Q E hr h => ?_)
  · obtain ⟨p, dx, ra, wa, c, rfl, _⟩ := h
    rfl
  · obtain ⟨p, dx, ra, wa, c, rfl, hp, k⟩ := h
    refine ⟨_, pss_cons (ps_fld (pv 0) (pv 1) rfl) (pss_cons (ps_fld (pv 0) (pv 2) rfl) (pss_one (ps_fld (pv 0) (pv 3) rfl))), ?_⟩
    refine ⟨_, rfl, _, rfl, p, CS, dx, [], rfl, hp, T.clS, T.sCost, (by show 0 < 1000; decide), ?_⟩
    refine ⟨_, rfl, _, rfl, p, CS, dx, _, rfl, upd_same, T.clS, T.sReads, (by show 1 < 1000; decide), ?_⟩
    refine ⟨_, rfl, _, rfl, p, CS, dx, _, rfl, upd_same, T.clS, T.sWrites, (by rw [sF_new2]; show 2 < 1000; decide), ?_⟩
    refine k _ ?_ fun b o e hb => ?_
    · rw [upd_same]
      exact congrArg (fun q => some (HO.ins CS dx q)) (sF_new c ra wa)
    · have hb' : b ≠ p := fun q => hb (by rw [q]; exact List.mem_singleton.mpr rfl)
      rw [upd_ne hb', upd_ne hb', upd_ne hb']
      exact e

/-! ### System.touches -/
abbrev sTouch : Stmt := inClass (top 26) 1
def touch (s : Sys) (k : Nat) : Bool := s.reads.contains k || s.writes.contains k
def spTouch (CS : Addr) : Sp := fun vs H Q _ => ∃ (a ra wa : Addr) (s : Sys) (k : Nat), vs = [.ref a, vn k] ∧ SysA CS H a ra wa s ∧ Q (.bl (touch s k)) H
theorem scTouch : FnScope ["self", "kind"] ["self", "kind"] (defScope sTouch) := ⟨rfl, rfl, rfl, by decide +kernel, rfl, by decide +kernel, by decide +kernel⟩
theorem ok_touch {f : Addr} {fd : FuncData} (F : Fun K "touches" "System.touches" sTouch f fd) (T : Txt K mg CR CS CP) : FnOk P w K mg base CX0 1 f fd ["self", "kind"] (spTouch CS) := by
  refine F.ok scTouch (fun vs H Q E h => ?_) (fun cdv A outer s H vs Q E hr h => ?_)
  · obtain ⟨a, ra, wa, s, k, rfl, _⟩ := h
    rfl
  · obtain ⟨a, ra, wa, s, k, rfl, ⟨⟨dx, h1⟩, h2, h3⟩, q⟩ := h
    refine ⟨_, pss_one (ps_ret (pe_or (pe_cmpR op_in_seq (pv 1) (pe_fld (pv 0) rfl) rfl) (pe_one (pe_cmpR op_in_seq (pv 1) (pe_fld (pv 0) rfl) rfl)))), ?_⟩
    refine ⟨_, rfl, _, rfl, a, CS, dx, _, _, rfl, h1, T.clS, T.sReads, sF_reads _ _ _, ra, _, rfl, .inl (SqL.of h2), rfl, vns_flat _, _, rfl, ?_⟩
    cases e : inV (vn k) (vns s.reads) with
    | true =>
      refine iteT ?_
      have : touch s k = true := by
        unfold touch
        rw [← inV_vns, e]
        rfl
      rw [this] at q
      exact q
    | false =>
      refine iteF ?_
      refine ⟨_, rfl, _, rfl, a, CS, dx, _, _, rfl, h1, T.clS, T.sWrites, sF_writes _ _ _, wa, _, rfl, .inl (SqL.of h3), rfl, vns_flat _, ?_⟩
      have : touch s k = inV (vn k) (vns s.writes) := by
        unfold touch
        rw [← inV_vns, e, inV_vns]
        rfl
      rw [this] at q
      exact q

/-! ### clash_for -/
abbrev sFor : Stmt := top 27
def spFor (CS : Addr) : Sp := fun vs H Q _ => ∃ (a ra wa b rb wb : Addr) (s t : Sys) (k : Nat), vs = [.ref a, .ref b, vn k] ∧ SysA CS H a ra wa s ∧ SysA CS H b rb wb t ∧ Q (.bl (kindFor s t k)) H
theorem scFor : FnScope ["one", "other", "kind"] ["one", "other", "kind"] (defScope sFor) := ⟨rfl, rfl, rfl, by decide +kernel, rfl, by decide +kernel, by decide +kernel⟩
theorem kindFor_touch (s t : Sys) (k : Nat) : kindFor s t k = ((s.writes.contains k && touch t k) || (t.writes.contains k && touch s k)) := rfl
theorem ok_for {f fT : Addr} {fd fdT : FuncData} (F : Fun K "clash_for" "clash_for" sFor f fd) (T : Txt K mg CR CS CP) (GT : FnOk P w K mg base CX0 1 fT fdT ["self", "kind"] (spTouch CS)) (bT : Binds K fdT ["self", "kind"] []) (mT : Meth K CS "touches" fT) : FnOk P w K mg base CX0 2 f fd ["one", "other", "kind"] (spFor CS) := by
  refine F.ok scFor (fun vs H Q E h => ?_) (fun cdv A outer s H vs Q E hr h => ?_)
  · obtain ⟨a, ra, wa, b, rb, wb, s, t, k, rfl, _⟩ := h
    rfl
  · obtain ⟨a, ra, wa, b, rb, wb, s, t, k, rfl, hs, ht, q⟩ := h
    obtain ⟨⟨dx, h1⟩, h2, h3⟩ := id hs
    obtain ⟨⟨dy, g1⟩, g2, g3⟩ := id ht
    refine ⟨_, pss_one (ps_ret (pe_or (pe_and (pe_cmpR op_in_seq (pv 2) (pe_fld (pv 0) rfl) rfl) (pe_one (pe_meth (pv 1) T.clS mT GT hr bT .nil pass0 (pa_cons (pv 2) pa_nil))))
      (pe_one (pe_and (pe_cmpR op_in_seq (pv 2) (pe_fld (pv 1) rfl) rfl) (pe_one (pe_meth (pv 0) T.clS mT GT hr bT .nil pass0 (pa_cons (pv 2) pa_nil))))))), ?_⟩
    rw [kindFor_touch] at q
    rw [← inV_vns, ← inV_vns] at q
    have sec : Q (.bl (inV (vn k) (vns t.writes) && touch s k)) H → tAndV (tOp (rIn K false) (tVar 2) (tFld K (tVar 1) "writes")) (tMeth CS "touches" (spTouch CS) [] E0 (tVar 0) (tCons (tVar 2) tNil)) [some (.ref a), some (.ref b), some (vn k)] H Q := fun q => by
      refine ⟨_, rfl, _, rfl, b, CS, dy, _, _, rfl, g1, T.clS, T.sWrites, sF_writes _ _ _, wb, _, rfl, .inl (SqL.of g3), rfl, vns_flat _, _, rfl, ?_⟩
      show if inV (vn k) (vns t.writes) = true then _ else _
      cases e : inV (vn k) (vns t.writes) with
      | true =>
        rw [e] at q
        exact iteT ⟨_, rfl, a, dx, _, rfl, h1, sF_no _ _ _ (by decide +kernel) (by decide +kernel) (by decide +kernel), _, rfl, a, ra, wa, s, k, rfl, hs, q⟩
      | false =>
        rw [e] at q
        exact iteF q
    refine ⟨_, rfl, _, rfl, a, CS, dx, _, _, rfl, h1, T.clS, T.sWrites, sF_writes _ _ _, wa, _, rfl, .inl (SqL.of h3), rfl, vns_flat _, _, rfl, ?_⟩
    show if inV (vn k) (vns s.writes) = true then _ else _
    cases e : inV (vn k) (vns s.writes) with
    | true =>
      rw [e] at q
      refine iteT ⟨_, rfl, b, dy, _, rfl, g1, sF_no _ _ _ (by decide +kernel) (by decide +kernel) (by decide +kernel), _, rfl, b, rb, wb, t, k, rfl, ht, _, rfl, ?_⟩
      cases c : touch t k with
      | true =>
        rw [c] at q
        exact iteT q
      | false =>
        rw [c] at q
        exact iteF (sec q)
    | false =>
      rw [e] at q
      exact iteF ⟨_, rfl, iteF (sec q)⟩

/-! ### clash_kinds -/
abbrev sCK : Stmt := top 28
def spCK (CS : Addr) : Sp := fun vs H Q _ => ∃ (a ra wa b rb wb : Addr) (s t : Sys), vs = [.ref a, .ref b] ∧ SysA CS H a ra wa s ∧ SysA CS H b rb wb t ∧
  ∀ (H' : Hp) (c : Addr), Same H H' → H c = none → H' c = some (.lst (vns (clashKs s t))) → Q (.ref c) H'
abbrev nCK : List Str := ["one", "other", "kind"]
theorem scCK : FnScope nCK ["one", "other"] (defScope sCK) := ⟨rfl, rfl, rfl, by decide +kernel, rfl, by decide +kernel, by decide +kernel⟩
theorem range_more (p : Nat → Bool) (i : Nat) : (List.range (i + 1)).filter p = if p i = true then (List.range i).filter p ++ [i] else (List.range i).filter p := by
  rw [List.range_succ, List.filter_append, List.filter_cons, List.filter_nil]
  split
  · rfl
  · exact List.append_nil _
theorem vns_add (l : List Nat) (n : Nat) : vns l ++ [vn n] = vns (l ++ [n]) := by
  unfold vns
  rw [List.map_append]
  rfl
theorem big0 {n : Nat} (h : n ≤ 100000) : n < sizeLine := Nat.lt_of_le_of_lt h (by decide)
theorem ok_ck {f fF : Addr} {fd fdF : FuncData} (F : Fun K "clash_kinds" "clash_kinds" sCK f fd) (T : Txt K mg CR CS CP) (GF : FnOk P w K mg base CX0 2 fF fdF ["one", "other", "kind"] (spFor CS)) (bF : Binds K fdF ["one", "other", "kind"] []) (gF : mg "clash_for" = some (.ref fF)) (kF : PySem.W.keepIn K (.ref fF) = true) : FnOk P w K mg base CX0 3 f fd ["one", "other"] (spCK CS) := by
  refine F.ok scCK (fun vs H Q E h => ?_) (fun cdv A outer s H vs Q E hr h => ?_)
  · obtain ⟨a, ra, wa, b, rb, wb, s, t, rfl, _⟩ := h
    rfl
  · obtain ⟨a, ra, wa, b, rb, wb, s, t, rfl, hs, ht, q⟩ := h
    refine ⟨_, pss_one (ps_ret (pe_lc (own := [("kind", 2)]) (g := gName 2) (tt := tB (tCall (spFor CS) [] E0 (tCons (tVar 0) (tCons (tVar 1) (tCons (tVar 2) tNil))))) (te := tVar 2) rfl scCK.nd (pi_range1 rfl T.range (pa_cons (pe_op op_add (pe_gi rfl T.cKIND) pe_int) pa_nil)) (blkOk_by (N := nCK) (sc := defScope sCK) (by decide +kernel))
        (fun _ _ _ _ _ => pg_name (i := 2) scCK.nd rfl (Or.inl rfl))
        (fun _ _ _ _ _ => pts_one (pt_val (pe_call GF hr rfl gF kF bF .nil pass0 (pa_cons (pv 0) (pa_cons (pv 1) (pa_cons (pv 2) pa_nil))))))
        (fun _ _ _ _ _ => pv 2))), ?_⟩
    refine ⟨_, _, rfl, rfl, 16, rfl, by decide, by decide, fun D hD => ?_⟩
    refine lc_range (lo := 0) (n := 16) (fun i H' => Same H H' ∧ H' D = some (.lst (vns ((List.range i).filter (kindFor s t))))) ⟨same_upd hD, upd_same⟩ ?_ ?_
    · rintro i H1 hi ⟨s1, hD1⟩
      have hk : (V.int (0 + (i : Int))) = vn i := by rw [Int.zero_add]
      rw [hk]
      refine ⟨rfl, ?_⟩
      refine ⟨_, rfl, _, rfl, _, rfl, a, ra, wa, b, rb, wb, s, t, i, rfl, hs.same s1, ht.same s1, _, rfl, ?_⟩
      have es := range_more (kindFor s t) i
      cases c : kindFor s t i with
      | true =>
        have hl : ((List.range i).filter (kindFor s t)).length ≤ i := by
          have := List.length_filter_le (kindFor s t) (List.range i)
          rw [List.length_range] at this
          exact this
        refine iteT ⟨_, rfl, _, hD1, (by rw [vns_len]; exact big0 (by omega)), fun b' o e => ?_, ?_⟩
        · rw [upd_ne (ne_of_none e hD)]
          exact s1 b' o e
        · rw [upd_same, es, if_pos c, vns_add]
      | false =>
        refine iteF ⟨s1, ?_⟩
        rw [es, if_neg (by rw [c]; exact Bool.false_ne_true)]
        exact hD1
    · rintro H1 ⟨s1, hD1⟩
      exact q H1 D s1 hD hD1

/-! ### clash -/
abbrev sClash : Stmt := top 29
def spClash (CS : Addr) : Sp := fun vs H Q _ => ∃ (a ra wa b rb wb : Addr) (s t : Sys), vs = [.ref a, .ref b] ∧ SysA CS H a ra wa s ∧ SysA CS H b rb wb t ∧ Ge02.kindsOk s.writes = true ∧ Ge02.kindsOk t.writes = true ∧
  ∀ H' : Hp, Same H H' → Q (.bl (Ge02.clash s t)) H'
theorem scClash : FnScope ["one", "other"] ["one", "other"] (defScope sClash) := ⟨rfl, rfl, rfl, by decide +kernel, rfl, by decide +kernel, by decide +kernel⟩
theorem ok_clash {f fK : Addr} {fd fdK : FuncData} (F : Fun K "clash" "clash" sClash f fd) (T : Txt K mg CR CS CP) (GK : FnOk P w K mg base CX0 3 fK fdK ["one", "other"] (spCK CS)) (bK : Binds K fdK ["one", "other"] []) (gK : mg "clash_kinds" = some (.ref fK)) (kK : PySem.W.keepIn K (.ref fK) = true) : FnOk P w K mg base CX0 4 f fd ["one", "other"] (spClash CS) := by
  refine F.ok scClash (fun vs H Q E h => ?_) (fun cdv A outer s H vs Q E hr h => ?_)
  · obtain ⟨a, ra, wa, b, rb, wb, s, t, rfl, _⟩ := h
    rfl
  · obtain ⟨a, ra, wa, b, rb, wb, s, t, rfl, hs, ht, ok1, ok2, q⟩ := h
    refine ⟨_, pss_one (ps_ret (pe_cmpR op_gt (pe_callB call_len_seq (by rfl) T.len PySem.boot_len (pa_cons (pe_call GK hr rfl gK kK bK .nil pass0 (pa_cons (pv 0) (pa_cons (pv 1) pa_nil))) pa_nil)) pe_int (nomark _))), ?_⟩
    refine ⟨_, rfl, _, rfl, a, ra, wa, b, rb, wb, s, t, rfl, hs, ht, fun H1 c s1 hc hL => ?_⟩
    refine ⟨c, _, rfl, .inl (SqL.of hL), _, _, rfl, rfl, ?_⟩
    have e : decide (((vns (clashKs s t)).length : Int) > 0) = Ge02.clash s t := by
      rw [clash_ks ok1 ok2, vns_len]
      exact decide_eq_decide.mpr (by omega)
    have := q H1 s1
    rw [← e] at this
    exact this

/-! ### kinds_are_right -/
abbrev sKinds : Stmt := top 30
def okFrom : Int → List Nat → Bool
  | _, [] => true
  | b, k :: r => !(decide ((k : Int) ≤ b) || decide (15 < (k : Int))) && okFrom k r
theorem kinds_cons : ∀ (a : Nat) (l : List Nat), Ge02.kindsOk (a :: l) = (!decide (15 < (a : Int)) && okFrom a l)
  | a, [] => by
    unfold Ge02.kindsOk Ge02.rising okFrom
    simp
    rw [Bool.eq_iff_iff, Bool.not_eq_true', decide_eq_true_iff, decide_eq_false_iff_not]
    omega
  | a, b :: l => by
    have ih := kinds_cons b l
    have e : Ge02.kindsOk (a :: b :: l) = (decide (a ≤ 15) && decide (a < b) && Ge02.kindsOk (b :: l)) := by
      unfold Ge02.kindsOk
      show ((decide (a < b) && Ge02.rising (b :: l)) && (decide (a ≤ 15) && (b :: l).all fun k => decide (k ≤ 15))) = _
      cases decide (a < b) <;> cases decide (a ≤ 15) <;> cases Ge02.rising (b :: l) <;> rfl
    rw [e, ih]
    show _ = (!decide (15 < (a : Int)) && (!(decide ((b : Int) ≤ (a : Int)) || decide (15 < (b : Int))) && okFrom b l))
    have e1 : decide (a ≤ 15) = !decide (15 < (a : Int)) := by
      rw [Bool.eq_iff_iff, Bool.not_eq_true', decide_eq_true_iff, decide_eq_false_iff_not]
      omega
    have e2 : decide (a < b) = !decide ((b : Int) ≤ (a : Int)) := by
      rw [Bool.eq_iff_iff, Bool.not_eq_true', decide_eq_true_iff, decide_eq_false_iff_not]
      omega
    rw [e1, e2]
    cases decide (15 < (a : Int)) <;> cases decide ((b : Int) ≤ (a : Int)) <;> cases decide (15 < (b : Int)) <;> rfl
theorem kinds_from (l : List Nat) : okFrom (-1) l = Ge02.kindsOk l := by
  cases l with
  | nil => rfl
  | cons a l =>
    rw [kinds_cons]
    show (!(decide ((a : Int) ≤ -1) || decide (15 < (a : Int))) && okFrom a l) = _
    rw [decide_eq_false (by omega : ¬ (a : Int) ≤ -1), Bool.false_or]
def spKinds (K : PySem.W.Frag) : Sp := fun vs H Q _ => ∃ (a : Addr) (ks : List Nat), vs = [.ref a] ∧ SqL K H a (vns ks) ∧ Q (.bl (Ge02.kindsOk ks)) H
theorem scKinds : FnScope ["kinds", "before", "kind"] ["kinds"] (defScope sKinds) := ⟨rfl, rfl, rfl, by decide +kernel, rfl, by decide +kernel, by decide +kernel⟩
theorem ok_kinds {f : Addr} {fd : FuncData} (F : Fun K "kinds_are_right" "kinds_are_right" sKinds f fd) (T : Txt K mg CR CS CP) : FnOk P w K mg base CX0 1 f fd ["kinds"] (spKinds K) := by
  refine F.ok scKinds (fun vs H Q E h => ?_) (fun cdv A outer s H vs Q E hr h => ?_)
  · obtain ⟨a, ks, rfl, _⟩ := h
    rfl
  · obtain ⟨a, ks, rfl, hS, q⟩ := h
    refine ⟨_, pss_cons (ps_set (i := 1) scKinds.nd rfl (Or.inl rfl) (pe_un un_neg pe_int))
      (pss_cons (ps_for PassesOwn.never rfl (pi_list (pv 0)) (pg_name (i := 2) scKinds.nd rfl (Or.inl rfl))
        (pss_cons (ps_if (PW.pt (pw_or (pt_cmpR op_le (pv 2) (pv 1) (nomark _)) (pw_or1 (pt_cmpR op_gt (pv 2) (pe_gi rfl T.cKIND) (nomark _))))) (pss_one (ps_ret pe_bl)) pss_nil)
        (pss_one (ps_set (i := 1) scKinds.nd rfl (Or.inl rfl) (pv 2)))))
      (pss_one (ps_ret pe_bl))), ?_⟩
    refine ⟨_, rfl, ?_⟩
    refine ⟨_, rfl, a, rfl, ⟨_, hS⟩, for_list (K := K) (a := a) (xs := vns ks)
      (fun i σ H' => ∃ (b : Int) (v : Option V), σ = [some (.ref a), some (.int b), v] ∧ H' = H ∧ okFrom b (ks.drop i) = Ge02.kindsOk ks)
      ⟨-1, none, rfl, rfl, kinds_from ks⟩ (fun i σ H' _ ⟨_, _, _, e, _⟩ => by rw [e]; exact hS) ?_ ?_⟩
    · rintro i y σ H' hi ⟨b, v, rfl, rfl, ho⟩
      obtain ⟨k, hk, rfl⟩ := map_get hi
      have ed : ks.drop i = k :: ks.drop (i + 1) := by
        obtain ⟨hlt, e⟩ := List.getElem?_eq_some_iff.mp hk
        rw [List.drop_eq_getElem_cons hlt, e]
      rw [ed] at ho
      refine ⟨_, rfl, _, rfl, _, _, rfl, rfl, _, rfl, ?_⟩
      by_cases c1 : (k : Int) ≤ b
      · refine if_true_of (decide_eq_true c1) (iteT ?_)
        have : okFrom b (k :: ks.drop (i + 1)) = false := by
          unfold okFrom
          rw [decide_eq_true c1]
          rfl
        rw [← ho, this] at q
        exact q
      · refine if_false_of (decide_eq_false c1) ⟨_, rfl, _, _, rfl, rfl, _, rfl, ?_⟩
        by_cases c2 : 15 < (k : Int)
        · refine if_true_of (decide_eq_true c2) ?_
          have : okFrom b (k :: ks.drop (i + 1)) = false := by
            unfold okFrom
            rw [decide_eq_true c2, Bool.or_true]
            rfl
          rw [← ho, this] at q
          exact q
        · refine if_false_of (decide_eq_false c2) ?_
          refine ⟨_, rfl, ?_⟩
          refine ⟨_, _, rfl, rfl, ?_⟩
          rw [← ho]
          unfold okFrom
          rw [decide_eq_false c1, decide_eq_false c2]
          cases ks.drop (i + 1) <;> rfl
    · rintro σ H' ⟨b, v, rfl, rfl, ho⟩
      rw [vns_len, List.drop_length] at ho
      rw [← ho] at q
      exact q

/-! ### cost_is_right -/
abbrev sCost : Stmt := top 31
def costOk (c : Nat) : Bool := decide (1 ≤ c) && decide (c ≤ 999)
def spCost : Sp := fun vs H Q _ => ∃ c : Nat, vs = [vn c] ∧ Q (.bl (costOk c)) H
theorem scCost : FnScope ["cost"] ["cost"] (defScope sCost) := ⟨rfl, rfl, rfl, by decide +kernel, rfl, by decide +kernel, by decide +kernel⟩
theorem ok_cost {f : Addr} {fd : FuncData} (F : Fun K "cost_is_right" "cost_is_right" sCost f fd) (T : Txt K mg CR CS CP) : FnOk P w K mg base CX0 1 f fd ["cost"] spCost := by
  refine F.ok scCost (fun vs H Q E h => ?_) (fun cdv A outer s H vs Q E hr h => ?_)
  · obtain ⟨c, rfl, _⟩ := h
    rfl
  · obtain ⟨c, rfl, q⟩ := h
    refine ⟨_, pss_one (ps_ret (pe_and (pe_cmpR op_le pe_int (pv 0) (nomark _)) (pe_one (pe_cmpR op_le (pv 0) (pe_gi rfl T.cCOST) (nomark _))))), ?_⟩
    refine ⟨_, rfl, _, _, rfl, rfl, _, rfl, ?_⟩
    by_cases c1 : (1 : Int) ≤ (c : Int)
    · refine if_true_of (decide_eq_true c1) ⟨_, rfl, _, _, rfl, rfl, ?_⟩
      have e : costOk c = decide ((c : Int) ≤ 999) := by
        unfold costOk
        rw [decide_eq_true (by omega : 1 ≤ c), Bool.true_and]
        exact decide_eq_decide.mpr (by omega)
      rw [e] at q
      exact q
    · refine if_false_of (decide_eq_false c1) ?_
      have e : costOk c = false := by
        unfold costOk
        rw [decide_eq_false (by omega : ¬ 1 ≤ c), Bool.false_and]
      rw [e] at q
      exact q

/-! ### with_count -/
abbrev sCount : Stmt := top 32
def spCount : Sp := fun vs H Q _ => ∃ (a : Addr) (xs : List V), vs = [.ref a] ∧ H a = some (.lst xs) ∧ 1 + xs.length ≤ sizeLine ∧
  ∀ (H' : Hp) (b : Addr), Same H H' → H b = none → H' b = some (.lst (vn xs.length :: xs)) → Q (.ref b) H'
theorem scCount : FnScope ["numbers"] ["numbers"] (defScope sCount) := ⟨rfl, rfl, rfl, by decide +kernel, rfl, by decide +kernel, by decide +kernel⟩
theorem ok_count {f : Addr} {fd : FuncData} (F : Fun K "with_count" "with_count" sCount f fd) (T : Txt K mg CR CS CP) : FnOk P w K mg base CX0 1 f fd ["numbers"] spCount := by
  refine F.ok scCount (fun vs H Q E h => ?_) (fun cdv A outer s H vs Q E hr h => ?_)
  · obtain ⟨a, xs, rfl, _⟩ := h
    rfl
  · obtain ⟨a, xs, rfl, hL, hz, k⟩ := h
    refine ⟨_, pss_one (ps_ret (pe_op op_cat (pe_lst (pa_cons (pe_callB call_len_seq (by rfl) T.len PySem.boot_len (pa_cons (pv 0) pa_nil)) pa_nil)) (pv 0))), ?_⟩
    refine ⟨_, rfl, a, xs, rfl, .inl (SqL.of hL), (by show 1 ≤ sizeLine; decide), fun c hc => ?_⟩
    have s1 := same_upd (o := HO.lst [vn xs.length]) hc
    refine ⟨_, rfl, c, a, _, _, rfl, rfl, upd_same, s1 _ _ hL, (by show [vn xs.length].length + xs.length ≤ sizeLine; exact hz), fun b hb => ?_⟩
    refine k _ b (s1.trans (same_upd hb)) (s1.free hb) ?_
    rw [upd_same]
    rfl
end
end Sr

/-! Plan: steps_to, comes_before. -/
namespace Sr
open PySem PySem.Spec PyProof.Rows L2
open Ge02 (House Sys)

/-! ### dicts by number -/
def kD (D : List (Nat × V)) : List (Key × V) := D.map fun e => (Sum.inl (e.1 : Int), e.2)
def nv (D : List (Nat × Nat)) : List (Nat × V) := D.map fun e => (e.1, vn e.2)
theorem nv_keys (D : List (Nat × Nat)) : (nv D).map (·.1) = D.map (·.1) := by
  unfold nv
  rw [List.map_map]
  rfl
theorem kD_len (D : List (Nat × V)) : (kD D).length = D.length := List.length_map ..
theorem kD_none {n : Nat} : ∀ {D : List (Nat × V)}, n ∉ D.map (·.1) → valV (kD D) (Sum.inl (n : Int)) = none
  | [], _ => rfl
  | e :: D, h => by
    rw [List.map_cons, List.mem_cons, not_or] at h
    show valV ((Sum.inl (e.1 : Int), e.2) :: kD D) _ = none
    rw [valV_neg (fun q => h.1 (by have := Sum.inl.inj q; omega))]
    exact kD_none h.2
theorem kD_some {n : Nat} {v : V} : ∀ {D : List (Nat × V)}, (D.map (·.1)).Nodup → (n, v) ∈ D → valV (kD D) (Sum.inl (n : Int)) = some v
  | [], _, h => absurd h List.not_mem_nil
  | e :: D, nd, h => by
    obtain ⟨n1, n2⟩ := List.nodup_cons.mp nd
    show valV ((Sum.inl (e.1 : Int), e.2) :: kD D) _ = _
    rcases List.mem_cons.mp h with q | q
    · rw [← q, valV_pos rfl]
    · rw [valV_neg (fun z => n1 (List.mem_map.mpr ⟨(n, v), q, by have := Sum.inl.inj z; show n = e.1; omega⟩))]
      exact kD_some n2 q
theorem kD_is (n : Nat) {D : List (Nat × V)} (nd : (D.map (·.1)).Nodup) : (valV (kD D) (Sum.inl (n : Int))).isSome = (D.map (·.1)).contains n := by
  cases e : (D.map (·.1)).contains n with
  | true =>
    obtain ⟨x, hx, rfl⟩ := List.mem_map.mp (List.contains_iff_mem.mp e)
    rw [kD_some nd hx]
    rfl
  | false =>
    rw [kD_none fun q => by
      rw [List.contains_iff_mem.mpr q] at e
      cases e]
    rfl
theorem kD_put {n : Nat} {v : V} {D : List (Nat × V)} (h : n ∉ D.map (·.1)) : putK (kD D) (Sum.inl (n : Int)) v = kD (D ++ [(n, v)]) := by
  unfold putK
  rw [if_neg]
  · unfold kD
    rw [List.map_append]
    rfl
  · intro q
    obtain ⟨x, hx, e⟩ := List.any_eq_true.mp q
    obtain ⟨y, hy, rfl⟩ := List.mem_map.mp hx
    have := Sum.inl.inj (of_decide_eq_true e)
    exact h (List.mem_map.mpr ⟨y, hy, by omega⟩)
theorem nv_mem {D : List (Nat × Nat)} {x : Nat × Nat} (h : x ∈ D) : (x.1, vn x.2) ∈ nv D := List.mem_map.mpr ⟨x, h, rfl⟩
theorem nv_snoc (D : List (Nat × Nat)) (x : Nat × Nat) : nv D ++ [(x.1, vn x.2)] = nv (D ++ [x]) := by
  unfold nv
  rw [List.map_append]
  rfl
theorem keys_get {D : List (Nat × Nat)} {i : Nat} {x : Nat × Nat} (h : D[i]? = some x) : (D.map (·.1))[i]? = some x.1 := by
  rw [List.getElem?_map, h]
  rfl
theorem dec_vn (a b : Nat) : decide (vn a = vn b) = decide (a = b) := by
  by_cases h : a = b
  · rw [h, decide_eq_true rfl, decide_eq_true rfl]
  · rw [decide_eq_false h, decide_eq_false]
    intro q
    exact h (by have := V.int.inj q; omega)
theorem cut_one (l : List Nat) : cutV (vns l) (some 1) none = vns (l.drop 1) := by
  unfold cutV
  rw [show (1 : Int) = ((1 : Nat) : Int) from rfl, HT.sIx_nat, HT.sIx_none]
  unfold vns
  rw [List.length_map, ← List.map_drop, ← List.map_take]
  congr 1
  by_cases h : 1 ≤ l.length
  · rw [Nat.min_eq_left h, List.take_of_length_le (by rw [List.length_drop]; omega)]
  · have e : l = [] := List.length_eq_zero_iff.mp (by omega)
    rw [e]
    rfl

section
variable {P : Program} {w : World} {K : PySem.W.Frag} {mg : Str → Option Value} {base : Heap} {CR CS CP : Addr}
theorem big {n : Nat} (h : n ≤ 100000) : n < sizeLine := Nat.lt_of_le_of_lt h (by decide)
/-! ### steps_to -/
abbrev sStp : Stmt := inClass (top 33) 9
def spStp (CP CS : Addr) : Sp := fun vs H Q _ => ∃ (F : List Addr) (p d l : Addr) (g : House) (ps : List (Nat × Nat)) (j : Nat), vs = [.ref p, vn j] ∧ PlanAt CP CS H F p d l g ps ∧ ps.length ≤ 1800 ∧
  ∀ (H' : Hp) (b : Addr) (D : List (Nat × Nat)), Same H H' → H b = none → H' b = some (.dK (kD (nv D))) → Steps ps j D → Q (.ref b) H'
theorem scStp : FnScope ["self", "last", "steps", "reached", "place", "earlier", "later"] ["self", "last"] (defScope sStp) := ⟨rfl, rfl, rfl, by decide +kernel, rfl, by decide +kernel, by decide +kernel⟩
theorem ok_stp {f : Addr} {fd : FuncData} (F : Fun K "steps_to" "Plan.steps_to" sStp f fd) (T : Txt K mg CR CS CP) : FnOk P w K mg base CX0 1 f fd ["self", "last"] (spStp CP CS) := by
  refine F.ok scStp (fun vs H Q E h => ?_) (fun cdv A outer s H vs Q E hr h => ?_)
  · obtain ⟨F, p, d, l, g, ps, j, rfl, _⟩ := h
    rfl
  · obtain ⟨F, p, d, l, g, ps, j, rfl, ⟨ad, tp, ⟨dx, hob⟩, hdc, hls, htu, hsy, hfl⟩, hps, k⟩ := h
    have hu := hu_of hr
    refine ⟨_, pss_cons (ps_set (i := 2) scStp.nd rfl (Or.inl rfl) (pe_disp (pps_cons (pv 1) pe_int pps_nil) (by rfl) (by rfl) (fun z => by cases z) (by decide)))
      (pss_cons (ps_set (i := 3) scStp.nd rfl (Or.inl rfl) (pe_lst (pa_cons (pv 1) pa_nil)))
      (pss_cons (ps_set (i := 4) scStp.nd rfl (Or.inl rfl) pe_int)
      (pss_cons (ps_while PassesOwn.never (pt_cmpR op_lt (pv 4) (pe_callB call_len_seq (by rfl) T.len PySem.boot_len (pa_cons (pv 3) pa_nil)) (nomark _))
        (pss_cons (ps_for PassesOwn.never rfl (pi_list (pe_fld (pv 0) rfl)) (pg_tup rfl (pgs_cons (pg_name (i := 5) scStp.nd rfl (Or.inl rfl)) (pgs_cons (pg_name (i := 6) scStp.nd rfl (Or.inl rfl)) pgs_nil)))
          (pss_one (ps_if (PW.pt (pw_and (pt_cmpR op_eq (pv 6) (pe_ix ix_list (pv 3) (pv 4) (fun _ _ => rfl)) (nomark _)) (pw_and1 (pt_cmp (pc_dnotin hu (pv 5) (pv 2))))))
            (pss_cons (ps_dput hu (pv 2) (pv 5) (pe_op op_add (pe_dget hu (pv 2) (pv 6) (fun _ _ => rfl)) pe_int) rfl)
            (pss_one (ps_expr (pe_bm PySem.F.plainAttrs_list PySem.F.slot_list_append PySem.F.type_list_append mt_append (pv 3) (pa_cons (pv 5) pa_nil))))) pss_nil)))
        (pss_one (ps_set (i := 4) scStp.nd rfl (Or.inl rfl) (pe_op op_add (pv 4) pe_int)))))
      (pss_one (ps_ret (pv 2)))))), ?_⟩
    -- steps = {last: 0}
    intro q hq
    refine ⟨_, rfl, ?_⟩
    refine ⟨upd_same, [(Sum.inl (j : Int), vn 0)], rfl, (by show 1 ≤ 15; decide), ?_⟩
    have sq : Same H (upd (upd H q (.dK [])) q (.dK (mergeK [] [(Sum.inl (j : Int), vn 0)]))) := fun b o e => by
      rw [upd_ne (ne_of_none e hq), upd_ne (ne_of_none e hq)]
      exact e
    generalize hH0 : upd (upd H q (.dK [])) q (.dK (mergeK [] [(Sum.inl (j : Int), vn 0)])) = H0 at sq ⊢
    have hq0 : H0 q = some (.dK (kD (nv [(j, 0)]))) := by
      rw [← hH0, upd_same]
      rfl
    -- reached = [last]; place = 0
    refine ⟨_, rfl, (by show 1 ≤ sizeLine; decide), fun r hr0 => ?_⟩
    have nqr : q ≠ r := ne_of_none hq0 hr0
    have hrH : H r = none := sq.free hr0
    have s0 : Same H (upd H0 r (.lst [vn j])) := sq.trans (same_upd hr0)
    refine ⟨fun m σ H1 => ∃ (D : List (Nat × Nat)) (n : Nat) (ve vl : Option V), σ = [some (.ref p), some (vn j), some (.ref q), some (.ref r), some (vn n), ve, vl] ∧ Same H H1 ∧ H1 q = some (.dK (kD (nv D))) ∧ H1 r = some (.lst (vns (D.map (·.1)))) ∧ Stp ps j D n ∧ n ≤ D.length ∧ m = ps.length + 1 - n,
      ⟨_, [(j, 0)], 0, none, none, rfl, s0, by rw [upd_ne nqr]; exact hq0, upd_same, Stp.start ps j, Nat.zero_le _, rfl⟩, ?_⟩
    rintro m σ H1 ⟨D, n, ve, vl, rfl, s1, hq1, hr1, b, hn, rfl⟩
    -- place < len(reached)
    refine ⟨_, rfl, _, rfl, r, _, rfl, .inl (SqL.of hr1), _, _, rfl, rfl, _, rfl, ?_⟩
    rw [vns_len, List.length_map]
    by_cases c : n < D.length
    · refine if_true_of (decide_eq_true (by omega : (n : Int) < (D.length : Int))) ?_
      refine ⟨fun σ' H' => ∃ m', m' < ps.length + 1 - n ∧ ∃ (D : List (Nat × Nat)) (n : Nat) (ve vl : Option V), σ' = [some (.ref p), some (vn j), some (.ref q), some (.ref r), some (vn n), ve, vl] ∧ Same H H' ∧ H' q = some (.dK (kD (nv D))) ∧ H' r = some (.lst (vns (D.map (·.1)))) ∧ Stp ps j D n ∧ n ≤ D.length ∧ m' = ps.length + 1 - n, fun _ _ z => z, ?_⟩
      refine ⟨_, rfl, p, CP, dx, _, _, rfl, s1 _ _ hob, T.clP, T.pPairs, pF_pairs _ _ _, l, rfl, ⟨_, SqL.of (s1 _ _ hls)⟩, for_list (K := K) (a := l) (xs := prsOf tp ps)
        (fun k' σ H2 => ∃ (D : List (Nat × Nat)) (u : Nat × Nat) (ve vl : Option V), σ = [some (.ref p), some (vn j), some (.ref q), some (.ref r), some (vn n), ve, vl] ∧ Same H H2 ∧ H2 q = some (.dK (kD (nv D))) ∧ H2 r = some (.lst (vns (D.map (·.1)))) ∧ Stp ps j D n ∧ D[n]? = some u ∧ ∀ x ∈ ps.take k', x.2 = u.1 → x.1 ∈ D.map (·.1))
        ⟨D, _, ve, vl, rfl, s1, hq1, hr1, b, List.getElem?_eq_getElem c, fun _ z => absurd z List.not_mem_nil⟩ (fun _ σ H2 _ ⟨_, _, _, _, _, s2, _⟩ => SqL.of (s2 _ _ hls)) ?_ ?_⟩
      · rintro k' y σ H2 hi ⟨D, u, ve, vl, rfl, s2, hq2, hr2, b, hu2, hc⟩
        obtain ⟨x, hx, rfl⟩ := map_get hi
        have mx := List.mem_of_getElem? hx
        have hug := keys_get hu2
        refine ⟨tp x, [vn x.1, vn x.2], rfl, SqT.of (s2 _ _ (htu x mx)), rfl, _, _, rfl, _, _, rfl, rfl, ?_⟩
        refine ⟨_, rfl, _, rfl, _, rfl, r, _, _, vn u.1, rfl, rfl, SqL.of hr2, atI_nat (by unfold vns; rw [List.getElem?_map, hug]; rfl), rfl, _, rfl, ?_⟩
        rw [dec_vn]
        by_cases c1 : x.2 = u.1
        · refine if_true_of (decide_eq_true c1) ?_
          refine ⟨_, rfl, _, rfl, q, _, rfl, DGet.k (k := Sum.inl (x.1 : Int)) hq2, _, rfl, ?_⟩
          rw [kD_is x.1 (by rw [nv_keys]; exact b.nd), nv_keys]
          cases c2 : (D.map (·.1)).contains x.1 with
          | true =>
            refine iteF ?_
            refine ⟨D, u, _, _, rfl, s2, hq2, hr2, b, hu2, ?_⟩
            rw [take_more hx]
            intro z hz hn'
            rcases List.mem_append.mp hz with e | e
            · exact hc z e hn'
            · rw [List.mem_singleton.mp e]
              exact List.contains_iff_mem.mp c2
          | false =>
            have ny : x.1 ∉ D.map (·.1) := fun z => by
              rw [List.contains_iff_mem.mpr z] at c2
              cases c2
            refine iteT ?_
            have hlen := b.len
            have hum := List.mem_of_getElem? hu2
            refine ⟨_, rfl, _, rfl, q, vn u.2, rfl, ?_, _, _, rfl, rfl, ?_⟩
            · rw [c1, ← kD_some (by rw [nv_keys]; exact b.nd) (nv_mem hum)]
              exact DGet.k (k := Sum.inl (u.1 : Int)) hq2
            refine ⟨_, rfl, _, rfl, q, _, rfl, DPut.k (k := Sum.inl (x.1 : Int)) hq2 (by rw [kD_len]; unfold nv; rw [List.length_map]; exact big (by omega)), ?_⟩
            rw [kD_put (by rw [nv_keys]; exact ny)]
            have hr3 : ∀ o, (upd H2 q o) r = some (.lst (vns (D.map (·.1)))) := fun o => by rw [upd_ne nqr.symm]; exact hr2
            refine ⟨_, rfl, .inl ⟨rfl, _, SqL.of (hr3 _)⟩, _, rfl, r, _, _, rfl, rfl, hr3 _, (by rw [vns_len, List.length_map]; exact big (by omega)), ?_⟩
            refine ⟨D ++ [(x.1, u.2 + 1)], u, _, _, rfl, ?_, ?_, ?_, b.add hu2 (by rw [← c1]; exact mx) ny, ?_, ?_⟩
            · intro b' o e
              rw [upd_ne (ne_of_none e hrH), upd_ne (ne_of_none e hq)]
              exact s2 b' o e
            · rw [upd_ne nqr, upd_same, ← nv_snoc]
              rfl
            · rw [upd_same, List.map_append, vns_add]
              rfl
            · rw [List.getElem?_append_left (List.getElem?_eq_some_iff.mp hu2).1]
              exact hu2
            · rw [take_more hx, List.map_append]
              intro z hz hn'
              rcases List.mem_append.mp hz with e | e
              · exact List.mem_append_left _ (hc z e hn')
              · rw [List.mem_singleton.mp e]
                exact List.mem_append_right _ (List.mem_singleton.mpr rfl)
        · refine if_false_of (decide_eq_false c1) ?_
          refine iteF ?_
          refine ⟨D, u, _, _, rfl, s2, hq2, hr2, b, hu2, ?_⟩
          rw [take_more hx]
          intro z hz hn'
          rcases List.mem_append.mp hz with e | e
          · exact hc z e hn'
          · rw [List.mem_singleton.mp e] at hn'
            exact absurd hn' c1
      · rintro σ H2 ⟨D, u, ve, vl, rfl, s2, hq2, hr2, b, hu2, hc⟩
        rw [show (prsOf tp ps).length = ps.length from List.length_map .., List.take_length] at hc
        have hlen := b.len
        have hlt := (List.getElem?_eq_some_iff.mp hu2).1
        refine ⟨_, rfl, _, _, rfl, rfl, ?_⟩
        exact ⟨ps.length + 1 - (n + 1), by omega, D, n + 1, _, _, rfl, s2, hq2, hr2, b.next hu2 hc, hlt, rfl⟩
    · refine if_false_of (decide_eq_false (by omega : ¬ (n : Int) < (D.length : Int))) ?_
      refine ⟨_, rfl, ?_⟩
      exact k H1 q D s1 hq hq1 (b.stop (by omega))

/-! ### comes_before -/
abbrev sCB : Stmt := inClass (top 33) 7
def spCB (CP CS : Addr) : Sp := fun vs H Q _ => ∃ (F : List Addr) (p d l : Addr) (g : House) (ps : List (Nat × Nat)) (i j : Nat), vs = [.ref p, vn i, vn j] ∧ PlanAt CP CS H F p d l g ps ∧ Rel g ps ∧ ps.length ≤ 1800 ∧
  ∀ H' : Hp, Same H H' → Q (.bl (Ge02.toldBefore g.before i j)) H'
theorem scCB : FnScope ["self", "first", "second"] ["self", "first", "second"] (defScope sCB) := ⟨rfl, rfl, rfl, by decide +kernel, rfl, by decide +kernel, by decide +kernel⟩
theorem ok_cb {f fS : Addr} {fd fdS : FuncData} (F : Fun K "comes_before" "Plan.comes_before" sCB f fd) (T : Txt K mg CR CS CP) (GS : FnOk P w K mg base CX0 1 fS fdS ["self", "last"] (spStp CP CS)) (bS : Binds K fdS ["self", "last"] []) (mS : Meth K CP "steps_to" fS) : FnOk P w K mg base CX0 2 f fd ["self", "first", "second"] (spCB CP CS) := by
  refine F.ok scCB (fun vs H Q E h => ?_) (fun cdv A outer s H vs Q E hr h => ?_)
  · obtain ⟨F, p, d, l, g, ps, i, j, rfl, _⟩ := h
    rfl
  · obtain ⟨F, p, d, l, g, ps, i, j, rfl, hP, R, hps, k⟩ := h
    have hu := hu_of hr
    obtain ⟨ad, tp, ⟨dx, hob⟩, hdc, hls, htu, hsy, hfl⟩ := id hP
    refine ⟨_, pss_one (ps_ret (pe_and (pe_cmpR op_ne (pv 1) (pv 2) (nomark _)) (pe_one (pe_cmp (pc_din hu (pv 1) (pe_meth (pv 0) T.clP mS GS hr bS .nil pass0 (pa_cons (pv 2) pa_nil))) rfl)))), ?_⟩
    refine ⟨_, rfl, _, rfl, rfl, _, rfl, ?_⟩
    by_cases c : i = j
    · have e : Ge02.toldBefore g.before i j = false := told_false.mpr (by rw [c]; exact R.good.ac j)
      rw [e] at k
      refine if_false_of (by rw [c]; simp) ?_
      exact k H (Same.refl H)
    · refine if_true_of (by rw [decide_eq_false (fun q => c (by have := V.int.inj q; omega))]; rfl) ?_
      refine ⟨_, rfl, _, rfl, p, dx, _, rfl, hob, pF_no _ _ _ (by decide +kernel) (by decide +kernel) (by decide +kernel), _, rfl, F, p, d, l, g, ps, j, rfl, hP, hps, fun H1 b D s1 hb hbD sD => ?_⟩
      refine ⟨b, _, rfl, DGet.k (k := Sum.inl (i : Int)) hbD, ?_⟩
      rw [kD_is i (by rw [nv_keys]; exact sD.nd), nv_keys, sD.told c, told_same (fun x => R.mem x) i j]
      exact k H1 s1
end
end Sr

/-! Plan: next_in_order, in_order, must_be_over. -/
namespace Sr
open PySem PySem.Spec PyProof.Rows L2
open Ge02 (House Sys)

/-! ### what next_in_order waits for, and what it chooses from -/
def waitOf (done : List Nat) (ps : List (Nat × Nat)) : List Nat := (ps.filter fun x => !done.contains x.1).map (·.2)
theorem wait_iff {done : List Nat} {ps : List (Nat × Nat)} {n : Nat} : n ∈ waitOf done ps ↔ ∃ x ∈ ps, x.2 = n ∧ x.1 ∉ done := by
  unfold waitOf
  rw [List.mem_map]
  constructor
  · rintro ⟨x, hx, e⟩
    obtain ⟨h1, h2⟩ := List.mem_filter.mp hx
    refine ⟨x, h1, e, fun q => ?_⟩
    rw [List.contains_iff_mem.mpr q] at h2
    cases h2
  · rintro ⟨x, hx, e, hn⟩
    refine ⟨x, List.mem_filter.mpr ⟨hx, ?_⟩, e⟩
    cases q : done.contains x.1 with
    | false => rfl
    | true => exact absurd (List.contains_iff_mem.mp q) hn
theorem free_wait {done : List Nat} {ps : List (Nat × Nat)} {n : Nat} : Free ps done n ↔ n ∉ done ∧ n ∉ waitOf done ps := by
  unfold Free
  rw [wait_iff]
  constructor
  · rintro ⟨h1, h2⟩
    exact ⟨h1, fun ⟨x, hx, e, hn⟩ => hn (h2 x hx e)⟩
  · rintro ⟨h1, h2⟩
    exact ⟨h1, fun x hx e => Classical.byContradiction fun q => h2 ⟨x, hx, e, q⟩⟩
def candOf (done wt l : List Nat) : List Nat := l.filter fun n => !done.contains n && !wt.contains n
theorem cand_iff {done wt l : List Nat} {n : Nat} : n ∈ candOf done wt l ↔ n ∈ l ∧ n ∉ done ∧ n ∉ wt := by
  unfold candOf
  rw [List.mem_filter, Bool.and_eq_true, Bool.not_eq_true', Bool.not_eq_true']
  have e : ∀ m : List Nat, m.contains n = false ↔ n ∉ m := fun m => by
    rw [← List.contains_iff_mem]
    cases m.contains n <;> simp
  rw [e, e]
theorem wait_snoc {done : List Nat} {ps : List (Nat × Nat)} {i : Nat} {x : Nat × Nat} (h : ps[i]? = some x) : waitOf done (ps.take (i + 1)) = if x.1 ∈ done then waitOf done (ps.take i) else waitOf done (ps.take i) ++ [x.2] := by
  unfold waitOf
  rw [take_more h, List.filter_append, List.map_append, List.filter_cons, List.filter_nil]
  by_cases c : x.1 ∈ done
  · rw [if_pos c, List.contains_iff_mem.mpr c]
    exact List.append_nil _
  · rw [if_neg c]
    have : done.contains x.1 = false := by
      cases q : done.contains x.1 with
      | false => rfl
      | true => exact absurd (List.contains_iff_mem.mp q) c
    rw [this]
    rfl
theorem cand_snoc {done wt l : List Nat} {i n : Nat} (h : l[i]? = some n) : candOf done wt (l.take (i + 1)) = if (!done.contains n && !wt.contains n) = true then candOf done wt (l.take i) ++ [n] else candOf done wt (l.take i) := by
  unfold candOf
  rw [take_more h, List.filter_append, List.filter_cons, List.filter_nil]
  split
  · rfl
  · exact List.append_nil _
theorem filter_len {l : List Nat} {p : Nat → Bool} : (l.filter p).length ≤ l.length := List.length_filter_le ..
theorem wait_len (done : List Nat) (ps : List (Nat × Nat)) : (waitOf done ps).length ≤ ps.length := by
  unfold waitOf
  rw [List.length_map]
  exact List.length_filter_le ..
theorem vns_snoc (l : List Nat) (n : Nat) : vns l ++ [vn n] = vns (l ++ [n]) := by
  unfold vns
  rw [List.map_append]
  rfl
theorem vns_map (l : List Nat) : vns l = (l.map fun (n : Nat) => (n : Int)).map V.int := by
  unfold vns
  rw [List.map_map]
  rfl

section
variable {P : Program} {w : World} {K : PySem.W.Frag} {mg : Str → Option Value} {base : Heap} {CR CS CP : Addr}
abbrev sNext : Stmt := inClass (top 33) 13
def spNext (CP CS : Addr) : Sp := fun vs H Q _ => ∃ (F : List Addr) (p d l a : Addr) (g : House) (ps : List (Nat × Nat)) (done : List Nat), vs = [.ref p, .ref a] ∧ PlanAt CP CS H F p d l g ps ∧ Rel g ps ∧ ps.length ≤ 1800 ∧ H a = some (.lst (vns done)) ∧ done.length < (nums g).length ∧
  ∀ (H' : Hp) (m : Nat), Same H H' → nextOf g.before (nums g) done = some m → Q (vn m) H'
abbrev nNext : List Str := ["self", "placed", "waiting", "earlier", "later", "number"]
theorem scNext : FnScope nNext ["self", "placed"] (defScope sNext) := ⟨rfl, rfl, rfl, by decide +kernel, rfl, by decide +kernel, by decide +kernel⟩
theorem kvs_len (ad : Nat → Addr) (ss : List Sys) : (kvsOf ad ss).length = ss.length := List.length_map ..
theorem kvs_get {ad : Nat → Addr} {g : House} {i : Nat} {k : Key} {v : V} (h : (kvsOf ad g.systems)[i]? = some (k, v)) : ∃ n, (nums g)[i]? = some n ∧ k = Sum.inl (n : Int) := by
  obtain ⟨s, hs, e⟩ := map_get h
  refine ⟨s.number, ?_, (Prod.mk.inj e).1⟩
  show (g.systems.map fun s => s.number)[i]? = _
  rw [List.getElem?_map, hs]
  rfl
theorem ok_next {f : Addr} {fd : FuncData} (F : Fun K "next_in_order" "Plan.next_in_order" sNext f fd) (T : Txt K mg CR CS CP) : FnOk P w K mg base CX0 1 f fd ["self", "placed"] (spNext CP CS) := by
  refine F.ok scNext (fun vs H Q E h => ?_) (fun cdv A outer s H vs Q E hr h => ?_)
  · obtain ⟨F, p, d, l, a, g, ps, done, rfl, _⟩ := h
    rfl
  · obtain ⟨F, p, d, l, a, g, ps, done, rfl, ⟨ad, tp, ⟨dx, hob⟩, hdc, hls, htu, hsy, hfl⟩, R, hps, ha, hlt, k⟩ := h
    refine ⟨_, pss_cons (ps_set (i := 2) scNext.nd rfl (Or.inr rfl)
        (pe_lc (own := [("earlier", 3), ("later", 4)]) (g := gTup K 2 (gCons (gName 3) (gCons (gName 4) gNil))) (tt := tTest (tOp (rIn K true) (tVar 3) (tVar 1))) (te := tVar 4) rfl scNext.nd (pi_list (pe_fld (pv 0) rfl)) (blkOk_by (N := nNext) (sc := defScope sNext) (by decide +kernel))
          (fun _ _ _ _ _ => pg_tup rfl (pgs_cons (pg_name (i := 3) scNext.nd rfl (Or.inl rfl)) (pgs_cons (pg_name (i := 4) scNext.nd rfl (Or.inl rfl)) pgs_nil)))
          (fun _ _ _ _ _ => pts_one (pt_cmpR op_notIn_seq (pv 3) (pv 1) rfl))
          (fun _ _ _ _ _ => pv 4)))
      (pss_one (ps_ret (pe_callB (cr_min rfl) (by rfl) T.min (by decide +kernel) (pa_cons (pe_lock
        (pe_lc (own := [("number", 5)]) (g := gName 5) (tt := tAnd (tTest (tOp (rIn K true) (tVar 5) (tVar 1))) (tTest (tOp (rIn K true) (tVar 5) (tVar 2)))) (te := tVar 5) rfl scNext.nd (pi_keys (pe_fld (pv 0) rfl)) (blkOk_by (N := nNext) (sc := defScope sNext) (by decide +kernel))
          (fun _ _ _ _ _ => pg_name (i := 5) scNext.nd rfl (Or.inl rfl))
          (fun _ _ _ _ _ => pts_one (PW.pt (pw_and (pt_cmpR op_notIn_seq (pv 5) (pv 1) rfl) (pw_and1 (pt_cmpR op_notIn_seq (pv 5) (pv 2) rfl)))))
          (fun _ _ _ _ _ => pv 5))) pa_nil)))), ?_⟩
    -- waiting = [later for earlier, later in self.pairs if earlier not in placed]
    refine ⟨_, rfl, p, CP, dx, _, _, rfl, hob, T.clP, T.pPairs, pF_pairs _ _ _, l, rfl, ⟨_, SqL.of hls⟩, fun D hD => ?_⟩
    refine lc_list (K := K) (a := l) (xs := prsOf tp ps) (fun i H' => Same H H' ∧ H' D = some (.lst (vns (waitOf done (ps.take i))))) ⟨same_upd hD, upd_same⟩ (fun i H' _ ⟨s1, _⟩ => SqL.of (s1 _ _ hls)) ?_ ?_
    · rintro i y H' hi ⟨s1, hD1⟩
      obtain ⟨x, hx, rfl⟩ := map_get hi
      have mx := List.mem_of_getElem? hx
      refine ⟨tp x, [vn x.1, vn x.2], rfl, SqT.of (s1 _ _ (htu x mx)), rfl, _, _, rfl, _, _, rfl, rfl, rfl, ?_⟩
      refine ⟨_, rfl, _, rfl, a, _, rfl, .inl (SqL.of (s1 _ _ ha)), rfl, vns_flat _, _, rfl, ?_⟩
      show if (!inV (vn x.1) (vns done)) = true then _ else _
      rw [inV_vns]
      by_cases c : x.1 ∈ done
      · rw [List.contains_iff_mem.mpr c]
        refine iteF ⟨s1, ?_⟩
        rw [wait_snoc hx, if_pos c]
        exact hD1
      · have c' : done.contains x.1 = false := by
          cases q : done.contains x.1 with
          | false => rfl
          | true => exact absurd (List.contains_iff_mem.mp q) c
        rw [c']
        refine iteT ?_
        have hwl := wait_len done (ps.take i)
        rw [List.length_take] at hwl
        refine ⟨_, rfl, _, hD1, (by rw [vns_len]; exact big (by omega)), fun b o e => ?_, ?_⟩
        · rw [upd_ne (ne_of_none e hD)]
          exact s1 b o e
        · rw [upd_same, wait_snoc hx, if_neg c]
          exact congrArg (fun z => some (HO.lst z)) (vns_snoc _ _)
    · rintro H1 ⟨s1, hD1⟩
      rw [show (prsOf tp ps).length = ps.length from List.length_map .., List.take_length] at hD1
      -- min([number for number in self.systems if ..])
      refine ⟨d, _, s1 _ _ hdc, trivial, fun od => ?_⟩
      have ndp : p ≠ d := ne_of (s1 _ _ hob) (s1 _ _ hdc) (by intro z; cases z)
      have nda : a ≠ d := ne_of (s1 _ _ ha) (s1 _ _ hdc) (by intro z; cases z)
      have ndD : D ≠ d := ne_of hD1 (s1 _ _ hdc) (by intro z; cases z)
      have ob2 : upd H1 d (.frz od (.dK (kvsOf ad g.systems))) p = some (.ins CP dx (pF g.given d l)) := by rw [upd_ne ndp]; exact s1 _ _ hob
      refine ⟨_, rfl, p, CP, dx, _, _, rfl, ob2, T.clP, T.pSystems, pF_systems _ _ _, d, od, rfl, .inl ⟨_, upd_same, ?_⟩⟩
      intro D2 hD2
      have hD2' : H1 D2 = none := by
        have : D2 ≠ d := fun z => by
          rw [z, upd_same] at hD2
          cases hD2
        rw [upd_ne this] at hD2
        exact hD2
      have n2a : a ≠ D2 := ne_of_none (s1 _ _ ha) hD2'
      have n2D : D ≠ D2 := ne_of_none hD1 hD2'
      have n2d : d ≠ D2 := ne_of_none (s1 _ _ hdc) hD2'
      refine lc_it walk_keys (fun i H' => (∀ b o, H1 b = some o → b ≠ d → H' b = some o) ∧ H' d = some (.frz od (.dK (kvsOf ad g.systems))) ∧ H' D2 = some (.lst (vns (candOf done (waitOf done ps) ((nums g).take i)))))
        ⟨fun b o e hb => by rw [upd_ne (ne_of_none e hD2'), upd_ne hb]; exact e, by rw [upd_ne n2d, upd_same], upd_same⟩ (fun i H' _ ⟨_, h, _⟩ => h) ?_ ?_
      · rintro i y H2 H3 hi ⟨k2, hd2, hc2⟩ ⟨rfl, key, v, hkv, rfl⟩
        obtain ⟨n, hn, rfl⟩ := kvs_get hkv
        refine ⟨rfl, ?_⟩
        have hcl : (candOf done (waitOf done ps) ((nums g).take i)).length ≤ 10 := by
          refine Nat.le_trans (filter_len (l := (nums g).take i)) ?_
          rw [List.length_take, nums_len]
          have := R.good.most
          omega
        refine ⟨_, rfl, _, rfl, a, _, rfl, .inl (SqL.of (k2 _ _ (s1 _ _ ha) nda)), rfl, vns_flat _, _, rfl, ?_⟩
        show if (!inV (vn n) (vns done)) = true then _ else _
        rw [inV_vns]
        have es := cand_snoc (done := done) (wt := waitOf done ps) hn
        cases c1 : done.contains n with
        | true =>
          refine iteF (iteF ⟨k2, hd2, ?_⟩)
          rw [es, c1]
          exact hc2
        | false =>
          refine iteT ?_
          refine ⟨_, rfl, _, rfl, D, _, rfl, .inl (SqL.of (k2 _ _ hD1 ndD)), rfl, vns_flat _, _, rfl, ?_⟩
          show if (!inV (vn n) (vns (waitOf done ps))) = true then _ else _
          rw [inV_vns]
          cases c2 : (waitOf done ps).contains n with
          | true =>
            refine iteF ⟨k2, hd2, ?_⟩
            rw [es, c1, c2]
            exact hc2
          | false =>
            refine iteT ?_
            refine ⟨_, rfl, _, hc2, (by rw [vns_len]; exact big (by omega)), fun b o e hb => ?_, ?_, ?_⟩
            · rw [upd_ne (ne_of_none e hD2')]
              exact k2 b o e hb
            · rw [upd_ne n2d]
              exact hd2
            · rw [upd_same, es, c1, c2]
              exact congrArg (fun z => some (HO.lst z)) (vns_snoc _ _)
      · rintro H2 ⟨k2, hd2, hc2⟩
        rw [kvs_len, ← nums_len, List.take_length] at hc2
        refine ⟨hd2, ?_⟩
        have hc3 : upd H2 d (.dK (kvsOf ad g.systems)) D2 = some (.lst (vns (candOf done (waitOf done ps) (nums g)))) := by rw [upd_ne n2d.symm]; exact hc2
        rw [vns_map] at hc3
        obtain ⟨m, hm, fm⟩ := R.next hlt
        have hmc : m ∈ candOf done (waitOf done ps) (nums g) := cand_iff.mpr ⟨hm, free_wait.mp fm⟩
        refine ⟨D2, _, rfl, SqL.of hc3, (by rw [List.length_map]; exact List.length_pos_of_mem hmc), fun z hz hle => ?_⟩
        obtain ⟨n, hn, rfl⟩ := List.mem_map.mp hz
        obtain ⟨c1, c2⟩ := cand_iff.mp hn
        refine k _ n (fun b o e => ?_) (R.least c1 (free_wait.mpr c2) fun y hy fy => ?_)
        · by_cases hb : b = d
          · subst hb
            rw [upd_same, ← hdc]
            exact e
          · rw [upd_ne hb]
            exact k2 b o (s1 b o e) hb
        · have := hle (y : Int) (List.mem_map.mpr ⟨y, cand_iff.mpr ⟨hy, free_wait.mp fy⟩, rfl⟩)
          omega
end
end Sr

/-! Plan: in_order, must_be_over, first_round, in_rounds. -/
namespace Sr
open PySem PySem.Spec PyProof.Rows L2
open Ge02 (House Sys)
section
variable {P : Program} {w : World} {K : PySem.W.Frag} {mg : Str → Option Value} {base : Heap} {CR CS CP : Addr}

/-! ### in_order -/
abbrev sOrd : Stmt := inClass (top 33) 14
def spOrd (CP CS : Addr) : Sp := fun vs H Q _ => ∃ (F : List Addr) (p d l : Addr) (g : House) (ps : List (Nat × Nat)), vs = [.ref p] ∧ PlanAt CP CS H F p d l g ps ∧ Rel g ps ∧ ps.length ≤ 1800 ∧
  ∀ (H' : Hp) (b : Addr), Same H H' → H b = none → H' b = some (.lst (vns (Ge02.order g))) → Q (.ref b) H'
theorem scOrd : FnScope ["self", "placed"] ["self"] (defScope sOrd) := ⟨rfl, rfl, rfl, by decide +kernel, rfl, by decide +kernel, by decide +kernel⟩
theorem ok_ord {f fN : Addr} {fd fdN : FuncData} (F : Fun K "in_order" "Plan.in_order" sOrd f fd) (T : Txt K mg CR CS CP) (GN : FnOk P w K mg base CX0 1 fN fdN ["self", "placed"] (spNext CP CS)) (bN : Binds K fdN ["self", "placed"] []) (mN : Meth K CP "next_in_order" fN) :
    FnOk P w K mg base CX0 2 f fd ["self"] (spOrd CP CS) := by
  refine F.ok scOrd (fun vs H Q E h => ?_) (fun cdv A outer s H vs Q E hr h => ?_)
  · obtain ⟨F, p, d, l, g, ps, rfl, _⟩ := h
    rfl
  · obtain ⟨F, p, d, l, g, ps, rfl, hP, R, hps, k⟩ := h
    obtain ⟨ad, tp, ⟨dx, hob⟩, hdc, hls, htu, hsy, hfl⟩ := id hP
    refine ⟨_, pss_cons (ps_set (i := 1) scOrd.nd rfl (Or.inl rfl) (pe_lst pa_nil))
      (pss_cons (ps_while PassesOwn.never (pt_cmpR op_lt (pe_callB call_len_seq (by rfl) T.len PySem.boot_len (pa_cons (pv 1) pa_nil)) (pe_callB call_lenD (by rfl) T.len PySem.boot_len (pa_cons (pe_fld (pv 0) rfl) pa_nil)) (nomark _))
        (pss_one (ps_expr (pe_bm PySem.F.plainAttrs_list PySem.F.slot_list_append PySem.F.type_list_append mt_append (pv 1) (pa_cons (pe_meth (pv 0) T.clP mN GN hr bN .nil pass0 (pa_cons (pv 1) pa_nil)) pa_nil)))))
      (pss_one (ps_ret (pv 1)))), ?_⟩
    refine ⟨Nat.zero_le _, fun q hq => ?_⟩
    have s0 := same_upd (o := HO.lst []) hq
    refine ⟨fun m σ H1 => ∃ (done : List Nat), σ = [some (.ref p), some (.ref q)] ∧ Same H H1 ∧ H1 q = some (.lst (vns done)) ∧ Ord g.before (nums g) done ∧ m = (nums g).length - done.length,
      ⟨_, [], rfl, s0, upd_same, Ord.start _ _, rfl⟩, ?_⟩
    rintro m σ H1 ⟨done, rfl, s1, hR, o, rfl⟩
    refine ⟨_, rfl, q, _, rfl, .inl (SqL.of hR), _, rfl, p, CP, dx, _, _, rfl, s1 _ _ hob, T.clP, T.pSystems, pF_systems _ _ _, d, _, rfl, s1 _ _ hdc, _, _, rfl, rfl, _, rfl, ?_⟩
    rw [vns_len, kvs_len, ← nums_len]
    by_cases c : done.length < (nums g).length
    · refine if_true_of (decide_eq_true (by omega : (done.length : Int) < ((nums g).length : Int))) ?_
      refine ⟨fun σ' H' => ∃ m', m' < (nums g).length - done.length ∧ ∃ (done : List Nat), σ' = [some (.ref p), some (.ref q)] ∧ Same H H' ∧ H' q = some (.lst (vns done)) ∧ Ord g.before (nums g) done ∧ m' = (nums g).length - done.length, fun _ _ z => z, ?_⟩
      refine ⟨_, rfl, .inl ⟨rfl, _, SqL.of hR⟩, _, rfl, p, dx, _, rfl, s1 _ _ hob, pF_no _ _ _ (by decide +kernel) (by decide +kernel) (by decide +kernel), _, rfl, F, p, d, l, q, g, ps, done, rfl, hP.same s1, R, hps, hR, c, fun H2 n s2 hn => ?_⟩
      have hlen : done.length ≤ 10 := by
        rw [nums_len] at c
        have := R.good.most
        omega
      refine ⟨q, _, _, rfl, rfl, s2 _ _ hR, (by rw [vns_len]; exact big (by omega)), ?_⟩
      refine ⟨_, ?_, done ++ [n], rfl, ?_, ?_, o.step c hn, rfl⟩
      · rw [List.length_append, List.length_singleton]
        omega
      · intro b o' e
        rw [upd_ne (ne_of_none e hq)]
        exact s2 _ _ (s1 b o' e)
      · rw [upd_same, vns_snoc]
    · refine if_false_of (decide_eq_false (by omega : ¬ (done.length : Int) < ((nums g).length : Int))) ?_
      refine ⟨_, rfl, ?_⟩
      refine k H1 q s1 hq ?_
      rw [order_stop o c]
      exact hR

/-! ### must_be_over -/
abbrev sMust : Stmt := inClass (top 33) 15
def spMust (CP CS : Addr) : Sp := fun vs H Q _ => ∃ (F : List Addr) (p d l : Addr) (g : House) (ps : List (Nat × Nat)) (i j : Nat), vs = [.ref p, vn i, vn j] ∧ PlanAt CP CS H F p d l g ps ∧ Rel g ps ∧ ps.length ≤ 1800 ∧ i ≠ j ∧ i ∈ nums g ∧ j ∈ nums g ∧
  ∀ H' : Hp, Same H H' → Q (.bl (Ge02.must g i j)) H'
theorem scMust : FnScope ["self", "earlier", "later"] ["self", "earlier", "later"] (defScope sMust) := ⟨rfl, rfl, rfl, by decide +kernel, rfl, by decide +kernel, by decide +kernel⟩
theorem must_true {g : House} {i j : Nat} (h : Ge02.toldBefore g.before i j = true) : Ge02.must g i j = true := by
  unfold Ge02.must
  rw [h]
  rfl
theorem must_clash {g : House} {i j : Nat} {s t : Sys} (h : Ge02.toldBefore g.before i j = false) (hs : Ge02.sysOf g i = some s) (ht : Ge02.sysOf g j = some t) : Ge02.must g i j = Ge02.clash s t := by
  unfold Ge02.must
  rw [h, hs, ht]
  rfl
theorem ok_must {f fB fC : Addr} {fd fdB fdC : FuncData} (F : Fun K "must_be_over" "Plan.must_be_over" sMust f fd) (T : Txt K mg CR CS CP) (GB : FnOk P w K mg base CX0 2 fB fdB ["self", "first", "second"] (spCB CP CS)) (bB : Binds K fdB ["self", "first", "second"] []) (mB : Meth K CP "comes_before" fB)
    (GC : FnOk P w K mg base CX0 4 fC fdC ["one", "other"] (spClash CS)) (bC : Binds K fdC ["one", "other"] []) (gC : mg "clash" = some (.ref fC)) (kC : PySem.W.keepIn K (.ref fC) = true) :
    FnOk P w K mg base CX0 5 f fd ["self", "earlier", "later"] (spMust CP CS) := by
  refine F.ok scMust (fun vs H Q E h => ?_) (fun cdv A outer s H vs Q E hr h => ?_)
  · obtain ⟨F, p, d, l, g, ps, i, j, rfl, _⟩ := h
    rfl
  · obtain ⟨F, p, d, l, g, ps, i, j, rfl, hP, R, hps, ne, hi, hj, k⟩ := h
    have hu := hu_of hr
    have hr1 : Room 2 _ := hr.mono (by decide)
    obtain ⟨ad, tp, ⟨dx, hob⟩, hdc, hls, htu, hsy, hfl⟩ := id hP
    refine ⟨_, pss_one (ps_ret (pe_or (pe_meth (pv 0) T.clP mB GB hr1 bB .nil pass0 (pa_cons (pv 1) (pa_cons (pv 2) pa_nil)))
      (pe_one (pe_call GC hr rfl gC kC bC .nil pass0 (pa_cons (pe_dget hu (pe_fld (pv 0) rfl) (pv 1) (fun _ _ => rfl)) (pa_cons (pe_dget hu (pe_fld (pv 0) rfl) (pv 2) (fun _ _ => rfl)) pa_nil)))))), ?_⟩
    refine ⟨_, rfl, p, dx, _, rfl, hob, pF_no _ _ _ (by decide +kernel) (by decide +kernel) (by decide +kernel), _, rfl, _, rfl, F, p, d, l, g, ps, i, j, rfl, hP, R, hps, fun H1 s1 => ⟨_, rfl, ?_⟩⟩
    cases c : Ge02.toldBefore g.before i j with
    | true =>
      refine iteT ?_
      rw [must_true c] at k
      exact k H1 s1
    | false =>
      refine iteF ?_
      obtain ⟨si, hsi⟩ := sysOf_mem hi
      obtain ⟨sj, hsj⟩ := sysOf_mem hj
      obtain ⟨mi, ei⟩ := sysOf_some hsi
      obtain ⟨mj, ej⟩ := sysOf_some hsj
      obtain ⟨ri, wi, _, _, hSi⟩ := hsy si mi
      obtain ⟨rj, wj, _, _, hSj⟩ := hsy sj mj
      rw [ei] at hSi
      rw [ej] at hSj
      have hd1 := s1 _ _ hdc
      refine ⟨_, rfl, p, CP, dx, _, _, rfl, s1 _ _ hob, T.clP, T.pSystems, pF_systems _ _ _, _, rfl, d, V.ref (ad i), rfl, ?_, ?_⟩
      · rw [← val_some (ad := ad) hsi]
        exact DGet.k (k := Sum.inl (i : Int)) hd1
      refine ⟨_, rfl, p, CP, dx, _, _, rfl, s1 _ _ hob, T.clP, T.pSystems, pF_systems _ _ _, _, rfl, d, V.ref (ad j), rfl, ?_, ?_⟩
      · rw [← val_some (ad := ad) hsj]
        exact DGet.k (k := Sum.inl (j : Int)) hd1
      refine ⟨ad i, ri, wi, ad j, rj, wj, si, sj, rfl, hSi.same s1, hSj.same s1, (R.good.ok si mi).2.1, (R.good.ok sj mj).2.1, fun H2 s2 => ?_⟩
      rw [must_clash c hsi hsj] at k
      exact k H2 (s1.trans s2)

/-! ### rounds in the heap -/
structure RdsA (H : Hp) (a : Addr) (as : List Addr) (L : List (List Nat)) : Prop where
  ls : H a = some (.lst (as.map V.ref))
  len : as.length = L.length
  at_ : ∀ (k : Nat) (b : Addr) (x : List Nat), as[k]? = some b → L[k]? = some x → H b = some (.lst (vns x))
theorem RdsA.same {H H' : Hp} {a : Addr} {as : List Addr} {L : List (List Nat)} (r : RdsA H a as L) (s : Same H H') : RdsA H' a as L := ⟨s _ _ r.ls, r.len, fun k b x h1 h2 => s _ _ (r.at_ k b x h1 h2)⟩
theorem RdsA.get {H : Hp} {a : Addr} {as : List Addr} {L : List (List Nat)} (r : RdsA H a as L) {k : Nat} {x : List Nat} (h : L[k]? = some x) : ∃ b, as[k]? = some b ∧ H b = some (.lst (vns x)) := by
  have hk := (List.getElem?_eq_some_iff.mp h).1
  have hk' : k < as.length := by
    rw [r.len]
    exact hk
  exact ⟨as[k], List.getElem?_eq_getElem hk', r.at_ k _ x (List.getElem?_eq_getElem hk') h⟩

/-! ### first_round -/
abbrev sFirst : Stmt := inClass (top 33) 16
def spFirst (CP CS : Addr) : Sp := fun vs H Q _ => ∃ (F : List Addr) (p d l a : Addr) (as : List Addr) (g : House) (ps m : List (Nat × Nat)) (n : Nat), vs = [.ref p, .ref a, vn n] ∧ PlanAt CP CS H F p d l g ps ∧ Rel g ps ∧ ps.length ≤ 1800 ∧ RdsA H a as (lay m) ∧ n ∈ nums g ∧
  (∀ x ∈ m, x.1 ∈ nums g ∧ x.1 ≠ n) ∧ m.length ≤ 100 ∧ ∀ H' : Hp, Same H H' → Q (vn (rnd (Ge02.must g) m n)) H'
abbrev nFirst : List Str := ["self", "rounds", "number", "found", "place", "members", "earlier"]
theorem scFirst : FnScope nFirst ["self", "rounds", "number"] (defScope sFirst) := ⟨rfl, rfl, rfl, by decide +kernel, rfl, by decide +kernel, by decide +kernel⟩
theorem members_len (m : List (Nat × Nat)) (r : Nat) : (members m r).length ≤ m.length := by
  unfold members
  rw [List.length_map]
  exact List.length_filter_le ..
theorem ok_first {f fM : Addr} {fd fdM : FuncData} (F : Fun K "first_round" "Plan.first_round" sFirst f fd) (T : Txt K mg CR CS CP) (GM : FnOk P w K mg base CX0 5 fM fdM ["self", "earlier", "later"] (spMust CP CS)) (bM : Binds K fdM ["self", "earlier", "later"] []) (mM : Meth K CP "must_be_over" fM) :
    FnOk P w K mg base CX0 6 f fd ["self", "rounds", "number"] (spFirst CP CS) := by
  refine F.ok scFirst (fun vs H Q E h => ?_) (fun cdv A outer s H vs Q E hr h => ?_)
  · obtain ⟨F, p, d, l, a, as, g, ps, m, n, rfl, _⟩ := h
    rfl
  · obtain ⟨F, p, d, l, a, as, g, ps, m, n, rfl, hP, R, hps, hA, hn, hm, hml, k⟩ := h
    obtain ⟨ad, tp, ⟨dx, hob⟩, hdc, hls, htu, hsy, hfl⟩ := id hP
    refine ⟨_, pss_cons (ps_set (i := 3) scFirst.nd rfl (Or.inl rfl) pe_int)
      (pss_cons (ps_for PassesOwn.never rfl (pi_enum (by rfl) T.enumerate (pa_cons (pv 1) pa_nil)) (pg_tup rfl (pgs_cons (pg_name (i := 4) scFirst.nd rfl (Or.inl rfl)) (pgs_cons (pg_name (i := 5) scFirst.nd rfl (Or.inl rfl)) pgs_nil)))
        (pss_one (ps_if (pt_val (pe_callB (cr_any rfl) (by rfl) T.any (by decide +kernel) (pa_cons
            (pe_lc (own := [("earlier", 6)]) (g := gName 6) (tt := tYes) (te := tMeth CP "must_be_over" (spMust CP CS) [] E0 (tVar 0) (tCons (tVar 6) (tCons (tVar 2) tNil))) rfl scFirst.nd (pi_list (pv 5)) (blkOk_by (N := nFirst) (sc := defScope sFirst) (by decide +kernel))
              (fun _ _ _ _ _ => pg_name (i := 6) scFirst.nd rfl (Or.inl rfl))
              (fun _ _ _ _ _ => pts_nil)
              (fun _ _ _ _ _ => pe_meth (pv 0) T.clP mM GM hr bM .nil pass0 (pa_cons (pv 6) (pa_cons (pv 2) pa_nil)))) pa_nil)))
          (pss_one (ps_set (i := 3) scFirst.nd rfl (Or.inl rfl) (pe_op op_add (pv 4) pe_int))) pss_nil)))
      (pss_one (ps_ret (pv 3)))), ?_⟩
    refine ⟨_, rfl, a, _, rfl, SqL.of hA.ls, ?_⟩
    refine for_it walk_enum (fun i σ H' => ∃ (v4 v5 : Option V), σ = [some (.ref p), some (.ref a), some (vn n), some (vn (found (Ge02.must g) m n i)), v4, v5, none] ∧ Same H H')
      ⟨none, none, rfl, Same.refl H⟩ (fun i σ H' _ ⟨_, _, _, s1⟩ => SqL.of (s1 _ _ hA.ls)) ?_ ?_
    · rintro i y σ H1 H2 hi ⟨v4, v5, rfl, s1⟩ ⟨t, x1, x2, rfl, ht, rfl, e1, e2⟩
      cases e1
      obtain ⟨b, hb, rfl⟩ := map_get e2
      rw [List.length_map, hA.len, lay_len] at hi
      have hbL := hA.at_ i b _ hb (lay_get hi)
      have s2 : Same H (upd H1 t (.tup [V.int (i : Nat), V.ref b])) := s1.trans (same_upd ht)
      refine ⟨t, _, rfl, SqT.of upd_same, rfl, _, _, rfl, _, _, rfl, rfl, ?_⟩
      -- any([self.must_be_over(earlier, number) for earlier in members])
      refine ⟨_, rfl, b, rfl, ⟨_, SqL.of (s2 _ _ hbL)⟩, fun D hD => ?_⟩
      have hD0 : H D = none := s2.free hD
      refine lc_list (K := K) (a := b) (xs := vns (members m i)) (fun j H' => Same H H' ∧ H' D = some (.lst ((((members m i).take j).map fun e => Ge02.must g e n).map V.bl)))
        ⟨s2.trans (same_upd hD), upd_same⟩ (fun j H' _ ⟨s3, _⟩ => SqL.of (s3 _ _ hbL)) ?_ ?_
      · rintro j y H3 hj ⟨s3, hD3⟩
        obtain ⟨e, he, rfl⟩ := map_get hj
        have me := mem_members.mp (List.mem_of_getElem? he)
        obtain ⟨q1, q2⟩ := hm _ me
        refine ⟨rfl, ?_⟩
        show tMeth CP "must_be_over" (spMust CP CS) [] E0 (tVar 0) (tCons (tVar 6) (tCons (tVar 2) tNil)) _ _ _
        refine ⟨_, rfl, p, dx, _, rfl, s3 _ _ hob, pF_no _ _ _ (by decide +kernel) (by decide +kernel) (by decide +kernel), _, rfl, _, rfl, F, p, d, l, g, ps, e, n, rfl, hP.same s3, R, hps, q2, q1, hn, fun H4 s4 => ?_⟩
        have hlen := members_len m i
        refine ⟨_, s4 _ _ hD3, (by rw [List.length_map, List.length_map, List.length_take]; exact big (by omega)), fun c o z => ?_, ?_⟩
        · rw [upd_ne (ne_of_none z hD0)]
          exact s4 _ _ (s3 c o z)
        · rw [upd_same, take_more he, List.map_append, List.map_append]
          rfl
      · rintro H3 ⟨s3, hD3⟩
        rw [vns_len, List.take_length] at hD3
        refine ⟨D, _, rfl, SqL.of hD3, _, rfl, ?_⟩
        have ea : ((members m i).map fun e => Ge02.must g e n).any id = (members m i).any fun e => Ge02.must g e n := by
          rw [List.any_map]
          rfl
        rw [ea]
        cases c : (members m i).any fun e => Ge02.must g e n with
        | true =>
          refine iteT ?_
          refine ⟨_, rfl, _, _, rfl, rfl, ?_⟩
          refine ⟨some (vn i), some (.ref b), ?_, s3⟩
          have : found (Ge02.must g) m n (i + 1) = i + 1 := by
            unfold found
            rw [c]
            rfl
          rw [this]
          rfl
        | false =>
          refine iteF ?_
          refine ⟨some (vn i), some (.ref b), ?_, s3⟩
          have : found (Ge02.must g) m n (i + 1) = found (Ge02.must g) m n i := by
            show (if (members m i).any (fun e => Ge02.must g e n) = true then i + 1 else found (Ge02.must g) m n i) = _
            rw [c]
            rfl
          rw [this]
          rfl
    · rintro σ H1 ⟨v4, v5, rfl, s1⟩
      refine ⟨_, rfl, ?_⟩
      have e : found (Ge02.must g) m n (as.map V.ref).length = rnd (Ge02.must g) m n := by rw [List.length_map, hA.len, lay_len, found_rnd]
      rw [e]
      exact k H1 s1

/-! ### in_rounds -/
theorem RdsA.add {H : Hp} {a c : Addr} {as : List Addr} {L : List (List Nat)} (r : RdsA H a as L) (na : a ∉ as) (hc : H c = none) : RdsA (upd (upd H c (.lst [])) a (.lst (as.map V.ref ++ [V.ref c]))) a (as ++ [c]) (L ++ [[]]) := by
  have nca : c ≠ a := (ne_of_none r.ls hc).symm
  refine ⟨?_, ?_, ?_⟩
  · rw [upd_same, List.map_append]
    rfl
  · rw [List.length_append, List.length_append, r.len]
    rfl
  · intro k b x h1 h2
    by_cases hk : k < as.length
    · rw [List.getElem?_append_left hk] at h1
      rw [List.getElem?_append_left (by rw [← r.len]; exact hk)] at h2
      have hb := r.at_ k b x h1 h2
      have nba : b ≠ a := fun q => na (by rw [← q]; exact List.mem_of_getElem? h1)
      rw [upd_ne nba, upd_ne (ne_of_none hb hc)]
      exact hb
    · rw [List.getElem?_append_right (by omega)] at h1
      rw [List.getElem?_append_right (by rw [← r.len]; omega), ← r.len] at h2
      cases e : k - as.length with
      | zero =>
        rw [e] at h1 h2
        have e1 : c = b := Option.some.inj h1
        have e2 : ([] : List Nat) = x := Option.some.inj h2
        subst e1 e2
        rw [upd_ne nca, upd_same]
        rfl
      | succ j =>
        rw [e] at h1
        cases h1
theorem RdsA.push {H : Hp} {a b : Addr} {as : List Addr} {L : List (List Nat)} {k n : Nat} {x : List Nat} (r : RdsA H a as L) (nd : as.Nodup) (na : a ∉ as) (h1 : as[k]? = some b) (h2 : L[k]? = some x) : RdsA (upd H b (.lst (vns x ++ [vn n]))) a as (L.set k (x ++ [n])) := by
  have nab : a ≠ b := fun q => na (by rw [q]; exact List.mem_of_getElem? h1)
  refine ⟨by rw [upd_ne nab]; exact r.ls, by rw [List.length_set]; exact r.len, ?_⟩
  intro k' b' x' g1 g2
  by_cases e : k' = k
  · subst e
    have e1 : b' = b := Option.some.inj (g1.symm.trans h1)
    subst e1
    rw [List.getElem?_set_self (List.getElem?_eq_some_iff.mp h2).1] at g2
    rw [upd_same, ← Option.some.inj g2, vns_snoc]
  · rw [List.getElem?_set_ne (fun q => e q.symm)] at g2
    have nbb : b' ≠ b := fun q => e (nd_ix nd g1 (by rw [q]; exact h1))
    rw [upd_ne nbb]
    exact r.at_ k' b' x' g1 g2
abbrev sRds : Stmt := inClass (top 33) 17
def spRds (CP CS : Addr) : Sp := fun vs H Q _ => ∃ (F : List Addr) (p d l : Addr) (g : House) (ps : List (Nat × Nat)), vs = [.ref p] ∧ PlanAt CP CS H F p d l g ps ∧ Rel g ps ∧ ps.length ≤ 1800 ∧
  ∀ (H' : Hp) (a : Addr) (as : List Addr), Same H H' → H a = none → (∀ b ∈ as, H b = none) → RdsA H' a as (lay (Ge02.roundsOf g)) → Q (.ref a) H'
theorem scRds : FnScope ["self", "rounds", "number", "place"] ["self"] (defScope sRds) := ⟨rfl, rfl, rfl, by decide +kernel, rfl, by decide +kernel, by decide +kernel⟩
theorem set_last {L : List (List Nat)} {n : Nat} : (L ++ [[]]).set L.length ([] ++ [n]) = L ++ [[n]] := by
  rw [List.set_append_right _ _ (Nat.le_refl _), Nat.sub_self]
  rfl
theorem rds_fresh {mu : Nat → Nat → Bool} {l : List Nat} {x : Nat × Nat} (h : x ∈ rds mu l) : x.1 ∈ l := by
  rw [← rds_map mu l]
  exact List.mem_map.mpr ⟨x, h, rfl⟩
theorem rds_len (mu : Nat → Nat → Bool) (l : List Nat) : (rds mu l).length = l.length := by
  have := congrArg List.length (rds_map mu l)
  rw [List.length_map] at this
  exact this
theorem ok_rds {f fO fF : Addr} {fd fdO fdF : FuncData} (F : Fun K "in_rounds" "Plan.in_rounds" sRds f fd) (T : Txt K mg CR CS CP) (GO : FnOk P w K mg base CX0 2 fO fdO ["self"] (spOrd CP CS)) (bO : Binds K fdO ["self"] []) (mO : Meth K CP "in_order" fO)
    (GF : FnOk P w K mg base CX0 6 fF fdF ["self", "rounds", "number"] (spFirst CP CS)) (bF : Binds K fdF ["self", "rounds", "number"] []) (mF : Meth K CP "first_round" fF) :
    FnOk P w K mg base CX0 7 f fd ["self"] (spRds CP CS) := by
  refine F.ok scRds (fun vs H Q E h => ?_) (fun cdv A outer s H vs Q E hr h => ?_)
  · obtain ⟨F, p, d, l, g, ps, rfl, _⟩ := h
    rfl
  · obtain ⟨F, p, d, l, g, ps, rfl, hP, R, hps, k⟩ := h
    have hr2 : Room 2 _ := hr.mono (by decide)
    obtain ⟨ad, tp, ⟨dx, hob⟩, hdc, hls, htu, hsy, hfl⟩ := id hP
    refine ⟨_, pss_cons (ps_set (i := 1) scRds.nd rfl (Or.inl rfl) (pe_lst pa_nil))
      (pss_cons (ps_for PassesOwn.never rfl (pi_list (pe_meth0 (pv 0) T.clP mO GO hr2 bO .nil pass0)) (pg_name (i := 2) scRds.nd rfl (Or.inl rfl))
        (pss_cons (ps_set (i := 3) scRds.nd rfl (Or.inl rfl) (pe_meth (pv 0) T.clP mF GF hr bF .nil pass0 (pa_cons (pv 1) (pa_cons (pv 2) pa_nil))))
        (pss_cons (ps_if (pt_cmpR op_eq (pv 3) (pe_callB call_len_seq (by rfl) T.len PySem.boot_len (pa_cons (pv 1) pa_nil)) (nomark _))
          (pss_one (ps_expr (pe_bm PySem.F.plainAttrs_list PySem.F.slot_list_append PySem.F.type_list_append mt_append (pv 1) (pa_cons (pe_lst pa_nil) pa_nil)))) pss_nil)
        (pss_one (ps_expr (pe_bm PySem.F.plainAttrs_list PySem.F.slot_list_append PySem.F.type_list_append mt_append (pe_ix ix_list (pv 1) (pv 3) (fun _ _ => rfl)) (pa_cons (pv 2) pa_nil)))))))
      (pss_one (ps_ret (pv 1)))), ?_⟩
    -- rounds = []
    refine ⟨Nat.zero_le _, fun a ha => ?_⟩
    have s0 := same_upd (o := HO.lst []) ha
    -- self.in_order()
    refine ⟨_, rfl, p, dx, _, rfl, s0 _ _ hob, pF_no _ _ _ (by decide +kernel) (by decide +kernel) (by decide +kernel), F, p, d, l, g, ps, rfl, hP.same s0, R, hps, fun H1 b0 s1 hb0 hL => ?_⟩
    have ha1 : H1 a = some (.lst []) := s1 _ _ upd_same
    have nb0 : b0 ≠ a := fun q => by
      rw [q, upd_same] at hb0
      cases hb0
    have olen : (Ge02.order g).length ≤ 10 := by
      have := nodup_le (order_nd g) (order_sub g)
      rw [nums_len] at this
      have := R.good.most
      omega
    have hf0 : ∀ b, H1 b = none → H b = none := fun b e => (s0.trans s1).free e
    refine ⟨b0, rfl, ⟨_, SqL.of hL⟩, for_list (K := K) (a := b0) (xs := vns (Ge02.order g))
      (fun i σ H' => ∃ (as : List Addr) (v2 v3 : Option V), σ = [some (.ref p), some (.ref a), v2, v3] ∧ (∀ b o, H1 b = some o → b ≠ a → H' b = some o) ∧ (∀ b ∈ as, H1 b = none) ∧ as.Nodup ∧ RdsA H' a as (lay (rds (Ge02.must g) ((Ge02.order g).take i))))
      ⟨[], none, none, rfl, fun b o e _ => e, fun _ z => absurd z List.not_mem_nil, List.nodup_nil, ha1, rfl, fun k' b x z => by cases z⟩ (fun i σ H' _ ⟨_, _, _, _, kp, _⟩ => SqL.of (kp _ _ hL nb0)) ?_ ?_⟩
    · rintro i y σ H2 hi ⟨as, v2, v3, rfl, kp, fr, nd, rA⟩
      obtain ⟨n, hn, rfl⟩ := map_get hi
      have sH : Same H H2 := fun b o e => kp b o (s1 _ _ (s0 b o e)) (ne_of_none e ha)
      have na : a ∉ as := fun q => by
        rw [fr a q] at ha1
        cases ha1
      have hmem : n ∈ Ge02.order g := List.mem_of_getElem? hn
      have hilt := (List.getElem?_eq_some_iff.mp hn).1
      have nnot : n ∉ (Ge02.order g).take i := fun q => by
        obtain ⟨j, hj⟩ := List.mem_iff_getElem?.mp q
        have hjl := (List.getElem?_eq_some_iff.mp hj).1
        rw [List.length_take] at hjl
        rw [List.getElem?_take_of_lt (by omega)] at hj
        have := nd_ix (order_nd g) hj hn
        omega
      refine ⟨_, rfl, p, dx, _, rfl, sH _ _ hob, pF_no _ _ _ (by decide +kernel) (by decide +kernel) (by decide +kernel), _, rfl, _, rfl, F, p, d, l, a, as, g, ps, rds (Ge02.must g) ((Ge02.order g).take i), n, rfl, hP.same sH, R, hps, rA, order_sub g n hmem, ?_, ?_, fun H3 s3 => ?_⟩
      · intro x hx
        have := rds_fresh hx
        exact ⟨order_sub g _ (List.mem_of_mem_take this), fun q => nnot (by rw [← q]; exact this)⟩
      · rw [rds_len, List.length_take]
        omega
      have rA3 := rA.same s3
      have hcl : as.length = cnt (rds (Ge02.must g) ((Ge02.order g).take i)) := by rw [rA.len, lay_len]
      have hle := rnd_le (Ge02.must g) (rds (Ge02.must g) ((Ge02.order g).take i)) n
      have hstep : rds (Ge02.must g) ((Ge02.order g).take (i + 1)) = rds (Ge02.must g) ((Ge02.order g).take i) ++ [(n, rnd (Ge02.must g) (rds (Ge02.must g) ((Ge02.order g).take i)) n)] := by rw [take_more hn, rds_snoc]
      have hcnt10 : as.length ≤ 10 := by
        have h1 := cnt_le (Ge02.must g) ((Ge02.order g).take i)
        rw [rds_len, List.length_take] at h1
        omega
      generalize hm : rds (Ge02.must g) ((Ge02.order g).take i) = m at *
      generalize hp : rnd (Ge02.must g) m n = pl at *
      -- place == len(rounds)
      refine ⟨_, rfl, _, rfl, a, _, rfl, .inl (SqL.of rA3.ls), rfl, _, rfl, ?_⟩
      rw [List.length_map, dec_vn]
      have kp3 : ∀ b o, H1 b = some o → b ≠ a → H3 b = some o := fun b o e hb => s3 _ _ (kp b o e hb)
      by_cases c : pl = as.length
      · refine if_true_of (decide_eq_true c) ?_
        refine ⟨_, rfl, .inl ⟨rfl, _, SqL.of rA3.ls⟩, Nat.zero_le _, fun c0 hc0 => ?_⟩
        have nca : a ≠ c0 := ne_of_none rA3.ls hc0
        refine ⟨a, _, _, rfl, rfl, (by rw [upd_ne nca]; exact rA3.ls), (by rw [List.length_map]; exact big (by omega)), ?_⟩
        have rA4 := rA3.add na hc0
        have hc1 : H1 c0 = none := by
          cases e : H1 c0 with
          | none => rfl
          | some o =>
            have := kp3 c0 o e nca.symm
            rw [hc0] at this
            cases this
        have nas : c0 ∉ as := fun q => by
          obtain ⟨j, hj⟩ := List.mem_iff_getElem?.mp q
          have hjl := (List.getElem?_eq_some_iff.mp hj).1
          obtain ⟨x, hx⟩ : ∃ x, (lay m)[j]? = some x := ⟨_, List.getElem?_eq_getElem (by rw [← rA.len]; exact hjl)⟩
          have := rA3.at_ j c0 x hj hx
          rw [hc0] at this
          cases this
        have nd4 : (as ++ [c0]).Nodup := nd_snoc nd nas
        have na4 : a ∉ as ++ [c0] := fun q => by
          rcases List.mem_append.mp q with z | z
          · exact na z
          · exact nca (List.mem_singleton.mp z)
        have hget : (as ++ [c0])[pl]? = some c0 := by
          rw [c, List.getElem?_append_right (Nat.le_refl _), Nat.sub_self]
          rfl
        have hgetL : (lay m ++ [[]])[pl]? = some [] := by
          rw [c, rA.len, List.getElem?_append_right (Nat.le_refl _), Nat.sub_self]
          rfl
        have rA5 := rA4.push (n := n) nd4 na4 hget hgetL
        refine ⟨_, rfl, _, rfl, a, _, _, V.ref c0, rfl, rfl, SqL.of rA4.ls, atI_nat (by rw [List.getElem?_map, hget]; rfl), .inl ⟨rfl, _, SqL.of (rA4.at_ pl c0 [] hget hgetL)⟩, _, rfl, c0, _, _, rfl, rfl, rA4.at_ pl c0 [] hget hgetL, (by decide), ?_⟩
        refine ⟨as ++ [c0], _, _, rfl, fun b o e hb => ?_, fun b hb => ?_, nd4, ?_⟩
        · have nbc : b ≠ c0 := ne_of_none e hc1
          rw [upd_ne nbc, upd_ne hb, upd_ne nbc]
          exact kp3 b o e hb
        · rcases List.mem_append.mp hb with z | z
          · exact fr b z
          · rw [List.mem_singleton.mp z]
            exact hc1
        · rw [hstep, lay_new (by rw [c, hcl]), ← set_last, ← rA.len, ← c]
          exact rA5
      · refine if_false_of (decide_eq_false c) ?_
        have hlt : pl < cnt m := by omega
        obtain ⟨b, hb, hbL⟩ := rA3.get (lay_get hlt)
        have rA5 := rA3.push (n := n) nd na hb (lay_get hlt)
        have hml := members_len m pl
        have hmlen : m.length ≤ 10 := by
          rw [← hm, rds_len, List.length_take]
          omega
        refine ⟨_, rfl, _, rfl, a, _, _, V.ref b, rfl, rfl, SqL.of rA3.ls, atI_nat (by rw [List.getElem?_map, hb]; rfl), .inl ⟨rfl, _, SqL.of hbL⟩, _, rfl, b, _, _, rfl, rfl, hbL, (by rw [vns_len]; exact big (by omega)), ?_⟩
        refine ⟨as, _, _, rfl, fun b' o e hb' => ?_, fr, nd, ?_⟩
        · rw [upd_ne (ne_of_none e (fr b (List.mem_of_getElem? hb)))]
          exact kp3 b' o e hb'
        · rw [hstep, lay_old hlt]
          exact rA5
    · rintro σ H2 ⟨as, v2, v3, rfl, kp, fr, nd, rA⟩
      rw [vns_len, List.take_length, ← roundsOf_eq] at rA
      refine ⟨_, rfl, ?_⟩
      exact k H2 a as (fun b o e => kp b o (s1 _ _ (s0 b o e)) (ne_of_none e ha)) ha (fun b hb => hf0 b (fr b hb)) rA
end
end Sr

/-! A rule of its own: xs.remove(y) where items are data of any depth. Then the calls that change the Plan. -/
namespace Sr
open PySem PySem.Spec PyProof.Rows L2
open Ge02 (House Sys)

def rRemD (K : PySem.W.Frag) : V → List V → Hp → VK → Prop := fun x xs H Q => ∃ (l : Addr) (ys : List V) (y : V) (d : PyData) (ds : List PyData) (j : Nat) (z : PyData), x = V.ref l ∧ xs = [y] ∧ H l = some (.lst ys) ∧ DpAll K H ys ds ∧ Dp K H y d ∧
  SeqAt.shaped (.list ds) = true ∧ SeqAt.shaped d = true ∧ ds[j]? = some z ∧ PyData.eqv z d = true ∧ (∀ (m : Nat) (z' : PyData), m < j → ds[m]? = some z' → PyData.eqv z' d = false) ∧ Q .non (upd H l (.lst (ys.eraseIdx j)))
theorem mt_removeD {X : Cx} (hu : X.A.units + 65 < cLine) : MtM X "list.remove" (rRemD X.K) := by
  intro pins s σ H x xs v us Q I rx rxs h
  obtain ⟨l, ys, y, d, ds, j, z, rfl, rfl, hH, ha, hy, sl, sd, hz, hzj, hno, q⟩ := h
  cases rx
  obtain ⟨uy, rfl, ry⟩ := rxs.one
  obtain ⟨bs, r1⟩ := Dp.reads I d y uy hy ry
  have hxs : PyData.canLayAll0 ds = true := SeqAt.canLay_of_shaped sl
  have hroom : X.A.units + 1 + min (PyData.depthAll ds) d.depth < cLine := room_in_shaped sd hu
  obtain ⟨hsz, its, n, rv, hl, ho⟩ := I.lstM hH
  obtain ⟨as, h4⟩ := Dp.readsAll I ds _ its ha rv
  have hn : its.length = ds.length := SeqAt.ReadsAll.length ds its as h4
  have hmap : its.map (SeqAt.readOf s.heap) = ds := SeqAt.readsAll_map ds its as hxs h4
  obtain ⟨hjd, _⟩ := List.getElem?_eq_some_iff.mp hz
  have hjl : j < its.length := by omega
  have hj : j < its.toArray.size := by simpa using hjl
  have at_ : ∀ (m : Nat) (hm : m < its.toArray.size) (z' : PyData), ds[m]? = some z' → SeqAt.readOf s.heap its.toArray[m] = z' := by
    intro m hm z' hz'
    have hml : m < its.length := by simpa using hm
    rw [← hmap, List.getElem?_map, List.getElem?_eq_getElem hml] at hz'
    have e1 : SeqAt.readOf s.heap its[m] = z' := Option.some.inj (show some (SeqAt.readOf s.heap its[m]) = some z' from hz')
    simpa using e1
  refine call_meets PySem.F.slot_list_remove ⟨_, ho, rfl⟩ PySem.F.entry_list_remove (PySem.F.args_list_remove_2 _ _)
    (SeqAt.list_removeAt l its.toArray n none #[] uy (fun u => PyData.eqv (SeqAt.readOf s.heap u) d) j hj ?_ ?_ (by rw [List.size_toArray]; omega)) ⟨ho, SeqAt.items_eqAt (vs := its.toArray) (show ReadsAll s.heap its.toArray.toList ds as from h4) r1 hxs (SeqAt.canLay_of_shaped sd) hroom, ?_⟩
  · show PyData.eqv (SeqAt.readOf s.heap its.toArray[j]) d = true
    rw [at_ j hj z hz]
    exact hzj
  · intro m hm hmj
    have hmd : m < ds.length := by omega
    have hz' : ds[m]? = some ds[m] := List.getElem?_eq_getElem hmd
    show PyData.eqv (SeqAt.readOf s.heap its.toArray[m]) d = false
    rw [at_ m hm _ hz']
    exact hno m _ hmj hz'
  · refine ⟨.non, _, I.lset (its' := its.eraseIdx j) (t' := s.toks) hH ho ?_ (rv.eraseIdx j) ?_, rfl, q⟩
    · show its.toArray.eraseIdxIfInBounds j = (its.eraseIdx j).toArray
      rw [List.eraseIdxIfInBounds_toArray]
    · have z2 := len_erase ys j
      omega

/-! ### pairs as data -/
def dP (x : Nat × Nat) : PyData := .tuple [.int x.1, .int x.2]
theorem dP_lay (x : Nat × Nat) : (dP x).canLay0 = true := by simp [dP, PyData.canLay0, PyData.canLayAll0]
theorem dP_depth (x : Nat × Nat) : (dP x).depth = 1 := by simp [dP, PyData.depth, PyData.depthAll]
theorem dPs_lay : ∀ l : List (Nat × Nat), PyData.canLayAll0 (l.map dP) = true
  | [] => by simp [PyData.canLayAll0]
  | x :: l => by simp [PyData.canLayAll0, dP_lay x, dPs_lay l]
theorem dPs_depth : ∀ l : List (Nat × Nat), PyData.depthAll (l.map dP) ≤ 1
  | [] => by simp [PyData.depthAll]
  | x :: l => by
    have h1 := dPs_depth l
    have h2 := dP_depth x
    simp only [List.map_cons, PyData.depthAll]
    omega
theorem dP_shaped (x : Nat × Nat) : SeqAt.shaped (dP x) = true := by
  have h := dP_depth x
  show ((dP x).canLay0 && decide ((dP x).depth ≤ 64)) = true
  rw [Bool.and_eq_true]
  exact ⟨dP_lay x, decide_eq_true (by omega)⟩
theorem dPs_shaped (l : List (Nat × Nat)) : SeqAt.shaped (.list (l.map dP)) = true := by
  have h1 := dPs_depth l
  have h2 : PyData.depth (.list (l.map dP)) ≤ 64 := by
    simp only [PyData.depth]
    omega
  show (PyData.canLay0 (.list (l.map dP)) && decide (PyData.depth (.list (l.map dP)) ≤ 64)) = true
  rw [Bool.and_eq_true]
  exact ⟨by simp only [PyData.canLay0]; exact dPs_lay l, decide_eq_true h2⟩
theorem dP_eqv (x y : Nat × Nat) : PyData.eqv (dP x) (dP y) = decide (x = y) := by
  obtain ⟨a, b⟩ := x
  obtain ⟨c, d⟩ := y
  have e : PyData.eqv (dP (a, b)) (dP (c, d)) = (((a : Int) == (c : Int)) && (((b : Int) == (d : Int)) && true)) := by simp only [dP, PyData.eqv, PyData.eqvAll]
  rw [e]
  by_cases h1 : a = c
  · by_cases h2 : b = d
    · rw [h1, h2, beq_self_eq_true, beq_self_eq_true, decide_eq_true rfl]
      rfl
    · rw [decide_eq_false (fun q => h2 (Prod.mk.inj q).2), beq_eq_false_iff_ne.mpr (show ¬ (b : Int) = (d : Int) by omega), Bool.false_and, Bool.and_false]
  · rw [decide_eq_false (fun q => h1 (Prod.mk.inj q).1), beq_eq_false_iff_ne.mpr (show ¬ (a : Int) = (c : Int) by omega), Bool.false_and]
theorem dP_any (x : Nat × Nat) : ∀ l : List (Nat × Nat), ((l.map dP).any fun z => PyData.eqv z (dP x)) = decide (x ∈ l)
  | [] => (decide_eq_false List.not_mem_nil).symm
  | y :: l => by
    show (PyData.eqv (dP y) (dP x) || (l.map dP).any fun z => PyData.eqv z (dP x)) = _
    rw [dP_any x l, dP_eqv, Bool.eq_iff_iff, Bool.or_eq_true, decide_eq_true_iff, decide_eq_true_iff, decide_eq_true_iff, List.mem_cons]
    exact ⟨fun q => q.elim (fun e => .inl e.symm) .inr, fun q => q.elim (fun e => .inl e.symm) .inr⟩
theorem Dp_pair {K : PySem.W.Frag} {H : Hp} {a : Addr} {x : Nat × Nat} (h : H a = some (tupOf x)) : Dp K H (.ref a) (dP x) := .tup (SqT.of h) (.cons (.int _) (.cons (.int _) .nil))
theorem Dp_pairs {K : PySem.W.Frag} {H : Hp} {tp : Nat × Nat → Addr} : ∀ {l : List (Nat × Nat)}, (∀ x ∈ l, H (tp x) = some (tupOf x)) → DpAll K H (prsOf tp l) (l.map dP)
  | [], _ => .nil
  | x :: l, h => .cons (Dp_pair (h x (List.mem_cons_self ..))) (Dp_pairs fun y hy => h y (List.mem_cons_of_mem _ hy))
/-- where the first one stands -/
theorem first_at : ∀ {l : List (Nat × Nat)} {x : Nat × Nat}, x ∈ l → ∃ j, l[j]? = some x ∧ (∀ m y, m < j → l[m]? = some y → y ≠ x) ∧ l.eraseIdx j = l.erase x
  | [], x, h => absurd h List.not_mem_nil
  | a :: l, x, h => by
    by_cases e : a = x
    · refine ⟨0, by rw [e]; rfl, fun m y hm => absurd hm (Nat.not_lt_zero _), ?_⟩
      rw [e, List.erase_cons_head]
      rfl
    · have hl : x ∈ l := by
        rcases List.mem_cons.mp h with z | z
        · exact absurd z.symm e
        · exact z
      obtain ⟨j, h1, h2, h3⟩ := first_at hl
      refine ⟨j + 1, h1, fun m y hm hy => ?_, ?_⟩
      · cases m with
        | zero => exact fun q => e ((Option.some.inj hy).trans q)
        | succ m => exact h2 m y (Nat.lt_of_succ_lt_succ hm) hy
      · rw [List.erase_cons_tail (by rw [beq_iff_eq]; exact e), ← h3]
        rfl
theorem map_erase {α β : Type} (f : α → β) : ∀ (l : List α) (j : Nat), (l.map f).eraseIdx j = (l.eraseIdx j).map f
  | [], _ => rfl
  | _ :: _, 0 => rfl
  | a :: l, j + 1 => by
    show f a :: (l.map f).eraseIdx j = f a :: (l.eraseIdx j).map f
    rw [map_erase f l j]

/-! ### what a call on the Plan leaves and answers -/
def Post (CP CS : Addr) (H : Hp) (F : List Addr) (p d l : Addr) (g : House) (ps : List (Nat × Nat)) (c : Ge02.Call) (Q : VK) : Prop :=
  ∀ (H' : Hp) (b l' : Addr) (ps' : List (Nat × Nat)), PlanAt CP CS H' F p d l' (Ge02.step g c).1 ps' → Rel (Ge02.step g c).1 ps' → ps'.length ≤ ps.length + 1 → (l' = l ∨ H l' = none) → Keep [p, d, l] H H' → H b = none → H' b = some (.lst ((Ge02.step g c).2.map V.int)) → Q (.ref b) H'
structure Pre (CP CS : Addr) (H : Hp) (F : List Addr) (p d l : Addr) (g : House) (ps : List (Nat × Nat)) : Prop where
  at_ : PlanAt CP CS H F p d l g ps
  rel : Rel g ps
  len : ps.length ≤ 1800
  fq : ∀ q ∈ F, ∃ o, H q = some o
/-- nothing changes: a refusal, or a question -/
theorem Post.same {CP CS : Addr} {H H' : Hp} {F : List Addr} {p d l b : Addr} {g : House} {ps : List (Nat × Nat)} {c : Ge02.Call} {Q : VK} {a : List Int} (h : Post CP CS H F p d l g ps c Q) (hp : Pre CP CS H F p d l g ps) (e : Ge02.step g c = (g, a)) (s : Same H H') (hb : H b = none) (hL : H' b = some (.lst (a.map V.int))) : Q (.ref b) H' := by
  refine h H' b l ps ?_ ?_ (by omega) (.inl rfl) (Keep.same s) hb ?_
  · rw [e]
    exact hp.at_.same s
  · rw [e]
    exact hp.rel
  · rw [e]
    exact hL
/-- .. answered by a new list -/
theorem Post.new {CP CS : Addr} {H : Hp} {F : List Addr} {p d l b : Addr} {g : House} {ps : List (Nat × Nat)} {c : Ge02.Call} {Q : VK} {a : List Int} (h : Post CP CS H F p d l g ps c Q) (hp : Pre CP CS H F p d l g ps) (e : Ge02.step g c = (g, a)) (hb : H b = none) : Q (.ref b) (upd H b (.lst (a.map V.int))) :=
  h.same hp e (same_upd hb) hb upd_same

section
variable {P : Program} {w : World} {K : PySem.W.Frag} {mg : Str → Option Value} {base : Heap} {CR CS CP : Addr}

/-! ### Plan.__init__ -/
abbrev sPInit : Stmt := inClass (top 33) 0
def spPInit (CP CS : Addr) : Sp := fun vs H Q _ => ∃ (p dx : Addr), vs = [.ref p] ∧ H p = some (.ins CP dx []) ∧
  ∀ (H' : Hp) (d l : Addr), H d = none → H l = none → PlanAt CP CS H' [] p d l Ge02.init [] → Keep [p] H H' → Q .non H'
theorem scPInit : FnScope ["self"] ["self"] (defScope sPInit) := ⟨rfl, rfl, rfl, by decide +kernel, rfl, by decide +kernel, by decide +kernel⟩
theorem pF_new1 (d : Addr) : putF "systems" (.ref d) (putF "numbers_given" (vn 0) []) = ([(("numbers_given" : Str), vn 0), ("systems", .ref d)] : List (Str × V)) := (put_past (by decide +kernel)).trans rfl
theorem pF_new (d l : Addr) : putF "pairs" (.ref l) (putF "systems" (.ref d) (putF "numbers_given" (vn 0) [])) = pF 0 d l := by
  rw [pF_new1]
  exact (put_past (by decide +kernel)).trans (congrArg _ ((put_past (by decide +kernel)).trans rfl))
theorem ok_pinit {f : Addr} {fd : FuncData} (F : Fun K "__init__" "Plan.__init__" sPInit f fd) (T : Txt K mg CR CS CP) : FnOk P w K mg base CX0 1 f fd ["self"] (spPInit CP CS) := by
  refine F.ok scPInit (fun vs H Q E h => ?_) (fun cdv A outer s H vs Q E hr h => ?_)
  · obtain ⟨p, dx, rfl, _⟩ := h
    rfl
  · obtain ⟨p, dx, rfl, hp, k⟩ := h
    refine ⟨_, pss_cons (ps_fld (pv 0) pe_int rfl) (pss_cons (ps_fld (pv 0) pe_dnewK rfl) (pss_one (ps_fld (pv 0) (pe_lst pa_nil) rfl))), ?_⟩
    refine ⟨_, rfl, p, CP, dx, [], rfl, hp, T.clP, T.pGiven, (by show 0 < 1000; decide), ?_⟩
    intro d hd
    have npd : p ≠ d := fun q => by
      rw [← q, upd_same] at hd
      cases hd
    have hd0 : H d = none := by
      rw [upd_ne npd.symm] at hd
      exact hd
    refine ⟨_, rfl, p, CP, dx, _, rfl, (by rw [upd_ne npd]; exact upd_same), T.clP, T.pSystems, (by show 1 < 1000; decide), ?_⟩
    refine ⟨Nat.zero_le _, fun l hl => ?_⟩
    have npl : p ≠ l := fun q => by
      rw [← q, upd_same] at hl
      cases hl
    rw [upd_ne npl.symm] at hl
    have ndl : d ≠ l := fun q => by
      rw [← q, upd_same] at hl
      cases hl
    rw [upd_ne ndl.symm, upd_ne npl.symm] at hl
    refine ⟨_, rfl, p, CP, dx, _, rfl, (by rw [upd_ne npl]; exact upd_same), T.clP, T.pPairs, (by show (putF "systems" (.ref d) (putF "numbers_given" (vn 0) [])).length < 1000; rw [pF_new1]; show 2 < 1000; decide), ?_⟩
    refine k _ d l hd0 hl ⟨fun _ => 0, fun _ => 0, ⟨dx, ?_⟩, ?_, ?_, fun _ z => absurd z List.not_mem_nil, fun _ z => absurd z List.not_mem_nil, List.not_mem_nil⟩ fun b o e hb => ?_
    · rw [upd_same]
      exact congrArg (fun q => some (HO.ins CP dx q)) (pF_new d l)
    · rw [upd_ne npd.symm, upd_ne ndl, upd_ne npd.symm, upd_same]
      rfl
    · rw [upd_ne npl.symm, upd_same]
      rfl
    · have hb' : b ≠ p := fun q => hb (by rw [q]; exact List.mem_singleton.mpr rfl)
      rw [upd_ne hb', upd_ne (ne_of_none e hl), upd_ne hb', upd_ne (ne_of_none e hd0), upd_ne hb']
      exact e

/-! ### tell_pair -/
abbrev sTell : Stmt := inClass (top 33) 3
def spTell (CP CS : Addr) : Sp := fun vs H Q _ => ∃ (F : List Addr) (p d l : Addr) (g : House) (ps : List (Nat × Nat)) (i j : Nat), vs = [.ref p, vn i, vn j] ∧ Pre CP CS H F p d l g ps ∧ Post CP CS H F p d l g ps (.before i j) Q
theorem scTell : FnScope ["self", "first", "second"] ["self", "first", "second"] (defScope sTell) := ⟨rfl, rfl, rfl, by decide +kernel, rfl, by decide +kernel, by decide +kernel⟩
theorem isNone_of {g : House} {n : Nat} (h : n ∉ nums g) : (Ge02.sysOf g n).isNone = true := sysOf_none.mpr h
theorem isNone_not {g : House} {n : Nat} (h : n ∈ nums g) : ¬ (Ge02.sysOf g n).isNone = true := fun q => sysOf_none.mp q h
theorem step_before2 {g : House} {i j : Nat} (h : i ∉ nums g ∨ j ∉ nums g) : Ge02.step g (.before i j) = (g, [-2]) := if_pos (h.imp isNone_of isNone_of)
theorem step_before3 {g : House} {i j : Nat} (hi : i ∈ nums g) (hj : j ∈ nums g) (h : i = j ∨ Ge02.toldBefore g.before j i = true) : Ge02.step g (.before i j) = (g, [-3]) :=
  (if_neg (fun q => q.elim (isNone_not hi) (isNone_not hj))).trans (if_pos h)
theorem step_before4 {g : House} {i j : Nat} (hi : i ∈ nums g) (hj : j ∈ nums g) (h : ¬ (i = j ∨ Ge02.toldBefore g.before j i = true)) (hb : (i, j) ∈ g.before) : Ge02.step g (.before i j) = (g, [-4]) :=
  (if_neg (fun q => q.elim (isNone_not hi) (isNone_not hj))).trans ((if_neg h).trans (if_pos (List.contains_iff_mem.mpr hb)))
theorem step_before {g : House} {i j : Nat} (hi : i ∈ nums g) (hj : j ∈ nums g) (h : ¬ (i = j ∨ Ge02.toldBefore g.before j i = true)) (hb : (i, j) ∉ g.before) : Ge02.step g (.before i j) = (told g i j, Ge02.ints [(told g i j).before.length]) :=
  (if_neg (fun q => q.elim (isNone_not hi) (isNone_not hj))).trans ((if_neg h).trans (if_neg (fun q => hb (List.contains_iff_mem.mp q))))
theorem hu65 {k : Nat} {A : Around} (hr : Room k A) : A.units + 65 < cLine := by
  have := hr.un
  omega
theorem ne_ins_lst {C dx : Addr} {fs : List (Str × V)} {xs : List V} : HO.ins C dx fs ≠ HO.lst xs := fun q => by cases q
theorem ne_dk_lst {kvs : List (Key × V)} {xs : List V} : HO.dK kvs ≠ HO.lst xs := fun q => by cases q
theorem ne_tup_lst {x : Nat × Nat} {xs : List V} : tupOf x ≠ HO.lst xs := fun q => by cases q
/-- the Plan's list of pairs is changed in its place -/
theorem PlanA.setl {H : Hp} {F : List Addr} {p d l : Addr} {g g' : House} {ps ps' : List (Nat × Nat)} {ad : Nat → Addr} {tp tp' : Nat × Nat → Addr} (h : PlanA CP CS H F p d l g ps ad tp) (e1 : g'.systems = g.systems) (e2 : g'.given = g.given) (ht : ∀ x ∈ ps', H (tp' x) = some (tupOf x)) :
    PlanA CP CS (upd H l (.lst (prsOf tp' ps'))) F p d l g' ps' ad tp' := by
  obtain ⟨⟨dx, h1⟩, h2, h3, h4, h5, h6⟩ := h
  refine ⟨⟨dx, ?_⟩, ?_, upd_same, fun x hx => ?_, fun s hs => ?_, h6⟩
  · rw [upd_ne (ne_of h1 h3 ne_ins_lst), e2]
    exact h1
  · rw [upd_ne (ne_of h2 h3 ne_dk_lst), e1]
    exact h2
  · rw [upd_ne (ne_of (ht x hx) h3 ne_tup_lst)]
    exact ht x hx
  · rw [e1] at hs
    obtain ⟨ra, wa, n1, n2, ⟨dy, g1⟩, g2, g3⟩ := h5 s hs
    refine ⟨ra, wa, n1, n2, ⟨dy, ?_⟩, ?_, ?_⟩
    · rw [upd_ne (ne_of g1 h3 ne_ins_lst)]
      exact g1
    · rw [upd_ne (fun (q : ra = l) => n1 (by rw [q]; exact List.mem_cons_self ..))]
      exact g2
    · rw [upd_ne (fun (q : wa = l) => n2 (by rw [q]; exact List.mem_cons_self ..))]
      exact g3
theorem ok_tell {f fB : Addr} {fd fdB : FuncData} (F : Fun K "tell_pair" "Plan.tell_pair" sTell f fd) (T : Txt K mg CR CS CP) (GB : FnOk P w K mg base CX0 2 fB fdB ["self", "first", "second"] (spCB CP CS)) (bB : Binds K fdB ["self", "first", "second"] []) (mB : Meth K CP "comes_before" fB) :
    FnOk P w K mg base CX0 3 f fd ["self", "first", "second"] (spTell CP CS) := by
  refine F.ok scTell (fun vs H Q E h => ?_) (fun cdv A outer s H vs Q E hr h => ?_)
  · obtain ⟨F, p, d, l, g, ps, i, j, rfl, _⟩ := h
    rfl
  · obtain ⟨F, p, d, l, g, ps, i, j, rfl, hpre, k⟩ := h
    have hu := hu_of hr
    obtain ⟨hP, R, hps, hfq⟩ := id hpre
    obtain ⟨ad, tp, hA⟩ := id hP
    obtain ⟨⟨dx, hob⟩, hdc, hls, htu, hsy, hfl⟩ := id hA
    refine ⟨_, pss_cons (ps_if (PW.pt (pw_or (pt_cmp (pc_dnotin hu (pv 1) (pe_fld (pv 0) rfl))) (pw_or1 (pt_cmp (pc_dnotin hu (pv 2) (pe_fld (pv 0) rfl)))))) (pss_one (ps_ret (pe_lst (pa_cons (pe_gi rfl T.cNOT) pa_nil)))) pss_nil)
      (pss_cons (ps_if (PW.pt (pw_or (pt_cmpR op_eq (pv 1) (pv 2) (nomark _)) (pw_or1 (pt_val (pe_meth (pv 0) T.clP mB GB hr bB .nil pass0 (pa_cons (pv 2) (pa_cons (pv 1) pa_nil))))))) (pss_one (ps_ret (pe_lst (pa_cons (pe_gi rfl T.cRING) pa_nil)))) pss_nil)
      (pss_cons (ps_if (pt_cmpR (op_inD (hu65 hr)) (pe_tup (pa_cons (pv 1) (pa_cons (pv 2) pa_nil))) (pe_fld (pv 0) rfl) rfl) (pss_one (ps_ret (pe_lst (pa_cons (pe_gi rfl T.cTOLD) pa_nil)))) pss_nil)
      (pss_cons (ps_expr (pe_bm PySem.F.plainAttrs_list PySem.F.slot_list_append PySem.F.type_list_append mt_append (pe_fld (pv 0) rfl) (pa_cons (pe_tup (pa_cons (pv 1) (pa_cons (pv 2) pa_nil))) pa_nil)))
      (pss_one (ps_ret (pe_lst (pa_cons (pe_callB call_len_seq (by rfl) T.len PySem.boot_len (pa_cons (pe_fld (pv 0) rfl) pa_nil)) pa_nil))))))), ?_⟩
    -- first not in self.systems or second not in self.systems
    refine ⟨_, rfl, _, rfl, p, CP, dx, _, _, rfl, hob, T.clP, T.pSystems, pF_systems _ _ _, d, _, rfl, DGet.k (k := Sum.inl (i : Int)) hdc, _, rfl, ?_⟩
    rw [val_isSome]
    by_cases ci : i ∈ nums g
    · rw [decide_eq_true ci]
      refine iteF ?_
      refine ⟨_, rfl, _, rfl, p, CP, dx, _, _, rfl, hob, T.clP, T.pSystems, pF_systems _ _ _, d, _, rfl, DGet.k (k := Sum.inl (j : Int)) hdc, _, rfl, ?_⟩
      rw [val_isSome]
      by_cases cj : j ∈ nums g
      · rw [decide_eq_true cj]
        refine iteF ?_
        -- first == second or self.comes_before(second, first)
        refine ⟨_, rfl, _, rfl, rfl, _, rfl, ?_⟩
        rw [dec_vn]
        by_cases ce : i = j
        · refine if_true_of (decide_eq_true ce) (iteT ?_)
          exact ⟨(by show 1 ≤ sizeLine; decide), fun b hb => k.new hpre (step_before3 ci cj (.inl ce)) hb⟩
        · refine if_false_of (decide_eq_false ce) ?_
          refine ⟨_, rfl, p, dx, _, rfl, hob, pF_no _ _ _ (by decide +kernel) (by decide +kernel) (by decide +kernel), _, rfl, _, rfl, F, p, d, l, g, ps, j, i, rfl, hP, R, hps, fun H1 s1 => ⟨_, rfl, ?_⟩⟩
          cases ct : Ge02.toldBefore g.before j i with
          | true =>
            refine iteT ?_
            refine ⟨(by show 1 ≤ sizeLine; decide), fun b hb => ?_⟩
            exact k.same hpre (step_before3 ci cj (.inr ct)) (s1.trans (same_upd hb)) (s1.free hb) upd_same
          | false =>
            refine iteF ?_
            have hno : ¬ (i = j ∨ Ge02.toldBefore g.before j i = true) := fun q => q.elim ce fun z => by
              rw [ct] at z
              cases z
            -- (first, second) in self.pairs
            refine ⟨_, rfl, _, rfl, (by show 2 ≤ sizeLine; decide), fun t0 ht0 => ?_⟩
            have s2 := s1.trans (same_upd (o := HO.tup [vn i, vn j]) ht0)
            refine ⟨_, rfl, p, CP, dx, _, _, rfl, s2 _ _ hob, T.clP, T.pPairs, pF_pairs _ _ _, dP (i, j), ps.map dP, Dp_pair (x := (i, j)) upd_same, .lst (SqL.of (s2 _ _ hls)) (Dp_pairs fun x hx => s2 _ _ (htu x hx)), dP_shaped _, dPs_shaped _, _, rfl, ?_⟩
            rw [dP_any]
            by_cases cb : (i, j) ∈ ps
            · refine if_true_of (decide_eq_true cb) ?_
              refine ⟨(by show 1 ≤ sizeLine; decide), fun b hb => ?_⟩
              exact k.same hpre (step_before4 ci cj hno ((R.mem _).mp cb)) (s2.trans (same_upd hb)) (s2.free hb) upd_same
            · refine if_false_of (decide_eq_false cb) ?_
              have nb : (i, j) ∉ g.before := fun q => cb ((R.mem _).mpr q)
              -- self.pairs.append((first, second))
              refine ⟨_, rfl, p, CP, dx, _, _, rfl, s2 _ _ hob, T.clP, T.pPairs, pF_pairs _ _ _, .inl ⟨rfl, _, SqL.of (s2 _ _ hls)⟩, _, rfl, _, rfl, (by show 2 ≤ sizeLine; decide), fun t1 ht1 => ?_⟩
              have s3 := s2.trans (same_upd (o := HO.tup [vn i, vn j]) ht1)
              refine ⟨l, _, _, rfl, rfl, s3 _ _ hls, (by rw [show (prsOf tp ps).length = ps.length from List.length_map ..]; exact big (by omega)), ?_⟩
              have hA3 := hA.same s3
              have etp : ∀ x ∈ ps, (if x = (i, j) then t1 else tp x) = tp x := fun x hx => if_neg fun q => cb (by rw [← q]; exact hx)
              have epr : prsOf tp ps ++ [V.ref t1] = prsOf (fun x => if x = (i, j) then t1 else tp x) (ps ++ [(i, j)]) := by
                unfold prsOf
                rw [List.map_append]
                congr 1
                · exact List.map_congr_left fun x hx => congrArg V.ref (etp x hx).symm
                · show [V.ref t1] = [V.ref (if (i, j) = (i, j) then t1 else tp (i, j))]
                  rw [if_pos rfl]
              rw [epr]
              have hA4 := hA3.setl (g' := told g i j) (ps' := ps ++ [(i, j)]) (tp' := fun x => if x = (i, j) then t1 else tp x) rfl rfl fun x hx => by
                by_cases q : x = (i, j)
                · rw [if_pos q, upd_same, q]
                  rfl
                · rw [if_neg q]
                  rcases List.mem_append.mp hx with z | z
                  · exact s3 _ _ (htu x z)
                  · exact absurd (List.mem_singleton.mp z) q
              obtain ⟨dx4, hob4⟩ := hA4.ob
              -- return [len(self.pairs)]
              refine ⟨_, rfl, p, CP, dx4, _, _, rfl, hob4, T.clP, T.pPairs, pF_pairs _ _ _, l, _, rfl, .inl (SqL.of hA4.ls), (by show 1 ≤ sizeLine; decide), fun b hb => ?_⟩
              have nlb : l ≠ b := ne_of_none hA4.ls hb
              have es := step_before ci cj hno nb
              have Rt := R.told ci cj ce (told_false.mp ct) nb
              refine k _ b l (ps ++ [(i, j)]) ?_ ?_ ?_ (.inl rfl) ?_ ?_ ?_
              · rw [es]
                exact ⟨ad, _, hA4.same (same_upd hb)⟩
              · rw [es]
                exact Rt
              · rw [List.length_append]
                exact Nat.le_refl _
              · exact ((Keep.same s3).trans (keep_upd (by simp))).trans (Keep.same (same_upd hb))
              · rw [upd_ne nlb.symm] at hb
                exact s3.free hb
              · rw [upd_same, es]
                show some (HO.lst [vn (prsOf _ (ps ++ [(i, j)])).length]) = some (HO.lst [vn (told g i j).before.length])
                rw [show (prsOf (fun x => if x = (i, j) then t1 else tp x) (ps ++ [(i, j)])).length = (ps ++ [(i, j)]).length from List.length_map .., Rt.len]
      · rw [decide_eq_false cj]
        refine iteT ?_
        exact ⟨(by show 1 ≤ sizeLine; decide), fun b hb => k.new hpre (step_before2 (.inr cj)) hb⟩
    · rw [decide_eq_false ci]
      refine iteT (iteT ?_)
      exact ⟨(by show 1 ≤ sizeLine; decide), fun b hb => k.new hpre (step_before2 (.inl ci)) hb⟩
end
end Sr

/-! free_pair, remove_system, add_system. -/
namespace Sr
open PySem PySem.Spec PyProof.Rows L2
open Ge02 (House Sys)
section
variable {P : Program} {w : World} {K : PySem.W.Frag} {mg : Str → Option Value} {base : Heap} {CR CS CP : Addr}

/-! ### free_pair -/
abbrev sFree : Stmt := inClass (top 33) 4
def spFree (CP CS : Addr) : Sp := fun vs H Q _ => ∃ (F : List Addr) (p d l : Addr) (g : House) (ps : List (Nat × Nat)) (i j : Nat), vs = [.ref p, vn i, vn j] ∧ Pre CP CS H F p d l g ps ∧ Post CP CS H F p d l g ps (.free i j) Q
theorem scFree : FnScope ["self", "first", "second"] ["self", "first", "second"] (defScope sFree) := ⟨rfl, rfl, rfl, by decide +kernel, rfl, by decide +kernel, by decide +kernel⟩
theorem not_contains {x : Nat × Nat} {l : List (Nat × Nat)} (h : x ∉ l) : l.contains x = false := by
  cases e : l.contains x with
  | false => rfl
  | true => exact absurd (List.contains_iff_mem.mp e) h
theorem step_free2 {g : House} {i j : Nat} (h : (i, j) ∉ g.before) : Ge02.step g (.free i j) = (g, [-2]) := if_pos (not_contains h)
theorem step_free {g : House} {i j : Nat} (h : (i, j) ∈ g.before) : Ge02.step g (.free i j) = (freed g i j, Ge02.ints [(freed g i j).before.length]) := if_neg (by rw [List.contains_iff_mem.mpr h]; exact fun q => by cases q)
theorem ok_free {f : Addr} {fd : FuncData} (F : Fun K "free_pair" "Plan.free_pair" sFree f fd) (T : Txt K mg CR CS CP) : FnOk P w K mg base CX0 1 f fd ["self", "first", "second"] (spFree CP CS) := by
  refine F.ok scFree (fun vs H Q E h => ?_) (fun cdv A outer s H vs Q E hr h => ?_)
  · obtain ⟨F, p, d, l, g, ps, i, j, rfl, _⟩ := h
    rfl
  · obtain ⟨F, p, d, l, g, ps, i, j, rfl, hpre, k⟩ := h
    obtain ⟨hP, R, hps, hfq⟩ := id hpre
    obtain ⟨ad, tp, hA⟩ := id hP
    obtain ⟨⟨dx, hob⟩, hdc, hls, htu, hsy, hfl⟩ := id hA
    refine ⟨_, pss_cons (ps_if (pt_cmpR (op_notInD (hu65 hr)) (pe_tup (pa_cons (pv 1) (pa_cons (pv 2) pa_nil))) (pe_fld (pv 0) rfl) rfl) (pss_one (ps_ret (pe_lst (pa_cons (pe_gi rfl T.cNOT) pa_nil)))) pss_nil)
      (pss_cons (ps_expr (pe_bm PySem.F.plainAttrs_list PySem.F.slot_list_remove PySem.F.type_list_remove (mt_removeD (hu65 hr)) (pe_fld (pv 0) rfl) (pa_cons (pe_tup (pa_cons (pv 1) (pa_cons (pv 2) pa_nil))) pa_nil)))
      (pss_one (ps_ret (pe_lst (pa_cons (pe_callB call_len_seq (by rfl) T.len PySem.boot_len (pa_cons (pe_fld (pv 0) rfl) pa_nil)) pa_nil))))), ?_⟩
    refine ⟨_, rfl, _, rfl, (by show 2 ≤ sizeLine; decide), fun t0 ht0 => ?_⟩
    have s2 := same_upd (o := HO.tup [vn i, vn j]) ht0
    refine ⟨_, rfl, p, CP, dx, _, _, rfl, s2 _ _ hob, T.clP, T.pPairs, pF_pairs _ _ _, dP (i, j), ps.map dP, Dp_pair (x := (i, j)) upd_same, .lst (SqL.of (s2 _ _ hls)) (Dp_pairs fun x hx => s2 _ _ (htu x hx)), dP_shaped _, dPs_shaped _, _, rfl, ?_⟩
    rw [dP_any]
    by_cases cb : (i, j) ∈ ps
    · rw [decide_eq_true cb]
      refine iteF ?_
      refine ⟨_, rfl, p, CP, dx, _, _, rfl, s2 _ _ hob, T.clP, T.pPairs, pF_pairs _ _ _, .inl ⟨rfl, _, SqL.of (s2 _ _ hls)⟩, _, rfl, _, rfl, (by show 2 ≤ sizeLine; decide), fun t1 ht1 => ?_⟩
      have s3 := s2.trans (same_upd (o := HO.tup [vn i, vn j]) ht1)
      obtain ⟨jx, j1, j2, j3⟩ := first_at cb
      refine ⟨l, _, _, dP (i, j), ps.map dP, jx, dP (i, j), rfl, rfl, s3 _ _ hls, Dp_pairs fun x hx => s3 _ _ (htu x hx), Dp_pair (x := (i, j)) upd_same, dPs_shaped _, dP_shaped _, (by rw [List.getElem?_map, j1]; rfl), (by rw [dP_eqv]; exact decide_eq_true rfl), ?_, ?_⟩
      · intro m z hm hz
        obtain ⟨y, hy, rfl⟩ := map_get hz
        rw [dP_eqv]
        exact decide_eq_false (j2 m y hm hy)
      have epr : (prsOf tp ps).eraseIdx jx = prsOf tp (ps.erase (i, j)) := by
        unfold prsOf
        rw [map_erase, j3]
      rw [epr]
      have hA4 := (hA.same s3).setl (g' := freed g i j) (ps' := ps.erase (i, j)) (tp' := tp) rfl rfl fun x hx => s3 _ _ (htu x (List.mem_of_mem_erase hx))
      obtain ⟨dx4, hob4⟩ := hA4.ob
      refine ⟨_, rfl, p, CP, dx4, _, _, rfl, hob4, T.clP, T.pPairs, pF_pairs _ _ _, l, _, rfl, .inl (SqL.of hA4.ls), (by show 1 ≤ sizeLine; decide), fun b hb => ?_⟩
      have nlb : l ≠ b := ne_of_none hA4.ls hb
      have es := step_free ((R.mem _).mp cb)
      have Rt := R.freed i j
      refine k _ b l (ps.erase (i, j)) ?_ ?_ ?_ (.inl rfl) ?_ ?_ ?_
      · rw [es]
        exact ⟨ad, _, hA4.same (same_upd hb)⟩
      · rw [es]
        exact Rt
      · exact Nat.le_succ_of_le (List.length_erase_le ..)
      · exact ((Keep.same s3).trans (keep_upd (by simp))).trans (Keep.same (same_upd hb))
      · rw [upd_ne nlb.symm] at hb
        exact s3.free hb
      · rw [upd_same, es]
        show some (HO.lst [vn (prsOf tp (ps.erase (i, j))).length]) = some (HO.lst [vn (freed g i j).before.length])
        rw [show (prsOf tp (ps.erase (i, j))).length = (ps.erase (i, j)).length from List.length_map .., Rt.len]
    · rw [decide_eq_false cb]
      refine iteT ?_
      refine ⟨(by show 1 ≤ sizeLine; decide), fun b hb => ?_⟩
      exact k.same hpre (step_free2 fun q => cb ((R.mem _).mpr q)) (s2.trans (same_upd hb)) (s2.free hb) upd_same

/-! ### remove_system -/
abbrev sRem : Stmt := inClass (top 33) 2
def spRem (CP CS : Addr) : Sp := fun vs H Q _ => ∃ (F : List Addr) (p d l : Addr) (g : House) (ps : List (Nat × Nat)) (n : Nat), vs = [.ref p, vn n] ∧ Pre CP CS H F p d l g ps ∧ Post CP CS H F p d l g ps (.gone n) Q
abbrev nRem : List Str := ["self", "number", "pair"]
theorem scRem : FnScope nRem ["self", "number"] (defScope sRem) := ⟨rfl, rfl, rfl, by decide +kernel, rfl, by decide +kernel, by decide +kernel⟩
theorem step_gone2 {g : House} {n : Nat} (h : n ∉ nums g) : Ge02.step g (.gone n) = (g, [-2]) := if_pos (isNone_of h)
theorem step_gone {g : House} {n : Nat} (h : n ∈ nums g) : Ge02.step g (.gone n) = (gone g n, Ge02.ints [(gone g n).systems.length, (gone g n).before.length]) := if_neg (isNone_not h)
theorem drop_kvs (ad : Nat → Addr) (n : Nat) : ∀ ss : List Sys, dropK (kvsOf ad ss) (Sum.inl (n : Int)) = kvsOf ad (ss.filter fun s => s.number != n)
  | [] => rfl
  | s :: ss => by
    have ih := drop_kvs ad n ss
    rw [show kvsOf ad (s :: ss) = (Sum.inl (s.number : Int), V.ref (ad s.number)) :: kvsOf ad ss from rfl]
    by_cases c : s.number = n
    · rw [dropK_pos (by rw [c]), ih, List.filter_cons, if_neg (by rw [c, bne_self_eq_false]; exact Bool.false_ne_true)]
    · rw [dropK_neg (fun q => c (by have := Sum.inl.inj q; omega)), ih, List.filter_cons, if_pos (bne_iff_ne.mpr c)]
      rfl
def left (n : Nat) (ps : List (Nat × Nat)) : List (Nat × Nat) := ps.filter fun x => x.1 != n && x.2 != n
theorem left_snoc {n : Nat} {ps : List (Nat × Nat)} {i : Nat} {x : Nat × Nat} (h : ps[i]? = some x) : left n (ps.take (i + 1)) = if (x.1 != n && x.2 != n) = true then left n (ps.take i) ++ [x] else left n (ps.take i) := by
  unfold left
  rw [take_more h, List.filter_append, List.filter_cons, List.filter_nil]
  split
  · rfl
  · exact List.append_nil _
theorem in_pair (n : Nat) (x : Nat × Nat) : (!inV (vn n) [vn x.1, vn x.2]) = (x.1 != n && x.2 != n) := by
  show (!(eqV (vn x.1) (vn n) || (eqV (vn x.2) (vn n) || false))) = _
  rw [eqV_vn, eqV_vn, Bool.or_false, Bool.not_or]
  have e : ∀ a : Nat, (!decide (a = n)) = (a != n) := fun a => by
    by_cases h : a = n
    · rw [h, bne_self_eq_false, decide_eq_true rfl]
      rfl
    · rw [bne_iff_ne.mpr h, decide_eq_false h]
      rfl
  rw [e, e]
theorem ok_rem {f : Addr} {fd : FuncData} (F : Fun K "remove_system" "Plan.remove_system" sRem f fd) (T : Txt K mg CR CS CP) : FnOk P w K mg base CX0 1 f fd ["self", "number"] (spRem CP CS) := by
  refine F.ok scRem (fun vs H Q E h => ?_) (fun cdv A outer s H vs Q E hr h => ?_)
  · obtain ⟨F, p, d, l, g, ps, n, rfl, _⟩ := h
    rfl
  · obtain ⟨F, p, d, l, g, ps, n, rfl, hpre, k⟩ := h
    have hu := hu_of hr
    obtain ⟨hP, R, hps, hfq⟩ := id hpre
    obtain ⟨ad, tp, hA⟩ := id hP
    obtain ⟨⟨dx, hob⟩, hdc, hls, htu, hsy, hfl⟩ := id hA
    refine ⟨_, pss_cons (ps_if (pt_cmp (pc_dnotin hu (pv 1) (pe_fld (pv 0) rfl))) (pss_one (ps_ret (pe_lst (pa_cons (pe_gi rfl T.cNOT) pa_nil)))) pss_nil)
      (pss_cons (ps_expr (pe_dpop1 (pe_fld (pv 0) rfl) (pv 1) ⟨rfl, rfl, rfl, rfl⟩))
      (pss_cons (ps_fld (pv 0) (pe_lc (own := [("pair", 2)]) (g := gName 2) (tt := tTest (tOp (rIn K true) (tVar 1) (tVar 2))) (te := tVar 2) rfl scRem.nd (pi_list (pe_fld (pv 0) rfl)) (blkOk_by (N := nRem) (sc := defScope sRem) (by decide +kernel))
          (fun _ _ _ _ _ => pg_name (i := 2) scRem.nd rfl (Or.inl rfl))
          (fun _ _ _ _ _ => pts_one (pt_cmpR op_notIn_seq (pv 1) (pv 2) rfl))
          (fun _ _ _ _ _ => pv 2)) rfl)
      (pss_one (ps_ret (pe_lst (pa_cons (pe_callB call_lenD (by rfl) T.len PySem.boot_len (pa_cons (pe_fld (pv 0) rfl) pa_nil)) (pa_cons (pe_callB call_len_seq (by rfl) T.len PySem.boot_len (pa_cons (pe_fld (pv 0) rfl) pa_nil)) pa_nil))))))), ?_⟩
    refine ⟨_, rfl, _, rfl, p, CP, dx, _, _, rfl, hob, T.clP, T.pSystems, pF_systems _ _ _, d, _, rfl, DGet.k (k := Sum.inl (n : Int)) hdc, _, rfl, ?_⟩
    rw [val_isSome]
    by_cases cn : n ∈ nums g
    · rw [decide_eq_true cn]
      refine iteF ?_
      obtain ⟨sn, hsn⟩ := sysOf_mem cn
      -- self.systems.pop(number)
      refine ⟨_, rfl, p, CP, dx, _, _, rfl, hob, T.clP, T.pSystems, pF_systems _ _ _, d, rfl, .inl ⟨_, .inl hdc⟩, _, rfl, _, Sum.inl (n : Int), _, hdc, rfl, val_some hsn, ?_⟩
      rw [drop_kvs]
      have npd : p ≠ d := ne_of hob hdc (fun q => by cases q)
      have nld : l ≠ d := ne_of hls hdc (fun q => by cases q)
      generalize hH1 : upd H d (.dK (kvsOf ad (g.systems.filter fun s => s.number != n))) = H1
      have k1 : ∀ b o, H b = some o → b ≠ d → H1 b = some o := fun b o e hb => by
        rw [← hH1, upd_ne hb]
        exact e
      have hd1 : H1 d = some (.dK (kvsOf ad (gone g n).systems)) := by
        rw [← hH1]
        exact upd_same
      have f1 : ∀ b, H1 b = none → H b = none := fun b e => by
        by_cases q : b = d
        · rw [q, hd1] at e
          cases e
        · rw [← hH1, upd_ne q] at e
          exact e
      have hob1 := k1 _ _ hob npd
      have hls1 := k1 _ _ hls nld
      have htu1 : ∀ x ∈ ps, H1 (tp x) = some (tupOf x) := fun x hx => k1 _ _ (htu x hx) (ne_of (htu x hx) hdc (fun q => by cases q))
      -- self.pairs = [pair for pair in self.pairs if number not in pair]
      refine ⟨_, rfl, p, CP, dx, _, _, rfl, hob1, T.clP, T.pPairs, pF_pairs _ _ _, l, rfl, ⟨_, SqL.of hls1⟩, fun D hD => ?_⟩
      refine lc_list (K := K) (a := l) (xs := prsOf tp ps) (fun i H' => Same H1 H' ∧ H' D = some (.lst (prsOf tp (left n (ps.take i))))) ⟨same_upd hD, upd_same⟩ (fun i H' _ ⟨s1, _⟩ => SqL.of (s1 _ _ hls1)) ?_ ?_
      · rintro i y H' hi ⟨s1, hD1⟩
        obtain ⟨x, hx, rfl⟩ := map_get hi
        have mx := List.mem_of_getElem? hx
        refine ⟨rfl, ?_⟩
        refine ⟨_, rfl, _, rfl, tp x, [vn x.1, vn x.2], rfl, .inr (SqT.of (s1 _ _ (htu1 x mx))), rfl, rfl, _, rfl, ?_⟩
        show if (!inV (vn n) [vn x.1, vn x.2]) = true then _ else _
        rw [in_pair]
        have es := left_snoc (n := n) hx
        cases c : (x.1 != n && x.2 != n) with
        | true =>
          refine iteT ?_
          rw [c] at es
          have hll : (left n (ps.take i)).length ≤ ps.length := by
            refine Nat.le_trans (List.length_filter_le ..) ?_
            rw [List.length_take]
            omega
          refine ⟨_, rfl, _, hD1, (by rw [show (prsOf tp (left n (ps.take i))).length = (left n (ps.take i)).length from List.length_map ..]; exact big (by omega)), fun b o e => ?_, ?_⟩
          · rw [upd_ne (ne_of_none e hD)]
            exact s1 b o e
          · rw [upd_same, es]
            show some (HO.lst (prsOf tp (left n (ps.take i)) ++ [V.ref (tp x)])) = some (HO.lst (prsOf tp (left n (ps.take i) ++ [x])))
            unfold prsOf
            rw [List.map_append]
            rfl
        | false =>
          refine iteF ⟨s1, ?_⟩
          rw [c] at es
          rw [es]
          exact hD1
      · rintro H2 ⟨s2, hD2⟩
        rw [show (prsOf tp ps).length = ps.length from List.length_map .., List.take_length] at hD2
        have nDp : D ≠ p := ne_of hD2 (s2 _ _ hob1) (fun q => by cases q)
        have nDd : D ≠ d := ne_of hD2 (s2 _ _ hd1) (fun q => by cases q)
        refine ⟨_, rfl, p, CP, dx, _, rfl, s2 _ _ hob1, T.clP, T.pPairs, (by show 3 < 1000; decide), ?_⟩
        rw [show putF "pairs" (V.ref D) (pF g.given d l) = pF g.given d D from pF_put_pairs _ _ _ _]
        generalize hH3 : upd H2 p (.ins CP dx (pF g.given d D)) = H3
        have k3 : ∀ b o, H2 b = some o → b ≠ p → H3 b = some o := fun b o e hb => by
          rw [← hH3, upd_ne hb]
          exact e
        have hob3 : H3 p = some (.ins CP dx (pF g.given d D)) := by
          rw [← hH3]
          exact upd_same
        have f3 : ∀ b, H3 b = none → H2 b = none := fun b e => by
          by_cases q : b = p
          · rw [q, hob3] at e
            cases e
          · rw [← hH3, upd_ne q] at e
            exact e
        have hd3 := k3 _ _ (s2 _ _ hd1) npd.symm
        have hD3 := k3 _ _ hD2 nDp
        have hA3 : PlanA CP CS H3 F p d D (gone g n) (left n ps) ad tp := by
          refine ⟨⟨dx, hob3⟩, hd3, hD3, fun x hx => ?_, fun s hs => ?_, fun q => ?_⟩
          · have mx : x ∈ ps := (List.mem_filter.mp hx).1
            exact k3 _ _ (s2 _ _ (htu1 x mx)) (ne_of (htu x mx) hob (fun q => by cases q))
          · obtain ⟨ra, wa, n1, n2, ⟨dy, g1⟩, g2, g3⟩ := hsy s (List.mem_filter.mp hs).1
            have up : ∀ b o, H b = some o → b ≠ d → b ≠ p → H3 b = some o := fun b o e h1 h2 => k3 _ _ (s2 _ _ (k1 _ _ e h1)) h2
            have h1 : ad s.number ≠ p := ne_of g1 hob (fun q => by
              have := (HO.ins.inj q).2.2
              exact absurd (Prod.mk.inj (List.cons.inj this).1).1 (by decide +kernel))
            refine ⟨ra, wa, fun q => ?_, fun q => ?_, ⟨dy, up _ _ g1 (ne_of g1 hdc (fun q => by cases q)) h1⟩, up _ _ g2 (ne_of g2 hdc (fun q => by cases q)) (ne_of g2 hob (fun q => by cases q)), up _ _ g3 (ne_of g3 hdc (fun q => by cases q)) (ne_of g3 hob (fun q => by cases q))⟩
            · rcases List.mem_cons.mp q with z | z
              · exact ne_of_none g2 (f1 D hD) z
              · exact n1 (List.mem_cons_of_mem _ z)
            · rcases List.mem_cons.mp q with z | z
              · exact ne_of_none g3 (f1 D hD) z
              · exact n2 (List.mem_cons_of_mem _ z)
          · obtain ⟨o, ho⟩ := hfq D q
            rw [f1 D hD] at ho
            cases ho
        -- return [len(self.systems), len(self.pairs)]
        refine ⟨_, rfl, p, CP, dx, _, _, rfl, hob3, T.clP, T.pSystems, pF_systems _ _ _, d, _, rfl, hd3, _, rfl, p, CP, dx, _, _, rfl, hob3, T.clP, T.pPairs, pF_pairs _ _ _, D, _, rfl, .inl (SqL.of hD3), (by show 2 ≤ sizeLine; decide), fun b hb => ?_⟩
        have es := step_gone cn
        have Rg := R.gone n
        have hb0 : H b = none := f1 b (s2.free (f3 b hb))
        refine k _ b D (left n ps) ?_ ?_ ?_ (.inr (f1 D hD)) ?_ hb0 ?_
        · rw [es]
          exact ⟨ad, tp, hA3.same (same_upd hb)⟩
        · rw [es]
          exact Rg
        · exact Nat.le_succ_of_le (List.length_filter_le ..)
        · intro b' o e hb'
          have q1 : b' ≠ p := fun q => hb' (by rw [q]; simp)
          have q2 : b' ≠ d := fun q => hb' (by rw [q]; simp)
          rw [upd_ne (ne_of_none e hb0)]
          exact k3 _ _ (s2 _ _ (k1 _ _ e q2)) q1
        · rw [upd_same, es]
          show some (HO.lst [vn (kvsOf ad (gone g n).systems).length, vn (prsOf tp (left n ps)).length]) = some (HO.lst [vn (gone g n).systems.length, vn (gone g n).before.length])
          rw [kvs_len, show (prsOf tp (left n ps)).length = (left n ps).length from List.length_map .., show (left n ps).length = (gone g n).before.length from Rg.len]
    · rw [decide_eq_false cn]
      refine iteT ?_
      exact ⟨(by show 1 ≤ sizeLine; decide), fun b hb => k.new hpre (step_gone2 cn) hb⟩
end
end Sr

/-! add_system. -/
namespace Sr
open PySem PySem.Spec PyProof.Rows L2
open Ge02 (House Sys)
section
variable {P : Program} {w : World} {K : PySem.W.Frag} {mg : Str → Option Value} {base : Heap} {CR CS CP : Addr}

abbrev sAdd : Stmt := inClass (top 33) 1
def spAdd (CP CS : Addr) : Sp := fun vs H Q _ => ∃ (F : List Addr) (p d l ra wa : Addr) (g : House) (ps : List (Nat × Nat)) (c : Nat) (r w : List Nat), vs = [.ref p, vn c, .ref ra, .ref wa] ∧ Pre CP CS H F p d l g ps ∧
  H ra = some (.lst (vns r)) ∧ H wa = some (.lst (vns w)) ∧ ra ∉ l :: F ∧ wa ∉ l :: F ∧ Post CP CS H F p d l g ps (.system c r w) Q
theorem scAdd : FnScope ["self", "cost", "reads", "writes", "number"] ["self", "cost", "reads", "writes"] (defScope sAdd) := ⟨rfl, rfl, rfl, by decide +kernel, rfl, by decide +kernel, by decide +kernel⟩
theorem step_sys1 {g : House} {c : Nat} {r w : List Nat} (h : (costOk c && (Ge02.kindsOk r && Ge02.kindsOk w)) = false) : Ge02.step g (.system c r w) = (g, [-1]) := by
  refine if_pos ?_
  cases e1 : Ge02.kindsOk r with
  | false => exact .inl rfl
  | true =>
    cases e2 : Ge02.kindsOk w with
    | false => exact .inr (.inl rfl)
    | true =>
      rw [e1, e2] at h
      unfold costOk at h
      simp only [Bool.and_true, Bool.and_eq_false_iff, decide_eq_false_iff_not] at h
      refine .inr (.inr ?_)
      omega
theorem sys_ok {c : Nat} {r w : List Nat} (h : (costOk c && (Ge02.kindsOk r && Ge02.kindsOk w)) = true) : Ge02.kindsOk r = true ∧ Ge02.kindsOk w = true ∧ 1 ≤ c ∧ c ≤ 999 := by
  rw [Bool.and_eq_true, Bool.and_eq_true] at h
  unfold costOk at h
  rw [Bool.and_eq_true, decide_eq_true_iff, decide_eq_true_iff] at h
  exact ⟨h.2.1, h.2.2, h.1.1, h.1.2⟩
theorem sys_neg {c : Nat} {r w : List Nat} (h : (costOk c && (Ge02.kindsOk r && Ge02.kindsOk w)) = true) : ¬ (Ge02.kindsOk r = false ∨ Ge02.kindsOk w = false ∨ c = 0 ∨ 999 < c) := by
  obtain ⟨h1, h2, h3, h4⟩ := sys_ok h
  rw [h1, h2]
  rintro (q | q | q | q)
  · cases q
  · cases q
  · omega
  · omega
theorem step_sys5 {g : House} {c : Nat} {r w : List Nat} (h : (costOk c && (Ge02.kindsOk r && Ge02.kindsOk w)) = true) (hm : 10 ≤ g.systems.length) : Ge02.step g (.system c r w) = (g, [-5]) := (if_neg (sys_neg h)).trans (if_pos hm)
theorem step_sys {g : House} {c : Nat} {r w : List Nat} (h : (costOk c && (Ge02.kindsOk r && Ge02.kindsOk w)) = true) (hm : ¬ 10 ≤ g.systems.length) : Ge02.step g (.system c r w) = (added g c r w, Ge02.ints [g.given]) := (if_neg (sys_neg h)).trans (if_neg hm)
theorem kvs_congr {ad ad' : Nat → Addr} : ∀ {ss : List Sys}, (∀ s ∈ ss, ad s.number = ad' s.number) → kvsOf ad ss = kvsOf ad' ss := fun h => List.map_congr_left fun s hs => by rw [h s hs]
theorem val_none {ad : Nat → Addr} {g : House} {n : Nat} (h : n ∉ nums g) : valV (kvsOf ad g.systems) (Sum.inl (n : Int)) = none := by
  have := val_isSome ad g n
  rw [decide_eq_false h] at this
  exact Option.isSome_eq_false_iff.mp this |> Option.isNone_iff_eq_none.mp
theorem ok_add {f fC fK fI : Addr} {fd fdC fdK fdI : FuncData} (F : Fun K "add_system" "Plan.add_system" sAdd f fd) (T : Txt K mg CR CS CP) (GC : FnOk P w K mg base CX0 1 fC fdC ["cost"] spCost) (bC : Binds K fdC ["cost"] []) (gC : mg "cost_is_right" = some (.ref fC)) (kC : PySem.W.keepIn K (.ref fC) = true)
    (GK : FnOk P w K mg base CX0 1 fK fdK ["kinds"] (spKinds K)) (bK : Binds K fdK ["kinds"] []) (gK : mg "kinds_are_right" = some (.ref fK)) (kK : PySem.W.keepIn K (.ref fK) = true)
    (M : Mk K CS fI) (GI : FnOk P w K mg base CX0 1 fI fdI ["self", "cost", "reads", "writes"] (spSInit CS)) (bI : Binds K fdI ["self", "cost", "reads", "writes"] []) :
    FnOk P w K mg base CX0 3 f fd ["self", "cost", "reads", "writes"] (spAdd CP CS) := by
  refine F.ok scAdd (fun vs H Q E h => ?_) (fun cdv A outer s H vs Q E hr h => ?_)
  · obtain ⟨F, p, d, l, ra, wa, g, ps, c, r, w, rfl, _⟩ := h
    rfl
  · obtain ⟨F, p, d, l, ra, wa, g, ps, c, r, w, rfl, hpre, hra, hwa, nra, nwa, k⟩ := h
    have hu := hu_of hr
    have hr1 : Room 1 _ := hr.mono (by decide)
    obtain ⟨hP, R, hps, hfq⟩ := id hpre
    obtain ⟨ad, tp, hA⟩ := id hP
    obtain ⟨⟨dx, hob⟩, hdc, hls, htu, hsy, hfl⟩ := id hA
    refine ⟨_, pss_cons (ps_if (pt_not (PW.pt (pw_and (pt_val (pe_call GC hr1 rfl gC kC bC .nil pass0 (pa_cons (pv 1) pa_nil))) (pw_and (pt_val (pe_call GK hr1 rfl gK kK bK .nil pass0 (pa_cons (pv 2) pa_nil))) (pw_and1 (pt_val (pe_call GK hr1 rfl gK kK bK .nil pass0 (pa_cons (pv 3) pa_nil)))))))) (pss_one (ps_ret (pe_lst (pa_cons (pe_gi rfl T.cWRONG) pa_nil)))) pss_nil)
      (pss_cons (ps_if (pt_cmpR op_ge (pe_callB call_lenD (by rfl) T.len PySem.boot_len (pa_cons (pe_fld (pv 0) rfl) pa_nil)) (pe_gi rfl T.cMOST) (nomark _)) (pss_one (ps_ret (pe_lst (pa_cons (pe_gi rfl T.cMANY) pa_nil)))) pss_nil)
      (pss_cons (ps_set (i := 4) scAdd.nd rfl (Or.inl rfl) (pe_fld (pv 0) rfl))
      (pss_cons (ps_dput hu (pe_fld (pv 0) rfl) (pv 4) (pe_make M GI hr rfl T.gS bI .nil pass0 (pa_cons (pv 1) (pa_cons (pv 2) (pa_cons (pv 3) pa_nil)))) rfl)
      (pss_cons (ps_fld (pv 0) (pe_op op_add (pv 4) pe_int) rfl)
      (pss_one (ps_ret (pe_lst (pa_cons (pv 4) pa_nil)))))))), ?_⟩
    refine ⟨_, rfl, c, rfl, _, rfl, ?_⟩
    have no : ∀ (h : (costOk c && (Ge02.kindsOk r && Ge02.kindsOk w)) = false) (b : Addr), H b = none → Q (.ref b) (upd H b (.lst [V.int (-1)])) := fun h b hb => k.new hpre (step_sys1 h) hb
    cases e1 : costOk c with
    | false =>
      refine iteF (iteT ?_)
      exact ⟨(by show 1 ≤ sizeLine; decide), fun b hb => no (by rw [e1]; rfl) b hb⟩
    | true =>
      refine iteT ?_
      refine ⟨_, rfl, ra, r, rfl, SqL.of hra, _, rfl, ?_⟩
      cases e2 : Ge02.kindsOk r with
      | false =>
        refine iteF (iteT ?_)
        exact ⟨(by show 1 ≤ sizeLine; decide), fun b hb => no (by rw [e1, e2]; rfl) b hb⟩
      | true =>
        refine iteT ?_
        refine ⟨_, rfl, wa, w, rfl, SqL.of hwa, _, rfl, ?_⟩
        cases e3 : Ge02.kindsOk w with
        | false =>
          refine iteT ?_
          exact ⟨(by show 1 ≤ sizeLine; decide), fun b hb => no (by rw [e1, e2, e3]; rfl) b hb⟩
        | true =>
          refine iteF ?_
          have yes : (costOk c && (Ge02.kindsOk r && Ge02.kindsOk w)) = true := by rw [e1, e2, e3]; rfl
          obtain ⟨okr, okw, oc1, oc2⟩ := sys_ok yes
          -- len(self.systems) >= MOST_SYSTEMS
          refine ⟨_, rfl, p, CP, dx, _, _, rfl, hob, T.clP, T.pSystems, pF_systems _ _ _, d, _, rfl, hdc, _, _, rfl, rfl, _, rfl, ?_⟩
          rw [kvs_len]
          by_cases cm : 10 ≤ g.systems.length
          · refine if_true_of (decide_eq_true (by omega : (10 : Int) ≤ (g.systems.length : Int))) ?_
            exact ⟨(by show 1 ≤ sizeLine; decide), fun b hb => k.new hpre (step_sys5 yes cm) hb⟩
          · refine if_false_of (decide_eq_false (by omega : ¬ (10 : Int) ≤ (g.systems.length : Int))) ?_
            have es := step_sys yes cm
            have Ra := R.added okr okw oc1 oc2 (by omega)
            have ng : g.given ∉ nums g := fun q => by
              obtain ⟨s, hs, e⟩ := List.mem_map.mp q
              have := R.good.lt s hs
              omega
            -- number = self.numbers_given
            refine ⟨_, rfl, p, CP, dx, _, _, rfl, hob, T.clP, T.pGiven, pF_given _ _ _, ?_⟩
            -- self.systems[number] = System(cost, reads, writes)
            refine ⟨_, rfl, _, rfl, _, rfl, ?_⟩
            intro x dy nx ndy ne
            refine ⟨x, dy, ra, wa, c, rfl, upd_same, fun H1 hx1 kp => ⟨rfl, ?_⟩⟩
            have s1 : Same H H1 := Same.made nx ndy fun b o e hb => kp b o e fun q => hb (List.mem_singleton.mp q)
            have npd : p ≠ d := ne_of hob hdc (fun q => by cases q)
            refine ⟨_, rfl, p, CP, dx, _, _, rfl, s1 _ _ hob, T.clP, T.pSystems, pF_systems _ _ _, _, rfl, d, _, rfl, DPut.k (k := Sum.inl (g.given : Int)) (s1 _ _ hdc) (by rw [kvs_len]; exact big (by omega)), ?_⟩
            rw [putK_new _ (val_none ng)]
            let ad' : Nat → Addr := fun n => if n = g.given then x else ad n
            have ead : ∀ s ∈ g.systems, ad' s.number = ad s.number := fun s hs => if_neg fun q => by
              have := R.good.lt s hs
              omega
            have ekv : kvsOf ad g.systems ++ [((Sum.inl (g.given : Int) : Key), V.ref x)] = kvsOf ad' (added g c r w).systems := by
              show _ = kvsOf ad' (g.systems ++ [(⟨g.given, r, w, c⟩ : Sys)])
              unfold kvsOf
              rw [List.map_append]
              congr 1
              · exact List.map_congr_left fun s hs => by rw [ead s hs]
              · show _ = [((Sum.inl (g.given : Int) : Key), V.ref (if g.given = g.given then x else ad g.given))]
                rw [if_pos rfl]
            rw [ekv]
            generalize hH2 : upd H1 d (.dK (kvsOf ad' (added g c r w).systems)) = H2
            have k2 : ∀ b o, H1 b = some o → b ≠ d → H2 b = some o := fun b o e hb => by
              rw [← hH2, upd_ne hb]
              exact e
            have hd2 : H2 d = some (.dK (kvsOf ad' (added g c r w).systems)) := by
              rw [← hH2]
              exact upd_same
            have hob2 := k2 _ _ (s1 _ _ hob) npd
            -- self.numbers_given = number + 1
            refine ⟨_, rfl, _, _, rfl, rfl, _, rfl, p, CP, dx, _, rfl, hob2, T.clP, T.pGiven, (by show 3 < 1000; decide), ?_⟩
            rw [show putF "numbers_given" (V.int ((g.given : Int) + 1)) (pF g.given d l) = pF (g.given + 1) d l from pF_put_given _ _ _ _]
            generalize hH3 : upd H2 p (.ins CP dx (pF (g.given + 1) d l)) = H3
            have k3 : ∀ b o, H2 b = some o → b ≠ p → H3 b = some o := fun b o e hb => by
              rw [← hH3, upd_ne hb]
              exact e
            have hob3 : H3 p = some (.ins CP dx (pF (added g c r w).given d l)) := by
              rw [← hH3]
              exact upd_same
            have hd3 := k3 _ _ hd2 npd.symm
            have up : ∀ b o, H b = some o → b ≠ d → b ≠ p → H3 b = some o := fun b o e h1 h2 => k3 _ _ (k2 _ _ (s1 _ _ e) h1) h2
            have f3 : ∀ b, H3 b = none → H b = none := fun b e => by
              cases q : H b with
              | none => rfl
              | some o =>
                by_cases h1 : b = d
                · rw [h1, hd3] at e
                  cases e
                · by_cases h2 : b = p
                  · rw [h2, hob3] at e
                    cases e
                  · rw [up b o q h1 h2] at e
                    cases e
            have insNe : ∀ {C dz : Addr} {n : Nat} {a1 a2 : Addr}, HO.ins C dz (sF n a1 a2) ≠ HO.ins CP dx (pF g.given d l) := fun q => by
              have := (HO.ins.inj q).2.2
              exact absurd (Prod.mk.inj (List.cons.inj this).1).1 (by decide +kernel)
            have hA3 : PlanA CP CS H3 F p d l (added g c r w) ps ad' tp := by
              refine ⟨⟨dx, hob3⟩, hd3, up _ _ hls (ne_of hls hdc (fun q => by cases q)) (ne_of hls hob (fun q => by cases q)), fun y hy => up _ _ (htu y hy) (ne_of (htu y hy) hdc (fun q => by cases q)) (ne_of (htu y hy) hob (fun q => by cases q)), fun s hs => ?_, hfl⟩
              rcases List.mem_append.mp hs with q | q
              · rw [ead s q]
                obtain ⟨ra', wa', n1, n2, ⟨dz, g1⟩, g2, g3⟩ := hsy s q
                exact ⟨ra', wa', n1, n2, ⟨dz, up _ _ g1 (ne_of g1 hdc (fun q => by cases q)) (ne_of g1 hob insNe)⟩, up _ _ g2 (ne_of g2 hdc (fun q => by cases q)) (ne_of g2 hob (fun q => by cases q)), up _ _ g3 (ne_of g3 hdc (fun q => by cases q)) (ne_of g3 hob (fun q => by cases q))⟩
              · rw [List.mem_singleton] at q
                subst q
                have ex : ad' g.given = x := if_pos rfl
                show SysAt CS H3 (l :: F) (ad' g.given) _
                rw [ex]
                refine ⟨ra, wa, nra, nwa, ⟨dy, k3 _ _ (k2 _ _ hx1 (ne_of hx1 (s1 _ _ hdc) (fun q => by cases q))) (ne_of hx1 (s1 _ _ hob) insNe)⟩, up _ _ hra (ne_of hra hdc (fun q => by cases q)) (ne_of hra hob (fun q => by cases q)), up _ _ hwa (ne_of hwa hdc (fun q => by cases q)) (ne_of hwa hob (fun q => by cases q))⟩
            -- return [number]
            refine ⟨_, rfl, (by show 1 ≤ sizeLine; decide), fun b hb => ?_⟩
            have hb0 := f3 b hb
            refine k _ b l ps ?_ ?_ (by omega) (.inl rfl) ?_ hb0 ?_
            · rw [es]
              exact ⟨ad', tp, hA3.same (same_upd hb)⟩
            · rw [es]
              exact Ra
            · intro b' o e hb'
              have q1 : b' ≠ p := fun q => hb' (by rw [q]; simp)
              have q2 : b' ≠ d := fun q => hb' (by rw [q]; simp)
              rw [upd_ne (ne_of_none e hb0)]
              exact up b' o e q2 q1
            · rw [upd_same, es]
              rfl
end
end Sr

/-! Plan: shortest_row, way, told_order, apart, is_untold, untold_pairs. -/
namespace Sr
open PySem PySem.Spec PyProof.Rows L2
open Ge02 (House Sys)

/-! ### steps.get -/
theorem get_cases (D : List (Nat × Nat)) (nd : (D.map (·.1)).Nodup) (y : Nat) : (valV (kD (nv D)) (Sum.inl (y : Int)) = none ∧ ∀ v, (y, v) ∉ D) ∨ ∃ v, (y, v) ∈ D ∧ valV (kD (nv D)) (Sum.inl (y : Int)) = some (vn v) := by
  by_cases c : y ∈ D.map (·.1)
  · obtain ⟨x, hx, rfl⟩ := List.mem_map.mp c
    exact .inr ⟨x.2, hx, kD_some (by rw [nv_keys]; exact nd) (nv_mem hx)⟩
  · exact .inl ⟨kD_none (by rw [nv_keys]; exact c), fun v hv => c (List.mem_map.mpr ⟨_, hv, rfl⟩)⟩
theorem get_scal {D : List (Nat × Nat)} (nd : (D.map (·.1)).Nodup) (y k : Nat) : scal ((valV (kD (nv D)) (Sum.inl (y : Int))).getD .non) (vn k) = true := by
  rcases get_cases D nd y with ⟨e, _⟩ | ⟨v, _, e⟩
  · rw [e]
    rfl
  · rw [e]
    rfl
theorem get_is {D : List (Nat × Nat)} (nd : (D.map (·.1)).Nodup) (y k : Nat) : decide ((valV (kD (nv D)) (Sum.inl (y : Int))).getD .non = vn k) = decide ((y, k) ∈ D) := by
  rcases get_cases D nd y with ⟨e, h⟩ | ⟨v, h, e⟩
  · rw [e, decide_eq_false (h k)]
    exact decide_eq_false fun q => (by cases q)
  · rw [e]
    show decide (vn v = vn k) = _
    rw [dec_vn]
    refine decide_eq_decide.mpr ⟨fun q => by rw [← q]; exact h, fun q => ?_⟩
    have := keys_inj nd h q rfl
    exact (Prod.mk.inj this).2
theorem succs_snoc {ps : List (Nat × Nat)} {i u : Nat} {x : Nat × Nat} (h : ps[i]? = some x) : succs (ps.take (i + 1)) u = if x.1 = u then succs (ps.take i) u ++ [x.2] else succs (ps.take i) u := by
  unfold succs
  rw [take_more h, List.filter_append, List.map_append, List.filter_cons, List.filter_nil]
  by_cases c : x.1 = u
  · rw [if_pos c, if_pos (beq_iff_eq.mpr c)]
    rfl
  · rw [if_neg c, if_neg (fun q => c (beq_iff_eq.mp q))]
    exact List.append_nil _
theorem succs_len (ps : List (Nat × Nat)) (u : Nat) : (succs ps u).length ≤ ps.length := by
  unfold succs
  rw [List.length_map]
  exact List.length_filter_le ..
theorem filter_more {p : Nat → Bool} {l : List Nat} {i n : Nat} (h : l[i]? = some n) : (l.take (i + 1)).filter p = if p n = true then (l.take i).filter p ++ [n] else (l.take i).filter p := by
  rw [take_more h, List.filter_append, List.filter_cons, List.filter_nil]
  split
  · rfl
  · exact List.append_nil _
theorem sub_one (k : Nat) : V.int (((k + 1 : Nat) : Int) - 1) = vn k := by
  show V.int _ = V.int _
  congr 1
  omega

section
variable {P : Program} {w : World} {K : PySem.W.Frag} {mg : Str → Option Value} {base : Heap} {CR CS CP : Addr}
/-! ### shortest_row -/
abbrev sSR : Stmt := inClass (top 33) 10
def spSR (CP CS : Addr) : Sp := fun vs H Q _ => ∃ (F : List Addr) (p d l q : Addr) (g : House) (ps D : List (Nat × Nat)) (i j k : Nat), vs = [.ref p, vn i, .ref q] ∧ PlanAt CP CS H F p d l g ps ∧ Rel g ps ∧ ps.length ≤ 1800 ∧ H q = some (.dK (kD (nv D))) ∧ Steps ps j D ∧ (i, k) ∈ D ∧ k ≤ 10 ∧
  ∀ (H' : Hp) (b : Addr) (r : List Nat), Same H H' → H b = none → H' b = some (.lst (vns r)) → wayK g.before j k i = some r → r.length ≤ 11 → Q (.ref b) H'
abbrev nSR : List Str := ["self", "first", "steps", "row", "left", "followers", "earlier", "later", "number"]
theorem scSR : FnScope nSR ["self", "first", "steps"] (defScope sSR) := ⟨rfl, rfl, rfl, by decide +kernel, rfl, by decide +kernel, by decide +kernel⟩
theorem ok_sr {f : Addr} {fd : FuncData} (F : Fun K "shortest_row" "Plan.shortest_row" sSR f fd) (T : Txt K mg CR CS CP) : FnOk P w K mg base CX0 1 f fd ["self", "first", "steps"] (spSR CP CS) := by
  refine F.ok scSR (fun vs H Q E h => ?_) (fun cdv A outer s H vs Q E hr h => ?_)
  · obtain ⟨F, p, d, l, q, g, ps, D, i, j, k, rfl, _⟩ := h
    rfl
  · obtain ⟨F, p, d, l, q, g, ps, D, i, j, k, rfl, ⟨ad, tp, ⟨dx, hob⟩, hdc, hls, htu, hsy, hfl⟩, R, hps, hq, sD, hi, hk10, kk⟩ := h
    have hu := hu_of hr
    have ndv : ((nv D).map (·.1)).Nodup := by
      rw [nv_keys]
      exact sD.nd
    refine ⟨_, pss_cons (ps_set (i := 3) scSR.nd rfl (Or.inr rfl) (pe_lst (pa_cons (pv 1) pa_nil)))
      (pss_cons (ps_set (i := 4) scSR.nd rfl (Or.inr rfl) (pe_dget hu (pv 2) (pv 1) (fun _ _ => rfl)))
      (pss_cons (ps_while PassesOwn.never (pt_cmpR op_gt (pv 4) pe_int (nomark _))
        (pss_cons (ps_set (i := 4) scSR.nd rfl (Or.inr rfl) (pe_op op_sub (pv 4) pe_int))
        (pss_cons (ps_setLc (i := 5) (own := [("earlier", 6), ("later", 7)]) (g := gTup K 2 (gCons (gName 6) (gCons (gName 7) gNil))) (tt := tTest (tOp rEq (tVar 6) (tOp (rIxL K) (tVar 3) (tUn (rU fun i => .int (-i)) (tC (.int 1)))))) (te := tVar 7) rfl scSR.nd rfl rfl (sw_true rfl rfl rfl (by decide +kernel)) (pi_list (pe_fld (pv 0) rfl)) (blkOk_by (N := nSR) (sc := defScope sSR) (by decide +kernel))
            (fun _ _ _ _ _ => pg_tup rfl (pgs_cons (pg_name (i := 6) scSR.nd rfl (Or.inl rfl)) (pgs_cons (pg_name (i := 7) scSR.nd rfl (Or.inl rfl)) pgs_nil)))
            (fun _ _ _ _ _ => pts_one (pt_cmpR op_eq (pv 6) (pe_ix ix_list (pv 3) (pe_un un_neg pe_int) (fun _ _ => rfl)) (nomark _)))
            (fun _ _ _ _ _ => pv 7))
        (pss_one (ps_expr (pe_bm PySem.F.plainAttrs_list PySem.F.slot_list_append PySem.F.type_list_append mt_append (pv 3) (pa_cons (pe_callB (cr_min rfl) (by rfl) T.min (by decide +kernel) (pa_cons
          (pe_lc (own := [("number", 8)]) (g := gName 8) (tt := tTest (tOp rEq (tDGet1 (tVar 2) (tVar 8)) (tVar 4))) (te := tVar 8) rfl scSR.nd (pi_list (pv 5)) (blkOk_by (N := nSR) (sc := defScope sSR) (by decide +kernel))
            (fun _ _ _ _ _ => pg_name (i := 8) scSR.nd rfl (Or.inl rfl))
            (fun _ _ _ _ _ => pts_one (pt_cmpR op_eq (pe_dget1 hu (pv 2) (pv 8) ⟨rfl, rfl, rfl, rfl⟩) (pv 4) (nomark _)))
            (fun _ _ _ _ _ => pv 8)) pa_nil)) pa_nil)))))))
      (pss_one (ps_ret (pv 3))))), ?_⟩
    -- row = [first]
    refine ⟨_, rfl, (by show 1 ≤ sizeLine; decide), fun r hr0 => ?_⟩
    have s0 := same_upd (o := HO.lst [vn i]) hr0
    -- left = steps[first]
    refine ⟨_, rfl, _, rfl, q, vn k, rfl, ?_, ?_⟩
    · rw [← kD_some ndv (nv_mem hi)]
      exact DGet.k (k := Sum.inl (i : Int)) (s0 _ _ hq)
    refine ⟨fun m σ H1 => ∃ (done : List Nat) (cur : Nat) (v5 : Option V), σ = [some (.ref p), some (vn i), some (.ref q), some (.ref r), some (vn m), v5, none, none, none] ∧ Same H H1 ∧ H1 r = some (.lst (vns (done ++ [cur]))) ∧ (cur, m) ∈ D ∧ wayK g.before j k i = (wayK g.before j m cur).map (fun z => done ++ z) ∧ done.length + m = k,
      ⟨k, [], i, none, rfl, s0, upd_same, hi, by cases wayK g.before j k i <;> rfl, by simp⟩, ?_⟩
    rintro m σ H1 ⟨done, cur, v5, rfl, s1, hr1, hcur, hway, hlen⟩
    refine ⟨_, rfl, _, _, rfl, rfl, _, rfl, ?_⟩
    cases m with
    | zero =>
      refine if_false_of (by decide) ?_
      have hz : cur = j := sD.wk _ hcur
      have e0 : wayK g.before j 0 cur = some [cur] := if_pos hz
      rw [e0] at hway
      refine ⟨_, rfl, ?_⟩
      exact kk H1 r (done ++ [cur]) s1 hr0 hr1 hway (by rw [List.length_append, List.length_singleton]; omega)
    | succ m =>
      refine if_true_of (decide_eq_true (by omega : ((m + 1 : Nat) : Int) > 0)) ?_
      refine ⟨fun σ' H' => ∃ m', m' < m + 1 ∧ ∃ (done : List Nat) (cur : Nat) (v5 : Option V), σ' = [some (.ref p), some (vn i), some (.ref q), some (.ref r), some (vn m'), v5, none, none, none] ∧ Same H H' ∧ H' r = some (.lst (vns (done ++ [cur]))) ∧ (cur, m') ∈ D ∧ wayK g.before j k i = (wayK g.before j m' cur).map (fun z => done ++ z) ∧ done.length + m' = k, fun _ _ z => z, ?_⟩
      -- left = left - 1
      refine ⟨_, rfl, _, _, rfl, rfl, Eq.mpr (congrArg (fun z => gName 4 z _ H1 _) (sub_one m)) ?_⟩
      -- followers
      refine ⟨_, rfl, p, CP, dx, _, _, rfl, s1 _ _ hob, T.clP, T.pPairs, pF_pairs _ _ _, l, rfl, ⟨_, SqL.of (s1 _ _ hls)⟩, fun L hL => ?_⟩
      have hL0 : H L = none := s1.free hL
      have nrL : r ≠ L := ne_of_none hr1 hL
      refine lc_list (K := K) (a := l) (xs := prsOf tp ps) (fun t H' => Same H1 H' ∧ H' L = some (.lst (vns (succs (ps.take t) cur)))) ⟨same_upd hL, upd_same⟩ (fun t H' _ ⟨s2, _⟩ => SqL.of (s2 _ _ (s1 _ _ hls))) ?_ ?_
      · rintro t y H2 ht ⟨s2, hL2⟩
        obtain ⟨x, hx, rfl⟩ := map_get ht
        have mx := List.mem_of_getElem? hx
        have hr2 : H2 r = some (.lst (vns done ++ [vn cur])) := by
          rw [vns_add]
          exact s2 _ _ hr1
        refine ⟨tp x, [vn x.1, vn x.2], rfl, SqT.of (s2 _ _ (s1 _ _ (htu x mx))), rfl, _, _, rfl, _, _, rfl, rfl, rfl, ?_⟩
        refine ⟨_, rfl, _, rfl, _, rfl, r, _, _, vn cur, rfl, rfl, SqL.of hr2, atI_last _ _, rfl, _, rfl, ?_⟩
        rw [dec_vn]
        have hsl := succs_len (ps.take t) cur
        rw [List.length_take] at hsl
        by_cases c : x.1 = cur
        · refine if_true_of (decide_eq_true c) ⟨_, rfl, _, hL2, (by rw [vns_len]; exact big (by omega)), fun b o e => ?_, ?_⟩
          · rw [upd_ne (ne_of_none e hL)]
            exact s2 b o e
          · rw [upd_same, succs_snoc hx, if_pos c, vns_add]
        · refine if_false_of (decide_eq_false c) ⟨s2, ?_⟩
          rw [succs_snoc hx, if_neg c]
          exact hL2
      · rintro H2 ⟨s2, hL2⟩
        rw [show (prsOf tp ps).length = ps.length from List.length_map .., List.take_length] at hL2
        have s2' : Same H H2 := s1.trans s2
        -- row.append(min([..]))
        refine ⟨_, rfl, .inl ⟨rfl, _, SqL.of (s2 _ _ hr1)⟩, ?_⟩
        refine ⟨_, rfl, L, rfl, ⟨_, SqL.of hL2⟩, fun M hM => ?_⟩
        refine lc_list (K := K) (a := L) (xs := vns (succs ps cur)) (fun t H' => Same H2 H' ∧ H' M = some (.lst (vns (((succs ps cur).take t).filter fun y => decide ((y, m) ∈ D))))) ⟨same_upd hM, upd_same⟩ (fun t H' _ ⟨s3, _⟩ => SqL.of (s3 _ _ hL2)) ?_ ?_
        · rintro t y H3 ht ⟨s3, hM3⟩
          obtain ⟨y, hy, rfl⟩ := map_get ht
          refine ⟨rfl, ?_⟩
          have hq3 := s3 _ _ (s2' _ _ hq)
          refine ⟨_, rfl, q, rfl, .inl ⟨_, .inl hq3⟩, _, rfl, _, DGet.k (k := Sum.inl (y : Int)) hq3, _, rfl, get_scal sD.nd y m, _, rfl, ?_⟩
          rw [get_is sD.nd]
          have hsl := succs_len ps cur
          have hfl := List.length_filter_le (fun y => decide ((y, m) ∈ D)) ((succs ps cur).take t)
          rw [List.length_take] at hfl
          by_cases c : (y, m) ∈ D
          · refine if_true_of (decide_eq_true c) ⟨_, rfl, _, hM3, (by rw [vns_len]; exact big (by omega)), fun b o e => ?_, ?_⟩
            · rw [upd_ne (ne_of_none e hM)]
              exact s3 b o e
            · rw [upd_same, filter_more hy, if_pos (decide_eq_true c), vns_add]
          · refine if_false_of (decide_eq_false c) ⟨s3, ?_⟩
            rw [filter_more hy, if_neg (by rw [decide_eq_false c]; exact Bool.false_ne_true)]
            exact hM3
        · rintro H3 ⟨s3, hM3⟩
          rw [vns_len, List.take_length, vns_map] at hM3
          obtain ⟨y0, hy0, hyk0⟩ := sD.has hcur
          have memc : ∀ y, y ∈ ((succs ps cur).filter fun y => decide ((y, m) ∈ D)) ↔ (cur, y) ∈ ps ∧ (y, m) ∈ D := fun y => by
            rw [List.mem_filter, mem_succs, decide_eq_true_iff]
          refine ⟨M, _, rfl, SqL.of hM3, (by rw [List.length_map]; exact List.length_pos_of_mem ((memc y0).mpr ⟨hy0, hyk0⟩)), fun z hz hle => ?_⟩
          obtain ⟨n, hn, rfl⟩ := List.mem_map.mp hz
          obtain ⟨hn1, hn2⟩ := (memc n).mp hn
          have hr3 := s3 _ _ (s2 _ _ hr1)
          refine ⟨r, _, _, rfl, rfl, hr3, (by rw [vns_len, List.length_append, List.length_singleton]; exact big (by omega)), ?_⟩
          have low : ∀ y, (cur, y) ∈ ps → (y, m) ∈ D → n ≤ y := fun y h1 h2 => by
            have := hle (y : Int) (List.mem_map.mpr ⟨y, (memc y).mpr ⟨h1, h2⟩, rfl⟩)
            omega
          refine ⟨m, Nat.lt_succ_self m, done ++ [cur], n, _, rfl, fun b o e => ?_, ?_, hn2, ?_, ?_⟩
          · rw [upd_ne (ne_of_none e hr0)]
            exact s3 _ _ (s2' b o e)
          · rw [upd_same]
            exact congrArg (fun z => some (HO.lst z)) (vns_add _ _)
          · rw [hway, R.wayStep sD hcur hn1 hn2 low, Option.map_map]
            congr 1
            funext z
            simp
          · rw [List.length_append, List.length_singleton]
            omega

/-! ### way -/
theorem vns_cnt (l : List Nat) : vn l.length :: vns l = (Ge02.ints (l.length :: l)).map V.int := vns_ints (l.length :: l)
theorem step_way2 {g : House} {i j : Nat} (h : i ∉ nums g ∨ j ∉ nums g ∨ i = j) : Ge02.step g (.way i j) = (g, [-2]) := by
  show (g, if (Ge02.sysOf g i).isNone = true ∨ (Ge02.sysOf g j).isNone = true ∨ i = j then [-2] else _) = _
  rw [if_pos (h.imp isNone_of (Or.imp isNone_of id))]
theorem step_way6 {g : House} {i j : Nat} (hi : i ∈ nums g) (hj : j ∈ nums g) (ne : i ≠ j) (hw : Ge02.wayFrom g.before j (g.systems.length + 1) [[i]] = none) : Ge02.step g (.way i j) = (g, [-6]) := by
  show (g, if (Ge02.sysOf g i).isNone = true ∨ (Ge02.sysOf g j).isNone = true ∨ i = j then [-2] else match Ge02.wayFrom g.before j (g.systems.length + 1) [[i]] with
    | none => [-6]
    | some w => Ge02.ints (w.length :: w)) = _
  rw [if_neg (fun q => q.elim (isNone_not hi) fun q => q.elim (isNone_not hj) ne), hw]
theorem step_way {g : House} {i j : Nat} {r : List Nat} (hi : i ∈ nums g) (hj : j ∈ nums g) (ne : i ≠ j) (hw : Ge02.wayFrom g.before j (g.systems.length + 1) [[i]] = some r) : Ge02.step g (.way i j) = (g, Ge02.ints (r.length :: r)) := by
  show (g, if (Ge02.sysOf g i).isNone = true ∨ (Ge02.sysOf g j).isNone = true ∨ i = j then [-2] else match Ge02.wayFrom g.before j (g.systems.length + 1) [[i]] with
    | none => [-6]
    | some w => Ge02.ints (w.length :: w)) = _
  rw [if_neg (fun q => q.elim (isNone_not hi) fun q => q.elim (isNone_not hj) ne), hw]
abbrev sWay : Stmt := inClass (top 33) 5
def spWay (CP CS : Addr) : Sp := fun vs H Q _ => ∃ (F : List Addr) (p d l : Addr) (g : House) (ps : List (Nat × Nat)) (i j : Nat), vs = [.ref p, vn i, vn j] ∧ Pre CP CS H F p d l g ps ∧ Post CP CS H F p d l g ps (.way i j) Q
theorem scWay : FnScope ["self", "first", "second", "steps"] ["self", "first", "second"] (defScope sWay) := ⟨rfl, rfl, rfl, by decide +kernel, rfl, by decide +kernel, by decide +kernel⟩
theorem ok_way {f fS fR fC : Addr} {fd fdS fdR fdC : FuncData} (F : Fun K "way" "Plan.way" sWay f fd) (T : Txt K mg CR CS CP) (GS : FnOk P w K mg base CX0 1 fS fdS ["self", "last"] (spStp CP CS)) (bS : Binds K fdS ["self", "last"] []) (mS : Meth K CP "steps_to" fS)
    (GR : FnOk P w K mg base CX0 1 fR fdR ["self", "first", "steps"] (spSR CP CS)) (bR : Binds K fdR ["self", "first", "steps"] []) (mR : Meth K CP "shortest_row" fR)
    (GC : FnOk P w K mg base CX0 1 fC fdC ["numbers"] spCount) (bC : Binds K fdC ["numbers"] []) (gC : mg "with_count" = some (.ref fC)) (kC : PySem.W.keepIn K (.ref fC) = true) :
    FnOk P w K mg base CX0 2 f fd ["self", "first", "second"] (spWay CP CS) := by
  refine F.ok scWay (fun vs H Q E h => ?_) (fun cdv A outer s H vs Q E hr h => ?_)
  · obtain ⟨F, p, d, l, g, ps, i, j, rfl, _⟩ := h
    rfl
  · obtain ⟨F, p, d, l, g, ps, i, j, rfl, hpre, k⟩ := h
    have hu := hu_of hr
    obtain ⟨hP, R, hps, hfq⟩ := id hpre
    obtain ⟨ad, tp, hA⟩ := id hP
    obtain ⟨⟨dx, hob⟩, hdc, hls, htu, hsy, hfl⟩ := id hA
    refine ⟨_, pss_cons (ps_if (PW.pt (pw_or (pt_cmp (pc_dnotin hu (pv 1) (pe_fld (pv 0) rfl))) (pw_or (pt_cmp (pc_dnotin hu (pv 2) (pe_fld (pv 0) rfl))) (pw_or1 (pt_cmpR op_eq (pv 1) (pv 2) (nomark _)))))) (pss_one (ps_ret (pe_lst (pa_cons (pe_gi rfl T.cNOT) pa_nil)))) pss_nil)
      (pss_cons (ps_set (i := 3) scWay.nd rfl (Or.inl rfl) (pe_meth (pv 0) T.clP mS GS hr bS .nil pass0 (pa_cons (pv 2) pa_nil)))
      (pss_cons (ps_if (pt_cmp (pc_dnotin hu (pv 1) (pv 3))) (pss_one (ps_ret (pe_lst (pa_cons (pe_gi rfl T.cNOROW) pa_nil)))) pss_nil)
      (pss_one (ps_ret (pe_call GC hr rfl gC kC bC .nil pass0 (pa_cons (pe_meth (pv 0) T.clP mR GR hr bR .nil pass0 (pa_cons (pv 1) (pa_cons (pv 3) pa_nil))) pa_nil)))))), ?_⟩
    refine ⟨_, rfl, _, rfl, p, CP, dx, _, _, rfl, hob, T.clP, T.pSystems, pF_systems _ _ _, d, _, rfl, DGet.k (k := Sum.inl (i : Int)) hdc, _, rfl, ?_⟩
    rw [val_isSome]
    by_cases ci : i ∈ nums g
    · rw [decide_eq_true ci]
      refine iteF ?_
      refine ⟨_, rfl, _, rfl, p, CP, dx, _, _, rfl, hob, T.clP, T.pSystems, pF_systems _ _ _, d, _, rfl, DGet.k (k := Sum.inl (j : Int)) hdc, _, rfl, ?_⟩
      rw [val_isSome]
      by_cases cj : j ∈ nums g
      · rw [decide_eq_true cj]
        refine iteF ?_
        refine ⟨_, rfl, _, rfl, rfl, _, rfl, ?_⟩
        rw [dec_vn]
        by_cases ce : i = j
        · refine if_true_of (decide_eq_true ce) ?_
          exact ⟨(by show 1 ≤ sizeLine; decide), fun b hb => k.new hpre (step_way2 (.inr (.inr ce))) hb⟩
        · refine if_false_of (decide_eq_false ce) ?_
          -- steps = self.steps_to(second)
          refine ⟨_, rfl, p, dx, _, rfl, hob, pF_no _ _ _ (by decide +kernel) (by decide +kernel) (by decide +kernel), _, rfl, F, p, d, l, g, ps, j, rfl, hP, hps, fun H1 q D s1 hq hqD sD => ?_⟩
          have ndv : ((nv D).map (·.1)).Nodup := by
            rw [nv_keys]
            exact sD.nd
          refine ⟨_, rfl, _, rfl, q, _, rfl, DGet.k (k := Sum.inl (i : Int)) hqD, _, rfl, ?_⟩
          rw [kD_is i ndv, nv_keys]
          cases c : (D.map (·.1)).contains i with
          | false =>
            refine iteT ?_
            have hn : i ∉ D.map (·.1) := fun z => by
              rw [List.contains_iff_mem.mpr z] at c
              cases c
            exact ⟨(by show 1 ≤ sizeLine; decide), fun b hb => k.same hpre (step_way6 ci cj ce (way_no R sD hn)) (s1.trans (same_upd hb)) (s1.free hb) upd_same⟩
          | true =>
            refine iteF ?_
            obtain ⟨x, hx, rfl⟩ := List.mem_map.mp (List.contains_iff_mem.mp c)
            have hx10 : x.2 ≤ 10 := by
              have := (R.wk.mp (sD.wk x hx)).short R.good.ac R.good.src cj
              rw [nums_len] at this
              have := R.good.most
              omega
            refine ⟨_, rfl, p, dx, _, rfl, s1 _ _ hob, pF_no _ _ _ (by decide +kernel) (by decide +kernel) (by decide +kernel), _, rfl, _, rfl, F, p, d, l, q, g, ps, D, x.1, j, x.2, rfl, hP.same s1, R, hps, hqD, sD, hx, hx10, fun H2 b r s2 hb hL hw hlen => ?_⟩
            refine ⟨b, _, rfl, hL, (by rw [vns_len]; exact Nat.le_of_lt (big (by omega))), fun H3 b' s3 hb' hL' => ?_⟩
            have s13 := s1.trans (s2.trans s3)
            refine k.same hpre (step_way ci cj ce (way_yes R cj sD hx hw)) s13 ((s1.trans s2).free hb') ?_
            rw [hL', vns_len, vns_cnt]
      · rw [decide_eq_false cj]
        refine iteT (iteT ?_)
        exact ⟨(by show 1 ≤ sizeLine; decide), fun b hb => k.new hpre (step_way2 (.inr (.inl cj))) hb⟩
    · rw [decide_eq_false ci]
      refine iteT (iteT ?_)
      exact ⟨(by show 1 ≤ sizeLine; decide), fun b hb => k.new hpre (step_way2 (.inl ci)) hb⟩

/-! ### told_order -/
def orderOf (g : House) (i j : Nat) : Nat := if Ge02.toldBefore g.before i j = true then 1 else if Ge02.toldBefore g.before j i = true then 2 else 0
abbrev sTO : Stmt := inClass (top 33) 8
def spTO (CP CS : Addr) : Sp := fun vs H Q _ => ∃ (F : List Addr) (p d l : Addr) (g : House) (ps : List (Nat × Nat)) (i j : Nat), vs = [.ref p, vn i, vn j] ∧ PlanAt CP CS H F p d l g ps ∧ Rel g ps ∧ ps.length ≤ 1800 ∧
  ∀ H' : Hp, Same H H' → Q (vn (orderOf g i j)) H'
theorem scTO : FnScope ["self", "first", "second"] ["self", "first", "second"] (defScope sTO) := ⟨rfl, rfl, rfl, by decide +kernel, rfl, by decide +kernel, by decide +kernel⟩
theorem ok_to {f fB : Addr} {fd fdB : FuncData} (F : Fun K "told_order" "Plan.told_order" sTO f fd) (T : Txt K mg CR CS CP) (GB : FnOk P w K mg base CX0 2 fB fdB ["self", "first", "second"] (spCB CP CS)) (bB : Binds K fdB ["self", "first", "second"] []) (mB : Meth K CP "comes_before" fB) :
    FnOk P w K mg base CX0 3 f fd ["self", "first", "second"] (spTO CP CS) := by
  refine F.ok scTO (fun vs H Q E h => ?_) (fun cdv A outer s H vs Q E hr h => ?_)
  · obtain ⟨F, p, d, l, g, ps, i, j, rfl, _⟩ := h
    rfl
  · obtain ⟨F, p, d, l, g, ps, i, j, rfl, hP, R, hps, k⟩ := h
    obtain ⟨ad, tp, ⟨dx, hob⟩, hdc, hls, htu, hsy, hfl⟩ := id hP
    refine ⟨_, pss_cons (ps_if (pt_val (pe_meth (pv 0) T.clP mB GB hr bB .nil pass0 (pa_cons (pv 1) (pa_cons (pv 2) pa_nil)))) (pss_one (ps_ret (pe_gi rfl T.cFIRST))) pss_nil)
      (pss_cons (ps_if (pt_val (pe_meth (pv 0) T.clP mB GB hr bB .nil pass0 (pa_cons (pv 2) (pa_cons (pv 1) pa_nil)))) (pss_one (ps_ret (pe_gi rfl T.cSECOND))) pss_nil)
      (pss_one (ps_ret (pe_gi rfl T.cNOTTOLD)))), ?_⟩
    refine ⟨_, rfl, p, dx, _, rfl, hob, pF_no _ _ _ (by decide +kernel) (by decide +kernel) (by decide +kernel), _, rfl, _, rfl, F, p, d, l, g, ps, i, j, rfl, hP, R, hps, fun H1 s1 => ⟨_, rfl, ?_⟩⟩
    unfold orderOf at k
    cases c : Ge02.toldBefore g.before i j with
    | true =>
      rw [c] at k
      exact iteT (k H1 s1)
    | false =>
      rw [c] at k
      refine iteF ?_
      refine ⟨_, rfl, p, dx, _, rfl, s1 _ _ hob, pF_no _ _ _ (by decide +kernel) (by decide +kernel) (by decide +kernel), _, rfl, _, rfl, F, p, d, l, g, ps, j, i, rfl, hP.same s1, R, hps, fun H2 s2 => ⟨_, rfl, ?_⟩⟩
      cases c2 : Ge02.toldBefore g.before j i with
      | true =>
        rw [c2] at k
        exact iteT (k H2 (s1.trans s2))
      | false =>
        rw [c2] at k
        exact iteF (k H2 (s1.trans s2))

/-! ### apart -/
theorem step_apart2 {g : House} {i j : Nat} (h : i ∉ nums g ∨ j ∉ nums g) : Ge02.step g (.apart i j) = (g, [-2]) := by
  show (g, match Ge02.sysOf g i, Ge02.sysOf g j with
    | some a, some b => _
    | _, _ => [-2]) = _
  rcases h with q | q
  · rw [Option.isNone_iff_eq_none.mp (isNone_of q)]
  · rw [Option.isNone_iff_eq_none.mp (isNone_of q)]
    cases Ge02.sysOf g i <;> rfl
theorem step_apart {g : House} {i j : Nat} {a b : Sys} (h1 : Ge02.sysOf g i = some a) (h2 : Ge02.sysOf g j = some b) : Ge02.step g (.apart i j) = (g, Ge02.ints (orderOf g i j :: (clashKs a b).length :: clashKs a b)) := by
  show (g, match Ge02.sysOf g i, Ge02.sysOf g j with
    | some a, some b => Ge02.ints ((if Ge02.toldBefore g.before i j = true then 1 else if Ge02.toldBefore g.before j i = true then 2 else 0) :: ((List.range 16).filter fun k => (a.writes.contains k && (b.reads ++ b.writes).contains k) || (b.writes.contains k && a.reads.contains k)).length :: ((List.range 16).filter fun k => (a.writes.contains k && (b.reads ++ b.writes).contains k) || (b.writes.contains k && a.reads.contains k)))
    | _, _ => [-2]) = _
  rw [h1, h2]
  show (g, Ge02.ints (orderOf g i j :: ((List.range 16).filter fun k => (a.writes.contains k && (b.reads ++ b.writes).contains k) || (b.writes.contains k && a.reads.contains k)).length :: ((List.range 16).filter fun k => (a.writes.contains k && (b.reads ++ b.writes).contains k) || (b.writes.contains k && a.reads.contains k)))) = _
  rw [clashKs_is]
abbrev sApart : Stmt := inClass (top 33) 6
def spApart (CP CS : Addr) : Sp := fun vs H Q _ => ∃ (F : List Addr) (p d l : Addr) (g : House) (ps : List (Nat × Nat)) (i j : Nat), vs = [.ref p, vn i, vn j] ∧ Pre CP CS H F p d l g ps ∧ Post CP CS H F p d l g ps (.apart i j) Q
theorem scApart : FnScope ["self", "first", "second", "kinds"] ["self", "first", "second"] (defScope sApart) := ⟨rfl, rfl, rfl, by decide +kernel, rfl, by decide +kernel, by decide +kernel⟩
theorem ok_apart {f fK fO fC : Addr} {fd fdK fdO fdC : FuncData} (F : Fun K "apart" "Plan.apart" sApart f fd) (T : Txt K mg CR CS CP) (GK : FnOk P w K mg base CX0 3 fK fdK ["one", "other"] (spCK CS)) (bK : Binds K fdK ["one", "other"] []) (gK : mg "clash_kinds" = some (.ref fK)) (kK : PySem.W.keepIn K (.ref fK) = true)
    (GO : FnOk P w K mg base CX0 3 fO fdO ["self", "first", "second"] (spTO CP CS)) (bO : Binds K fdO ["self", "first", "second"] []) (mO : Meth K CP "told_order" fO)
    (GC : FnOk P w K mg base CX0 1 fC fdC ["numbers"] spCount) (bC : Binds K fdC ["numbers"] []) (gC : mg "with_count" = some (.ref fC)) (kC : PySem.W.keepIn K (.ref fC) = true) :
    FnOk P w K mg base CX0 4 f fd ["self", "first", "second"] (spApart CP CS) := by
  refine F.ok scApart (fun vs H Q E h => ?_) (fun cdv A outer s H vs Q E hr h => ?_)
  · obtain ⟨F, p, d, l, g, ps, i, j, rfl, _⟩ := h
    rfl
  · obtain ⟨F, p, d, l, g, ps, i, j, rfl, hpre, k⟩ := h
    have hu := hu_of hr
    have hr1 : Room 1 _ := hr.mono (by decide)
    obtain ⟨hP, R, hps, hfq⟩ := id hpre
    obtain ⟨ad, tp, hA⟩ := id hP
    obtain ⟨⟨dx, hob⟩, hdc, hls, htu, hsy, hfl⟩ := id hA
    refine ⟨_, pss_cons (ps_if (PW.pt (pw_or (pt_cmp (pc_dnotin hu (pv 1) (pe_fld (pv 0) rfl))) (pw_or1 (pt_cmp (pc_dnotin hu (pv 2) (pe_fld (pv 0) rfl)))))) (pss_one (ps_ret (pe_lst (pa_cons (pe_gi rfl T.cNOT) pa_nil)))) pss_nil)
      (pss_cons (ps_set (i := 3) scApart.nd rfl (Or.inl rfl) (pe_call GK hr rfl gK kK bK .nil pass0 (pa_cons (pe_dget hu (pe_fld (pv 0) rfl) (pv 1) (fun _ _ => rfl)) (pa_cons (pe_dget hu (pe_fld (pv 0) rfl) (pv 2) (fun _ _ => rfl)) pa_nil))))
      (pss_one (ps_ret (pe_op op_cat (pe_lst (pa_cons (pe_meth (pv 0) T.clP mO GO hr bO .nil pass0 (pa_cons (pv 1) (pa_cons (pv 2) pa_nil))) pa_nil)) (pe_call GC hr1 rfl gC kC bC .nil pass0 (pa_cons (pv 3) pa_nil)))))), ?_⟩
    refine ⟨_, rfl, _, rfl, p, CP, dx, _, _, rfl, hob, T.clP, T.pSystems, pF_systems _ _ _, d, _, rfl, DGet.k (k := Sum.inl (i : Int)) hdc, _, rfl, ?_⟩
    rw [val_isSome]
    by_cases ci : i ∈ nums g
    · rw [decide_eq_true ci]
      refine iteF ?_
      refine ⟨_, rfl, _, rfl, p, CP, dx, _, _, rfl, hob, T.clP, T.pSystems, pF_systems _ _ _, d, _, rfl, DGet.k (k := Sum.inl (j : Int)) hdc, _, rfl, ?_⟩
      rw [val_isSome]
      by_cases cj : j ∈ nums g
      · rw [decide_eq_true cj]
        refine iteF ?_
        obtain ⟨si, hsi⟩ := sysOf_mem ci
        obtain ⟨sj, hsj⟩ := sysOf_mem cj
        obtain ⟨mi, ei⟩ := sysOf_some hsi
        obtain ⟨mj, ej⟩ := sysOf_some hsj
        obtain ⟨ri, wi, _, _, hSi⟩ := hsy si mi
        obtain ⟨rj, wj, _, _, hSj⟩ := hsy sj mj
        rw [ei] at hSi
        rw [ej] at hSj
        refine ⟨_, rfl, p, CP, dx, _, _, rfl, hob, T.clP, T.pSystems, pF_systems _ _ _, _, rfl, d, V.ref (ad i), rfl, ?_, ?_⟩
        · rw [← val_some (ad := ad) hsi]
          exact DGet.k (k := Sum.inl (i : Int)) hdc
        refine ⟨_, rfl, p, CP, dx, _, _, rfl, hob, T.clP, T.pSystems, pF_systems _ _ _, _, rfl, d, V.ref (ad j), rfl, ?_, ?_⟩
        · rw [← val_some (ad := ad) hsj]
          exact DGet.k (k := Sum.inl (j : Int)) hdc
        refine ⟨ad i, ri, wi, ad j, rj, wj, si, sj, rfl, hSi, hSj, fun H1 c s1 hc hcL => ?_⟩
        -- [self.told_order(first, second)] + with_count(kinds)
        refine ⟨_, rfl, p, dx, _, rfl, s1 _ _ hob, pF_no _ _ _ (by decide +kernel) (by decide +kernel) (by decide +kernel), _, rfl, _, rfl, F, p, d, l, g, ps, i, j, rfl, hP.same s1, R, hps, fun H2 s2 => ?_⟩
        have hkl := clashKs_len si sj
        refine ⟨(by show 1 ≤ sizeLine; decide), fun e1 he1 => ?_⟩
        have s3 : Same H2 (upd H2 e1 (.lst [vn (orderOf g i j)])) := same_upd he1
        refine ⟨_, rfl, c, _, rfl, s3 _ _ (s2 _ _ hcL), (by rw [vns_len]; exact Nat.le_of_lt (big (by omega))), fun H4 b4 s4 hb4 hL4 => ?_⟩
        refine ⟨e1, b4, _, _, rfl, rfl, s4 _ _ upd_same, hL4, ?_, fun b hb => ?_⟩
        · show 1 + (_ :: vns _).length ≤ sizeLine
          rw [List.length_cons, vns_len]
          exact Nat.le_of_lt (big (by omega))
        · have sA := s1.trans (s2.trans (s3.trans s4))
          refine k.same hpre (step_apart hsi hsj) (sA.trans (same_upd hb)) (sA.free hb) ?_
          rw [upd_same, vns_len]
          exact congrArg (fun z => some (HO.lst z)) (vns_ints (orderOf g i j :: (clashKs si sj).length :: clashKs si sj))
      · rw [decide_eq_false cj]
        refine iteT ?_
        exact ⟨(by show 1 ≤ sizeLine; decide), fun b hb => k.new hpre (step_apart2 (.inr cj)) hb⟩
    · rw [decide_eq_false ci]
      refine iteT (iteT ?_)
      exact ⟨(by show 1 ≤ sizeLine; decide), fun b hb => k.new hpre (step_apart2 (.inl ci)) hb⟩

/-! ### is_untold -/
abbrev sIU : Stmt := inClass (top 33) 11
def spIU (CP CS : Addr) : Sp := fun vs H Q _ => ∃ (F : List Addr) (p d l : Addr) (g : House) (ps : List (Nat × Nat)) (i j : Nat), vs = [.ref p, vn i, vn j] ∧ PlanAt CP CS H F p d l g ps ∧ Rel g ps ∧ ps.length ≤ 1800 ∧ i ∈ nums g ∧ j ∈ nums g ∧
  ∀ H' : Hp, Same H H' → Q (.bl (untoldOf g i j)) H'
theorem scIU : FnScope ["self", "one", "other"] ["self", "one", "other"] (defScope sIU) := ⟨rfl, rfl, rfl, by decide +kernel, rfl, by decide +kernel, by decide +kernel⟩
theorem untold_order (g : House) (i j : Nat) : (!Ge02.toldBefore g.before i j && !Ge02.toldBefore g.before j i) = decide (vn (orderOf g i j) = vn 0) := by
  rw [dec_vn]
  unfold orderOf
  cases Ge02.toldBefore g.before i j <;> cases Ge02.toldBefore g.before j i <;> rfl
theorem ok_iu {f fC fO : Addr} {fd fdC fdO : FuncData} (F : Fun K "is_untold" "Plan.is_untold" sIU f fd) (T : Txt K mg CR CS CP) (GC : FnOk P w K mg base CX0 4 fC fdC ["one", "other"] (spClash CS)) (bC : Binds K fdC ["one", "other"] []) (gC : mg "clash" = some (.ref fC)) (kC : PySem.W.keepIn K (.ref fC) = true)
    (GO : FnOk P w K mg base CX0 3 fO fdO ["self", "first", "second"] (spTO CP CS)) (bO : Binds K fdO ["self", "first", "second"] []) (mO : Meth K CP "told_order" fO) :
    FnOk P w K mg base CX0 5 f fd ["self", "one", "other"] (spIU CP CS) := by
  refine F.ok scIU (fun vs H Q E h => ?_) (fun cdv A outer s H vs Q E hr h => ?_)
  · obtain ⟨F, p, d, l, g, ps, i, j, rfl, _⟩ := h
    rfl
  · obtain ⟨F, p, d, l, g, ps, i, j, rfl, hP, R, hps, hi, hj, k⟩ := h
    have hu := hu_of hr
    have hr3 : Room 3 _ := hr.mono (by decide)
    obtain ⟨ad, tp, ⟨dx, hob⟩, hdc, hls, htu, hsy, hfl⟩ := id hP
    obtain ⟨si, hsi⟩ := sysOf_mem hi
    obtain ⟨sj, hsj⟩ := sysOf_mem hj
    obtain ⟨mi, ei⟩ := sysOf_some hsi
    obtain ⟨mj, ej⟩ := sysOf_some hsj
    obtain ⟨ri, wi, _, _, hSi⟩ := hsy si mi
    obtain ⟨rj, wj, _, _, hSj⟩ := hsy sj mj
    rw [ei] at hSi
    rw [ej] at hSj
    refine ⟨_, pss_one (ps_ret (pe_and (pe_call GC hr rfl gC kC bC .nil pass0 (pa_cons (pe_dget hu (pe_fld (pv 0) rfl) (pv 1) (fun _ _ => rfl)) (pa_cons (pe_dget hu (pe_fld (pv 0) rfl) (pv 2) (fun _ _ => rfl)) pa_nil)))
      (pe_one (pe_cmpR op_eq (pe_meth (pv 0) T.clP mO GO hr3 bO .nil pass0 (pa_cons (pv 1) (pa_cons (pv 2) pa_nil))) (pe_gi rfl T.cNOTTOLD) (nomark _))))), ?_⟩
    refine ⟨_, rfl, p, CP, dx, _, _, rfl, hob, T.clP, T.pSystems, pF_systems _ _ _, _, rfl, d, V.ref (ad i), rfl, ?_, ?_⟩
    · rw [← val_some (ad := ad) hsi]
      exact DGet.k (k := Sum.inl (i : Int)) hdc
    refine ⟨_, rfl, p, CP, dx, _, _, rfl, hob, T.clP, T.pSystems, pF_systems _ _ _, _, rfl, d, V.ref (ad j), rfl, ?_, ?_⟩
    · rw [← val_some (ad := ad) hsj]
      exact DGet.k (k := Sum.inl (j : Int)) hdc
    refine ⟨ad i, ri, wi, ad j, rj, wj, si, sj, rfl, hSi, hSj, (R.good.ok si mi).2.1, (R.good.ok sj mj).2.1, fun H1 s1 => ⟨_, rfl, ?_⟩⟩
    unfold untoldOf at k
    rw [clashOf_is hsi hsj, untold_order] at k
    cases c : Ge02.clash si sj with
    | false =>
      rw [c] at k
      exact iteF (k H1 s1)
    | true =>
      rw [c] at k
      refine iteT ?_
      refine ⟨_, rfl, p, dx, _, rfl, s1 _ _ hob, pF_no _ _ _ (by decide +kernel) (by decide +kernel) (by decide +kernel), _, rfl, _, rfl, F, p, d, l, g, ps, i, j, rfl, hP.same s1, R, hps, fun H2 s2 => ⟨rfl, ?_⟩⟩
      exact k H2 (s1.trans s2)
end
end Sr

/-! Plan: untold_pairs; untold_answer. -/
namespace Sr
open PySem PySem.Spec PyProof.Rows L2
open Ge02 (House Sys)

/-! ### pairs in the heap -/
structure TupsA (H : Hp) (a : Addr) (ts : List Addr) (L : List (Nat × Nat)) : Prop where
  ls : H a = some (.lst (ts.map V.ref))
  len : ts.length = L.length
  at_ : ∀ (k : Nat) (t : Addr) (x : Nat × Nat), ts[k]? = some t → L[k]? = some x → H t = some (tupOf x)
theorem TupsA.same {H H' : Hp} {a : Addr} {ts : List Addr} {L : List (Nat × Nat)} (r : TupsA H a ts L) (s : Same H H') : TupsA H' a ts L := ⟨s _ _ r.ls, r.len, fun k t x h1 h2 => s _ _ (r.at_ k t x h1 h2)⟩
theorem TupsA.push {H : Hp} {a t0 : Addr} {ts : List Addr} {L : List (Nat × Nat)} {x0 : Nat × Nat} (r : TupsA H a ts L) (h0 : H t0 = some (tupOf x0)) : TupsA (upd H a (.lst (ts.map V.ref ++ [V.ref t0]))) a (ts ++ [t0]) (L ++ [x0]) := by
  refine ⟨?_, ?_, ?_⟩
  · rw [upd_same, List.map_append]
    rfl
  · rw [List.length_append, List.length_append, r.len]
    rfl
  · intro k t x h1 h2
    have ht : H t = some (tupOf x) := by
      by_cases hk : k < ts.length
      · rw [List.getElem?_append_left hk] at h1
        rw [List.getElem?_append_left (by rw [← r.len]; exact hk)] at h2
        exact r.at_ k t x h1 h2
      · rw [List.getElem?_append_right (by omega)] at h1
        rw [List.getElem?_append_right (by rw [← r.len]; omega), ← r.len] at h2
        cases e : k - ts.length with
        | zero =>
          rw [e] at h1 h2
          have e1 : t0 = t := Option.some.inj h1
          have e2 : x0 = x := Option.some.inj h2
          rw [← e1, ← e2]
          exact h0
        | succ j =>
          rw [e] at h1
          cases h1
    rw [upd_ne (ne_of ht r.ls ne_tup_lst)]
    exact ht
theorem cut_from (l : List Nat) (i : Nat) : cutV (vns l) (some ((i : Int) + 1)) none = vns (l.drop (i + 1)) := by
  unfold cutV
  rw [show (i : Int) + 1 = ((i + 1 : Nat) : Int) from rfl, HT.sIx_nat, HT.sIx_none]
  unfold vns
  rw [List.length_map, ← List.map_drop, ← List.map_take]
  congr 1
  by_cases h : i + 1 ≤ l.length
  · rw [Nat.min_eq_left h, List.take_of_length_le (by rw [List.length_drop]; omega)]
  · rw [Nat.min_eq_right (by omega), List.drop_of_length_le (Nat.le_refl _), List.drop_of_length_le (by omega), List.take_nil]
/-- the numbers sorted: as they stand -/
theorem sorted_nums {g : House} (G : Good g) {ys : List Int} (h1 : ys.Perm ((nums g).map fun (n : Nat) => (n : Int))) (h2 : ys.Pairwise (· ≤ ·)) : ys = (nums g).map fun (n : Nat) => (n : Int) := by
  refine List.Perm.eq_of_pairwise (le := fun (a b : Int) => a ≤ b) (fun a b _ _ h h' => Int.le_antisymm h h') h2 ?_ h1
  exact List.Pairwise.map _ (fun a b h => by omega) G.asc
theorem kvs_ints (ad : Nat → Addr) (g : House) : (kvsOf ad g.systems).map (·.1) = ((nums g).map fun (n : Nat) => (n : Int)).map Sum.inl := by
  unfold kvsOf
  rw [List.map_map, List.map_map, List.map_map]
  rfl
theorem untoldAt_snoc {g : House} {a i b : Nat} {l : List Nat} (h : l[i]? = some b) : untoldAt g a (l.take (i + 1)) = if untoldOf g a b = true then untoldAt g a (l.take i) ++ [(a, b)] else untoldAt g a (l.take i) := by
  unfold untoldAt
  rw [filter_more h]
  split
  · rw [List.map_append]
    rfl
  · rfl

section
variable {P : Program} {w : World} {K : PySem.W.Frag} {mg : Str → Option Value} {base : Heap} {CR CS CP : Addr}
/-! ### untold_pairs -/
abbrev sUP : Stmt := inClass (top 33) 12
def spUP (CP CS : Addr) : Sp := fun vs H Q _ => ∃ (F : List Addr) (p d l : Addr) (g : House) (ps : List (Nat × Nat)), vs = [.ref p] ∧ PlanAt CP CS H F p d l g ps ∧ Rel g ps ∧ ps.length ≤ 1800 ∧
  ∀ (H' : Hp) (a : Addr) (ts : List Addr), Same H H' → H a = none → TupsA H' a ts (Ge02.untold g) → Q (.ref a) H'
theorem scUP : FnScope ["self", "found", "numbers", "place", "lower", "higher"] ["self"] (defScope sUP) := ⟨rfl, rfl, rfl, by decide +kernel, rfl, by decide +kernel, by decide +kernel⟩
theorem ok_up {f fU : Addr} {fd fdU : FuncData} (F : Fun K "untold_pairs" "Plan.untold_pairs" sUP f fd) (T : Txt K mg CR CS CP) (GU : FnOk P w K mg base CX0 5 fU fdU ["self", "one", "other"] (spIU CP CS)) (bU : Binds K fdU ["self", "one", "other"] []) (mU : Meth K CP "is_untold" fU) :
    FnOk P w K mg base CX0 6 f fd ["self"] (spUP CP CS) := by
  refine F.ok scUP (fun vs H Q E h => ?_) (fun cdv A outer s H vs Q E hr h => ?_)
  · obtain ⟨F, p, d, l, g, ps, rfl, _⟩ := h
    rfl
  · obtain ⟨F, p, d, l, g, ps, rfl, hP, R, hps, k⟩ := h
    obtain ⟨ad, tp, ⟨dx, hob⟩, hdc, hls, htu, hsy, hfl⟩ := id hP
    have hmost := R.good.most
    have hnl := nums_len g
    refine ⟨_, pss_cons (ps_set (i := 1) scUP.nd rfl (Or.inl rfl) (pe_lst pa_nil))
      (pss_cons (ps_set (i := 2) scUP.nd rfl (Or.inl rfl) (pe_callB (call_sortedDI rfl) (by rfl) T.sorted (by decide +kernel) (pa_cons (pe_fld (pv 0) rfl) pa_nil)))
      (pss_cons (ps_for PassesOwn.never rfl (pi_enum (by rfl) T.enumerate (pa_cons (pv 2) pa_nil)) (pg_tup rfl (pgs_cons (pg_name (i := 3) scUP.nd rfl (Or.inl rfl)) (pgs_cons (pg_name (i := 4) scUP.nd rfl (Or.inl rfl)) pgs_nil)))
        (pss_one (ps_for PassesOwn.never rfl (pi_list (pe_slice sl_list (pv 2) (po_some (pe_op op_add (pv 3) pe_int)) po_none)) (pg_name (i := 5) scUP.nd rfl (Or.inl rfl))
          (pss_one (ps_if (pt_val (pe_meth (pv 0) T.clP mU GU hr bU .nil pass0 (pa_cons (pv 4) (pa_cons (pv 5) pa_nil))))
            (pss_one (ps_expr (pe_bm PySem.F.plainAttrs_list PySem.F.slot_list_append PySem.F.type_list_append mt_append (pv 1) (pa_cons (pe_tup (pa_cons (pv 4) (pa_cons (pv 5) pa_nil))) pa_nil)))) pss_nil)))))
      (pss_one (ps_ret (pv 1))))), ?_⟩
    -- found = []
    refine ⟨Nat.zero_le _, fun a ha => ?_⟩
    have s0 := same_upd (o := HO.lst []) ha
    -- numbers = sorted(self.systems)
    refine ⟨_, rfl, p, CP, dx, _, _, rfl, s0 _ _ hob, T.clP, T.pSystems, pF_systems _ _ _, d, _, (nums g).map (fun (n : Nat) => (n : Int)), rfl, .inl (s0 _ _ hdc), kvs_ints ad g, (by rw [List.length_map]; omega), fun ys b perm srt hb => ?_⟩
    rw [sorted_nums R.good perm srt, ← vns_map]
    have nab : a ≠ b := fun q => by
      rw [← q, upd_same] at hb
      cases hb
    have hb0 : H b = none := s0.free hb
    have s1 : Same H (upd (upd H a (.lst [])) b (.lst (vns (nums g)))) := s0.trans (same_upd hb)
    generalize hH1 : upd (upd H a (.lst [])) b (.lst (vns (nums g))) = H1 at s1 ⊢
    have ha1 : H1 a = some (.lst []) := by
      rw [← hH1, upd_ne nab, upd_same]
    have hb1 : H1 b = some (.lst (vns (nums g))) := by
      rw [← hH1, upd_same]
    -- what stood in H1, but for the list found, stands
    refine ⟨_, rfl, b, _, rfl, SqL.of hb1, ?_⟩
    refine for_it walk_enum (fun i σ H' => ∃ (ts : List Addr) (v3 v4 v5 : Option V), σ = [some (.ref p), some (.ref a), some (.ref b), v3, v4, v5] ∧ Keep [a] H1 H' ∧ TupsA H' a ts (untoldTo g i))
      ⟨[], none, none, none, rfl, fun _ _ e _ => e, ha1, rfl, fun k' t x z => by cases z⟩ (fun i σ H' _ ⟨_, _, _, _, _, kp, _⟩ => SqL.of (kp _ _ hb1 fun q => nab (List.mem_singleton.mp q).symm)) ?_ ?_
    · rintro i y σ H2 H3 hi ⟨ts, v3, v4, v5, rfl, kp, tA⟩ ⟨t, x1, x2, rfl, ht, rfl, e1, e2⟩
      cases e1
      obtain ⟨n, hn, rfl⟩ := map_get e2
      have nin : n ∈ nums g := List.mem_of_getElem? hn
      rw [vns_len] at hi
      have s3 : Same H2 (upd H2 t (.tup [V.int (i : Nat), vn n])) := same_upd ht
      generalize hH3 : upd H2 t (.tup [V.int (i : Nat), vn n]) = H3 at s3 ⊢
      refine ⟨t, _, rfl, SqT.of (by rw [← hH3]; exact upd_same), rfl, _, _, rfl, _, _, rfl, rfl, ?_⟩
      have kp3 : Keep [a] H1 H3 := kp.trans (Keep.same s3)
      have hb3 := kp3 _ _ hb1 fun q => nab (List.mem_singleton.mp q).symm
      -- numbers[place + 1:]
      refine ⟨_, rfl, _, rfl, _, _, rfl, rfl, _, rfl, b, _, rfl, SqL.of hb3, fun c hc => ?_⟩
      rw [cut_from]
      have s4 : Same H3 (upd H3 c (.lst (vns ((nums g).drop (i + 1))))) := same_upd hc
      generalize hH4 : upd H3 c (.lst (vns ((nums g).drop (i + 1)))) = H4 at s4 ⊢
      have hc4 : H4 c = some (.lst (vns ((nums g).drop (i + 1)))) := by rw [← hH4, upd_same]
      have tA3 := tA.same s3
      have nca : c ≠ a := fun q => by
        rw [q, tA3.ls] at hc
        cases hc
      have kp4 : Keep [a] H1 H4 := kp3.trans (Keep.same s4)
      refine ⟨c, rfl, ⟨_, SqL.of hc4⟩, for_list (K := K) (a := c) (xs := vns ((nums g).drop (i + 1)))
        (fun j σ H' => ∃ (ts : List Addr) (v5 : Option V), σ = [some (.ref p), some (.ref a), some (.ref b), some (vn i), some (vn n), v5] ∧ Keep [a] H1 H' ∧ H' c = some (.lst (vns ((nums g).drop (i + 1)))) ∧ TupsA H' a ts (untoldTo g i ++ untoldAt g n (((nums g).drop (i + 1)).take j)))
        ⟨ts, v5, rfl, kp4, hc4, by
          have := tA3.same s4
          rw [show untoldAt g n (((nums g).drop (i + 1)).take 0) = [] from rfl, List.append_nil]
          exact this⟩ (fun j σ H' _ ⟨_, _, _, _, h, _⟩ => SqL.of h) ?_ ?_⟩
      · rintro j y σ H5 hj ⟨ts, v5, rfl, kp5, hc5, tA5⟩
        obtain ⟨m, hm, rfl⟩ := map_get hj
        have min : m ∈ nums g := List.mem_of_mem_drop (List.mem_of_getElem? hm)
        have sH5 : Same H H5 := fun x o e => kp5 x o (s1 x o e) fun q => by
          rw [List.mem_singleton.mp q, ha] at e
          cases e
        refine ⟨_, rfl, p, dx, _, rfl, sH5 _ _ hob, pF_no _ _ _ (by decide +kernel) (by decide +kernel) (by decide +kernel), _, rfl, _, rfl, F, p, d, l, g, ps, n, m, rfl, hP.same sH5, R, hps, nin, min, fun H6 s6 => ⟨_, rfl, ?_⟩⟩
        have kp6 : Keep [a] H1 H6 := kp5.trans (Keep.same s6)
        have tA6 := tA5.same s6
        have es := untoldAt_snoc (g := g) (a := n) hm
        cases cu : untoldOf g n m with
        | false =>
          refine iteF ⟨ts, _, rfl, kp6, s6 _ _ hc5, ?_⟩
          rw [es, if_neg (by rw [cu]; exact Bool.false_ne_true)]
          exact tA6
        | true =>
          refine iteT ?_
          refine ⟨_, rfl, .inl ⟨rfl, _, SqL.of tA6.ls⟩, _, rfl, _, rfl, (by show 2 ≤ sizeLine; decide), fun t0 ht0 => ?_⟩
          have s7 : Same H6 (upd H6 t0 (.tup [vn n, vn m])) := same_upd ht0
          have tA7 := tA6.same s7
          have hlen : ts.length ≤ 1000 := by
            rw [tA6.len, List.length_append]
            have l1 := untoldTo_len g i
            have l2 := untoldAt_len g n (((nums g).drop (i + 1)).take j)
            rw [List.length_take, List.length_drop] at l2
            have l3 : i * (nums g).length ≤ 10 * 10 := Nat.mul_le_mul (by omega) (by omega)
            omega
          refine ⟨a, _, _, rfl, rfl, tA7.ls, (by rw [List.length_map]; exact big (by omega)), ?_⟩
          refine ⟨ts ++ [t0], _, rfl, ?_, ?_, ?_⟩
          · exact (kp6.trans (Keep.same s7)).trans (keep_upd (List.mem_singleton.mpr rfl))
          · rw [upd_ne nca]
            exact s7 _ _ (s6 _ _ hc5)
          · rw [es, if_pos cu, ← List.append_assoc]
            exact tA7.push (x0 := (n, m)) upd_same
      · rintro σ H5 ⟨ts, v5, rfl, kp5, hc5, tA5⟩
        rw [vns_len, List.take_length, ← untoldTo_at hn] at tA5
        exact ⟨ts, _, _, _, rfl, kp5, tA5⟩
    · rintro σ H2 ⟨ts, v3, v4, v5, rfl, kp, tA⟩
      rw [vns_len, untoldTo_all R.good] at tA
      refine ⟨_, rfl, ?_⟩
      refine k H2 a ts (fun x o e => kp x o (s1 x o e) fun q => ?_) ha tA
      rw [List.mem_singleton.mp q, ha] at e
      cases e

/-! ### untold_answer -/
abbrev sUA : Stmt := top 37
def spUA : Sp := fun vs H Q _ => ∃ (a : Addr) (ts : List Addr) (L : List (Nat × Nat)), vs = [.ref a] ∧ TupsA H a ts L ∧ L.length ≤ 1000 ∧
  ∀ (H' : Hp) (b : Addr), Same H H' → H b = none → H' b = some (.lst (vns (L.length :: L.flatMap fun x => [x.1, x.2]))) → Q (.ref b) H'
theorem scUA : FnScope ["pairs", "answer", "lower", "higher"] ["pairs"] (defScope sUA) := ⟨rfl, rfl, rfl, by decide +kernel, rfl, by decide +kernel, by decide +kernel⟩
theorem flat2_len : ∀ L : List (Nat × Nat), (L.flatMap fun x => [x.1, x.2]).length = 2 * L.length
  | [] => rfl
  | a :: L => by
    rw [List.flatMap_cons, List.length_append, flat2_len L]
    show 2 + 2 * L.length = 2 * (L.length + 1)
    omega
theorem ok_ua {f : Addr} {fd : FuncData} (F : Fun K "untold_answer" "untold_answer" sUA f fd) (T : Txt K mg CR CS CP) : FnOk P w K mg base CX0 1 f fd ["pairs"] spUA := by
  refine F.ok scUA (fun vs H Q E h => ?_) (fun cdv A outer s H vs Q E hr h => ?_)
  · obtain ⟨a, ts, L, rfl, _⟩ := h
    rfl
  · obtain ⟨a, ts, L, rfl, tA, hz, k⟩ := h
    refine ⟨_, pss_cons (ps_set (i := 1) scUA.nd rfl (Or.inl rfl) (pe_lst (pa_cons (pe_callB call_len_seq (by rfl) T.len PySem.boot_len (pa_cons (pv 0) pa_nil)) pa_nil)))
      (pss_cons (ps_for PassesOwn.never rfl (pi_list (pv 0)) (pg_tup rfl (pgs_cons (pg_name (i := 2) scUA.nd rfl (Or.inl rfl)) (pgs_cons (pg_name (i := 3) scUA.nd rfl (Or.inl rfl)) pgs_nil)))
        (pss_one (ps_expr (pe_bm PySem.F.plainAttrs_list PySem.F.slot_list_extend PySem.F.type_list_extend mt_extend (pv 1) (pa_cons (pe_lst (pa_cons (pv 2) (pa_cons (pv 3) pa_nil))) pa_nil)))))
      (pss_one (ps_ret (pv 1)))), ?_⟩
    refine ⟨_, rfl, a, _, rfl, .inl (SqL.of tA.ls), (by show 1 ≤ sizeLine; decide), fun q hq => ?_⟩
    have s0 := same_upd (o := HO.lst [V.int ((ts.map V.ref).length : Nat)]) hq
    refine ⟨_, rfl, a, rfl, ⟨_, SqL.of (s0 _ _ tA.ls)⟩, for_list (K := K) (a := a) (xs := ts.map V.ref)
      (fun i σ H' => ∃ v2 v3 : Option V, σ = [some (.ref a), some (.ref q), v2, v3] ∧ Same H H' ∧ H' q = some (.lst (vns (L.length :: (L.take i).flatMap fun x => [x.1, x.2]))))
      ⟨none, none, rfl, s0, ?_⟩ (fun i σ H' _ ⟨_, _, _, s1, _⟩ => SqL.of (s1 _ _ tA.ls)) ?_ ?_⟩
    · rw [upd_same, List.length_map, tA.len]
      rfl
    · rintro i y σ H1 hi ⟨v2, v3, rfl, s1, hq1⟩
      obtain ⟨t, ht, rfl⟩ := map_get hi
      have hil := (List.getElem?_eq_some_iff.mp ht).1
      obtain ⟨x, hx⟩ : ∃ x, L[i]? = some x := ⟨_, List.getElem?_eq_getElem (by rw [← tA.len]; exact hil)⟩
      have htT := tA.at_ i t x ht hx
      refine ⟨t, [vn x.1, vn x.2], rfl, SqT.of (s1 _ _ htT), rfl, _, _, rfl, _, _, rfl, rfl, ?_⟩
      refine ⟨_, rfl, .inl ⟨rfl, _, SqL.of hq1⟩, _, rfl, _, rfl, (by show 2 ≤ sizeLine; decide), fun c hc => ?_⟩
      have s2 : Same H1 (upd H1 c (.lst [vn x.1, vn x.2])) := same_upd hc
      have hfl := flat2_len (L.take i)
      rw [List.length_take] at hfl
      refine ⟨q, c, _, _, rfl, rfl, s2 _ _ hq1, upd_same, ?_, ?_⟩
      · rw [vns_len, List.length_cons, hfl]
        exact Nat.le_of_lt (big (by show _ + 2 ≤ _; omega))
      · refine ⟨_, _, rfl, fun c' o e => ?_, ?_⟩
        · rw [upd_ne (ne_of_none e hq)]
          exact s2 _ _ (s1 c' o e)
        · rw [upd_same, take_more hx, List.flatMap_append, List.flatMap_cons, List.flatMap_nil, List.append_nil]
          show some (HO.lst (vns _ ++ vns [x.1, x.2])) = _
          unfold vns
          rw [← List.map_append]
          rfl
    · rintro σ H1 ⟨v2, v3, rfl, s1, hq1⟩
      rw [List.length_map, tA.len, List.take_length] at hq1
      refine ⟨_, rfl, ?_⟩
      exact k H1 q s1 hq hq1
end
end Sr

/-! Times; times_of, time_answer. -/
namespace Sr
open PySem PySem.Spec PyProof.Rows L2
open Ge02 (House Sys)

/-! ### Times in the heap -/
def tF1 (o : Addr) : List (Str × V) := [("order", .ref o)]
def tF2 (o n : Addr) : List (Str × V) := [("order", .ref o), ("needs", .ref n)]
def tF3 (o n b : Addr) : List (Str × V) := [("order", .ref o), ("needs", .ref n), ("begins", .ref b)]
def tF (o n b e : Addr) : List (Str × V) := [("order", .ref o), ("needs", .ref n), ("begins", .ref b), ("ends", .ref e)]
theorem tF1_put (o : Addr) : putF "order" (.ref o) [] = tF1 o := rfl
theorem tF2_put (o n : Addr) : putF "needs" (.ref n) (tF1 o) = tF2 o n := (put_past (by decide +kernel)).trans rfl
theorem tF3_put (o n b : Addr) : putF "begins" (.ref b) (tF2 o n) = tF3 o n b := (put_past (by decide +kernel)).trans (congrArg _ ((put_past (by decide +kernel)).trans rfl))
theorem tF_put (o n b e : Addr) : putF "ends" (.ref e) (tF3 o n b) = tF o n b e := (put_past (by decide +kernel)).trans (congrArg _ ((put_past (by decide +kernel)).trans (congrArg _ ((put_past (by decide +kernel)).trans rfl))))
theorem tF_order (o n b e : Addr) : (tF o n b e).lookup ("order" : Str) = some (.ref o) := lk_here
theorem tF_needs (o n b e : Addr) : (tF o n b e).lookup ("needs" : Str) = some (.ref n) := (lk_past (by decide +kernel)).trans lk_here
theorem tF_begins (o n b e : Addr) : (tF o n b e).lookup ("begins" : Str) = some (.ref b) := (lk_past (by decide +kernel)).trans ((lk_past (by decide +kernel)).trans lk_here)
theorem tF_ends (o n b e : Addr) : (tF o n b e).lookup ("ends" : Str) = some (.ref e) := (lk_past (by decide +kernel)).trans ((lk_past (by decide +kernel)).trans ((lk_past (by decide +kernel)).trans lk_here))
theorem tF_no (o n b e : Addr) {m : Str} (h1 : (m == ("order" : Str)) = false) (h2 : (m == ("needs" : Str)) = false) (h3 : (m == ("begins" : Str)) = false) (h4 : (m == ("ends" : Str)) = false) : (tF o n b e).lookup m = none :=
  (lk_past h1).trans ((lk_past h2).trans ((lk_past h3).trans ((lk_past h4).trans rfl)))
/-- a Times at t, its list at o, its dicts at n, b, e; na: where the lists of needs stand; m: who was entered, and when it is over -/
structure TimesA (CT : Addr) (H : Hp) (t o n b e : Addr) (na : Nat → Addr) (mu : Nat → Nat → Bool) (co : Nat → Nat) (m : List (Nat × Nat)) : Prop where
  ob : ∃ dx, H t = some (.ins CT dx (tF o n b e))
  lo : H o = some (.lst (vns (m.map (·.1))))
  dN : H n = some (.dK (kD (m.map fun x => (x.1, V.ref (na x.1)))))
  dB : H b = some (.dK (kD (m.map fun x => (x.1, vn (x.2 - co x.1)))))
  dE : H e = some (.dK (kD (nv m)))
  nl : ∀ i x, m[i]? = some x → H (na x.1) = some (.lst (vns (((m.take i).map (·.1)).filter fun y => mu y x.1))) ∧ na x.1 ≠ o
  nd : (m.map (·.1)).Nodup
  nb : n ≠ b
  ne : n ≠ e
  be : b ≠ e
theorem TimesA.same {CT : Addr} {H H' : Hp} {t o n b e : Addr} {na : Nat → Addr} {mu : Nat → Nat → Bool} {co : Nat → Nat} {m : List (Nat × Nat)} (h : TimesA CT H t o n b e na mu co m) (s : Same H H') : TimesA CT H' t o n b e na mu co m := by
  obtain ⟨⟨dx, h1⟩, h2, h3, h4, h5, h6, h7, h8, h9, h10⟩ := h
  exact ⟨⟨dx, s _ _ h1⟩, s _ _ h2, s _ _ h3, s _ _ h4, s _ _ h5, fun i x hx => ⟨s _ _ (h6 i x hx).1, (h6 i x hx).2⟩, h7, h8, h9, h10⟩
theorem mkeys {α : Type} (f : Nat × Nat → α) (m : List (Nat × Nat)) : (m.map fun x => (x.1, f x)).map (·.1) = m.map (·.1) := by
  rw [List.map_map]
  rfl
theorem endOf_get {m : List (Nat × Nat)} (nd : (m.map (·.1)).Nodup) {n : Nat} (h : n ∈ m.map (·.1)) : valV (kD (nv m)) (Sum.inl (n : Int)) = some (vn (endOf m n)) := by
  obtain ⟨x, hx, rfl⟩ := List.mem_map.mp h
  rw [kD_some (by rw [nv_keys]; exact nd) (nv_mem hx), endOf_mem nd hx]
/-- a field's new object -/
theorem fld_step {H : Hp} {t x : Addr} {o1 o2 o3 : HO} (ht : H t = some o1) (hx : H x = none) : upd (upd H x o2) t o3 t = some o3 ∧ upd (upd H x o2) t o3 x = some o2 ∧ Keep [t] H (upd (upd H x o2) t o3) ∧ ∀ b, upd (upd H x o2) t o3 b = none → H b = none := by
  have ne : t ≠ x := ne_of_none ht hx
  have kp : Keep [t] H (upd (upd H x o2) t o3) := (Keep.same (same_upd hx)).trans (keep_upd (List.mem_singleton.mpr rfl))
  refine ⟨upd_same, by rw [upd_ne ne.symm, upd_same], kp, fun b hb => ?_⟩
  cases e : H b with
  | none => rfl
  | some u =>
    by_cases c : b = t
    · rw [c, upd_same] at hb
      cases hb
    · have := kp b u e fun q => c (List.mem_singleton.mp q)
      rw [hb] at this
      cases this

section
variable {P : Program} {w : World} {K : PySem.W.Frag} {mg : Str → Option Value} {base : Heap} {CR CS CP CT : Addr}
/-! ### Times.__init__ -/
abbrev sTInit : Stmt := inClass (top 34) 0
def spTInit (CT : Addr) : Sp := fun vs H Q _ => ∃ (t dx : Addr), vs = [.ref t] ∧ H t = some (.ins CT dx []) ∧
  ∀ (H' : Hp) (o n b e : Addr), H o = none → H n = none → H b = none → H e = none → (∀ na mu co, TimesA CT H' t o n b e na mu co []) → Keep [t] H H' → Q .non H'
theorem scTInit : FnScope ["self"] ["self"] (defScope sTInit) := ⟨rfl, rfl, rfl, by decide +kernel, rfl, by decide +kernel, by decide +kernel⟩
theorem ok_tinit {f : Addr} {fd : FuncData} (F : Fun K "__init__" "Times.__init__" sTInit f fd) (TT : TxtT K mg CT) : FnOk P w K mg base CX0 1 f fd ["self"] (spTInit CT) := by
  refine F.ok scTInit (fun vs H Q E h => ?_) (fun cdv A outer s H vs Q E hr h => ?_)
  · obtain ⟨t, dx, rfl, _⟩ := h
    rfl
  · obtain ⟨t, dx, rfl, hp, k⟩ := h
    refine ⟨_, pss_cons (ps_fld (pv 0) (pe_lst pa_nil) rfl) (pss_cons (ps_fld (pv 0) pe_dnewK rfl) (pss_cons (ps_fld (pv 0) pe_dnewK rfl) (pss_one (ps_fld (pv 0) pe_dnewK rfl)))), ?_⟩
    refine ⟨Nat.zero_le _, fun o ho => ?_⟩
    refine ⟨_, rfl, t, CT, dx, [], rfl, (by rw [upd_ne (ne_of_none hp ho)]; exact hp), TT.clT, TT.tOrder, (by show 0 < 1000; decide), ?_⟩
    rw [tF1_put]
    obtain ⟨a1, a2, a3, a4⟩ := fld_step (o2 := HO.lst []) (o3 := .ins CT dx (tF1 o)) hp ho
    generalize upd (upd H o (HO.lst [])) t (.ins CT dx (tF1 o)) = H1 at a1 a2 a3 a4 ⊢
    intro n hn
    refine ⟨_, rfl, t, CT, dx, _, rfl, (by rw [upd_ne (ne_of_none a1 hn)]; exact a1), TT.clT, TT.tNeeds, (by show 1 < 1000; decide), ?_⟩
    rw [tF2_put]
    obtain ⟨b1, b2, b3, b4⟩ := fld_step (o2 := HO.dK []) (o3 := .ins CT dx (tF2 o n)) a1 hn
    generalize upd (upd H1 n (HO.dK [])) t (.ins CT dx (tF2 o n)) = H2 at b1 b2 b3 b4 ⊢
    intro b hb
    refine ⟨_, rfl, t, CT, dx, _, rfl, (by rw [upd_ne (ne_of_none b1 hb)]; exact b1), TT.clT, TT.tBegins, (by show 2 < 1000; decide), ?_⟩
    rw [tF3_put]
    obtain ⟨c1, c2, c3, c4⟩ := fld_step (o2 := HO.dK []) (o3 := .ins CT dx (tF3 o n b)) b1 hb
    generalize upd (upd H2 b (HO.dK [])) t (.ins CT dx (tF3 o n b)) = H3 at c1 c2 c3 c4 ⊢
    intro e he
    refine ⟨_, rfl, t, CT, dx, _, rfl, (by rw [upd_ne (ne_of_none c1 he)]; exact c1), TT.clT, TT.tEnds, (by show 3 < 1000; decide), ?_⟩
    rw [tF_put]
    obtain ⟨d1, d2, d3, d4⟩ := fld_step (o2 := HO.dK []) (o3 := .ins CT dx (tF o n b e)) c1 he
    generalize upd (upd H3 e (HO.dK [])) t (.ins CT dx (tF o n b e)) = H4 at d1 d2 d3 d4 ⊢
    have nt : ∀ {x : Addr} {u : HO}, H x = none → x ∉ [t] := fun {x u} hx q => by
      rw [List.mem_singleton.mp q, hp] at hx
      cases hx
    have ho' : o ∉ [t] := nt (u := .lst []) ho
    have hn' : n ∉ [t] := nt (u := .lst []) (a4 n hn)
    have hb' : b ∉ [t] := nt (u := .lst []) (a4 b (b4 b hb))
    have he' : e ∉ [t] := nt (u := .lst []) (a4 e (b4 e (c4 e he)))
    have hn3 := c3 _ _ b2 hn'
    refine k H4 o n b e ho (a4 n hn) (a4 b (b4 b hb)) (a4 e (b4 e (c4 e he))) (fun na mu co => ?_) (((a3.trans b3).trans c3).trans d3)
    exact ⟨⟨dx, d1⟩, d3 _ _ (c3 _ _ (b3 _ _ a2 ho') ho') ho', d3 _ _ hn3 hn', d3 _ _ c2 hb', d2, fun i x z => (by cases z), List.nodup_nil, ne_of_none b2 hb, ne_of_none hn3 he, ne_of_none c2 he⟩

/-! ### Times.tick_length -/
def maxIn (m : List (Nat × Nat)) (l : List Nat) : Nat := (l.map (endOf m)).foldl max 0
theorem vns_ends (m : List (Nat × Nat)) (l : List Nat) : vns (l.map (endOf m)) = ((l.map (endOf m)).map fun (n : Nat) => (n : Int)).map V.int := vns_map _
abbrev sTick : Stmt := inClass (top 34) 2
def spTick (CT : Addr) : Sp := fun vs H Q _ => ∃ (t o n b e : Addr) (na : Nat → Addr) (mu : Nat → Nat → Bool) (co : Nat → Nat) (m : List (Nat × Nat)), vs = [.ref t] ∧ TimesA CT H t o n b e na mu co m ∧ m.length ≤ 100 ∧
  ∀ H' : Hp, Same H H' → Q (vn (maxIn m (m.map (·.1)))) H'
abbrev nTick : List Str := ["self", "number"]
theorem scTick : FnScope nTick ["self"] (defScope sTick) := ⟨rfl, rfl, rfl, by decide +kernel, rfl, by decide +kernel, by decide +kernel⟩
theorem ok_tick {f : Addr} {fd : FuncData} (F : Fun K "tick_length" "Times.tick_length" sTick f fd) (T : Txt K mg CR CS CP) (TT : TxtT K mg CT) : FnOk P w K mg base CX0 1 f fd ["self"] (spTick CT) := by
  refine F.ok scTick (fun vs H Q E h => ?_) (fun cdv A outer s H vs Q E hr h => ?_)
  · obtain ⟨t, o, n, b, e, na, mu, co, m, rfl, _⟩ := h
    rfl
  · obtain ⟨t, o, n, b, e, na, mu, co, m, rfl, tA, hml, k⟩ := h
    have hu := hu_of hr
    obtain ⟨dx, hob⟩ := tA.ob
    refine ⟨_, pss_one (ps_ret (pe_callBK (cr_maxd rfl) (by rfl) T.max (by decide +kernel) (pa_cons
      (pe_lc (own := [("number", 1)]) (g := gName 1) (tt := tYes) (te := tDGet (tFld K (tVar 0) "ends") (tVar 1)) rfl scTick.nd (pi_list (pe_fld (pv 0) rfl)) (blkOk_by (N := nTick) (sc := defScope sTick) (by decide +kernel))
        (fun _ _ _ _ _ => pg_name (i := 1) scTick.nd rfl (Or.inl rfl))
        (fun _ _ _ _ _ => pts_nil)
        (fun _ _ _ _ _ => pe_dget hu (pe_fld (pv 0) rfl) (pv 1) (fun _ _ => rfl))) pa_nil) (pk_cons pe_int pk_nil))), ?_⟩
    refine ⟨_, rfl, t, CT, dx, _, _, rfl, hob, TT.clT, TT.tOrder, tF_order _ _ _ _, o, rfl, ⟨_, SqL.of tA.lo⟩, fun D hD => ?_⟩
    refine lc_list (K := K) (a := o) (xs := vns (m.map (·.1))) (fun i H' => Same H H' ∧ H' D = some (.lst (vns (((m.map (·.1)).take i).map (endOf m))))) ⟨same_upd hD, upd_same⟩ (fun i H' _ ⟨s1, _⟩ => SqL.of (s1 _ _ tA.lo)) ?_ ?_
    · rintro i y H1 hi ⟨s1, hD1⟩
      obtain ⟨x, hx, rfl⟩ := map_get hi
      refine ⟨rfl, ?_⟩
      show tDGet (tFld K (tVar 0) "ends") (tVar 1) _ _ _
      refine ⟨_, rfl, t, CT, dx, _, _, rfl, s1 _ _ hob, TT.clT, TT.tEnds, tF_ends _ _ _ _, _, rfl, e, vn (endOf m x), rfl, ?_, ?_⟩
      · rw [← endOf_get tA.nd (List.mem_of_getElem? hx)]
        exact DGet.k (k := Sum.inl (x : Int)) (s1 _ _ tA.dE)
      refine ⟨_, hD1, ?_, fun c u z => ?_, ?_⟩
      · rw [vns_len, List.length_map, List.length_take, List.length_map]
        exact big (by omega)
      · rw [upd_ne (ne_of_none z hD)]
        exact s1 c u z
      · rw [upd_same, take_more hx, List.map_append, vns_add]
        rfl
    · rintro H1 ⟨s1, hD1⟩
      rw [vns_len, List.take_length, vns_ends] at hD1
      refine ⟨D, _, 0, rfl, rfl, SqL.of hD1, fun v hv => ?_⟩
      have ev := max_of (l := (m.map (·.1)).map (endOf m)) (m := v) (hv.imp (fun q => ⟨List.map_eq_nil_iff.mp q.1, q.2⟩) id)
      rw [ev]
      exact k H1 s1

/-! ### Times.enter -/
abbrev sEnter : Stmt := inClass (top 34) 1
def spEnter (CT : Addr) : Sp := fun vs H Q _ => ∃ (t o n b e a : Addr) (na : Nat → Addr) (mu : Nat → Nat → Bool) (co : Nat → Nat) (m : List (Nat × Nat)) (x : Nat), vs = [.ref t, vn x, .ref a, vn (co x)] ∧ TimesA CT H t o n b e na mu co m ∧ m.length ≤ 100 ∧ x ∉ m.map (·.1) ∧ a ≠ o ∧ H a = some (.lst (vns ((m.map (·.1)).filter fun y => mu y x))) ∧
  ∀ (H' : Hp) (na' : Nat → Addr), TimesA CT H' t o n b e na' mu co (m ++ [(x, bgn mu m x + co x)]) → Keep [o, n, b, e] H H' → Q .non H'
abbrev nEnter : List Str := ["self", "number", "needs", "cost", "begin", "earlier"]
theorem scEnter : FnScope nEnter ["self", "number", "needs", "cost"] (defScope sEnter) := ⟨rfl, rfl, rfl, by decide +kernel, rfl, by decide +kernel, by decide +kernel⟩
theorem ok_enter {f : Addr} {fd : FuncData} (F : Fun K "enter" "Times.enter" sEnter f fd) (T : Txt K mg CR CS CP) (TT : TxtT K mg CT) : FnOk P w K mg base CX0 1 f fd ["self", "number", "needs", "cost"] (spEnter CT) := by
  refine F.ok scEnter (fun vs H Q E h => ?_) (fun cdv A outer s H vs Q E hr h => ?_)
  · obtain ⟨t, o, n, b, e, a, na, mu, co, m, x, rfl, _⟩ := h
    rfl
  · obtain ⟨t, o, n, b, e, a, na, mu, co, m, x, rfl, tA, hml, nx, nao, ha, k⟩ := h
    have hu := hu_of hr
    obtain ⟨dx, hob⟩ := tA.ob
    refine ⟨_, pss_cons (ps_set (i := 4) scEnter.nd rfl (Or.inl rfl) (pe_callBK (cr_maxd rfl) (by rfl) T.max (by decide +kernel) (pa_cons
        (pe_lc (own := [("earlier", 5)]) (g := gName 5) (tt := tYes) (te := tDGet (tFld K (tVar 0) "ends") (tVar 5)) rfl scEnter.nd (pi_list (pv 2)) (blkOk_by (N := nEnter) (sc := defScope sEnter) (by decide +kernel))
          (fun _ _ _ _ _ => pg_name (i := 5) scEnter.nd rfl (Or.inl rfl))
          (fun _ _ _ _ _ => pts_nil)
          (fun _ _ _ _ _ => pe_dget hu (pe_fld (pv 0) rfl) (pv 5) (fun _ _ => rfl))) pa_nil) (pk_cons pe_int pk_nil)))
      (pss_cons (ps_expr (pe_bm PySem.F.plainAttrs_list PySem.F.slot_list_append PySem.F.type_list_append mt_append (pe_fld (pv 0) rfl) (pa_cons (pv 1) pa_nil)))
      (pss_cons (ps_dput hu (pe_fld (pv 0) rfl) (pv 1) (pv 2) rfl)
      (pss_cons (ps_dput hu (pe_fld (pv 0) rfl) (pv 1) (pv 4) rfl)
      (pss_one (ps_dput hu (pe_fld (pv 0) rfl) (pv 1) (pe_op op_add (pv 4) (pv 3)) rfl))))), ?_⟩
    generalize hns : ((m.map (·.1)).filter fun y => mu y x) = ns at ha
    have hsub : ∀ y ∈ ns, y ∈ m.map (·.1) := fun y hy => by
      rw [← hns] at hy
      exact (List.mem_filter.mp hy).1
    have hnl : ns.length ≤ m.length := by
      rw [← hns]
      have := List.length_filter_le (fun y => mu y x) (m.map (·.1))
      rw [List.length_map] at this
      exact this
    -- begin = max([..], default=0)
    refine ⟨_, rfl, a, rfl, ⟨_, SqL.of ha⟩, fun D hD => ?_⟩
    refine lc_list (K := K) (a := a) (xs := vns ns) (fun i H' => Same H H' ∧ H' D = some (.lst (vns ((ns.take i).map (endOf m))))) ⟨same_upd hD, upd_same⟩ (fun i H' _ ⟨s1, _⟩ => SqL.of (s1 _ _ ha)) ?_ ?_
    · rintro i y H1 hi ⟨s1, hD1⟩
      obtain ⟨y, hy, rfl⟩ := map_get hi
      refine ⟨rfl, ?_⟩
      show tDGet (tFld K (tVar 0) "ends") (tVar 5) _ _ _
      refine ⟨_, rfl, t, CT, dx, _, _, rfl, s1 _ _ hob, TT.clT, TT.tEnds, tF_ends _ _ _ _, _, rfl, e, vn (endOf m y), rfl, ?_, ?_⟩
      · rw [← endOf_get tA.nd (hsub y (List.mem_of_getElem? hy))]
        exact DGet.k (k := Sum.inl (y : Int)) (s1 _ _ tA.dE)
      refine ⟨_, hD1, ?_, fun c u z => ?_, ?_⟩
      · rw [vns_len, List.length_map, List.length_take]
        exact big (by omega)
      · rw [upd_ne (ne_of_none z hD)]
        exact s1 c u z
      · rw [upd_same, take_more hy, List.map_append, vns_add]
        rfl
    · rintro H1 ⟨s1, hD1⟩
      rw [vns_len, List.take_length, vns_ends] at hD1
      refine ⟨D, _, 0, rfl, rfl, SqL.of hD1, fun v hv => ?_⟩
      have ev := max_of (l := ns.map (endOf m)) (m := v) (hv.imp (fun q => ⟨List.map_eq_nil_iff.mp q.1, q.2⟩) id)
      have eb : (ns.map (endOf m)).foldl max 0 = bgn mu m x := by rw [bgn_is tA.nd, hns]
      rw [eb] at ev
      rw [ev]
      obtain ⟨h1, h2, h3, h4, h5, h6, h7, h8, h9, h10⟩ := tA.same s1
      obtain ⟨dx1, h1⟩ := h1
      have hno : n ≠ o := ne_of h3 h2 ne_dk_lst
      have hbo : b ≠ o := ne_of h4 h2 ne_dk_lst
      have heo : e ≠ o := ne_of h5 h2 ne_dk_lst
      have hto : t ≠ o := ne_of h1 h2 ne_ins_lst
      have htn : t ≠ n := ne_of h1 h3 (fun q => by cases q)
      have htb : t ≠ b := ne_of h1 h4 (fun q => by cases q)
      have hte : t ≠ e := ne_of h1 h5 (fun q => by cases q)
      -- self.order.append(number)
      refine ⟨_, rfl, t, CT, dx1, _, _, rfl, h1, TT.clT, TT.tOrder, tF_order _ _ _ _, .inl ⟨rfl, _, SqL.of h2⟩, _, rfl, o, _, _, rfl, rfl, h2, (by rw [vns_len, List.length_map]; exact big (by omega)), ?_⟩
      rw [vns_add]
      -- self.needs[number] = needs
      refine ⟨_, rfl, _, rfl, t, CT, dx1, _, _, rfl, (by rw [upd_ne hto]; exact h1), TT.clT, TT.tNeeds, tF_needs _ _ _ _, _, rfl, n, _, rfl, DPut.k (k := Sum.inl (x : Int)) (by rw [upd_ne hno]; exact h3) (by rw [kD_len, List.length_map]; exact big (by omega)), ?_⟩
      rw [kD_put (by rw [mkeys]; exact nx)]
      -- self.begins[number] = begin
      refine ⟨_, rfl, _, rfl, t, CT, dx1, _, _, rfl, (by rw [upd_ne htn, upd_ne hto]; exact h1), TT.clT, TT.tBegins, tF_begins _ _ _ _, _, rfl, b, _, rfl, DPut.k (k := Sum.inl (x : Int)) (by rw [upd_ne h8.symm, upd_ne hbo]; exact h4) (by rw [kD_len, List.length_map]; exact big (by omega)), ?_⟩
      rw [kD_put (by rw [mkeys]; exact nx)]
      -- self.ends[number] = begin + cost
      refine ⟨_, rfl, _, rfl, _, _, rfl, rfl, _, rfl, t, CT, dx1, _, _, rfl, (by rw [upd_ne htb, upd_ne htn, upd_ne hto]; exact h1), TT.clT, TT.tEnds, tF_ends _ _ _ _, _, rfl, e, _, rfl, DPut.k (k := Sum.inl (x : Int)) (by rw [upd_ne h10.symm, upd_ne h9.symm, upd_ne heo]; exact h5) (by rw [kD_len]; unfold nv; rw [List.length_map]; exact big (by omega)), ?_⟩
      rw [kD_put (by rw [nv_keys]; exact nx)]
      have hkp : ∀ y u, H1 y = some u → y ∉ [o, n, b, e] → ∀ o1 o2 o3 o4, upd (upd (upd (upd H1 o o1) n o2) b o3) e o4 y = some u := fun y u hy hn o1 o2 o3 o4 => by
        simp only [List.mem_cons, List.not_mem_nil, or_false, not_or] at hn
        rw [upd_ne hn.2.2.2, upd_ne hn.2.2.1, upd_ne hn.2.1, upd_ne hn.1]
        exact hy
      have hna : ∀ y : Addr, ∀ {xs : List V}, H1 y = some (.lst xs) → y ≠ o → y ∉ [o, n, b, e] := fun y xs hy hyo q => by
        simp only [List.mem_cons, List.not_mem_nil, or_false] at q
        rcases q with z | z | z | z
        · exact hyo z
        · rw [z, h3] at hy
          cases hy
        · rw [z, h4] at hy
          cases hy
        · rw [z, h5] at hy
          cases hy
      have ena : ∀ y ∈ m, (if y.1 = x then a else na y.1) = na y.1 := fun y hy => if_neg fun q => nx (by rw [← q]; exact List.mem_map.mpr ⟨y, hy, rfl⟩)
      refine k _ (fun y => if y = x then a else na y) ⟨⟨dx1, ?_⟩, ?_, ?_, ?_, ?_, ?_, ?_, h8, h9, h10⟩ ?_
      · rw [upd_ne hte, upd_ne htb, upd_ne htn, upd_ne hto]
        exact h1
      · rw [upd_ne heo.symm, upd_ne hbo.symm, upd_ne hno.symm, upd_same, List.map_append]
        rfl
      · rw [upd_ne h9, upd_ne h8, upd_same, List.map_append]
        refine congrArg (fun z => some (HO.dK (kD z))) ?_
        congr 1
        · exact List.map_congr_left fun y hy => by rw [ena y hy]
        · show [(x, V.ref a)] = [(x, V.ref (if x = x then a else na x))]
          rw [if_pos rfl]
      · rw [upd_ne h10, upd_same, List.map_append]
        refine congrArg (fun z => some (HO.dK (kD z))) ?_
        congr 1
        show [(x, V.int (bgn mu m x : Int))] = [(x, vn (bgn mu m x + co x - co x))]
        rw [Nat.add_sub_cancel]
      · rw [upd_same, ← nv_snoc]
        rfl
      · intro i y hy
        by_cases hi : i < m.length
        · rw [List.getElem?_append_left hi] at hy
          have hym := List.mem_of_getElem? hy
          obtain ⟨g1, g2⟩ := h6 i y hy
          show upd _ e _ (if y.1 = x then a else na y.1) = _ ∧ (if y.1 = x then a else na y.1) ≠ o
          rw [ena y hym, List.take_append_of_le_length (by omega)]
          exact ⟨hkp _ _ g1 (hna _ g1 g2) _ _ _ _, g2⟩
        · rw [List.getElem?_append_right (by omega)] at hy
          cases ei : i - m.length with
          | zero =>
            rw [ei] at hy
            have ey : (x, bgn mu m x + co x) = y := Option.some.inj hy
            rw [← ey]
            have ha1 := s1 _ _ ha
            show upd _ e _ (if x = x then a else na x) = _ ∧ (if x = x then a else na x) ≠ o
            rw [if_pos rfl, show i = m.length by omega, List.take_left, hns]
            exact ⟨hkp _ _ ha1 (hna _ ha1 nao) _ _ _ _, nao⟩
          | succ q =>
            rw [ei] at hy
            cases hy
      · rw [List.map_append]
        exact nodup_snoc tA.nd nx
      · intro y u hy hn
        exact hkp y u (s1 y u hy) hn _ _ _ _

/-! ### Times.over_at -/
abbrev sAt : Stmt := inClass (top 34) 3
def spAt (CT : Addr) : Sp := fun vs H Q _ => ∃ (t o n b e a : Addr) (na : Nat → Addr) (mu : Nat → Nat → Bool) (co : Nat → Nat) (m : List (Nat × Nat)) (ns : List Nat) (v : Nat), vs = [.ref t, .ref a, vn v] ∧ TimesA CT H t o n b e na mu co m ∧ H a = some (.lst (vns ns)) ∧ (∀ y ∈ ns, y ∈ m.map (·.1)) ∧ ns.length ≤ 100 ∧
  ∀ (H' : Hp) (c : Addr), Same H H' → H c = none → H' c = some (.lst (vns (ns.filter fun y => endOf m y == v))) → Q (.ref c) H'
abbrev nAt : List Str := ["self", "numbers", "moment", "number"]
theorem scAt : FnScope nAt ["self", "numbers", "moment"] (defScope sAt) := ⟨rfl, rfl, rfl, by decide +kernel, rfl, by decide +kernel, by decide +kernel⟩
theorem dec_beq (a b : Nat) : decide (vn a = vn b) = (a == b) := by
  rw [dec_vn]
  by_cases h : a = b
  · rw [decide_eq_true h, h]
    exact (beq_self_eq_true b).symm
  · rw [decide_eq_false h]
    exact (beq_eq_false_iff_ne.mpr h).symm
theorem ok_at {f : Addr} {fd : FuncData} (F : Fun K "over_at" "Times.over_at" sAt f fd) (TT : TxtT K mg CT) : FnOk P w K mg base CX0 1 f fd ["self", "numbers", "moment"] (spAt CT) := by
  refine F.ok scAt (fun vs H Q E h => ?_) (fun cdv A outer s H vs Q E hr h => ?_)
  · obtain ⟨t, o, n, b, e, a, na, mu, co, m, ns, v, rfl, _⟩ := h
    rfl
  · obtain ⟨t, o, n, b, e, a, na, mu, co, m, ns, v, rfl, tA, ha, hsub, hnl, k⟩ := h
    have hu := hu_of hr
    obtain ⟨dx, hob⟩ := tA.ob
    refine ⟨_, pss_one (ps_ret (pe_lc (own := [("number", 3)]) (g := gName 3) (tt := tTest (tOp rEq (tDGet (tFld K (tVar 0) "ends") (tVar 3)) (tVar 2))) (te := tVar 3) rfl scAt.nd (pi_list (pv 1)) (blkOk_by (N := nAt) (sc := defScope sAt) (by decide +kernel))
        (fun _ _ _ _ _ => pg_name (i := 3) scAt.nd rfl (Or.inl rfl))
        (fun _ _ _ _ _ => pts_one (pt_cmpR op_eq (pe_dget hu (pe_fld (pv 0) rfl) (pv 3) (fun _ _ => rfl)) (pv 2) (nomark _)))
        (fun _ _ _ _ _ => pv 3))), ?_⟩
    refine ⟨_, rfl, a, rfl, ⟨_, SqL.of ha⟩, fun D hD => ?_⟩
    refine lc_list (K := K) (a := a) (xs := vns ns) (fun i H' => Same H H' ∧ H' D = some (.lst (vns ((ns.take i).filter fun y => endOf m y == v)))) ⟨same_upd hD, upd_same⟩ (fun i H' _ ⟨s1, _⟩ => SqL.of (s1 _ _ ha)) ?_ ?_
    · rintro i y H1 hi ⟨s1, hD1⟩
      obtain ⟨y, hy, rfl⟩ := map_get hi
      refine ⟨rfl, ?_⟩
      refine ⟨_, rfl, t, CT, dx, _, _, rfl, s1 _ _ hob, TT.clT, TT.tEnds, tF_ends _ _ _ _, _, rfl, e, vn (endOf m y), rfl, ?_, ?_⟩
      · rw [← endOf_get tA.nd (hsub y (List.mem_of_getElem? hy))]
        exact DGet.k (k := Sum.inl (y : Int)) (s1 _ _ tA.dE)
      refine ⟨_, rfl, rfl, _, rfl, ?_⟩
      rw [dec_beq]
      have hfl := List.length_filter_le (fun y => endOf m y == v) (ns.take i)
      rw [List.length_take] at hfl
      cases c : endOf m y == v with
      | true =>
        refine iteT ⟨_, rfl, _, hD1, (by rw [vns_len]; exact big (by omega)), fun c' u z => ?_, ?_⟩
        · rw [upd_ne (ne_of_none z hD)]
          exact s1 c' u z
        · rw [upd_same, filter_more hy, if_pos c, vns_add]
      | false =>
        refine iteF ⟨s1, ?_⟩
        rw [filter_more hy, if_neg (by rw [c]; exact Bool.false_ne_true)]
        exact hD1
    · rintro H1 ⟨s1, hD1⟩
      rw [vns_len, List.take_length] at hD1
      exact k H1 D s1 hD hD1
end
end Sr

/-! Times.chain; times_of, time_answer. -/
namespace Sr
open PySem PySem.Spec PyProof.Rows L2
open Ge02 (House Sys)
theorem same_keep {S : List Addr} {H0 H H' : Hp} (s : Same H0 H) (k : Keep S H H') (n : ∀ b ∈ S, H0 b = none) : Same H0 H' := fun b o e => k b o (s b o e) fun q => by
  rw [n b q] at e
  cases e
section
variable {P : Program} {w : World} {K : PySem.W.Frag} {mg : Str → Option Value} {base : Heap} {CR CS CP CT : Addr}
/-! ### Times.chain -/
/-- a Times of all, in order -/
abbrev TimesG (CT : Addr) (H : Hp) (t o n b e : Addr) (na : Nat → Addr) (g : House) : Prop := TimesA CT H t o n b e na (Ge02.must g) (costOf g) (Ge02.ends g)
abbrev sChain : Stmt := inClass (top 34) 4
def spChain (CT : Addr) : Sp := fun vs H Q _ => ∃ (t o n b e : Addr) (na : Nat → Addr) (g : House), vs = [.ref t] ∧ TimesG CT H t o n b e na g ∧ Good g ∧
  ∀ (H' : Hp) (c : Addr), Same H H' → H c = none → H' c = some (.lst (vns (Ge02.chain g))) → Q (.ref c) H'
theorem scChain : FnScope ["self", "backwards", "links", "link"] ["self"] (defScope sChain) := ⟨rfl, rfl, rfl, by decide +kernel, rfl, by decide +kernel, by decide +kernel⟩
theorem vns_rev (l : List Nat) : (vns l).reverse = vns l.reverse := by
  unfold vns
  rw [List.map_reverse]
theorem endsL {g : House} (G : Good g) : (Ge02.ends g).length ≤ 10 := by
  rw [ends_len]
  have := order_len (g := g)
  have := G.most
  omega
/-- the links so far, and what is left: at most f steps -/
structure Lk (g : House) (acc xs : List Nat) (f : Nat) : Prop where
  go : (Ge02.chain g).reverse = acc ++ onFrom g (Ge02.ends g) f xs.head?
  at_ : ∀ x, xs.head? = some x → ∃ i z, i < f ∧ (Ge02.ends g)[i]? = some z ∧ z.1 = x
  len : acc.length + f ≤ 11
theorem Lk.start {g : House} (G : Good g) : Lk g [] (firsts g) (g.systems.length + 1) := by
  refine ⟨chain_first (ends_nd g), fun x hx => ?_, by have := G.most; show 0 + _ ≤ _; omega⟩
  have hm := List.mem_of_mem_head? hx
  obtain ⟨z, hz, e⟩ := List.mem_map.mp (List.mem_filter.mp hm).1
  obtain ⟨i, hi⟩ := List.mem_iff_getElem?.mp hz
  have hil := (List.getElem?_eq_some_iff.mp hi).1
  rw [ends_len] at hil
  have := order_len (g := g)
  exact ⟨i, z, by omega, hi, e⟩
theorem Lk.step {g : House} (G : Good g) {acc xs : List Nat} {x f : Nat} (h : Lk g acc (x :: xs) f) : ∃ i z f', f = f' + 1 ∧ (Ge02.ends g)[i]? = some z ∧ z.1 = x ∧ Lk g (acc ++ [x]) (links g (Ge02.ends g) i x) f' := by
  obtain ⟨i, z, hif, hz, rfl⟩ := h.at_ x rfl
  obtain ⟨f', rfl⟩ : ∃ f', f = f' + 1 := ⟨f - 1, by omega⟩
  refine ⟨i, z, f', rfl, hz, rfl, ?_, fun y hy => ?_, ?_⟩
  · rw [h.go]
    show acc ++ Ge02.chainFrom g (Ge02.ends g) (f' + 1) z.1 = _
    rw [chain_on (ends_nd g) (ends_ge G) hz, List.append_assoc]
    rfl
  · obtain ⟨k, u, hk, hu, e⟩ := links_mem (List.mem_of_mem_head? hy)
    exact ⟨k, u, by omega, hu, e⟩
  · have := h.len
    rw [List.length_append, List.length_singleton]
    omega
theorem ok_chain {f fT fA : Addr} {fd fdT fdA : FuncData} (F : Fun K "chain" "Times.chain" sChain f fd) (T : Txt K mg CR CS CP) (TT : TxtT K mg CT) (GT : FnOk P w K mg base CX0 1 fT fdT ["self"] (spTick CT)) (bT : Binds K fdT ["self"] []) (mT : Meth K CT "tick_length" fT)
    (GA : FnOk P w K mg base CX0 1 fA fdA ["self", "numbers", "moment"] (spAt CT)) (bA : Binds K fdA ["self", "numbers", "moment"] []) (mA : Meth K CT "over_at" fA) :
    FnOk P w K mg base CX0 2 f fd ["self"] (spChain CT) := by
  refine F.ok scChain (fun vs H Q E h => ?_) (fun cdv A outer s H vs Q E hr h => ?_)
  · obtain ⟨t, o, n, b, e, na, g, rfl, _⟩ := h
    rfl
  · obtain ⟨t, o, n, b, e, na, g, rfl, tA, G, k⟩ := h
    have hu := hu_of hr
    obtain ⟨dx, hob⟩ := tA.ob
    have hel := endsL G
    refine ⟨_, pss_cons (ps_set (i := 1) scChain.nd rfl (Or.inl rfl) (pe_lst pa_nil))
      (pss_cons (ps_set (i := 2) scChain.nd rfl (Or.inl rfl) (pe_meth (pv 0) TT.clT mA GA hr bA .nil pass0 (pa_cons (pe_fld (pv 0) rfl) (pa_cons (pe_meth0 (pv 0) TT.clT mT GT hr bT .nil pass0) pa_nil))))
      (pss_cons (ps_while PassesOwn.never (pt_cmpR op_gt (pe_callB call_len_seq (by rfl) T.len PySem.boot_len (pa_cons (pv 2) pa_nil)) pe_int (nomark _))
        (pss_cons (ps_set (i := 3) scChain.nd rfl (Or.inl rfl) (pe_ix ix_list (pv 2) pe_int (fun _ _ => rfl)))
        (pss_cons (ps_expr (pe_bm PySem.F.plainAttrs_list PySem.F.slot_list_append PySem.F.type_list_append mt_append (pv 1) (pa_cons (pv 3) pa_nil)))
        (pss_one (ps_set (i := 2) scChain.nd rfl (Or.inl rfl) (pe_meth (pv 0) TT.clT mA GA hr bA .nil pass0 (pa_cons (pe_dget hu (pe_fld (pv 0) rfl) (pv 3) (fun _ _ => rfl)) (pa_cons (pe_dget hu (pe_fld (pv 0) rfl) (pv 3) (fun _ _ => rfl)) pa_nil))))))))
      (pss_one (ps_ret (pe_lstRev rfl rfl T.list rfl T.reversed (pv 1)))))), ?_⟩
    have noA : (tF o n b e).lookup ("over_at" : Str) = none := tF_no _ _ _ _ (by decide +kernel) (by decide +kernel) (by decide +kernel) (by decide +kernel)
    have noT : (tF o n b e).lookup ("tick_length" : Str) = none := tF_no _ _ _ _ (by decide +kernel) (by decide +kernel) (by decide +kernel) (by decide +kernel)
    -- backwards = []
    refine ⟨Nat.zero_le _, fun q hq => ?_⟩
    have s0 := same_upd (o := HO.lst []) hq
    -- links = self.over_at(self.order, self.tick_length())
    refine ⟨_, rfl, t, dx, _, rfl, s0 _ _ hob, noA, ?_⟩
    refine ⟨_, rfl, t, CT, dx, _, _, rfl, s0 _ _ hob, TT.clT, TT.tOrder, tF_order _ _ _ _, ?_⟩
    refine ⟨_, rfl, t, dx, _, rfl, s0 _ _ hob, noT, t, o, n, b, e, na, _, _, _, rfl, tA.same s0, by omega, fun H1 s1 => ?_⟩
    have s01 := s0.trans s1
    refine ⟨t, o, n, b, e, o, na, _, _, _, (Ge02.ends g).map (·.1), maxIn (Ge02.ends g) ((Ge02.ends g).map (·.1)), rfl, tA.same s01, s01 _ _ tA.lo, fun _ h => h, (by rw [List.length_map]; omega), fun H2 c s2 hc hcL => ?_⟩
    have s02 := s01.trans s2
    have el : maxIn (Ge02.ends g) ((Ge02.ends g).map (·.1)) = Ge02.lasts g := (lasts_is (ends_nd g)).symm
    rw [el] at hcL
    have hq2 : H2 q = some (.lst []) := s2 _ _ (s1 _ _ upd_same)
    refine ⟨fun m σ H' => ∃ (acc xs : List Nat) (c : Addr) (v3 : Option V), σ = [some (.ref t), some (.ref q), some (.ref c), v3] ∧ Same H H' ∧ H' q = some (.lst (vns acc)) ∧ H' c = some (.lst (vns xs)) ∧ Lk g acc xs m,
      ⟨g.systems.length + 1, [], firsts g, c, none, rfl, s02, hq2, hcL, Lk.start G⟩, ?_⟩
    rintro m σ H3 ⟨acc, xs, c, v3, rfl, s3, hq3, hc3, lk⟩
    refine ⟨_, rfl, c, _, rfl, .inl (SqL.of hc3), _, _, rfl, rfl, _, rfl, ?_⟩
    rw [vns_len]
    cases xs with
    | nil =>
      refine if_false_of (by decide) ?_
      -- list(reversed(backwards))
      refine ⟨_, rfl, q, _, rfl, SqL.of hq3, fun r hr0 => ?_⟩
      have ego := lk.go
      have e1 : (Ge02.chain g).reverse = acc := ego.trans (List.append_nil _)
      refine k _ r (s3.trans (same_upd hr0)) (s3.free hr0) ?_
      rw [upd_same, vns_rev, ← e1, List.reverse_reverse]
    | cons x xs =>
      refine if_true_of (decide_eq_true (by rw [List.length_cons]; omega)) ?_
      obtain ⟨i, z, m', rfl, hz, ez, lk'⟩ := lk.step G
      refine ⟨fun σ' H' => ∃ m'', m'' < m' + 1 ∧ ∃ (acc xs : List Nat) (c : Addr) (v3 : Option V), σ' = [some (.ref t), some (.ref q), some (.ref c), v3] ∧ Same H H' ∧ H' q = some (.lst (vns acc)) ∧ H' c = some (.lst (vns xs)) ∧ Lk g acc xs m'', fun _ _ z => z, ?_⟩
      -- link = links[0]
      refine ⟨_, rfl, c, _, _, vn x, rfl, rfl, SqL.of hc3, atI_nat (j := 0) rfl, ?_⟩
      -- backwards.append(link)
      have hal := lk.len
      refine ⟨_, rfl, .inl ⟨rfl, _, SqL.of hq3⟩, _, rfl, q, _, _, rfl, rfl, hq3, (by rw [vns_len]; exact big (by omega)), ?_⟩
      rw [vns_add]
      have s4 : Same H (upd H3 q (.lst (vns (acc ++ [x])))) := fun y u hy => by
        rw [upd_ne (ne_of_none hy hq)]
        exact s3 y u hy
      have hq4 : upd H3 q (.lst (vns (acc ++ [x]))) q = some (.lst (vns (acc ++ [x]))) := upd_same
      generalize upd H3 q (.lst (vns (acc ++ [x]))) = H4 at s4 hq4 ⊢
      have zm := List.mem_of_getElem? hz
      obtain ⟨nl1, nl2⟩ := tA.nl i z hz
      -- links = self.over_at(self.needs[link], self.begins[link])
      refine ⟨_, rfl, t, dx, _, rfl, s4 _ _ hob, noA, ?_⟩
      refine ⟨_, rfl, t, CT, dx, _, _, rfl, s4 _ _ hob, TT.clT, TT.tNeeds, tF_needs _ _ _ _, _, rfl, n, V.ref (na z.1), rfl, ?_, ?_⟩
      · rw [← ez, ← kD_some (D := (Ge02.ends g).map fun x => (x.1, V.ref (na x.1))) (by rw [mkeys]; exact tA.nd) (List.mem_map.mpr ⟨z, zm, rfl⟩)]
        exact DGet.k (k := Sum.inl (z.1 : Int)) (s4 _ _ tA.dN)
      refine ⟨_, rfl, t, CT, dx, _, _, rfl, s4 _ _ hob, TT.clT, TT.tBegins, tF_begins _ _ _ _, _, rfl, b, vn (z.2 - costOf g z.1), rfl, ?_, ?_⟩
      · rw [← ez, ← kD_some (D := (Ge02.ends g).map fun x => (x.1, vn (x.2 - costOf g x.1))) (by rw [mkeys]; exact tA.nd) (List.mem_map.mpr ⟨z, zm, rfl⟩)]
        exact DGet.k (k := Sum.inl (z.1 : Int)) (s4 _ _ tA.dB)
      refine ⟨t, o, n, b, e, na z.1, na, _, _, _, (((Ge02.ends g).take i).map (·.1)).filter (fun y => Ge02.must g y z.1), z.2 - costOf g z.1, rfl, tA.same s4, s4 _ _ nl1, fun y hy => ?_, ?_, fun H5 c5 s5 hc5 hcL5 => ?_⟩
      · obtain ⟨u, hu', e'⟩ := List.mem_map.mp (List.mem_filter.mp hy).1
        exact List.mem_map.mpr ⟨u, List.mem_of_mem_take hu', e'⟩
      · have := List.length_filter_le (fun y => Ge02.must g y z.1) (((Ge02.ends g).take i).map (·.1))
        rw [List.length_map, List.length_take] at this
        omega
      · refine ⟨m', Nat.lt_succ_self _, acc ++ [x], links g (Ge02.ends g) i x, c5, _, rfl, s4.trans s5, s5 _ _ hq4, ?_, lk'⟩
        rw [hcL5, ← ez]
        unfold links
        rw [endOf_mem (ends_nd g) zm]

/-! ### times_of -/
abbrev sTimes : Stmt := top 35
def spTimes (CP CS CT : Addr) : Sp := fun vs H Q _ => ∃ (F : List Addr) (p d l : Addr) (g : House) (ps : List (Nat × Nat)), vs = [.ref p] ∧ PlanAt CP CS H F p d l g ps ∧ Rel g ps ∧ ps.length ≤ 1800 ∧
  ∀ (H' : Hp) (t o n b e : Addr) (na : Nat → Addr), Same H H' → TimesG CT H' t o n b e na g → Q (.ref t) H'
abbrev nTimes : List Str := ["plan", "times", "number", "needs", "earlier"]
theorem scTimes : FnScope nTimes ["plan"] (defScope sTimes) := ⟨rfl, rfl, rfl, by decide +kernel, rfl, by decide +kernel, by decide +kernel⟩
theorem costOf_is {g : House} {n : Nat} {s : Sys} (h : Ge02.sysOf g n = some s) : costOf g n = s.cost := by
  unfold costOf
  rw [h]
  rfl
theorem ok_times {f fI fO fM fE : Addr} {fd fdI fdO fdM fdE : FuncData} (F : Fun K "times_of" "times_of" sTimes f fd) (T : Txt K mg CR CS CP) (TT : TxtT K mg CT) (MI : Mk K CT fI) (GI : FnOk P w K mg base CX0 1 fI fdI ["self"] (spTInit CT)) (bI : Binds K fdI ["self"] [])
    (GO : FnOk P w K mg base CX0 2 fO fdO ["self"] (spOrd CP CS)) (bO : Binds K fdO ["self"] []) (mO : Meth K CP "in_order" fO)
    (GM : FnOk P w K mg base CX0 5 fM fdM ["self", "earlier", "later"] (spMust CP CS)) (bM : Binds K fdM ["self", "earlier", "later"] []) (mM : Meth K CP "must_be_over" fM)
    (GE : FnOk P w K mg base CX0 1 fE fdE ["self", "number", "needs", "cost"] (spEnter CT)) (bE : Binds K fdE ["self", "number", "needs", "cost"] []) (mE : Meth K CT "enter" fE) :
    FnOk P w K mg base CX0 6 f fd ["plan"] (spTimes CP CS CT) := by
  refine F.ok scTimes (fun vs H Q E h => ?_) (fun cdv A outer s H vs Q E hr h => ?_)
  · obtain ⟨F, p, d, l, g, ps, rfl, _⟩ := h
    rfl
  · obtain ⟨F, p, d, l, g, ps, rfl, hP, R, hps, k⟩ := h
    have hu := hu_of hr
    have hr1 : Room 1 _ := hr.mono (by decide)
    have hr2 : Room 2 _ := hr.mono (by decide)
    obtain ⟨ad, tp, ⟨dx, hob⟩, hdc, hls, htu, hsy, hfl⟩ := id hP
    refine ⟨_, pss_cons (ps_set (i := 1) scTimes.nd rfl (Or.inl rfl) (pe_make0 MI GI hr2 rfl TT.gT bI .nil pass0))
      (pss_cons (ps_for PassesOwn.never rfl (pi_list (pe_meth0 (pv 0) T.clP mO GO hr2 bO .nil pass0)) (pg_name (i := 2) scTimes.nd rfl (Or.inr rfl))
        (pss_cons (ps_setLc (i := 3) (own := [("earlier", 4)]) (g := gName 4) (tt := tB (tMeth CP "must_be_over" (spMust CP CS) [] E0 (tVar 0) (tCons (tVar 4) (tCons (tVar 2) tNil)))) (te := tVar 4) rfl scTimes.nd rfl rfl (sw_true rfl rfl rfl (by decide +kernel)) (pi_list (pe_fld (pv 1) rfl)) (blkOk_by (N := nTimes) (sc := defScope sTimes) (by decide +kernel))
            (fun _ _ _ _ _ => pg_name (i := 4) scTimes.nd rfl (Or.inl rfl))
            (fun _ _ _ _ _ => pts_one (pt_val (pe_meth (pv 0) T.clP mM GM hr bM .nil pass0 (pa_cons (pv 4) (pa_cons (pv 2) pa_nil)))))
            (fun _ _ _ _ _ => pv 4))
        (pss_one (ps_expr (pe_meth (pv 1) TT.clT mE GE hr1 bE .nil pass0 (pa_cons (pv 2) (pa_cons (pv 3) (pa_cons (pe_fld (pe_dget hu (pe_fld (pv 0) rfl) (pv 2) (fun _ _ => rfl)) rfl) pa_nil))))))))
      (pss_one (ps_ret (pv 1)))), ?_⟩
    -- times = Times()
    intro t dt nt ndt net
    refine ⟨t, dt, rfl, upd_same, fun H1 o n b e ho hn hb he tA0 kt => ⟨rfl, ?_⟩⟩
    have s0 : Same H (upd (upd H dt (.own t)) t (.ins CT dt [])) := (same_upd ndt).trans (same_upd (by rw [upd_ne net.symm]; exact nt))
    have s1 : Same H H1 := same_keep s0 kt (by simpa using nt)
    have ho0 := s0.free ho
    have hn0 := s0.free hn
    have hb0 := s0.free hb
    have he0 := s0.free he
    -- plan.in_order()
    refine ⟨_, rfl, p, dx, _, rfl, s1 _ _ hob, pF_no _ _ _ (by decide +kernel) (by decide +kernel) (by decide +kernel), F, p, d, l, g, ps, rfl, hP.same s1, R, hps, fun H2 a s2 ha haL => ?_⟩
    have s12 := s1.trans s2
    have olen : (Ge02.order g).length ≤ 10 := by
      have := order_len (g := g)
      have := R.good.most
      omega
    have tA1 := tA0 (fun _ => 0) (Ge02.must g) (costOf g)
    have na_ : a ∉ [o, n, b, e] := fun q => by
      simp only [List.mem_cons, List.not_mem_nil, or_false] at q
      rcases q with z | z | z | z
      · rw [z, tA1.lo] at ha
        cases ha
      · rw [z, tA1.dN] at ha
        cases ha
      · rw [z, tA1.dB] at ha
        cases ha
      · rw [z, tA1.dE] at ha
        cases ha
    have fr : ∀ y ∈ [o, n, b, e], H y = none := fun y hy => by
      simp only [List.mem_cons, List.not_mem_nil, or_false] at hy
      rcases hy with z | z | z | z <;> rw [z] <;> assumption
    refine ⟨a, rfl, ⟨_, SqL.of haL⟩, for_list (K := K) (a := a) (xs := vns (Ge02.order g))
      (fun i σ H' => ∃ (na : Nat → Addr) (v2 v3 : Option V), σ = [some (.ref p), some (.ref t), v2, v3, none] ∧ Same H H' ∧ H' a = some (.lst (vns (Ge02.order g))) ∧ TimesA CT H' t o n b e na (Ge02.must g) (costOf g) (tms (Ge02.must g) (costOf g) ((Ge02.order g).take i)))
      ⟨fun _ => 0, none, none, rfl, s12, haL, tA1.same s2⟩ (fun i σ H' _ ⟨_, _, _, _, _, h, _⟩ => SqL.of h) ?_ ?_⟩
    · rintro i y σ H3 hi ⟨na, v2, v3, rfl, s3, ha3, tA3⟩
      obtain ⟨x, hx, rfl⟩ := map_get hi
      have hxm : x ∈ Ge02.order g := List.mem_of_getElem? hx
      have hxn := order_sub g x hxm
      have hil := (List.getElem?_eq_some_iff.mp hx).1
      have nnot : x ∉ (Ge02.order g).take i := fun q => by
        obtain ⟨j, hj⟩ := List.mem_iff_getElem?.mp q
        have hjl := (List.getElem?_eq_some_iff.mp hj).1
        rw [List.length_take] at hjl
        rw [List.getElem?_take_of_lt (by omega)] at hj
        have := nd_ix (order_nd g) hj hx
        omega
      have hkeys : (tms (Ge02.must g) (costOf g) ((Ge02.order g).take i)).map (·.1) = (Ge02.order g).take i := tms_map _ _ _
      have hml : (tms (Ge02.must g) (costOf g) ((Ge02.order g).take i)).length ≤ 10 := by
        have := congrArg List.length hkeys
        rw [List.length_map, List.length_take] at this
        omega
      have hstep : tms (Ge02.must g) (costOf g) ((Ge02.order g).take (i + 1)) = tms (Ge02.must g) (costOf g) ((Ge02.order g).take i) ++ [(x, bgn (Ge02.must g) (tms (Ge02.must g) (costOf g) ((Ge02.order g).take i)) x + costOf g x)] := by rw [take_more hx, tms_snoc]
      have hsub : ∀ y ∈ (Ge02.order g).take i, y ∈ nums g ∧ y ≠ x := fun y hy => ⟨order_sub g y (List.mem_of_mem_take hy), fun q => nnot (by rw [← q]; exact hy)⟩
      generalize hm : tms (Ge02.must g) (costOf g) ((Ge02.order g).take i) = m at *
      obtain ⟨dt3, hot⟩ := tA3.ob
      have hlo := tA3.lo
      rw [hkeys] at hlo
      -- needs = [..]
      refine ⟨_, rfl, t, CT, dt3, _, _, rfl, hot, TT.clT, TT.tOrder, tF_order _ _ _ _, o, rfl, ⟨_, SqL.of hlo⟩, fun D hD => ?_⟩
      have nDo : D ≠ o := fun q => by
        rw [q, hlo] at hD
        cases hD
      refine lc_list (K := K) (a := o) (xs := vns ((Ge02.order g).take i)) (fun j H' => Same H3 H' ∧ H' D = some (.lst (vns ((((Ge02.order g).take i).take j).filter fun y => Ge02.must g y x)))) ⟨same_upd hD, upd_same⟩ (fun j H' _ ⟨s4, _⟩ => SqL.of (s4 _ _ hlo)) ?_ ?_
      · rintro j y H4 hj ⟨s4, hD4⟩
        obtain ⟨y, hy, rfl⟩ := map_get hj
        obtain ⟨hy1, hy2⟩ := hsub y (List.mem_of_getElem? hy)
        have s34 := s3.trans s4
        refine ⟨rfl, ?_⟩
        refine ⟨_, rfl, p, dx, _, rfl, s34 _ _ hob, pF_no _ _ _ (by decide +kernel) (by decide +kernel) (by decide +kernel), _, rfl, _, rfl, F, p, d, l, g, ps, y, x, rfl, hP.same s34, R, hps, hy2, hy1, hxn, fun H5 s5 => ⟨_, rfl, ?_⟩⟩
        have hfl := List.length_filter_le (fun y => Ge02.must g y x) (((Ge02.order g).take i).take j)
        rw [List.length_take, List.length_take] at hfl
        cases c : Ge02.must g y x with
        | true =>
          refine iteT ⟨_, rfl, _, s5 _ _ hD4, (by rw [vns_len]; exact big (by omega)), fun c' u z => ?_, ?_⟩
          · rw [upd_ne (ne_of_none z hD)]
            exact s5 _ _ (s4 c' u z)
          · rw [upd_same, filter_more hy, if_pos c, vns_add]
        | false =>
          refine iteF ⟨s4.trans s5, ?_⟩
          rw [filter_more hy, if_neg (by rw [c]; exact Bool.false_ne_true)]
          exact s5 _ _ hD4
      · rintro H4 ⟨s4, hD4⟩
        rw [vns_len, List.take_length] at hD4
        have s34 := s3.trans s4
        have tA4 := tA3.same s4
        obtain ⟨sx, hsx⟩ := sysOf_mem hxn
        obtain ⟨mx, ex⟩ := sysOf_some hsx
        obtain ⟨rx, wx, _, _, ⟨⟨dsx, hSx⟩, _, _⟩⟩ := hsy sx mx
        rw [ex] at hSx
        -- times.enter(number, needs, plan.systems[number].cost)
        refine ⟨_, rfl, t, dt3, _, rfl, s4 _ _ hot, tF_no _ _ _ _ (by decide +kernel) (by decide +kernel) (by decide +kernel) (by decide +kernel), _, rfl, _, rfl, ?_⟩
        refine ⟨_, rfl, p, CP, dx, _, _, rfl, s34 _ _ hob, T.clP, T.pSystems, pF_systems _ _ _, _, rfl, d, V.ref (ad x), rfl, ?_, ?_⟩
        · rw [← val_some (ad := ad) hsx]
          exact DGet.k (k := Sum.inl (x : Int)) (s34 _ _ hdc)
        refine ⟨ad x, CS, dsx, _, _, rfl, s34 _ _ hSx, T.clS, T.sCost, sF_cost _ _ _, ?_⟩
        refine ⟨t, o, n, b, e, D, na, Ge02.must g, costOf g, m, x, (by rw [costOf_is hsx]; rfl), tA4, by omega, (by rw [hkeys]; exact nnot), nDo, (by rw [hkeys]; exact hD4), fun H5 na' tA5 k5 => ?_⟩
        refine ⟨na', _, _, rfl, same_keep s34 k5 fr, k5 _ _ (s4 _ _ ha3) na_, ?_⟩
        rw [hstep]
        exact tA5
    · rintro σ H3 ⟨na, v2, v3, rfl, s3, ha3, tA3⟩
      rw [vns_len, List.take_length, ← ends_is] at tA3
      refine ⟨_, rfl, ?_⟩
      exact k H3 t o n b e na s3 tA3

/-! ### time_answer -/
abbrev sTA : Stmt := top 38
def spTA (CT : Addr) : Sp := fun vs H Q _ => ∃ (t o n b e : Addr) (na : Nat → Addr) (g : House), vs = [.ref t] ∧ TimesG CT H t o n b e na g ∧ Good g ∧
  ∀ (H' : Hp) (c : Addr), Same H H' → H c = none → H' c = some (.lst (vns (Ge02.lasts g :: (Ge02.chain g).length :: Ge02.chain g))) → Q (.ref c) H'
theorem scTA : FnScope ["times"] ["times"] (defScope sTA) := ⟨rfl, rfl, rfl, by decide +kernel, rfl, by decide +kernel, by decide +kernel⟩
theorem ok_ta {f fT fA fC : Addr} {fd fdT fdA fdC : FuncData} (F : Fun K "time_answer" "time_answer" sTA f fd) (TT : TxtT K mg CT) (GT : FnOk P w K mg base CX0 1 fT fdT ["self"] (spTick CT)) (bT : Binds K fdT ["self"] []) (mT : Meth K CT "tick_length" fT)
    (GA : FnOk P w K mg base CX0 2 fA fdA ["self"] (spChain CT)) (bA : Binds K fdA ["self"] []) (mA : Meth K CT "chain" fA)
    (GC : FnOk P w K mg base CX0 1 fC fdC ["numbers"] spCount) (bC : Binds K fdC ["numbers"] []) (gC : mg "with_count" = some (.ref fC)) (kC : PySem.W.keepIn K (.ref fC) = true) :
    FnOk P w K mg base CX0 3 f fd ["times"] (spTA CT) := by
  refine F.ok scTA (fun vs H Q E h => ?_) (fun cdv A outer s H vs Q E hr h => ?_)
  · obtain ⟨t, o, n, b, e, na, g, rfl, _⟩ := h
    rfl
  · obtain ⟨t, o, n, b, e, na, g, rfl, tA, G, k⟩ := h
    have hr1 : Room 1 _ := hr.mono (by decide)
    obtain ⟨dx, hob⟩ := tA.ob
    have hel := endsL G
    have hcl := chain_len g
    have hmost := G.most
    refine ⟨_, pss_one (ps_ret (pe_op op_cat (pe_lst (pa_cons (pe_meth0 (pv 0) TT.clT mT GT hr1 bT .nil pass0) pa_nil)) (pe_call GC hr1 rfl gC kC bC .nil pass0 (pa_cons (pe_meth0 (pv 0) TT.clT mA GA hr bA .nil pass0) pa_nil)))), ?_⟩
    refine ⟨_, rfl, t, dx, _, rfl, hob, tF_no _ _ _ _ (by decide +kernel) (by decide +kernel) (by decide +kernel) (by decide +kernel), t, o, n, b, e, na, _, _, _, rfl, tA, by omega, fun H1 s1 => ?_⟩
    rw [show maxIn (Ge02.ends g) ((Ge02.ends g).map (·.1)) = Ge02.lasts g from (lasts_is (ends_nd g)).symm]
    refine ⟨(by show 1 ≤ sizeLine; decide), fun e1 he1 => ?_⟩
    have s2 : Same H1 (upd H1 e1 (.lst [vn (Ge02.lasts g)])) := same_upd he1
    have s12 := s1.trans s2
    refine ⟨_, rfl, t, dx, _, rfl, s12 _ _ hob, tF_no _ _ _ _ (by decide +kernel) (by decide +kernel) (by decide +kernel) (by decide +kernel), t, o, n, b, e, na, g, rfl, tA.same s12, G, fun H3 c s3 hc hcL => ?_⟩
    refine ⟨c, _, rfl, hcL, (by rw [vns_len]; exact Nat.le_of_lt (big (by omega))), fun H4 b4 s4 hb4 hL4 => ?_⟩
    refine ⟨e1, b4, _, _, rfl, rfl, s4 _ _ (s3 _ _ upd_same), hL4, ?_, fun r hr0 => ?_⟩
    · show 1 + (_ :: vns _).length ≤ sizeLine
      rw [List.length_cons, vns_len]
      exact Nat.le_of_lt (big (by omega))
    · have sA := s12.trans (s3.trans s4)
      refine k _ r (sA.trans (same_upd hr0)) (sA.free hr0) ?_
      rw [upd_same, vns_len]
      rfl
end
end Sr

/-! rounds_answer, system_answer, pair_answer. -/
namespace Sr
open PySem PySem.Spec PyProof.Rows L2
open Ge02 (House Sys)

/-! ### sizes -/
def flat (L : List (List Nat)) : List Nat := L.flatMap fun l => l.length :: l
theorem flat_len {n : Nat} : ∀ {L : List (List Nat)}, (∀ l ∈ L, l.length ≤ n) → (flat L).length ≤ L.length * (n + 1)
  | [], _ => Nat.zero_le _
  | l :: L, h => by
    have ih := flat_len (n := n) (L := L) fun x hx => h x (List.mem_cons_of_mem _ hx)
    have h1 := h l (List.mem_cons_self ..)
    show ((l.length :: l) ++ flat L).length ≤ (L.length + 1) * (n + 1)
    rw [List.length_append, List.length_cons, Nat.add_mul]
    omega
theorem flat_snoc {L : List (List Nat)} {i : Nat} {x : List Nat} (h : L[i]? = some x) : flat (L.take (i + 1)) = flat (L.take i) ++ (x.length :: x) := by
  unfold flat
  rw [take_more h, List.flatMap_append]
  congr 1
  exact List.append_nil _
theorem flat_take (L : List (List Nat)) (i : Nat) : (flat (L.take i)).length ≤ (flat L).length := by
  have e : flat L = flat (L.take i) ++ flat (L.drop i) := by
    unfold flat
    rw [← List.flatMap_append, List.take_append_drop]
  rw [e, List.length_append]
  omega
theorem lay_small {g : House} (G : Good g) : (flat (lay (Ge02.roundsOf g))).length ≤ 200 := by
  have olen : (Ge02.order g).length ≤ 10 := by
    have := nodup_le (order_nd g) (order_sub g)
    rw [nums_len] at this
    have := G.most
    omega
  have h1 := cnt_le (Ge02.must g) (Ge02.order g)
  rw [rds_len, ← roundsOf_eq] at h1
  have hm : ∀ l ∈ lay (Ge02.roundsOf g), l.length ≤ 10 := by
    intro l hl
    obtain ⟨r, _, rfl⟩ := List.mem_map.mp hl
    have := members_len (Ge02.roundsOf g) r
    rw [roundsOf_eq, rds_len] at this
    rw [roundsOf_eq]
    omega
  have h2 := flat_len hm
  rw [lay_len] at h2
  have : cnt (Ge02.roundsOf g) * (10 + 1) ≤ 10 * 11 := Nat.mul_le_mul_right _ (by omega)
  omega
theorem rounds_step (g : House) : Ge02.step g .rounds = (g, Ge02.ints ((lay (Ge02.roundsOf g)).length :: flat (lay (Ge02.roundsOf g)))) := by
  show (g, Ge02.ints (Ge02.roundCount g :: (List.range (Ge02.roundCount g)).flatMap fun r => ((Ge02.roundsOf g).filter fun x => x.2 == r).length :: ((Ge02.roundsOf g).filter fun x => x.2 == r).map fun x => x.1)) = _
  rw [rounds_answer]
  rfl

/-! ### the reader beside the plan -/
/-- the request at a, read before the objects that change were there -/
structure Req (K : PySem.W.Frag) (H0 H : Hp) (a : Addr) (ns : List Int) (S : List Addr) : Prop where
  sm : Same H0 H
  sq : SqL K H0 a (ns.map V.int)
  fr : ∀ b ∈ S, H0 b = none
theorem Req.list {K : PySem.W.Frag} {H0 H : Hp} {a : Addr} {ns : List Int} {S : List Addr} (q : Req K H0 H a ns S) : SqL K H a (ns.map V.int) := q.sm.seq q.sq
theorem Req.keep {K : PySem.W.Frag} {H0 H H' : Hp} {a : Addr} {ns : List Int} {S S' : List Addr} (q : Req K H0 H a ns S) (k : Keep S' H H') (h : ∀ b ∈ S', b ∈ S) : Req K H0 H' a ns S := ⟨same_keep q.sm k fun b hb => q.fr b (h b hb), q.sq, q.fr⟩
theorem ReadAt.keep {CR : Addr} {S : List Addr} {H H' : Hp} {r a : Addr} {n : Nat} (h : ReadAt CR H r a n) (k : Keep S H H') (nr : r ∉ S) : ReadAt CR H' r a n := by
  obtain ⟨dx, h⟩ := h
  exact ⟨dx, k _ _ h nr⟩
theorem ne_rp {CR CP : Addr} {H : Hp} {r a p d l : Addr} {n m : Nat} (h : ReadAt CR H r a n) (h' : ∃ dx, H p = some (.ins CP dx (pF m d l))) : r ≠ p := by
  obtain ⟨dx, h⟩ := h
  obtain ⟨dy, h'⟩ := h'
  refine ne_of h h' fun q => ?_
  have := (HO.ins.inj q).2.2
  exact absurd (Prod.mk.inj (List.cons.inj this).1).1 (by decide +kernel)
theorem ne_rd {CR : Addr} {H : Hp} {r a d : Addr} {n : Nat} {kvs : List (Key × V)} (h : ReadAt CR H r a n) (h' : H d = some (.dK kvs)) : r ≠ d := by
  obtain ⟨dx, h⟩ := h
  exact ne_of h h' fun q => by cases q
theorem ne_rl {CR : Addr} {H : Hp} {r a l : Addr} {n : Nat} {xs : List V} (h : ReadAt CR H r a n) (h' : H l = some (.lst xs)) : r ≠ l := by
  obtain ⟨dx, h⟩ := h
  exact ne_of h h' fun q => by cases q
/-- the reader goes on, the Plan stands -/
theorem PlanAt.read {CP CS CR : Addr} {H H' : Hp} {F : List Addr} {p d l r a : Addr} {g : House} {ps : List (Nat × Nat)} {n : Nat} (h : PlanAt CP CS H F p d l g ps) (hr : ReadAt CR H r a n) (k : Keep [r] H H') : PlanAt CP CS H' F p d l g ps := by
  obtain ⟨ad, tp, ⟨dx, h1⟩, h2, h3, h4, h5, h6⟩ := h
  have up : ∀ b o, H b = some o → b ≠ r → H' b = some o := fun b o e hb => k b o e fun q => hb (List.mem_singleton.mp q)
  obtain ⟨dr, hr⟩ := hr
  have nes : ∀ {b : Addr} {c : Nat} {ra wa C dz : Addr}, H b = some (.ins C dz (sF c ra wa)) → b ≠ r := fun e => ne_of e hr fun q => by
    have := (HO.ins.inj q).2.2
    exact absurd (Prod.mk.inj (List.cons.inj this).1).1 (by decide +kernel)
  refine ⟨ad, tp, ⟨dx, up _ _ h1 ((ne_rp ⟨dr, hr⟩ ⟨dx, h1⟩).symm)⟩, up _ _ h2 ((ne_rd ⟨dr, hr⟩ h2).symm), up _ _ h3 ((ne_rl ⟨dr, hr⟩ h3).symm), fun x hx => up _ _ (h4 x hx) (ne_of (h4 x hx) hr (fun q => by cases q)), fun s hs => ?_, h6⟩
  obtain ⟨ra, wa, n1, n2, ⟨dy, g1⟩, g2, g3⟩ := h5 s hs
  exact ⟨ra, wa, n1, n2, ⟨dy, up _ _ g1 (nes g1)⟩, up _ _ g2 ((ne_rl ⟨dr, hr⟩ g2).symm), up _ _ g3 ((ne_rl ⟨dr, hr⟩ g3).symm)⟩
theorem Pre.read {CP CS CR : Addr} {H H' : Hp} {F : List Addr} {p d l r a : Addr} {g : House} {ps : List (Nat × Nat)} {n : Nat} (h : Pre CP CS H F p d l g ps) (hr : ReadAt CR H r a n) (k : Keep [r] H H') (hf : r ∉ F) : Pre CP CS H' F p d l g ps :=
  ⟨h.at_.read hr k, h.rel, h.len, fun q hq => by
    obtain ⟨o, ho⟩ := h.fq q hq
    exact ⟨o, k q o ho fun z => hf (by rw [← List.mem_singleton.mp z]; exact hq)⟩⟩
/-- what a call leaves and answers, the reader behind it -/
def PostR (CP CS CR : Addr) (H : Hp) (F : List Addr) (p d l r a : Addr) (ns t : List Int) (n : Nat) (g : House) (ps : List (Nat × Nat)) (c : Ge02.Call) (Q : VK) : Prop :=
  ∀ (H' : Hp) (b l' : Addr) (ps' : List (Nat × Nat)) (n' : Nat), PlanAt CP CS H' F p d l' (Ge02.step g c).1 ps' → Rel (Ge02.step g c).1 ps' → ps'.length ≤ ps.length + 1 → (l' = l ∨ H l' = none) → n < n' → ns.drop n' = t → ReadAt CR H' r a n' → Keep [p, d, l, r] H H' → H b = none → H' b = some (.lst ((Ge02.step g c).2.map V.int)) → Q (.ref b) H'
structure PreR (K : PySem.W.Frag) (CP CS CR : Addr) (H : Hp) (F : List Addr) (p d l r a : Addr) (ns : List Int) (n : Nat) (g : House) (ps : List (Nat × Nat)) : Prop where
  pre : Pre CP CS H F p d l g ps
  rd : ReadAt CR H r a n
  rq : ∃ H0, Req K H0 H a ns [p, d, l, r]
  rF : r ∉ F
/-- the reader has gone on from n to m -/
theorem PreR.go {K : PySem.W.Frag} {CP CS CR : Addr} {H H' : Hp} {F : List Addr} {p d l r a : Addr} {ns : List Int} {n m : Nat} {g : House} {ps : List (Nat × Nat)} (h : PreR K CP CS CR H F p d l r a ns n g ps) (hr : ReadAt CR H' r a m) (k : Keep [r] H H') : PreR K CP CS CR H' F p d l r a ns m g ps := by
  obtain ⟨H0, q⟩ := h.rq
  exact ⟨h.pre.read h.rd k h.rF, hr, ⟨H0, q.keep k (by simp)⟩, h.rF⟩
theorem PreR.list {K : PySem.W.Frag} {CP CS CR : Addr} {H : Hp} {F : List Addr} {p d l r a : Addr} {ns : List Int} {n : Nat} {g : House} {ps : List (Nat × Nat)} (h : PreR K CP CS CR H F p d l r a ns n g ps) : SqL K H a (ns.map V.int) := by
  obtain ⟨H0, q⟩ := h.rq
  exact q.list
/-- the call of the Plan, at the heap H1 behind the reading, answers for the whole -/
theorem PostR.post {K : PySem.W.Frag} {CP CS CR : Addr} {H H1 : Hp} {F : List Addr} {p d l r a : Addr} {ns t : List Int} {n m : Nat} {g : House} {ps : List (Nat × Nat)} {c : Ge02.Call} {Q : VK} (h : PostR CP CS CR H F p d l r a ns t n g ps c Q) (k : Keep [r] H H1) (f : ∀ b, H1 b = none → H b = none) (h1 : PreR K CP CS CR H1 F p d l r a ns m g ps) (hn : n < m) (ht : ns.drop m = t) : Post CP CS H1 F p d l g ps c Q := by
  intro H' b l' ps' q1 q2 q3 q4 q5 q6 q7
  obtain ⟨ad, tp, hA⟩ := h1.pre.at_
  have nr : r ∉ [p, d, l] := by
    have e1 := ne_rp h1.rd hA.ob
    have e2 := ne_rd h1.rd hA.dc
    have e3 := ne_rl h1.rd hA.ls
    simp only [List.mem_cons, List.not_mem_nil, or_false, not_or]
    exact ⟨e1, e2, e3⟩
  refine h H' b l' ps' m q1 q2 q3 (q4.imp id (f l')) hn ht (h1.rd.keep q5 nr) ?_ (f b q6) q7
  exact (k.mono (by simp)).trans (q5.mono (by simp))
theorem keep_free {r : Addr} {H H' : Hp} {o : HO} (k : Keep [r] H H') (h : H' r = some o) : ∀ b, H' b = none → H b = none := fun b e => by
  cases q : H b with
  | none => rfl
  | some u =>
    by_cases hb : b = r
    · rw [hb, h] at e
      cases e
    · have := k b u q fun z => hb (List.mem_singleton.mp z)
      rw [e] at this
      cases this
theorem ReadAt.free {CR : Addr} {H H' : Hp} {r a : Addr} {n : Nat} (h : ReadAt CR H' r a n) (k : Keep [r] H H') : ∀ b, H' b = none → H b = none := by
  obtain ⟨dx, h⟩ := h
  exact keep_free k h
theorem drop_get {ns t : List Int} {n : Nat} {x : Int} (h : ns.drop n = x :: t) : ns[n]? = some x ∧ ns.drop (n + 1) = t := by
  constructor
  · have := List.getElem?_drop (xs := ns) (i := n) (j := 0)
    rw [h] at this
    exact this.symm
  · rw [← List.drop_drop, h]
    rfl

section
variable {P : Program} {w : World} {K : PySem.W.Frag} {mg : Str → Option Value} {base : Heap} {CR CS CP : Addr}

/-! ### rounds_answer -/
abbrev sRA : Stmt := top 36
def spRA : Sp := fun vs H Q _ => ∃ (a : Addr) (as : List Addr) (L : List (List Nat)), vs = [.ref a] ∧ RdsA H a as L ∧ (flat L).length ≤ 10000 ∧
  ∀ (H' : Hp) (b : Addr), Same H H' → H b = none → H' b = some (.lst (vns (L.length :: flat L))) → Q (.ref b) H'
theorem scRA : FnScope ["rounds", "answer", "members"] ["rounds"] (defScope sRA) := ⟨rfl, rfl, rfl, by decide +kernel, rfl, by decide +kernel, by decide +kernel⟩
theorem vns_app (a b : List Nat) : vns a ++ vns b = vns (a ++ b) := by
  unfold vns
  rw [List.map_append]
theorem vns_cons (a : Nat) (b : List Nat) : vn a :: vns b = vns (a :: b) := rfl
theorem ok_ra {f fC : Addr} {fd fdC : FuncData} (F : Fun K "rounds_answer" "rounds_answer" sRA f fd) (T : Txt K mg CR CS CP) (GC : FnOk P w K mg base CX0 1 fC fdC ["numbers"] spCount) (bC : Binds K fdC ["numbers"] []) (gC : mg "with_count" = some (.ref fC)) (kC : PySem.W.keepIn K (.ref fC) = true) :
    FnOk P w K mg base CX0 2 f fd ["rounds"] spRA := by
  refine F.ok scRA (fun vs H Q E h => ?_) (fun cdv A outer s H vs Q E hr h => ?_)
  · obtain ⟨a, as, L, rfl, _⟩ := h
    rfl
  · obtain ⟨a, as, L, rfl, rA, hz, k⟩ := h
    refine ⟨_, pss_cons (ps_set (i := 1) scRA.nd rfl (Or.inl rfl) (pe_lst (pa_cons (pe_callB call_len_seq (by rfl) T.len PySem.boot_len (pa_cons (pv 0) pa_nil)) pa_nil)))
      (pss_cons (ps_for PassesOwn.never rfl (pi_list (pv 0)) (pg_name (i := 2) scRA.nd rfl (Or.inl rfl))
        (pss_one (ps_expr (pe_bm PySem.F.plainAttrs_list PySem.F.slot_list_extend PySem.F.type_list_extend mt_extend (pv 1) (pa_cons (pe_call GC hr rfl gC kC bC .nil pass0 (pa_cons (pv 2) pa_nil)) pa_nil)))))
      (pss_one (ps_ret (pv 1)))), ?_⟩
    refine ⟨_, rfl, a, _, rfl, .inl (SqL.of rA.ls), (by show 1 ≤ sizeLine; decide), fun q hq => ?_⟩
    have s0 := same_upd (o := HO.lst [V.int ((as.map V.ref).length : Nat)]) hq
    refine ⟨_, rfl, a, rfl, ⟨_, SqL.of (s0 _ _ rA.ls)⟩, for_list (K := K) (a := a) (xs := as.map V.ref)
      (fun i σ H' => ∃ v : Option V, σ = [some (.ref a), some (.ref q), v] ∧ Same H H' ∧ H' q = some (.lst (vns (L.length :: flat (L.take i)))))
      ⟨none, rfl, s0, ?_⟩ (fun i σ H' _ ⟨_, _, s1, _⟩ => SqL.of (s1 _ _ rA.ls)) ?_ ?_⟩
    · rw [upd_same, List.length_map, rA.len]
      rfl
    · rintro i y σ H1 hi ⟨v, rfl, s1, hq1⟩
      obtain ⟨b, hb, rfl⟩ := map_get hi
      have hil := (List.getElem?_eq_some_iff.mp hb).1
      obtain ⟨x, hx⟩ : ∃ x, L[i]? = some x := ⟨_, List.getElem?_eq_getElem (by rw [← rA.len]; exact hil)⟩
      have hbL := rA.at_ i b x hb hx
      have es := flat_snoc hx
      have hle := flat_take L (i + 1)
      rw [es, List.length_append, List.length_cons] at hle
      refine ⟨_, rfl, .inl ⟨rfl, _, SqL.of hq1⟩, _, rfl, b, _, rfl, s1 _ _ hbL, (by rw [vns_len]; exact Nat.le_of_lt (big (by omega))), fun H2 c s2 hc hcL => ?_⟩
      refine ⟨q, c, _, _, rfl, rfl, s2 _ _ hq1, hcL, ?_, ?_⟩
      · rw [vns_len, List.length_cons, List.length_cons, vns_len]
        exact Nat.le_of_lt (big (by omega))
      · refine ⟨_, rfl, fun c' o e => ?_, ?_⟩
        · rw [upd_ne (ne_of_none e hq)]
          exact s2 _ _ (s1 c' o e)
        · rw [upd_same, es, vns_len, vns_cons, vns_app]
          rfl
    · rintro σ H1 ⟨v, rfl, s1, hq1⟩
      rw [List.length_map, rA.len, List.take_length] at hq1
      refine ⟨_, rfl, ?_⟩
      exact k H1 q s1 hq hq1

/-! ### system_answer -/
abbrev sSA : Stmt := top 39
def spSA (K : PySem.W.Frag) (CP CS CR : Addr) : Sp := fun vs H Q _ => ∃ (F : List Addr) (p d l r a : Addr) (ns t : List Int) (n : Nat) (g : House) (ps : List (Nat × Nat)) (c : Nat) (R W : List Nat), vs = [.ref p, .ref r] ∧ PreR K CP CS CR H F p d l r a ns n g ps ∧
  ns.drop n = (c : Int) :: (R.length : Int) :: (Ge02.ints R ++ ((W.length : Int) :: (Ge02.ints W ++ t))) ∧ PostR CP CS CR H F p d l r a ns t n g ps (.system c R W) Q
theorem scSA : FnScope ["plan", "reader", "cost", "reads", "writes"] ["plan", "reader"] (defScope sSA) := ⟨rfl, rfl, rfl, by decide +kernel, rfl, by decide +kernel, by decide +kernel⟩
theorem ok_sa {f fN fR fA : Addr} {fd fdN fdR fdA : FuncData} (F : Fun K "system_answer" "system_answer" sSA f fd) (T : Txt K mg CR CS CP) (GN : FnOk P w K mg base CX0 1 fN fdN ["self"] (spNum K CR)) (bN : Binds K fdN ["self"] []) (mN : Meth K CR "take_number" fN)
    (GR : FnOk P w K mg base CX0 2 fR fdR ["self"] (spRow K CR)) (bR : Binds K fdR ["self"] []) (mR : Meth K CR "take_row" fR)
    (GA : FnOk P w K mg base CX0 3 fA fdA ["self", "cost", "reads", "writes"] (spAdd CP CS)) (bA : Binds K fdA ["self", "cost", "reads", "writes"] []) (mA : Meth K CP "add_system" fA) :
    FnOk P w K mg base CX0 4 f fd ["plan", "reader"] (spSA K CP CS CR) := by
  refine F.ok scSA (fun vs H Q E h => ?_) (fun cdv A outer s H vs Q E hr h => ?_)
  · obtain ⟨F, p, d, l, r, a, ns, t, n, g, ps, c, R, W, rfl, _⟩ := h
    rfl
  · obtain ⟨F, p, d, l, r, a, ns, t, n, g, ps, c, R, W, rfl, hp, hd, k⟩ := h
    have hr1 : Room 1 _ := hr.mono (by decide)
    have hr2 : Room 2 _ := hr.mono (by decide)
    have noN : ∀ m, (rF a m).lookup ("take_number" : Str) = none := fun m => rF_no _ _ (by decide +kernel) (by decide +kernel)
    have noR : ∀ m, (rF a m).lookup ("take_row" : Str) = none := fun m => rF_no _ _ (by decide +kernel) (by decide +kernel)
    refine ⟨_, pss_cons (ps_set (i := 2) scSA.nd rfl (Or.inl rfl) (pe_meth0 (pv 1) T.clR mN GN hr1 bN .nil pass0))
      (pss_cons (ps_set (i := 3) scSA.nd rfl (Or.inl rfl) (pe_meth0 (pv 1) T.clR mR GR hr2 bR .nil pass0))
      (pss_cons (ps_set (i := 4) scSA.nd rfl (Or.inl rfl) (pe_meth0 (pv 1) T.clR mR GR hr2 bR .nil pass0))
      (pss_one (ps_ret (pe_meth (pv 0) T.clP mA GA hr bA .nil pass0 (pa_cons (pv 2) (pa_cons (pv 3) (pa_cons (pv 4) pa_nil)))))))), ?_⟩
    obtain ⟨g1, d1⟩ := drop_get hd
    obtain ⟨dr, hR⟩ := hp.rd
    refine ⟨_, rfl, r, dr, _, rfl, hR, noN _, r, a, n, ns, _, rfl, hp.rd, hp.list, g1, fun H1 r1 k1 => ?_⟩
    have p1 := hp.go r1 k1
    obtain ⟨dr1, hR1⟩ := r1
    have lR : (Ge02.ints R).length = R.length := ints_len R
    have lW : (Ge02.ints W).length = W.length := ints_len W
    refine ⟨_, rfl, r, dr1, _, rfl, hR1, noR _, r, a, n + 1, ns, Ge02.ints R, ((W.length : Int) :: (Ge02.ints W ++ t)), rfl, p1.rd, p1.list, (by rw [d1, lR]), fun H2 ra r2 k2 fra hra => ?_⟩
    have p2 := p1.go r2 k2
    have d2 : ns.drop (n + 1 + 1 + (Ge02.ints R).length) = (W.length : Int) :: (Ge02.ints W ++ t) := by
      rw [← List.drop_drop, ← List.drop_drop, d1]
      show ((Ge02.ints R) ++ _).drop (Ge02.ints R).length = _
      rw [List.drop_left]
    obtain ⟨dr2, hR2⟩ := id r2
    refine ⟨_, rfl, r, dr2, _, rfl, hR2, noR _, r, a, _, ns, Ge02.ints W, t, rfl, p2.rd, p2.list, (by rw [d2, lW]), fun H3 wa r3 k3 fwa hwa => ?_⟩
    have p3 := p2.go r3 k3
    have d3 : ns.drop (n + 1 + 1 + (Ge02.ints R).length + 1 + (Ge02.ints W).length) = t := by
      rw [← List.drop_drop, ← List.drop_drop, d2]
      show ((Ge02.ints W) ++ _).drop (Ge02.ints W).length = _
      rw [List.drop_left]
    have kr : Keep [r] H H3 := (k1.trans k2).trans k3
    obtain ⟨ad, tp, hA3⟩ := id p3.pre.at_
    obtain ⟨dp3, hob3⟩ := hA3.ob
    have nwr : ra ≠ r := fun q => by
      rw [q, hR2] at hra
      cases hra
    have hra3 : H3 ra = some (.lst (vns R)) := by
      rw [vns_ints]
      exact k3 _ _ hra fun q => nwr (List.mem_singleton.mp q)
    have hwa3 : H3 wa = some (.lst (vns W)) := by
      rw [vns_ints]
      exact hwa
    -- the rows are none of the Plan's lists, none of F's
    obtain ⟨ad1, tp1, hA1⟩ := id p1.pre.at_
    obtain ⟨ad2, tp2, hA2⟩ := id p2.pre.at_
    have nra : ra ∉ l :: F := fun q => by
      rcases List.mem_cons.mp q with z | z
      · rw [z, hA1.ls] at fra
        cases fra
      · obtain ⟨o, ho⟩ := p1.pre.fq ra z
        rw [fra] at ho
        cases ho
    have nwa : wa ∉ l :: F := fun q => by
      rcases List.mem_cons.mp q with z | z
      · rw [z, hA2.ls] at fwa
        cases fwa
      · obtain ⟨o, ho⟩ := p2.pre.fq wa z
        rw [fwa] at ho
        cases ho
    refine ⟨_, rfl, p, dp3, _, rfl, hob3, pF_no _ _ _ (by decide +kernel) (by decide +kernel) (by decide +kernel), _, rfl, _, rfl, _, rfl, F, p, d, l, ra, wa, g, ps, c, R, W, rfl, p3.pre, hra3, hwa3, nra, nwa, ?_⟩
    exact k.post kr (p3.rd.free kr) p3 (by omega) d3

/-! ### pair_answer -/
abbrev sPA : Stmt := top 40
def pairCall (x : Int) (i j : Nat) : Ge02.Call := if x = 2 then .before i j else if x = 3 then .free i j else if x = 7 then .way i j else .apart i j
def spPA (K : PySem.W.Frag) (CP CS CR : Addr) : Sp := fun vs H Q _ => ∃ (F : List Addr) (p d l r a : Addr) (ns t : List Int) (n : Nat) (g : House) (ps : List (Nat × Nat)) (x : Int) (i j : Nat), vs = [.ref p, .ref r, .int x] ∧ PreR K CP CS CR H F p d l r a ns n g ps ∧
  ns.drop n = (i : Int) :: (j : Int) :: t ∧ PostR CP CS CR H F p d l r a ns t n g ps (pairCall x i j) Q
theorem scPA : FnScope ["plan", "reader", "call", "first", "second"] ["plan", "reader", "call"] (defScope sPA) := ⟨rfl, rfl, rfl, by decide +kernel, rfl, by decide +kernel, by decide +kernel⟩
theorem ok_pa {f fN fT fF fW fA : Addr} {fd fdN fdT fdF fdW fdA : FuncData} (F : Fun K "pair_answer" "pair_answer" sPA f fd) (T : Txt K mg CR CS CP) (GN : FnOk P w K mg base CX0 1 fN fdN ["self"] (spNum K CR)) (bN : Binds K fdN ["self"] []) (mN : Meth K CR "take_number" fN)
    (GT : FnOk P w K mg base CX0 3 fT fdT ["self", "first", "second"] (spTell CP CS)) (bT : Binds K fdT ["self", "first", "second"] []) (mT : Meth K CP "tell_pair" fT)
    (GF : FnOk P w K mg base CX0 1 fF fdF ["self", "first", "second"] (spFree CP CS)) (bF : Binds K fdF ["self", "first", "second"] []) (mF : Meth K CP "free_pair" fF)
    (GW : FnOk P w K mg base CX0 2 fW fdW ["self", "first", "second"] (spWay CP CS)) (bW : Binds K fdW ["self", "first", "second"] []) (mW : Meth K CP "way" fW)
    (GA : FnOk P w K mg base CX0 4 fA fdA ["self", "first", "second"] (spApart CP CS)) (bA : Binds K fdA ["self", "first", "second"] []) (mA : Meth K CP "apart" fA) :
    FnOk P w K mg base CX0 5 f fd ["plan", "reader", "call"] (spPA K CP CS CR) := by
  refine F.ok scPA (fun vs H Q E h => ?_) (fun cdv A outer s H vs Q E hr h => ?_)
  · obtain ⟨F, p, d, l, r, a, ns, t, n, g, ps, x, i, j, rfl, _⟩ := h
    rfl
  · obtain ⟨F, p, d, l, r, a, ns, t, n, g, ps, x, i, j, rfl, hp, hd, k⟩ := h
    have hr1 : Room 1 _ := hr.mono (by decide)
    have hr2 : Room 2 _ := hr.mono (by decide)
    have hr3 : Room 3 _ := hr.mono (by decide)
    have noN : ∀ m, (rF a m).lookup ("take_number" : Str) = none := fun m => rF_no _ _ (by decide +kernel) (by decide +kernel)
    refine ⟨_, pss_cons (ps_set (i := 3) scPA.nd rfl (Or.inl rfl) (pe_meth0 (pv 1) T.clR mN GN hr1 bN .nil pass0))
      (pss_cons (ps_set (i := 4) scPA.nd rfl (Or.inl rfl) (pe_meth0 (pv 1) T.clR mN GN hr1 bN .nil pass0))
      (pss_cons (ps_if (pt_cmpR op_eq (pv 2) (pe_gi rfl T.cBEFORE) (nomark _)) (pss_one (ps_ret (pe_meth (pv 0) T.clP mT GT hr3 bT .nil pass0 (pa_cons (pv 3) (pa_cons (pv 4) pa_nil))))) pss_nil)
      (pss_cons (ps_if (pt_cmpR op_eq (pv 2) (pe_gi rfl T.cFREE) (nomark _)) (pss_one (ps_ret (pe_meth (pv 0) T.clP mF GF hr1 bF .nil pass0 (pa_cons (pv 3) (pa_cons (pv 4) pa_nil))))) pss_nil)
      (pss_cons (ps_if (pt_cmpR op_eq (pv 2) (pe_gi rfl T.cWAY) (nomark _)) (pss_one (ps_ret (pe_meth (pv 0) T.clP mW GW hr2 bW .nil pass0 (pa_cons (pv 3) (pa_cons (pv 4) pa_nil))))) pss_nil)
      (pss_one (ps_ret (pe_meth (pv 0) T.clP mA GA hr bA .nil pass0 (pa_cons (pv 3) (pa_cons (pv 4) pa_nil))))))))), ?_⟩
    obtain ⟨g1, d1⟩ := drop_get hd
    obtain ⟨g2, d2⟩ := drop_get d1
    obtain ⟨dr, hR⟩ := hp.rd
    refine ⟨_, rfl, r, dr, _, rfl, hR, noN _, r, a, n, ns, _, rfl, hp.rd, hp.list, g1, fun H1 r1 k1 => ?_⟩
    have p1 := hp.go r1 k1
    obtain ⟨dr1, hR1⟩ := r1
    refine ⟨_, rfl, r, dr1, _, rfl, hR1, noN _, r, a, n + 1, ns, _, rfl, p1.rd, p1.list, g2, fun H2 r2 k2 => ?_⟩
    have p2 := p1.go r2 k2
    have kr : Keep [r] H H2 := k1.trans k2
    obtain ⟨ad, tp, hA2⟩ := id p2.pre.at_
    obtain ⟨dp2, hob2⟩ := hA2.ob
    have noP : ∀ {m : Str}, (m == ("numbers_given" : Str)) = false → (m == ("systems" : Str)) = false → (m == ("pairs" : Str)) = false → (pF g.given d l).lookup m = none := fun h1 h2 h3 => pF_no _ _ _ h1 h2 h3
    refine ⟨_, rfl, rfl, _, rfl, ?_⟩
    by_cases c : x = 2
    · refine if_true_of (decide_eq_true (by rw [c])) ?_
      refine ⟨_, rfl, p, dp2, _, rfl, hob2, noP (by decide +kernel) (by decide +kernel) (by decide +kernel), _, rfl, _, rfl, F, p, d, l, g, ps, i, j, rfl, p2.pre, ?_⟩
      rw [show pairCall x i j = .before i j from if_pos c] at k
      exact k.post kr (p2.rd.free kr) p2 (by omega) d2
    · refine if_false_of (decide_eq_false (fun q => c (V.int.inj q))) ?_
      refine ⟨_, rfl, rfl, _, rfl, ?_⟩
      by_cases c3 : x = 3
      · refine if_true_of (decide_eq_true (by rw [c3])) ?_
        refine ⟨_, rfl, p, dp2, _, rfl, hob2, noP (by decide +kernel) (by decide +kernel) (by decide +kernel), _, rfl, _, rfl, F, p, d, l, g, ps, i, j, rfl, p2.pre, ?_⟩
        rw [show pairCall x i j = .free i j from (if_neg c).trans (if_pos c3)] at k
        exact k.post kr (p2.rd.free kr) p2 (by omega) d2
      · refine if_false_of (decide_eq_false (fun q => c3 (V.int.inj q))) ?_
        refine ⟨_, rfl, rfl, _, rfl, ?_⟩
        by_cases c7 : x = 7
        · refine if_true_of (decide_eq_true (by rw [c7])) ?_
          refine ⟨_, rfl, p, dp2, _, rfl, hob2, noP (by decide +kernel) (by decide +kernel) (by decide +kernel), _, rfl, _, rfl, F, p, d, l, g, ps, i, j, rfl, p2.pre, ?_⟩
          rw [show pairCall x i j = .way i j from (if_neg c).trans ((if_neg c3).trans (if_pos c7))] at k
          exact k.post kr (p2.rd.free kr) p2 (by omega) d2
        · refine if_false_of (decide_eq_false (fun q => c7 (V.int.inj q))) ?_
          refine ⟨_, rfl, p, dp2, _, rfl, hob2, noP (by decide +kernel) (by decide +kernel) (by decide +kernel), _, rfl, _, rfl, F, p, d, l, g, ps, i, j, rfl, p2.pre, ?_⟩
          rw [show pairCall x i j = .apart i j from (if_neg c).trans ((if_neg c3).trans (if_neg c7))] at k
          exact k.post kr (p2.rd.free kr) p2 (by omega) d2
end
end Sr

/-! call_answer, answers. -/
namespace Sr
open PySem PySem.Spec PyProof.Rows L2
open Ge02 (House Sys)
section
variable {P : Program} {w : World} {K : PySem.W.Frag} {mg : Str → Option Value} {base : Heap} {CR CS CP : Addr}
/-- a def of the module, called by its name -/
structure Glb (P : Program) (w : World) (K : PySem.W.Frag) (mg : Str → Option Value) (base : Heap) (k : Nat) (x : Str) (ps : List Str) (sp : Sp) : Prop where
  ex : ∃ (f : Addr) (fd : FuncData), FnOk P w K mg base CX0 k f fd ps sp ∧ Binds K fd ps [] ∧ mg x = some (.ref f) ∧ PySem.W.keepIn K (.ref f) = true
/-- a method of the class at C -/
structure Mth (P : Program) (w : World) (K : PySem.W.Frag) (mg : Str → Option Value) (base : Heap) (k : Nat) (C : Addr) (x : Str) (ps : List Str) (sp : Sp) : Prop where
  ex : ∃ (f : Addr) (fd : FuncData), FnOk P w K mg base CX0 k f fd ps sp ∧ Binds K fd ps [] ∧ Meth K C x f
/-- a class's __init__ -/
structure Ini (P : Program) (w : World) (K : PySem.W.Frag) (mg : Str → Option Value) (base : Heap) (k : Nat) (C : Addr) (ps : List Str) (sp : Sp) : Prop where
  ex : ∃ (f : Addr) (fd : FuncData), FnOk P w K mg base CX0 k f fd ps sp ∧ Binds K fd ps [] ∧ Mk K C f

/-! ### whole_answer -/
/-- the calls that ask about all -/
inductive WholeC : Int → Ge02.Call → Prop
  | order : WholeC 4 .order
  | rounds : WholeC 5 .rounds
  | untold : WholeC 6 .untold
  | time : WholeC 8 .time
  | systems : WholeC 10 .systems
abbrev sWA : Stmt := top 41
def spWA (CP CS : Addr) : Sp := fun vs H Q _ => ∃ (F : List Addr) (p d l : Addr) (g : House) (ps : List (Nat × Nat)) (x : Int) (c : Ge02.Call), vs = [.ref p, .int x] ∧ WholeC x c ∧ Pre CP CS H F p d l g ps ∧ Post CP CS H F p d l g ps c Q
theorem scWA : FnScope ["plan", "call"] ["plan", "call"] (defScope sWA) := ⟨rfl, rfl, rfl, by decide +kernel, rfl, by decide +kernel, by decide +kernel⟩
theorem dec_int_ne {x y : Int} (h : x ≠ y) : decide (V.int x = V.int y) = false := decide_eq_false fun q => h (V.int.inj q)
theorem dec_int_eq {x y : Int} (h : x = y) : decide (V.int x = V.int y) = true := decide_eq_true (by rw [h])
theorem step_systems (g : House) : Ge02.step g .systems = (g, Ge02.ints ((nums g).length :: nums g)) := by
  rw [nums_len]
  rfl
theorem ok_wa {f CT : Addr} {fd : FuncData} (F : Fun K "whole_answer" "whole_answer" sWA f fd) (T : Txt K mg CR CS CP) (jC : Glb P w K mg base 1 "with_count" ["numbers"] spCount) (jO : Mth P w K mg base 2 CP "in_order" ["self"] (spOrd CP CS)) (jRA : Glb P w K mg base 2 "rounds_answer" ["rounds"] spRA) (jR : Mth P w K mg base 7 CP "in_rounds" ["self"] (spRds CP CS))
    (jUA : Glb P w K mg base 1 "untold_answer" ["pairs"] spUA) (jU : Mth P w K mg base 6 CP "untold_pairs" ["self"] (spUP CP CS)) (jTA : Glb P w K mg base 3 "time_answer" ["times"] (spTA CT)) (jT : Glb P w K mg base 6 "times_of" ["plan"] (spTimes CP CS CT)) :
    FnOk P w K mg base CX0 8 f fd ["plan", "call"] (spWA CP CS) := by
  obtain ⟨fC, fdC, GC, bC, gC, kC⟩ := jC.ex
  obtain ⟨fO, fdO, GO, bO, mO⟩ := jO.ex
  obtain ⟨fA, fdA, GA, bA, gA, kA⟩ := jRA.ex
  obtain ⟨fD, fdD, GD, bD, mD⟩ := jR.ex
  obtain ⟨fU, fdU, GU, bU, gU, kU⟩ := jUA.ex
  obtain ⟨fV, fdV, GV, bV, mV⟩ := jU.ex
  obtain ⟨fX, fdX, GX, bX, gX, kX⟩ := jTA.ex
  obtain ⟨fY, fdY, GY, bY, gY, kY⟩ := jT.ex
  refine F.ok scWA (fun vs H Q E h => ?_) (fun cdv A outer s H vs Q E hr h => ?_)
  · obtain ⟨F, p, d, l, g, ps, x, c, rfl, _⟩ := h
    rfl
  · obtain ⟨F, p, d, l, g, ps, x, c, rfl, hc, hpre, k⟩ := h
    have hr1 : Room 1 _ := hr.mono (by decide)
    have hr2 : Room 2 _ := hr.mono (by decide)
    have hr3 : Room 3 _ := hr.mono (by decide)
    have hr6 : Room 6 _ := hr.mono (by decide)
    obtain ⟨hP, R, hps, hfq⟩ := id hpre
    obtain ⟨ad, tp, hA⟩ := id hP
    obtain ⟨⟨dx, hob⟩, hdc, hls, htu, hsy, hfl⟩ := id hA
    have hmost := R.good.most
    have hnl := nums_len g
    refine ⟨_, pss_cons (ps_if (pt_cmpR op_eq (pv 1) (pe_gi rfl T.cORDER) (nomark _)) (pss_one (ps_ret (pe_call GC hr1 rfl gC kC bC .nil pass0 (pa_cons (pe_meth0 (pv 0) T.clP mO GO hr2 bO .nil pass0) pa_nil)))) pss_nil)
      (pss_cons (ps_if (pt_cmpR op_eq (pv 1) (pe_gi rfl T.cROUNDS) (nomark _)) (pss_one (ps_ret (pe_call GA hr2 rfl gA kA bA .nil pass0 (pa_cons (pe_meth0 (pv 0) T.clP mD GD hr bD .nil pass0) pa_nil)))) pss_nil)
      (pss_cons (ps_if (pt_cmpR op_eq (pv 1) (pe_gi rfl T.cUNTOLD) (nomark _)) (pss_one (ps_ret (pe_call GU hr1 rfl gU kU bU .nil pass0 (pa_cons (pe_meth0 (pv 0) T.clP mV GV hr6 bV .nil pass0) pa_nil)))) pss_nil)
      (pss_cons (ps_if (pt_cmpR op_eq (pv 1) (pe_gi rfl T.cTIME) (nomark _)) (pss_one (ps_ret (pe_call GX hr3 rfl gX kX bX .nil pass0 (pa_cons (pe_call GY hr6 rfl gY kY bY .nil pass0 (pa_cons (pv 0) pa_nil)) pa_nil)))) pss_nil)
      (pss_cons (ps_if (pt_cmpR op_eq (pv 1) (pe_gi rfl T.cSYSTEMS) (nomark _)) (pss_one (ps_ret (pe_call GC hr1 rfl gC kC bC .nil pass0 (pa_cons (pe_callB (call_sortedDI rfl) (by rfl) T.sorted (by decide +kernel) (pa_cons (pe_fld (pv 0) rfl) pa_nil)) pa_nil)))) pss_nil)
      (pss_one ps_never))))), ?_⟩
    have noP : ∀ {m : Str}, (m == ("numbers_given" : Str)) = false → (m == ("systems" : Str)) = false → (m == ("pairs" : Str)) = false → (pF g.given d l).lookup m = none := fun h1 h2 h3 => pF_no _ _ _ h1 h2 h3
    refine ⟨_, rfl, rfl, _, rfl, ?_⟩
    cases hc with
    | order =>
      refine if_true_of (dec_int_eq rfl) ?_
      refine ⟨_, rfl, p, dx, _, rfl, hob, noP (by decide +kernel) (by decide +kernel) (by decide +kernel), F, p, d, l, g, ps, rfl, hP, R, hps, fun H2 b s2 hb hbL => ?_⟩
      have olen := order_len (g := g)
      refine ⟨b, _, rfl, hbL, (by rw [vns_len]; exact Nat.le_of_lt (big (by omega))), fun H3 b' s3 hb' hL' => ?_⟩
      refine k.same hpre rfl (s2.trans s3) (s2.free hb') ?_
      rw [hL', vns_len, vns_cnt]
    | rounds =>
      refine if_false_of (dec_int_ne (by decide)) ⟨_, rfl, rfl, _, rfl, if_true_of (dec_int_eq rfl) ?_⟩
      refine ⟨_, rfl, p, dx, _, rfl, hob, noP (by decide +kernel) (by decide +kernel) (by decide +kernel), F, p, d, l, g, ps, rfl, hP, R, hps, fun H2 b as s2 hb has hrA => ?_⟩
      have hsm := lay_small R.good
      refine ⟨b, as, _, rfl, hrA, by omega, fun H3 b' s3 hb' hL' => ?_⟩
      refine k.same hpre (rounds_step g) (s2.trans s3) (s2.free hb') ?_
      rw [hL', vns_ints]
    | untold =>
      refine if_false_of (dec_int_ne (by decide)) ⟨_, rfl, rfl, _, rfl, if_false_of (dec_int_ne (by decide)) ⟨_, rfl, rfl, _, rfl, if_true_of (dec_int_eq rfl) ?_⟩⟩
      refine ⟨_, rfl, p, dx, _, rfl, hob, noP (by decide +kernel) (by decide +kernel) (by decide +kernel), F, p, d, l, g, ps, rfl, hP, R, hps, fun H2 b ts s2 hb htA => ?_⟩
      have hul : (Ge02.untold g).length ≤ 1000 := by
        rw [← untoldTo_all R.good]
        have l1 := untoldTo_len g (nums g).length
        have l3 : (nums g).length * (nums g).length ≤ 10 * 10 := Nat.mul_le_mul (by omega) (by omega)
        omega
      refine ⟨b, ts, _, rfl, htA, hul, fun H3 b' s3 hb' hL' => ?_⟩
      refine k.same hpre rfl (s2.trans s3) (s2.free hb') ?_
      rw [hL', vns_ints]
    | time =>
      refine if_false_of (dec_int_ne (by decide)) ⟨_, rfl, rfl, _, rfl, if_false_of (dec_int_ne (by decide)) ⟨_, rfl, rfl, _, rfl, if_false_of (dec_int_ne (by decide)) ⟨_, rfl, rfl, _, rfl, if_true_of (dec_int_eq rfl) ?_⟩⟩⟩
      refine ⟨_, rfl, F, p, d, l, g, ps, rfl, hP, R, hps, fun H2 t o n b e na s2 tA => ?_⟩
      refine ⟨t, o, n, b, e, na, g, rfl, tA, R.good, fun H3 b' s3 hb' hL' => ?_⟩
      refine k.same hpre rfl (s2.trans s3) (s2.free hb') ?_
      rw [hL', vns_ints]
    | systems =>
      refine if_false_of (dec_int_ne (by decide)) ⟨_, rfl, rfl, _, rfl, if_false_of (dec_int_ne (by decide)) ⟨_, rfl, rfl, _, rfl, if_false_of (dec_int_ne (by decide)) ⟨_, rfl, rfl, _, rfl, if_false_of (dec_int_ne (by decide)) ⟨_, rfl, rfl, _, rfl, if_true_of (dec_int_eq rfl) ?_⟩⟩⟩⟩
      refine ⟨_, rfl, p, CP, dx, _, _, rfl, hob, T.clP, T.pSystems, pF_systems _ _ _, d, _, (nums g).map (fun (n : Nat) => (n : Int)), rfl, .inl hdc, kvs_ints ad g, (by rw [List.length_map]; omega), fun ys b perm srt hb => ?_⟩
      rw [sorted_nums R.good perm srt, ← vns_map]
      have s2 := same_upd (o := HO.lst (vns (nums g))) hb
      refine ⟨b, _, rfl, upd_same, (by rw [vns_len]; exact Nat.le_of_lt (big (by omega))), fun H3 b' s3 hb' hL' => ?_⟩
      refine k.same hpre (step_systems g) (s2.trans s3) (s2.free hb') ?_
      rw [hL', vns_len, vns_cnt]

/-! ### call_answer -/
abbrev sCA : Stmt := top 42
def spCA (K : PySem.W.Frag) (CP CS CR : Addr) : Sp := fun vs H Q _ => ∃ (F : List Addr) (p d l r a : Addr) (ns t : List Int) (n : Nat) (g : House) (ps : List (Nat × Nat)) (c : Ge02.Call), vs = [.ref p, .ref r] ∧ PreR K CP CS CR H F p d l r a ns n g ps ∧
  Parsed (ns.drop n) c t ∧ PostR CP CS CR H F p d l r a ns t n g ps c Q
theorem scCA : FnScope ["plan", "reader", "call"] ["plan", "reader"] (defScope sCA) := ⟨rfl, rfl, rfl, by decide +kernel, rfl, by decide +kernel, by decide +kernel⟩
/-- PostR behind the reading of the call's own number -/
theorem PostR.on {H H1 : Hp} {F : List Addr} {p d l r a : Addr} {ns t : List Int} {n m : Nat} {g : House} {ps : List (Nat × Nat)} {c : Ge02.Call} {Q : VK} (h : PostR CP CS CR H F p d l r a ns t n g ps c Q) (k : Keep [r] H H1) (f : ∀ b, H1 b = none → H b = none) (hn : n < m) : PostR CP CS CR H1 F p d l r a ns t m g ps c Q := by
  intro H' b l' ps' n' q1 q2 q3 q4 q5 q6 q7 q8 q9 q10
  exact h H' b l' ps' n' q1 q2 q3 (q4.imp id (f l')) (by omega) q6 q7 ((k.mono (by simp)).trans q8) (f b q9) q10
theorem ok_ca {f : Addr} {fd : FuncData} (F : Fun K "call_answer" "call_answer" sCA f fd) (T : Txt K mg CR CS CP) (jN : Mth P w K mg base 1 CR "take_number" ["self"] (spNum K CR)) (jSA : Glb P w K mg base 4 "system_answer" ["plan", "reader"] (spSA K CP CS CR)) (jRem : Mth P w K mg base 1 CP "remove_system" ["self", "number"] (spRem CP CS))
    (jPA : Glb P w K mg base 5 "pair_answer" ["plan", "reader", "call"] (spPA K CP CS CR)) (jW : Glb P w K mg base 8 "whole_answer" ["plan", "call"] (spWA CP CS)) :
    FnOk P w K mg base CX0 9 f fd ["plan", "reader"] (spCA K CP CS CR) := by
  obtain ⟨fN, fdN, GN, bN, mN⟩ := jN.ex
  obtain ⟨fS, fdS, GS, bS, gS, kS⟩ := jSA.ex
  obtain ⟨fR, fdR, GR, bR, mR⟩ := jRem.ex
  obtain ⟨fP, fdP, GP, bP, gP, kP⟩ := jPA.ex
  obtain ⟨fW, fdW, GW, bW, gW, kW⟩ := jW.ex
  refine F.ok scCA (fun vs H Q E h => ?_) (fun cdv A outer s H vs Q E hr h => ?_)
  · obtain ⟨F, p, d, l, r, a, ns, t, n, g, ps, c, rfl, _⟩ := h
    rfl
  · obtain ⟨F, p, d, l, r, a, ns, t, n, g, ps, c, rfl, hp, hd, k⟩ := h
    have hr1 : Room 1 _ := hr.mono (by decide)
    have hr4 : Room 4 _ := hr.mono (by decide)
    have hr5 : Room 5 _ := hr.mono (by decide)
    have noN : ∀ m, (rF a m).lookup ("take_number" : Str) = none := fun m => rF_no _ _ (by decide +kernel) (by decide +kernel)
    refine ⟨_, pss_cons (ps_set (i := 2) scCA.nd rfl (Or.inl rfl) (pe_meth0 (pv 1) T.clR mN GN hr1 bN .nil pass0))
      (pss_cons (ps_if (pt_cmpR op_eq (pv 2) (pe_gi rfl T.cSYSTEM) (nomark _)) (pss_one (ps_ret (pe_call GS hr4 rfl gS kS bS .nil pass0 (pa_cons (pv 0) (pa_cons (pv 1) pa_nil))))) pss_nil)
      (pss_cons (ps_if (pt_cmpR op_eq (pv 2) (pe_gi rfl T.cGONE) (nomark _)) (pss_one (ps_ret (pe_meth (pv 0) T.clP mR GR hr1 bR .nil pass0 (pa_cons (pe_meth0 (pv 1) T.clR mN GN hr1 bN .nil pass0) pa_nil)))) pss_nil)
      (pss_cons (ps_if (pt_cmpR op_in_seq (pv 2) (pe_tup (pa_cons (pe_gi rfl T.cBEFORE) (pa_cons (pe_gi rfl T.cFREE) (pa_cons (pe_gi rfl T.cWAY) (pa_cons (pe_gi rfl T.cAPART) pa_nil))))) rfl) (pss_one (ps_ret (pe_call GP hr5 rfl gP kP bP .nil pass0 (pa_cons (pv 0) (pa_cons (pv 1) (pa_cons (pv 2) pa_nil)))))) pss_nil)
      (pss_one (ps_ret (pe_call GW hr rfl gW kW bW .nil pass0 (pa_cons (pv 0) (pa_cons (pv 2) pa_nil)))))))), ?_⟩
    -- the call's number
    obtain ⟨x, rest, hx⟩ : ∃ x rest, ns.drop n = x :: rest := by
      cases e : ns.drop n with
      | nil =>
        rw [e] at hd
        cases hd
      | cons x rest => exact ⟨x, rest, rfl⟩
    obtain ⟨g1, d1⟩ := drop_get hx
    rw [hx] at hd
    obtain ⟨dr, hR⟩ := hp.rd
    refine ⟨_, rfl, r, dr, _, rfl, hR, noN _, r, a, n, ns, _, rfl, hp.rd, hp.list, g1, fun H1 r1 k1 => ?_⟩
    have p1 := hp.go r1 k1
    have f1 := r1.free k1
    have kk := k.on k1 f1 (Nat.lt_succ_self n)
    obtain ⟨dr1, hR1⟩ := r1
    obtain ⟨ad, tp, hA1⟩ := id p1.pre.at_
    obtain ⟨dp1, hob1⟩ := hA1.ob
    -- behind the tuple of the calls on two
    have onT : ∀ (q : Addr) (o : HO), H1 q = none → PreR K CP CS CR (upd H1 q o) F p d l r a ns (n + 1) g ps ∧ PostR CP CS CR (upd H1 q o) F p d l r a ns t (n + 1) g ps c Q ∧ (ns.drop (n + 1) = t → Post CP CS (upd H1 q o) F p d l g ps c Q) := fun q o hq => by
      have sq := same_upd (o := o) hq
      have kq : Keep [r] H1 (upd H1 q o) := Keep.same sq
      have p3 := p1.go (m := n + 1) ⟨dr1, sq _ _ hR1⟩ kq
      have kr : Keep [r] H (upd H1 q o) := k1.trans kq
      have fr : ∀ b, upd H1 q o b = none → H b = none := fun b hb => f1 b (sq.free hb)
      exact ⟨p3, k.on kr fr (Nat.lt_succ_self n), fun dt => k.post kr fr p3 (Nat.lt_succ_self n) dt⟩
    refine ⟨_, rfl, rfl, _, rfl, ?_⟩
    cases hd with
    | system c R W t lR lW =>
      refine if_true_of (dec_int_eq rfl) ?_
      exact ⟨_, rfl, _, rfl, F, p, d, l, r, a, ns, t, n + 1, g, ps, c, R, W, rfl, p1, d1, kk⟩
    | gone m t =>
      refine if_false_of (dec_int_ne (by decide)) ⟨_, rfl, rfl, _, rfl, if_true_of (dec_int_eq rfl) ?_⟩
      obtain ⟨g2, d2⟩ := drop_get d1
      refine ⟨_, rfl, p, dp1, _, rfl, hob1, pF_no _ _ _ (by decide +kernel) (by decide +kernel) (by decide +kernel), ?_⟩
      refine ⟨_, rfl, r, dr1, _, rfl, hR1, noN _, r, a, n + 1, ns, _, rfl, p1.rd, p1.list, g2, fun H2 r2 k2 => ?_⟩
      have p2 := p1.go r2 k2
      have kr : Keep [r] H H2 := k1.trans k2
      exact ⟨F, p, d, l, g, ps, m, rfl, p2.pre, k.post kr (p2.rd.free kr) p2 (by omega) d2⟩
    | before i j t =>
      refine if_false_of (dec_int_ne (by decide)) ⟨_, rfl, rfl, _, rfl, if_false_of (dec_int_ne (by decide)) ?_⟩
      refine ⟨_, rfl, (by show 4 ≤ sizeLine; decide), fun q hq => ?_⟩
      obtain ⟨p3, k3, _⟩ := onT q _ hq
      refine ⟨q, _, rfl, .inr (SqT.of upd_same), rfl, rfl, _, rfl, if_true_of (by decide) ?_⟩
      exact ⟨_, rfl, _, rfl, _, rfl, F, p, d, l, r, a, ns, t, n + 1, g, ps, 2, i, j, rfl, p3, d1, k3⟩
    | free i j t =>
      refine if_false_of (dec_int_ne (by decide)) ⟨_, rfl, rfl, _, rfl, if_false_of (dec_int_ne (by decide)) ?_⟩
      refine ⟨_, rfl, (by show 4 ≤ sizeLine; decide), fun q hq => ?_⟩
      obtain ⟨p3, k3, _⟩ := onT q _ hq
      refine ⟨q, _, rfl, .inr (SqT.of upd_same), rfl, rfl, _, rfl, if_true_of (by decide) ?_⟩
      exact ⟨_, rfl, _, rfl, _, rfl, F, p, d, l, r, a, ns, t, n + 1, g, ps, 3, i, j, rfl, p3, d1, k3⟩
    | way i j t =>
      refine if_false_of (dec_int_ne (by decide)) ⟨_, rfl, rfl, _, rfl, if_false_of (dec_int_ne (by decide)) ?_⟩
      refine ⟨_, rfl, (by show 4 ≤ sizeLine; decide), fun q hq => ?_⟩
      obtain ⟨p3, k3, _⟩ := onT q _ hq
      refine ⟨q, _, rfl, .inr (SqT.of upd_same), rfl, rfl, _, rfl, if_true_of (by decide) ?_⟩
      exact ⟨_, rfl, _, rfl, _, rfl, F, p, d, l, r, a, ns, t, n + 1, g, ps, 7, i, j, rfl, p3, d1, k3⟩
    | apart i j t =>
      refine if_false_of (dec_int_ne (by decide)) ⟨_, rfl, rfl, _, rfl, if_false_of (dec_int_ne (by decide)) ?_⟩
      refine ⟨_, rfl, (by show 4 ≤ sizeLine; decide), fun q hq => ?_⟩
      obtain ⟨p3, k3, _⟩ := onT q _ hq
      refine ⟨q, _, rfl, .inr (SqT.of upd_same), rfl, rfl, _, rfl, if_true_of (by decide) ?_⟩
      exact ⟨_, rfl, _, rfl, _, rfl, F, p, d, l, r, a, ns, t, n + 1, g, ps, 9, i, j, rfl, p3, d1, k3⟩
    | order t =>
      refine if_false_of (dec_int_ne (by decide)) ⟨_, rfl, rfl, _, rfl, if_false_of (dec_int_ne (by decide)) ?_⟩
      refine ⟨_, rfl, (by show 4 ≤ sizeLine; decide), fun q hq => ?_⟩
      obtain ⟨p3, _, k3⟩ := onT q _ hq
      refine ⟨q, _, rfl, .inr (SqT.of upd_same), rfl, rfl, _, rfl, if_false_of (by decide) ?_⟩
      exact ⟨_, rfl, _, rfl, F, p, d, l, g, ps, 4, _, rfl, .order, p3.pre, k3 d1⟩
    | rounds t =>
      refine if_false_of (dec_int_ne (by decide)) ⟨_, rfl, rfl, _, rfl, if_false_of (dec_int_ne (by decide)) ?_⟩
      refine ⟨_, rfl, (by show 4 ≤ sizeLine; decide), fun q hq => ?_⟩
      obtain ⟨p3, _, k3⟩ := onT q _ hq
      refine ⟨q, _, rfl, .inr (SqT.of upd_same), rfl, rfl, _, rfl, if_false_of (by decide) ?_⟩
      exact ⟨_, rfl, _, rfl, F, p, d, l, g, ps, 5, _, rfl, .rounds, p3.pre, k3 d1⟩
    | untold t =>
      refine if_false_of (dec_int_ne (by decide)) ⟨_, rfl, rfl, _, rfl, if_false_of (dec_int_ne (by decide)) ?_⟩
      refine ⟨_, rfl, (by show 4 ≤ sizeLine; decide), fun q hq => ?_⟩
      obtain ⟨p3, _, k3⟩ := onT q _ hq
      refine ⟨q, _, rfl, .inr (SqT.of upd_same), rfl, rfl, _, rfl, if_false_of (by decide) ?_⟩
      exact ⟨_, rfl, _, rfl, F, p, d, l, g, ps, 6, _, rfl, .untold, p3.pre, k3 d1⟩
    | time t =>
      refine if_false_of (dec_int_ne (by decide)) ⟨_, rfl, rfl, _, rfl, if_false_of (dec_int_ne (by decide)) ?_⟩
      refine ⟨_, rfl, (by show 4 ≤ sizeLine; decide), fun q hq => ?_⟩
      obtain ⟨p3, _, k3⟩ := onT q _ hq
      refine ⟨q, _, rfl, .inr (SqT.of upd_same), rfl, rfl, _, rfl, if_false_of (by decide) ?_⟩
      exact ⟨_, rfl, _, rfl, F, p, d, l, g, ps, 8, _, rfl, .time, p3.pre, k3 d1⟩
    | systems t =>
      refine if_false_of (dec_int_ne (by decide)) ⟨_, rfl, rfl, _, rfl, if_false_of (dec_int_ne (by decide)) ?_⟩
      refine ⟨_, rfl, (by show 4 ≤ sizeLine; decide), fun q hq => ?_⟩
      obtain ⟨p3, _, k3⟩ := onT q _ hq
      refine ⟨q, _, rfl, .inr (SqT.of upd_same), rfl, rfl, _, rfl, if_false_of (by decide) ?_⟩
      exact ⟨_, rfl, _, rfl, F, p, d, l, g, ps, 10, _, rfl, .systems, p3.pre, k3 d1⟩

/-! ### answers -/
abbrev sAns : Stmt := top 43
def spAns (K : PySem.W.Frag) : Sp := fun vs H Q _ => ∃ (a : Addr) (ns : List Int), vs = [.ref a] ∧ SqL K H a (ns.map V.int) ∧ ns.length ≤ 1800 ∧ (∀ x ∈ ns, 0 ≤ x ∧ x ≤ 4294967295) ∧ PyGe02.answers_asked ns = true ∧
  ∀ (H' : Hp) (p : Addr), H' p = some (.lst ((PyGe02.answers ns).map V.int)) → Q (.ref p) H'
theorem scAns : FnScope ["calls", "plan", "reader", "given"] ["calls"] (defScope sAns) := ⟨rfl, rfl, rfl, by decide +kernel, rfl, by decide +kernel, by decide +kernel⟩
/-- a list that was not there is none of the Plan's -/
theorem PlanAt.more {H : Hp} {p d l q : Addr} {g : House} {ps : List (Nat × Nat)} (h : PlanAt CP CS H [] p d l g ps) (hq : H q = none) : PlanAt CP CS H [q] p d l g ps := by
  obtain ⟨ad, tp, h1, h2, h3, h4, h5, h6⟩ := h
  refine ⟨ad, tp, h1, h2, h3, h4, fun s hs => ?_, fun z => ne_of_none h3 hq (List.mem_singleton.mp z)⟩
  obtain ⟨ra, wa, n1, n2, g1, g2, g3⟩ := h5 s hs
  refine ⟨ra, wa, fun z => ?_, fun z => ?_, g1, g2, g3⟩
  · rcases List.mem_cons.mp z with e | e
    · exact n1 (by rw [e]; exact List.mem_cons_self ..)
    · exact ne_of_none g2 hq (List.mem_singleton.mp e)
  · rcases List.mem_cons.mp z with e | e
    · exact n2 (by rw [e]; exact List.mem_cons_self ..)
    · exact ne_of_none g3 hq (List.mem_singleton.mp e)
/-- the answers' list grows, the Plan stands -/
theorem PlanAt.grow {H : Hp} {p d l q : Addr} {g : House} {ps : List (Nat × Nat)} {xs ys : List V} (h : PlanAt CP CS H [q] p d l g ps) (hq : H q = some (.lst xs)) : PlanAt CP CS (upd H q (.lst ys)) [q] p d l g ps := by
  obtain ⟨ad, tp, ⟨dx, h1⟩, h2, h3, h4, h5, h6⟩ := h
  refine ⟨ad, tp, ⟨dx, ?_⟩, ?_, ?_, fun x hx => ?_, fun s hs => ?_, h6⟩
  · rw [upd_ne (ne_of h1 hq ne_ins_lst)]
    exact h1
  · rw [upd_ne (ne_of h2 hq ne_dk_lst)]
    exact h2
  · rw [upd_ne (fun z => h6 (List.mem_singleton.mpr z))]
    exact h3
  · rw [upd_ne (ne_of (h4 x hx) hq ne_tup_lst)]
    exact h4 x hx
  · obtain ⟨ra, wa, n1, n2, ⟨dy, g1⟩, g2, g3⟩ := h5 s hs
    refine ⟨ra, wa, n1, n2, ⟨dy, ?_⟩, ?_, ?_⟩
    · rw [upd_ne (ne_of g1 hq ne_ins_lst)]
      exact g1
    · rw [upd_ne (fun z => n1 (List.mem_cons_of_mem _ (List.mem_singleton.mpr z)))]
      exact g2
    · rw [upd_ne (fun z => n2 (List.mem_cons_of_mem _ (List.mem_singleton.mpr z)))]
      exact g3
/-- between two calls -/
structure Turn (K : PySem.W.Frag) (CP CS CR : Addr) (H H1 : Hp) (p d r a q : Addr) (ns : List Int) (l : Addr) (n : Nat) (g : House) (ps : List (Nat × Nat)) (out : List Int) : Prop where
  pl : PlanAt CP CS H1 [q] p d l g ps
  rl : Rel g ps
  le : ps.length ≤ n
  rd : ReadAt CR H1 r a n
  rq : Req K H H1 a ns [p, d, l, r, q]
  ls : H1 q = some (.lst (out.map V.int))
  rs : ∃ more, Rest g (ns.drop n) more ∧ PyGe02.answers ns = out ++ more
theorem ok_ans {f : Addr} {fd : FuncData} (F : Fun K "answers" "answers" sAns f fd) (T : Txt K mg CR CS CP) (jP : Ini P w K mg base 1 CP ["self"] (spPInit CP CS)) (jR : Ini P w K mg base 1 CR ["self", "calls"] (spRInit CR)) (jO : Mth P w K mg base 1 CR "is_over" ["self"] (spOver K CR))
    (jC : Glb P w K mg base 1 "with_count" ["numbers"] spCount) (jA : Glb P w K mg base 9 "call_answer" ["plan", "reader"] (spCA K CP CS CR)) : FnOk P w K mg base CX0 10 f fd ["calls"] (spAns K) := by
  obtain ⟨fP, fdP, GP, bP, MP⟩ := jP.ex
  obtain ⟨fR, fdR, GR, bR, MR⟩ := jR.ex
  obtain ⟨fO, fdO, GO, bO, mO⟩ := jO.ex
  obtain ⟨fC, fdC, GC, bC, gC, kC⟩ := jC.ex
  obtain ⟨fA, fdA, GA, bA, gA, kA⟩ := jA.ex
  refine F.ok scAns (fun vs H Q E h => ?_) (fun cdv A outer s H vs Q E hr h => ?_)
  · obtain ⟨a, ns, rfl, _⟩ := h
    rfl
  · obtain ⟨a, ns, rfl, hS, hlen, hin, hask, k⟩ := h
    have hr1 : Room 1 _ := hr.mono (by decide)
    have hr2 : Room 2 _ := hr.mono (by decide)
    refine ⟨_, pss_cons (ps_set (i := 1) scAns.nd rfl (Or.inl rfl) (pe_make0 MP GP hr2 rfl T.gP bP .nil pass0))
      (pss_cons (ps_set (i := 2) scAns.nd rfl (Or.inl rfl) (pe_make MR GR hr2 rfl T.gR bR .nil pass0 (pa_cons (pv 0) pa_nil)))
      (pss_cons (ps_set (i := 3) scAns.nd rfl (Or.inl rfl) (pe_lst pa_nil))
      (pss_cons (ps_while PassesOwn.never (pt_not (pt_val (pe_meth0 (pv 2) T.clR mO GO hr1 bO .nil pass0)))
        (pss_one (ps_expr (pe_bm PySem.F.plainAttrs_list PySem.F.slot_list_extend PySem.F.type_list_extend mt_extend (pv 3) (pa_cons (pe_call GC hr1 rfl gC kC bC .nil pass0 (pa_cons (pe_call GA hr rfl gA kA bA .nil pass0 (pa_cons (pv 1) (pa_cons (pv 2) pa_nil))) pa_nil)) pa_nil)))))
      (pss_one (ps_ret (pv 3)))))), ?_⟩
    obtain ⟨hrest, hsmall⟩ := rest_all hin hask
    -- plan = Plan()
    intro p dp np ndp nep
    refine ⟨p, dp, rfl, upd_same, fun H1 d l hd hl hP kp => ⟨rfl, ?_⟩⟩
    have s0 : Same H (upd (upd H dp (.own p)) p (.ins CP dp [])) := (same_upd ndp).trans (same_upd (by rw [upd_ne nep.symm]; exact np))
    have s1 : Same H H1 := same_keep s0 kp (by simpa using np)
    have hd0 : H d = none := s0.free hd
    have hl0 : H l = none := s0.free hl
    -- reader = Reader(calls)
    refine ⟨_, rfl, ?_⟩
    intro r dr nr ndr ner
    refine ⟨r, dr, a, rfl, upd_same, fun H2 hR kr => ⟨rfl, ?_⟩⟩
    have t0 : Same H1 (upd (upd H1 dr (.own r)) r (.ins CR dr [])) := (same_upd ndr).trans (same_upd (by rw [upd_ne ner.symm]; exact nr))
    have s2 : Same H1 H2 := same_keep t0 kr (by simpa using nr)
    -- given = []
    refine ⟨Nat.zero_le _, fun q hq => ?_⟩
    have s3 : Same H2 (upd H2 q (.lst [])) := same_upd hq
    have hr0 : H r = none := s1.free nr
    have hq0 : H q = none := (s1.trans s2).free hq
    have first : Turn K CP CS CR H (upd H2 q (.lst [])) p d r a q ns l 0 Ge02.init [] [] := by
      refine ⟨((hP.same s2).more hq).same s3, Rel.init, Nat.zero_le _, ?_, ⟨(s1.trans s2).trans s3, hS, ?_⟩, upd_same, _, hrest, rfl⟩
      · obtain ⟨dx, hR⟩ := hR
        exact ⟨dx, s3 _ _ hR⟩
      · intro b hb
        simp only [List.mem_cons, List.not_mem_nil, or_false] at hb
        rcases hb with e | e | e | e | e <;> rw [e] <;> assumption
    refine ⟨fun m σ H3 => ∃ (l : Addr) (n : Nat) (g : House) (ps : List (Nat × Nat)) (out : List Int), σ = [some (.ref a), some (.ref p), some (.ref r), some (.ref q)] ∧ Turn K CP CS CR H H3 p d r a q ns l n g ps out ∧ m = ns.length - n,
      ⟨_, l, 0, _, [], [], rfl, first, rfl⟩, ?_⟩
    rintro m σ H3 ⟨l, n, g, ps, out, rfl, tn, rfl⟩
    obtain ⟨dx, hR3⟩ := tn.rd
    -- not reader.is_over()
    refine ⟨_, rfl, r, dx, _, rfl, hR3, rF_no _ _ (by decide +kernel) (by decide +kernel), r, a, n, ns, rfl, tn.rd, tn.rq.list, _, rfl, ?_⟩
    obtain ⟨more, hre, han⟩ := tn.rs
    by_cases c : ns.length ≤ n
    · rw [decide_eq_true c]
      refine iteF ?_
      refine ⟨_, rfl, ?_⟩
      have : ns.drop n = [] := List.drop_of_length_le c
      rw [this] at hre
      rw [rest_end hre, List.append_nil] at han
      refine k H3 q ?_
      rw [han]
      exact tn.ls
    · rw [decide_eq_false c]
      refine iteT ?_
      refine ⟨fun σ' H' => ∃ m', m' < ns.length - n ∧ ∃ (l : Addr) (n : Nat) (g : House) (ps : List (Nat × Nat)) (out : List Int), σ' = [some (.ref a), some (.ref p), some (.ref r), some (.ref q)] ∧ Turn K CP CS CR H H' p d r a q ns l n g ps out ∧ m' = ns.length - n, fun _ _ z => z, ?_⟩
      obtain ⟨x, rest, hx⟩ : ∃ x rest, ns.drop n = x :: rest := by
        cases e : ns.drop n with
        | nil =>
          have := congrArg List.length e
          rw [List.length_drop] at this
          simp at this
          omega
        | cons x rest => exact ⟨x, rest, rfl⟩
      rw [hx] at hre
      obtain ⟨cl, t, more', hpar, hmore, hre'⟩ := rest_step hre
      have hpre : PreR K CP CS CR H3 [q] p d l r a ns n g ps := by
        refine ⟨⟨tn.pl, tn.rl, by have := tn.le; omega, fun z hz => ?_⟩, tn.rd, ⟨H, tn.rq.sm, tn.rq.sq, fun b hb => tn.rq.fr b ?_⟩, fun z => ?_⟩
        · rw [List.mem_singleton.mp hz]
          exact ⟨_, tn.ls⟩
        · simp only [List.mem_cons, List.not_mem_nil, or_false] at hb ⊢
          rcases hb with e | e | e | e <;> simp [e]
        · have := List.mem_singleton.mp z
          rw [this, tn.ls] at hR3
          cases hR3
      have hlenA : out.length + 1 + (Ge02.step g cl).2.length ≤ 10000000 := by
        rw [han, hmore, List.length_append, List.length_append, List.length_cons] at hsmall
        omega
      refine ⟨_, rfl, .inl ⟨rfl, _, SqL.of tn.ls⟩, ?_⟩
      refine ⟨_, rfl, _, rfl, [q], p, d, l, r, a, ns, t, n, g, ps, cl, rfl, hpre, (by rw [hx]; exact hpar), ?_⟩
      intro H4 b l' ps' n' q1 q2 q3 q4 q5 q6 q7 q8 q9 q10
      -- given.extend(with_count(..))
      have nqs : q ∉ [p, d, l, r] := fun z => by
        obtain ⟨ad, tp, hA⟩ := tn.pl
        obtain ⟨dz, hob⟩ := hA.ob
        simp only [List.mem_cons, List.not_mem_nil, or_false] at z
        rcases z with e | e | e | e
        · have := tn.ls
          rw [e, hob] at this
          cases this
        · have := tn.ls
          rw [e, hA.dc] at this
          cases this
        · exact hA.fl (by rw [e]; exact List.mem_singleton.mpr rfl)
        · have := tn.ls
          rw [e, hR3] at this
          cases this
      have hq4 : H4 q = some (.lst (out.map V.int)) := q8 _ _ tn.ls nqs
      refine ⟨b, _, rfl, q10, (by rw [List.length_map, sizeLine_eq]; omega), fun H5 b5 s5 hb5 hL5 => ?_⟩
      refine ⟨q, b5, _, _, rfl, rfl, s5 _ _ hq4, hL5, (by rw [List.length_cons, List.length_map, List.length_map, sizeLine_eq]; omega), ?_⟩
      refine ⟨ns.length - n', by omega, l', n', (Ge02.step g cl).1, ps', out ++ (((Ge02.step g cl).2.length : Int) :: (Ge02.step g cl).2), rfl, ?_, rfl⟩
      refine ⟨(q1.same s5).grow (s5 _ _ hq4), q2, by have := tn.le; omega, ?_, ?_, ?_, more', by rw [q6]; exact hre', by rw [han, hmore, List.append_assoc]⟩
      · obtain ⟨dz, q7⟩ := q7
        refine ⟨dz, ?_⟩
        rw [upd_ne (ne_of (s5 _ _ q7) (s5 _ _ hq4) ne_ins_lst)]
        exact s5 _ _ q7
      · have sm4 : Same H H4 := same_keep tn.rq.sm q8 fun b hb => tn.rq.fr b (by
          simp only [List.mem_cons, List.not_mem_nil, or_false] at hb ⊢
          rcases hb with e | e | e | e <;> simp [e])
        refine ⟨same_keep (sm4.trans s5) (keep_upd (S := [q]) (by simp)) (by simpa using hq0), hS, fun b hb => ?_⟩
        simp only [List.mem_cons, List.not_mem_nil, or_false] at hb
        rcases hb with e | e | e | e | e
        · exact tn.rq.fr b (by simp [e])
        · exact tn.rq.fr b (by simp [e])
        · rw [e]
          rcases q4 with z | z
          · rw [z]
            exact tn.rq.fr l (by simp)
          · exact tn.rq.sm.free z
        · exact tn.rq.fr b (by simp [e])
        · exact tn.rq.fr b (by simp [e])
      · rw [upd_same, List.map_append]
        rw [List.length_map]
        rfl
end
end Sr

/-! What the top has written, and the last theorem. -/
namespace Sr
open PySem PySem.Spec PyProof.Rows L2
open PySem.W (Codec)

theorem all_mk {P : Program} {w : World} {K : PySem.W.Frag} {h : Heap} {mg : Str → Option Value} {fa CR CS CP CT fRInit fOver fNum fRow fSInit fTouch fFor fCK fClash fKinds fCost fPInit fAdd fRem fTell fFree fWay fApart fCB fTO fStp fSR fIU fUP fNext fOrd fMust fFirst fRds fTInit fEnter fTick fAt fChain fTimes fUA fTA fCount fRA fSA fPA fWA fCA fAns : Addr}
    {odRInit anRInit : Option Addr} {slRInit : Array (Option Value)} {ocRInit kVRInit dcRInit pmRInit cdRInit ctRInit : Value}
    {odOver anOver : Option Addr} {slOver : Array (Option Value)} {ocOver kVOver dcOver pmOver cdOver ctOver : Value}
    {odNum anNum : Option Addr} {slNum : Array (Option Value)} {ocNum kVNum dcNum pmNum cdNum ctNum : Value}
    {odRow anRow : Option Addr} {slRow : Array (Option Value)} {ocRow kVRow dcRow pmRow cdRow ctRow : Value}
    {odSInit anSInit : Option Addr} {slSInit : Array (Option Value)} {ocSInit kVSInit dcSInit pmSInit cdSInit ctSInit : Value}
    {odTouch anTouch : Option Addr} {slTouch : Array (Option Value)} {ocTouch kVTouch dcTouch pmTouch cdTouch ctTouch : Value}
    {odFor anFor : Option Addr} {slFor : Array (Option Value)} {ocFor kVFor dcFor pmFor cdFor ctFor : Value}
    {odCK anCK : Option Addr} {slCK : Array (Option Value)} {ocCK kVCK dcCK pmCK cdCK ctCK : Value}
    {odClash anClash : Option Addr} {slClash : Array (Option Value)} {ocClash kVClash dcClash pmClash cdClash ctClash : Value}
    {odKinds anKinds : Option Addr} {slKinds : Array (Option Value)} {ocKinds kVKinds dcKinds pmKinds cdKinds ctKinds : Value}
    {odCost anCost : Option Addr} {slCost : Array (Option Value)} {ocCost kVCost dcCost pmCost cdCost ctCost : Value}
    {odPInit anPInit : Option Addr} {slPInit : Array (Option Value)} {ocPInit kVPInit dcPInit pmPInit cdPInit ctPInit : Value}
    {odAdd anAdd : Option Addr} {slAdd : Array (Option Value)} {ocAdd kVAdd dcAdd pmAdd cdAdd ctAdd : Value}
    {odRem anRem : Option Addr} {slRem : Array (Option Value)} {ocRem kVRem dcRem pmRem cdRem ctRem : Value}
    {odTell anTell : Option Addr} {slTell : Array (Option Value)} {ocTell kVTell dcTell pmTell cdTell ctTell : Value}
    {odFree anFree : Option Addr} {slFree : Array (Option Value)} {ocFree kVFree dcFree pmFree cdFree ctFree : Value}
    {odWay anWay : Option Addr} {slWay : Array (Option Value)} {ocWay kVWay dcWay pmWay cdWay ctWay : Value}
    {odApart anApart : Option Addr} {slApart : Array (Option Value)} {ocApart kVApart dcApart pmApart cdApart ctApart : Value}
    {odCB anCB : Option Addr} {slCB : Array (Option Value)} {ocCB kVCB dcCB pmCB cdCB ctCB : Value}
    {odTO anTO : Option Addr} {slTO : Array (Option Value)} {ocTO kVTO dcTO pmTO cdTO ctTO : Value}
    {odStp anStp : Option Addr} {slStp : Array (Option Value)} {ocStp kVStp dcStp pmStp cdStp ctStp : Value}
    {odSR anSR : Option Addr} {slSR : Array (Option Value)} {ocSR kVSR dcSR pmSR cdSR ctSR : Value}
    {odIU anIU : Option Addr} {slIU : Array (Option Value)} {ocIU kVIU dcIU pmIU cdIU ctIU : Value}
    {odUP anUP : Option Addr} {slUP : Array (Option Value)} {ocUP kVUP dcUP pmUP cdUP ctUP : Value}
    {odNext anNext : Option Addr} {slNext : Array (Option Value)} {ocNext kVNext dcNext pmNext cdNext ctNext : Value}
    {odOrd anOrd : Option Addr} {slOrd : Array (Option Value)} {ocOrd kVOrd dcOrd pmOrd cdOrd ctOrd : Value}
    {odMust anMust : Option Addr} {slMust : Array (Option Value)} {ocMust kVMust dcMust pmMust cdMust ctMust : Value}
    {odFirst anFirst : Option Addr} {slFirst : Array (Option Value)} {ocFirst kVFirst dcFirst pmFirst cdFirst ctFirst : Value}
    {odRds anRds : Option Addr} {slRds : Array (Option Value)} {ocRds kVRds dcRds pmRds cdRds ctRds : Value}
    {odTInit anTInit : Option Addr} {slTInit : Array (Option Value)} {ocTInit kVTInit dcTInit pmTInit cdTInit ctTInit : Value}
    {odEnter anEnter : Option Addr} {slEnter : Array (Option Value)} {ocEnter kVEnter dcEnter pmEnter cdEnter ctEnter : Value}
    {odTick anTick : Option Addr} {slTick : Array (Option Value)} {ocTick kVTick dcTick pmTick cdTick ctTick : Value}
    {odAt anAt : Option Addr} {slAt : Array (Option Value)} {ocAt kVAt dcAt pmAt cdAt ctAt : Value}
    {odChain anChain : Option Addr} {slChain : Array (Option Value)} {ocChain kVChain dcChain pmChain cdChain ctChain : Value}
    {odTimes anTimes : Option Addr} {slTimes : Array (Option Value)} {ocTimes kVTimes dcTimes pmTimes cdTimes ctTimes : Value}
    {odUA anUA : Option Addr} {slUA : Array (Option Value)} {ocUA kVUA dcUA pmUA cdUA ctUA : Value}
    {odTA anTA : Option Addr} {slTA : Array (Option Value)} {ocTA kVTA dcTA pmTA cdTA ctTA : Value}
    {odCount anCount : Option Addr} {slCount : Array (Option Value)} {ocCount kVCount dcCount pmCount cdCount ctCount : Value}
    {odRA anRA : Option Addr} {slRA : Array (Option Value)} {ocRA kVRA dcRA pmRA cdRA ctRA : Value}
    {odSA anSA : Option Addr} {slSA : Array (Option Value)} {ocSA kVSA dcSA pmSA cdSA ctSA : Value}
    {odPA anPA : Option Addr} {slPA : Array (Option Value)} {ocPA kVPA dcPA pmPA cdPA ctPA : Value}
    {odWA anWA : Option Addr} {slWA : Array (Option Value)} {ocWA kVWA dcWA pmWA cdWA ctWA : Value}
    {odCA anCA : Option Addr} {slCA : Array (Option Value)} {ocCA kVCA dcCA pmCA cdCA ctCA : Value}
    {odAns anAns : Option Addr} {slAns : Array (Option Value)} {ocAns kVAns dcAns pmAns cdAns ctAns : Value}
    {t_SYSTEM : Tok}
    {t_GONE : Tok}
    {t_BEFORE : Tok}
    {t_FREE : Tok}
    {t_ORDER : Tok}
    {t_ROUNDS : Tok}
    {t_MOST_SYSTEMS : Tok}
    {t_HIGHEST_COST : Tok}
    {t_HIGHEST_KIND : Tok}
    {t_WRONG_SYSTEM : Tok}
    {t_NOT_THERE : Tok}
    {t_WOULD_BE_RING : Tok}
    {t_TOLD_ALREADY : Tok}
    {t_TOO_MANY : Tok}
    {t_UNTOLD : Tok}
    {t_WAY : Tok}
    {t_TIME : Tok}
    {t_APART : Tok}
    {t_SYSTEMS : Tok}
    {t_NO_ROW : Tok}
    {t_FIRST_BEFORE_SECOND : Tok}
    {t_SECOND_BEFORE_FIRST : Tok}
    {t_NOT_TOLD : Tok}
    (X : K.In h) (G : h.Ns mainGlobals mg) (hfa : mg "answers" = some (.ref fa))
    (aCR : PySem.W.nsIn K mainGlobals "Reader" = some (some (.ref CR)))
    (pgCR : PySem.W.plainGet K CR Str.empty = true)
    (hdCR : PySem.W.hasDictIn K CR = true)
    (poCR : PySem.W.plainOver K CR = true)
    (saCR : PySem.W.findIn K (.ref CR) "__setattr__" = some (some (.builtin "object.__setattr__")))
    (mkCR : PySem.W.makesIn K CR = true)
    (kcCR : PySem.W.keepIn K (.ref CR) = true)
    (nCR_calls : PySem.W.findIn K (.ref CR) "calls" = some none)
    (nCR_place : PySem.W.findIn K (.ref CR) "place" = some none)
    (aCS : PySem.W.nsIn K mainGlobals "System" = some (some (.ref CS)))
    (pgCS : PySem.W.plainGet K CS Str.empty = true)
    (hdCS : PySem.W.hasDictIn K CS = true)
    (poCS : PySem.W.plainOver K CS = true)
    (saCS : PySem.W.findIn K (.ref CS) "__setattr__" = some (some (.builtin "object.__setattr__")))
    (mkCS : PySem.W.makesIn K CS = true)
    (kcCS : PySem.W.keepIn K (.ref CS) = true)
    (nCS_cost : PySem.W.findIn K (.ref CS) "cost" = some none)
    (nCS_reads : PySem.W.findIn K (.ref CS) "reads" = some none)
    (nCS_writes : PySem.W.findIn K (.ref CS) "writes" = some none)
    (aCP : PySem.W.nsIn K mainGlobals "Plan" = some (some (.ref CP)))
    (pgCP : PySem.W.plainGet K CP Str.empty = true)
    (hdCP : PySem.W.hasDictIn K CP = true)
    (poCP : PySem.W.plainOver K CP = true)
    (saCP : PySem.W.findIn K (.ref CP) "__setattr__" = some (some (.builtin "object.__setattr__")))
    (mkCP : PySem.W.makesIn K CP = true)
    (kcCP : PySem.W.keepIn K (.ref CP) = true)
    (nCP_numbers_given : PySem.W.findIn K (.ref CP) "numbers_given" = some none)
    (nCP_systems : PySem.W.findIn K (.ref CP) "systems" = some none)
    (nCP_pairs : PySem.W.findIn K (.ref CP) "pairs" = some none)
    (aCT : PySem.W.nsIn K mainGlobals "Times" = some (some (.ref CT)))
    (pgCT : PySem.W.plainGet K CT Str.empty = true)
    (hdCT : PySem.W.hasDictIn K CT = true)
    (poCT : PySem.W.plainOver K CT = true)
    (saCT : PySem.W.findIn K (.ref CT) "__setattr__" = some (some (.builtin "object.__setattr__")))
    (mkCT : PySem.W.makesIn K CT = true)
    (kcCT : PySem.W.keepIn K (.ref CT) = true)
    (nCT_order : PySem.W.findIn K (.ref CT) "order" = some none)
    (nCT_needs : PySem.W.findIn K (.ref CT) "needs" = some none)
    (nCT_begins : PySem.W.findIn K (.ref CT) "begins" = some none)
    (nCT_ends : PySem.W.findIn K (.ref CT) "ends" = some none)
    (aRInit : PySem.W.findIn K (.ref CR) "__init__" = some (some (.ref fRInit)))
    (iRInit : PySem.W.isFn K (.ref fRInit) = true)
    (lRInit : K.lookup fRInit = some ⟨ocRInit, odRInit, .func (PySem.W.fnOf "__init__" "Reader.__init__" (defArgs sRInit) (defBody sRInit) (defScope sRInit) .none kVRInit dcRInit pmRInit anRInit cdRInit ctRInit), slRInit⟩)
    (cRInit : PySem.W.codeIn K cdRInit "Reader.__init__" = true)
    (kRInit : PySem.W.keepIn K (.ref fRInit) = true)
    (aOver : PySem.W.findIn K (.ref CR) "is_over" = some (some (.ref fOver)))
    (iOver : PySem.W.isFn K (.ref fOver) = true)
    (lOver : K.lookup fOver = some ⟨ocOver, odOver, .func (PySem.W.fnOf "is_over" "Reader.is_over" (defArgs sOver) (defBody sOver) (defScope sOver) .none kVOver dcOver pmOver anOver cdOver ctOver), slOver⟩)
    (cOver : PySem.W.codeIn K cdOver "Reader.is_over" = true)
    (kOver : PySem.W.keepIn K (.ref fOver) = true)
    (aNum : PySem.W.findIn K (.ref CR) "take_number" = some (some (.ref fNum)))
    (iNum : PySem.W.isFn K (.ref fNum) = true)
    (lNum : K.lookup fNum = some ⟨ocNum, odNum, .func (PySem.W.fnOf "take_number" "Reader.take_number" (defArgs sNum) (defBody sNum) (defScope sNum) .none kVNum dcNum pmNum anNum cdNum ctNum), slNum⟩)
    (cNum : PySem.W.codeIn K cdNum "Reader.take_number" = true)
    (kNum : PySem.W.keepIn K (.ref fNum) = true)
    (aRow : PySem.W.findIn K (.ref CR) "take_row" = some (some (.ref fRow)))
    (iRow : PySem.W.isFn K (.ref fRow) = true)
    (lRow : K.lookup fRow = some ⟨ocRow, odRow, .func (PySem.W.fnOf "take_row" "Reader.take_row" (defArgs sRow) (defBody sRow) (defScope sRow) .none kVRow dcRow pmRow anRow cdRow ctRow), slRow⟩)
    (cRow : PySem.W.codeIn K cdRow "Reader.take_row" = true)
    (kRow : PySem.W.keepIn K (.ref fRow) = true)
    (aSInit : PySem.W.findIn K (.ref CS) "__init__" = some (some (.ref fSInit)))
    (iSInit : PySem.W.isFn K (.ref fSInit) = true)
    (lSInit : K.lookup fSInit = some ⟨ocSInit, odSInit, .func (PySem.W.fnOf "__init__" "System.__init__" (defArgs sSInit) (defBody sSInit) (defScope sSInit) .none kVSInit dcSInit pmSInit anSInit cdSInit ctSInit), slSInit⟩)
    (cSInit : PySem.W.codeIn K cdSInit "System.__init__" = true)
    (kSInit : PySem.W.keepIn K (.ref fSInit) = true)
    (aTouch : PySem.W.findIn K (.ref CS) "touches" = some (some (.ref fTouch)))
    (iTouch : PySem.W.isFn K (.ref fTouch) = true)
    (lTouch : K.lookup fTouch = some ⟨ocTouch, odTouch, .func (PySem.W.fnOf "touches" "System.touches" (defArgs sTouch) (defBody sTouch) (defScope sTouch) .none kVTouch dcTouch pmTouch anTouch cdTouch ctTouch), slTouch⟩)
    (cTouch : PySem.W.codeIn K cdTouch "System.touches" = true)
    (kTouch : PySem.W.keepIn K (.ref fTouch) = true)
    (aFor : PySem.W.nsIn K mainGlobals "clash_for" = some (some (.ref fFor)))
    (lFor : K.lookup fFor = some ⟨ocFor, odFor, .func (PySem.W.fnOf "clash_for" "clash_for" (defArgs sFor) (defBody sFor) (defScope sFor) .none kVFor dcFor pmFor anFor cdFor ctFor), slFor⟩)
    (cFor : PySem.W.codeIn K cdFor "clash_for" = true)
    (kFor : PySem.W.keepIn K (.ref fFor) = true)
    (aCK : PySem.W.nsIn K mainGlobals "clash_kinds" = some (some (.ref fCK)))
    (lCK : K.lookup fCK = some ⟨ocCK, odCK, .func (PySem.W.fnOf "clash_kinds" "clash_kinds" (defArgs sCK) (defBody sCK) (defScope sCK) .none kVCK dcCK pmCK anCK cdCK ctCK), slCK⟩)
    (cCK : PySem.W.codeIn K cdCK "clash_kinds" = true)
    (kCK : PySem.W.keepIn K (.ref fCK) = true)
    (aClash : PySem.W.nsIn K mainGlobals "clash" = some (some (.ref fClash)))
    (lClash : K.lookup fClash = some ⟨ocClash, odClash, .func (PySem.W.fnOf "clash" "clash" (defArgs sClash) (defBody sClash) (defScope sClash) .none kVClash dcClash pmClash anClash cdClash ctClash), slClash⟩)
    (cClash : PySem.W.codeIn K cdClash "clash" = true)
    (kClash : PySem.W.keepIn K (.ref fClash) = true)
    (aKinds : PySem.W.nsIn K mainGlobals "kinds_are_right" = some (some (.ref fKinds)))
    (lKinds : K.lookup fKinds = some ⟨ocKinds, odKinds, .func (PySem.W.fnOf "kinds_are_right" "kinds_are_right" (defArgs sKinds) (defBody sKinds) (defScope sKinds) .none kVKinds dcKinds pmKinds anKinds cdKinds ctKinds), slKinds⟩)
    (cKinds : PySem.W.codeIn K cdKinds "kinds_are_right" = true)
    (kKinds : PySem.W.keepIn K (.ref fKinds) = true)
    (aCost : PySem.W.nsIn K mainGlobals "cost_is_right" = some (some (.ref fCost)))
    (lCost : K.lookup fCost = some ⟨ocCost, odCost, .func (PySem.W.fnOf "cost_is_right" "cost_is_right" (defArgs sCost) (defBody sCost) (defScope sCost) .none kVCost dcCost pmCost anCost cdCost ctCost), slCost⟩)
    (cCost : PySem.W.codeIn K cdCost "cost_is_right" = true)
    (kCost : PySem.W.keepIn K (.ref fCost) = true)
    (aPInit : PySem.W.findIn K (.ref CP) "__init__" = some (some (.ref fPInit)))
    (iPInit : PySem.W.isFn K (.ref fPInit) = true)
    (lPInit : K.lookup fPInit = some ⟨ocPInit, odPInit, .func (PySem.W.fnOf "__init__" "Plan.__init__" (defArgs sPInit) (defBody sPInit) (defScope sPInit) .none kVPInit dcPInit pmPInit anPInit cdPInit ctPInit), slPInit⟩)
    (cPInit : PySem.W.codeIn K cdPInit "Plan.__init__" = true)
    (kPInit : PySem.W.keepIn K (.ref fPInit) = true)
    (aAdd : PySem.W.findIn K (.ref CP) "add_system" = some (some (.ref fAdd)))
    (iAdd : PySem.W.isFn K (.ref fAdd) = true)
    (lAdd : K.lookup fAdd = some ⟨ocAdd, odAdd, .func (PySem.W.fnOf "add_system" "Plan.add_system" (defArgs sAdd) (defBody sAdd) (defScope sAdd) .none kVAdd dcAdd pmAdd anAdd cdAdd ctAdd), slAdd⟩)
    (cAdd : PySem.W.codeIn K cdAdd "Plan.add_system" = true)
    (kAdd : PySem.W.keepIn K (.ref fAdd) = true)
    (aRem : PySem.W.findIn K (.ref CP) "remove_system" = some (some (.ref fRem)))
    (iRem : PySem.W.isFn K (.ref fRem) = true)
    (lRem : K.lookup fRem = some ⟨ocRem, odRem, .func (PySem.W.fnOf "remove_system" "Plan.remove_system" (defArgs sRem) (defBody sRem) (defScope sRem) .none kVRem dcRem pmRem anRem cdRem ctRem), slRem⟩)
    (cRem : PySem.W.codeIn K cdRem "Plan.remove_system" = true)
    (kRem : PySem.W.keepIn K (.ref fRem) = true)
    (aTell : PySem.W.findIn K (.ref CP) "tell_pair" = some (some (.ref fTell)))
    (iTell : PySem.W.isFn K (.ref fTell) = true)
    (lTell : K.lookup fTell = some ⟨ocTell, odTell, .func (PySem.W.fnOf "tell_pair" "Plan.tell_pair" (defArgs sTell) (defBody sTell) (defScope sTell) .none kVTell dcTell pmTell anTell cdTell ctTell), slTell⟩)
    (cTell : PySem.W.codeIn K cdTell "Plan.tell_pair" = true)
    (kTell : PySem.W.keepIn K (.ref fTell) = true)
    (aFree : PySem.W.findIn K (.ref CP) "free_pair" = some (some (.ref fFree)))
    (iFree : PySem.W.isFn K (.ref fFree) = true)
    (lFree : K.lookup fFree = some ⟨ocFree, odFree, .func (PySem.W.fnOf "free_pair" "Plan.free_pair" (defArgs sFree) (defBody sFree) (defScope sFree) .none kVFree dcFree pmFree anFree cdFree ctFree), slFree⟩)
    (cFree : PySem.W.codeIn K cdFree "Plan.free_pair" = true)
    (kFree : PySem.W.keepIn K (.ref fFree) = true)
    (aWay : PySem.W.findIn K (.ref CP) "way" = some (some (.ref fWay)))
    (iWay : PySem.W.isFn K (.ref fWay) = true)
    (lWay : K.lookup fWay = some ⟨ocWay, odWay, .func (PySem.W.fnOf "way" "Plan.way" (defArgs sWay) (defBody sWay) (defScope sWay) .none kVWay dcWay pmWay anWay cdWay ctWay), slWay⟩)
    (cWay : PySem.W.codeIn K cdWay "Plan.way" = true)
    (kWay : PySem.W.keepIn K (.ref fWay) = true)
    (aApart : PySem.W.findIn K (.ref CP) "apart" = some (some (.ref fApart)))
    (iApart : PySem.W.isFn K (.ref fApart) = true)
    (lApart : K.lookup fApart = some ⟨ocApart, odApart, .func (PySem.W.fnOf "apart" "Plan.apart" (defArgs sApart) (defBody sApart) (defScope sApart) .none kVApart dcApart pmApart anApart cdApart ctApart), slApart⟩)
    (cApart : PySem.W.codeIn K cdApart "Plan.apart" = true)
    (kApart : PySem.W.keepIn K (.ref fApart) = true)
    (aCB : PySem.W.findIn K (.ref CP) "comes_before" = some (some (.ref fCB)))
    (iCB : PySem.W.isFn K (.ref fCB) = true)
    (lCB : K.lookup fCB = some ⟨ocCB, odCB, .func (PySem.W.fnOf "comes_before" "Plan.comes_before" (defArgs sCB) (defBody sCB) (defScope sCB) .none kVCB dcCB pmCB anCB cdCB ctCB), slCB⟩)
    (cCB : PySem.W.codeIn K cdCB "Plan.comes_before" = true)
    (kCB : PySem.W.keepIn K (.ref fCB) = true)
    (aTO : PySem.W.findIn K (.ref CP) "told_order" = some (some (.ref fTO)))
    (iTO : PySem.W.isFn K (.ref fTO) = true)
    (lTO : K.lookup fTO = some ⟨ocTO, odTO, .func (PySem.W.fnOf "told_order" "Plan.told_order" (defArgs sTO) (defBody sTO) (defScope sTO) .none kVTO dcTO pmTO anTO cdTO ctTO), slTO⟩)
    (cTO : PySem.W.codeIn K cdTO "Plan.told_order" = true)
    (kTO : PySem.W.keepIn K (.ref fTO) = true)
    (aStp : PySem.W.findIn K (.ref CP) "steps_to" = some (some (.ref fStp)))
    (iStp : PySem.W.isFn K (.ref fStp) = true)
    (lStp : K.lookup fStp = some ⟨ocStp, odStp, .func (PySem.W.fnOf "steps_to" "Plan.steps_to" (defArgs sStp) (defBody sStp) (defScope sStp) .none kVStp dcStp pmStp anStp cdStp ctStp), slStp⟩)
    (cStp : PySem.W.codeIn K cdStp "Plan.steps_to" = true)
    (kStp : PySem.W.keepIn K (.ref fStp) = true)
    (aSR : PySem.W.findIn K (.ref CP) "shortest_row" = some (some (.ref fSR)))
    (iSR : PySem.W.isFn K (.ref fSR) = true)
    (lSR : K.lookup fSR = some ⟨ocSR, odSR, .func (PySem.W.fnOf "shortest_row" "Plan.shortest_row" (defArgs sSR) (defBody sSR) (defScope sSR) .none kVSR dcSR pmSR anSR cdSR ctSR), slSR⟩)
    (cSR : PySem.W.codeIn K cdSR "Plan.shortest_row" = true)
    (kSR : PySem.W.keepIn K (.ref fSR) = true)
    (aIU : PySem.W.findIn K (.ref CP) "is_untold" = some (some (.ref fIU)))
    (iIU : PySem.W.isFn K (.ref fIU) = true)
    (lIU : K.lookup fIU = some ⟨ocIU, odIU, .func (PySem.W.fnOf "is_untold" "Plan.is_untold" (defArgs sIU) (defBody sIU) (defScope sIU) .none kVIU dcIU pmIU anIU cdIU ctIU), slIU⟩)
    (cIU : PySem.W.codeIn K cdIU "Plan.is_untold" = true)
    (kIU : PySem.W.keepIn K (.ref fIU) = true)
    (aUP : PySem.W.findIn K (.ref CP) "untold_pairs" = some (some (.ref fUP)))
    (iUP : PySem.W.isFn K (.ref fUP) = true)
    (lUP : K.lookup fUP = some ⟨ocUP, odUP, .func (PySem.W.fnOf "untold_pairs" "Plan.untold_pairs" (defArgs sUP) (defBody sUP) (defScope sUP) .none kVUP dcUP pmUP anUP cdUP ctUP), slUP⟩)
    (cUP : PySem.W.codeIn K cdUP "Plan.untold_pairs" = true)
    (kUP : PySem.W.keepIn K (.ref fUP) = true)
    (aNext : PySem.W.findIn K (.ref CP) "next_in_order" = some (some (.ref fNext)))
    (iNext : PySem.W.isFn K (.ref fNext) = true)
    (lNext : K.lookup fNext = some ⟨ocNext, odNext, .func (PySem.W.fnOf "next_in_order" "Plan.next_in_order" (defArgs sNext) (defBody sNext) (defScope sNext) .none kVNext dcNext pmNext anNext cdNext ctNext), slNext⟩)
    (cNext : PySem.W.codeIn K cdNext "Plan.next_in_order" = true)
    (kNext : PySem.W.keepIn K (.ref fNext) = true)
    (aOrd : PySem.W.findIn K (.ref CP) "in_order" = some (some (.ref fOrd)))
    (iOrd : PySem.W.isFn K (.ref fOrd) = true)
    (lOrd : K.lookup fOrd = some ⟨ocOrd, odOrd, .func (PySem.W.fnOf "in_order" "Plan.in_order" (defArgs sOrd) (defBody sOrd) (defScope sOrd) .none kVOrd dcOrd pmOrd anOrd cdOrd ctOrd), slOrd⟩)
    (cOrd : PySem.W.codeIn K cdOrd "Plan.in_order" = true)
    (kOrd : PySem.W.keepIn K (.ref fOrd) = true)
    (aMust : PySem.W.findIn K (.ref CP) "must_be_over" = some (some (.ref fMust)))
    (iMust : PySem.W.isFn K (.ref fMust) = true)
    (lMust : K.lookup fMust = some ⟨ocMust, odMust, .func (PySem.W.fnOf "must_be_over" "Plan.must_be_over" (defArgs sMust) (defBody sMust) (defScope sMust) .none kVMust dcMust pmMust anMust cdMust ctMust), slMust⟩)
    (cMust : PySem.W.codeIn K cdMust "Plan.must_be_over" = true)
    (kMust : PySem.W.keepIn K (.ref fMust) = true)
    (aFirst : PySem.W.findIn K (.ref CP) "first_round" = some (some (.ref fFirst)))
    (iFirst : PySem.W.isFn K (.ref fFirst) = true)
    (lFirst : K.lookup fFirst = some ⟨ocFirst, odFirst, .func (PySem.W.fnOf "first_round" "Plan.first_round" (defArgs sFirst) (defBody sFirst) (defScope sFirst) .none kVFirst dcFirst pmFirst anFirst cdFirst ctFirst), slFirst⟩)
    (cFirst : PySem.W.codeIn K cdFirst "Plan.first_round" = true)
    (kFirst : PySem.W.keepIn K (.ref fFirst) = true)
    (aRds : PySem.W.findIn K (.ref CP) "in_rounds" = some (some (.ref fRds)))
    (iRds : PySem.W.isFn K (.ref fRds) = true)
    (lRds : K.lookup fRds = some ⟨ocRds, odRds, .func (PySem.W.fnOf "in_rounds" "Plan.in_rounds" (defArgs sRds) (defBody sRds) (defScope sRds) .none kVRds dcRds pmRds anRds cdRds ctRds), slRds⟩)
    (cRds : PySem.W.codeIn K cdRds "Plan.in_rounds" = true)
    (kRds : PySem.W.keepIn K (.ref fRds) = true)
    (aTInit : PySem.W.findIn K (.ref CT) "__init__" = some (some (.ref fTInit)))
    (iTInit : PySem.W.isFn K (.ref fTInit) = true)
    (lTInit : K.lookup fTInit = some ⟨ocTInit, odTInit, .func (PySem.W.fnOf "__init__" "Times.__init__" (defArgs sTInit) (defBody sTInit) (defScope sTInit) .none kVTInit dcTInit pmTInit anTInit cdTInit ctTInit), slTInit⟩)
    (cTInit : PySem.W.codeIn K cdTInit "Times.__init__" = true)
    (kTInit : PySem.W.keepIn K (.ref fTInit) = true)
    (aEnter : PySem.W.findIn K (.ref CT) "enter" = some (some (.ref fEnter)))
    (iEnter : PySem.W.isFn K (.ref fEnter) = true)
    (lEnter : K.lookup fEnter = some ⟨ocEnter, odEnter, .func (PySem.W.fnOf "enter" "Times.enter" (defArgs sEnter) (defBody sEnter) (defScope sEnter) .none kVEnter dcEnter pmEnter anEnter cdEnter ctEnter), slEnter⟩)
    (cEnter : PySem.W.codeIn K cdEnter "Times.enter" = true)
    (kEnter : PySem.W.keepIn K (.ref fEnter) = true)
    (aTick : PySem.W.findIn K (.ref CT) "tick_length" = some (some (.ref fTick)))
    (iTick : PySem.W.isFn K (.ref fTick) = true)
    (lTick : K.lookup fTick = some ⟨ocTick, odTick, .func (PySem.W.fnOf "tick_length" "Times.tick_length" (defArgs sTick) (defBody sTick) (defScope sTick) .none kVTick dcTick pmTick anTick cdTick ctTick), slTick⟩)
    (cTick : PySem.W.codeIn K cdTick "Times.tick_length" = true)
    (kTick : PySem.W.keepIn K (.ref fTick) = true)
    (aAt : PySem.W.findIn K (.ref CT) "over_at" = some (some (.ref fAt)))
    (iAt : PySem.W.isFn K (.ref fAt) = true)
    (lAt : K.lookup fAt = some ⟨ocAt, odAt, .func (PySem.W.fnOf "over_at" "Times.over_at" (defArgs sAt) (defBody sAt) (defScope sAt) .none kVAt dcAt pmAt anAt cdAt ctAt), slAt⟩)
    (cAt : PySem.W.codeIn K cdAt "Times.over_at" = true)
    (kAt : PySem.W.keepIn K (.ref fAt) = true)
    (aChain : PySem.W.findIn K (.ref CT) "chain" = some (some (.ref fChain)))
    (iChain : PySem.W.isFn K (.ref fChain) = true)
    (lChain : K.lookup fChain = some ⟨ocChain, odChain, .func (PySem.W.fnOf "chain" "Times.chain" (defArgs sChain) (defBody sChain) (defScope sChain) .none kVChain dcChain pmChain anChain cdChain ctChain), slChain⟩)
    (cChain : PySem.W.codeIn K cdChain "Times.chain" = true)
    (kChain : PySem.W.keepIn K (.ref fChain) = true)
    (aTimes : PySem.W.nsIn K mainGlobals "times_of" = some (some (.ref fTimes)))
    (lTimes : K.lookup fTimes = some ⟨ocTimes, odTimes, .func (PySem.W.fnOf "times_of" "times_of" (defArgs sTimes) (defBody sTimes) (defScope sTimes) .none kVTimes dcTimes pmTimes anTimes cdTimes ctTimes), slTimes⟩)
    (cTimes : PySem.W.codeIn K cdTimes "times_of" = true)
    (kTimes : PySem.W.keepIn K (.ref fTimes) = true)
    (aUA : PySem.W.nsIn K mainGlobals "untold_answer" = some (some (.ref fUA)))
    (lUA : K.lookup fUA = some ⟨ocUA, odUA, .func (PySem.W.fnOf "untold_answer" "untold_answer" (defArgs sUA) (defBody sUA) (defScope sUA) .none kVUA dcUA pmUA anUA cdUA ctUA), slUA⟩)
    (cUA : PySem.W.codeIn K cdUA "untold_answer" = true)
    (kUA : PySem.W.keepIn K (.ref fUA) = true)
    (aTA : PySem.W.nsIn K mainGlobals "time_answer" = some (some (.ref fTA)))
    (lTA : K.lookup fTA = some ⟨ocTA, odTA, .func (PySem.W.fnOf "time_answer" "time_answer" (defArgs sTA) (defBody sTA) (defScope sTA) .none kVTA dcTA pmTA anTA cdTA ctTA), slTA⟩)
    (cTA : PySem.W.codeIn K cdTA "time_answer" = true)
    (kTA : PySem.W.keepIn K (.ref fTA) = true)
    (aCount : PySem.W.nsIn K mainGlobals "with_count" = some (some (.ref fCount)))
    (lCount : K.lookup fCount = some ⟨ocCount, odCount, .func (PySem.W.fnOf "with_count" "with_count" (defArgs sCount) (defBody sCount) (defScope sCount) .none kVCount dcCount pmCount anCount cdCount ctCount), slCount⟩)
    (cCount : PySem.W.codeIn K cdCount "with_count" = true)
    (kCount : PySem.W.keepIn K (.ref fCount) = true)
    (aRA : PySem.W.nsIn K mainGlobals "rounds_answer" = some (some (.ref fRA)))
    (lRA : K.lookup fRA = some ⟨ocRA, odRA, .func (PySem.W.fnOf "rounds_answer" "rounds_answer" (defArgs sRA) (defBody sRA) (defScope sRA) .none kVRA dcRA pmRA anRA cdRA ctRA), slRA⟩)
    (cRA : PySem.W.codeIn K cdRA "rounds_answer" = true)
    (kRA : PySem.W.keepIn K (.ref fRA) = true)
    (aSA : PySem.W.nsIn K mainGlobals "system_answer" = some (some (.ref fSA)))
    (lSA : K.lookup fSA = some ⟨ocSA, odSA, .func (PySem.W.fnOf "system_answer" "system_answer" (defArgs sSA) (defBody sSA) (defScope sSA) .none kVSA dcSA pmSA anSA cdSA ctSA), slSA⟩)
    (cSA : PySem.W.codeIn K cdSA "system_answer" = true)
    (kSA : PySem.W.keepIn K (.ref fSA) = true)
    (aPA : PySem.W.nsIn K mainGlobals "pair_answer" = some (some (.ref fPA)))
    (lPA : K.lookup fPA = some ⟨ocPA, odPA, .func (PySem.W.fnOf "pair_answer" "pair_answer" (defArgs sPA) (defBody sPA) (defScope sPA) .none kVPA dcPA pmPA anPA cdPA ctPA), slPA⟩)
    (cPA : PySem.W.codeIn K cdPA "pair_answer" = true)
    (kPA : PySem.W.keepIn K (.ref fPA) = true)
    (aWA : PySem.W.nsIn K mainGlobals "whole_answer" = some (some (.ref fWA)))
    (lWA : K.lookup fWA = some ⟨ocWA, odWA, .func (PySem.W.fnOf "whole_answer" "whole_answer" (defArgs sWA) (defBody sWA) (defScope sWA) .none kVWA dcWA pmWA anWA cdWA ctWA), slWA⟩)
    (cWA : PySem.W.codeIn K cdWA "whole_answer" = true)
    (kWA : PySem.W.keepIn K (.ref fWA) = true)
    (aCA : PySem.W.nsIn K mainGlobals "call_answer" = some (some (.ref fCA)))
    (lCA : K.lookup fCA = some ⟨ocCA, odCA, .func (PySem.W.fnOf "call_answer" "call_answer" (defArgs sCA) (defBody sCA) (defScope sCA) .none kVCA dcCA pmCA anCA cdCA ctCA), slCA⟩)
    (cCA : PySem.W.codeIn K cdCA "call_answer" = true)
    (kCA : PySem.W.keepIn K (.ref fCA) = true)
    (aAns : PySem.W.nsIn K mainGlobals "answers" = some (some (.ref fAns)))
    (lAns : K.lookup fAns = some ⟨ocAns, odAns, .func (PySem.W.fnOf "answers" "answers" (defArgs sAns) (defBody sAns) (defScope sAns) .none kVAns dcAns pmAns anAns cdAns ctAns), slAns⟩)
    (cAns : PySem.W.codeIn K cdAns "answers" = true)
    (kAns : PySem.W.keepIn K (.ref fAns) = true)
    (z_SYSTEM : PySem.W.nsIn K mainGlobals "SYSTEM" = some (some (.int 0 t_SYSTEM)))
    (z_GONE : PySem.W.nsIn K mainGlobals "GONE" = some (some (.int 1 t_GONE)))
    (z_BEFORE : PySem.W.nsIn K mainGlobals "BEFORE" = some (some (.int 2 t_BEFORE)))
    (z_FREE : PySem.W.nsIn K mainGlobals "FREE" = some (some (.int 3 t_FREE)))
    (z_ORDER : PySem.W.nsIn K mainGlobals "ORDER" = some (some (.int 4 t_ORDER)))
    (z_ROUNDS : PySem.W.nsIn K mainGlobals "ROUNDS" = some (some (.int 5 t_ROUNDS)))
    (z_MOST_SYSTEMS : PySem.W.nsIn K mainGlobals "MOST_SYSTEMS" = some (some (.int 10 t_MOST_SYSTEMS)))
    (z_HIGHEST_COST : PySem.W.nsIn K mainGlobals "HIGHEST_COST" = some (some (.int 999 t_HIGHEST_COST)))
    (z_HIGHEST_KIND : PySem.W.nsIn K mainGlobals "HIGHEST_KIND" = some (some (.int 15 t_HIGHEST_KIND)))
    (z_WRONG_SYSTEM : PySem.W.nsIn K mainGlobals "WRONG_SYSTEM" = some (some (.int (-1) t_WRONG_SYSTEM)))
    (z_NOT_THERE : PySem.W.nsIn K mainGlobals "NOT_THERE" = some (some (.int (-2) t_NOT_THERE)))
    (z_WOULD_BE_RING : PySem.W.nsIn K mainGlobals "WOULD_BE_RING" = some (some (.int (-3) t_WOULD_BE_RING)))
    (z_TOLD_ALREADY : PySem.W.nsIn K mainGlobals "TOLD_ALREADY" = some (some (.int (-4) t_TOLD_ALREADY)))
    (z_TOO_MANY : PySem.W.nsIn K mainGlobals "TOO_MANY" = some (some (.int (-5) t_TOO_MANY)))
    (z_UNTOLD : PySem.W.nsIn K mainGlobals "UNTOLD" = some (some (.int 6 t_UNTOLD)))
    (z_WAY : PySem.W.nsIn K mainGlobals "WAY" = some (some (.int 7 t_WAY)))
    (z_TIME : PySem.W.nsIn K mainGlobals "TIME" = some (some (.int 8 t_TIME)))
    (z_APART : PySem.W.nsIn K mainGlobals "APART" = some (some (.int 9 t_APART)))
    (z_SYSTEMS : PySem.W.nsIn K mainGlobals "SYSTEMS" = some (some (.int 10 t_SYSTEMS)))
    (z_NO_ROW : PySem.W.nsIn K mainGlobals "NO_ROW" = some (some (.int (-6) t_NO_ROW)))
    (z_FIRST_BEFORE_SECOND : PySem.W.nsIn K mainGlobals "FIRST_BEFORE_SECOND" = some (some (.int 1 t_FIRST_BEFORE_SECOND)))
    (z_SECOND_BEFORE_FIRST : PySem.W.nsIn K mainGlobals "SECOND_BEFORE_FIRST" = some (some (.int 2 t_SECOND_BEFORE_FIRST)))
    (z_NOT_TOLD : PySem.W.nsIn K mainGlobals "NOT_TOLD" = some (some (.int 0 t_NOT_TOLD)))
    (y_len : PySem.W.nsIn K mainGlobals "len" = some none)
    (y_min : PySem.W.nsIn K mainGlobals "min" = some none)
    (y_any : PySem.W.nsIn K mainGlobals "any" = some none)
    (y_enumerate : PySem.W.nsIn K mainGlobals "enumerate" = some none)
    (y_range : PySem.W.nsIn K mainGlobals "range" = some none)
    (y_sorted : PySem.W.nsIn K mainGlobals "sorted" = some none)
    (y_max : PySem.W.nsIn K mainGlobals "max" = some none)
    (y_list : PySem.W.nsIn K mainGlobals "list" = some none)
    (y_reversed : PySem.W.nsIn K mainGlobals "reversed" = some none) :
    ∃ fd : FuncData, (∀ (s : Shared) (us : List Value), us.length = (["calls"] : List Str).length → BindsTo s fd ⟨us, []⟩ ((["calls"] : List Str).zip us)) ∧ ∀ base : Heap, K.In base → base.Ns mainGlobals mg → FnOk P w K mg base CX0 10 fa fd ["calls"] (spAns K) := by
  have e := hfa.symm.trans (PySem.W.mg_of X G aAns)
  cases e
  have T : Txt K mg CR CS CP := ⟨⟨pgCR, hdCR, poCR, saCR⟩, ⟨pgCS, hdCS, poCS, saCS⟩, ⟨pgCP, hdCP, poCP, saCP⟩, nCR_calls, nCR_place, nCS_cost, nCS_reads, nCS_writes, nCP_numbers_given, nCP_systems, nCP_pairs, PySem.W.mg_of X G aCR, PySem.W.mg_of X G aCS, PySem.W.mg_of X G aCP, PySem.W.mg_none_of X G y_len, PySem.W.mg_none_of X G y_min, PySem.W.mg_none_of X G y_any, PySem.W.mg_none_of X G y_enumerate, PySem.W.mg_none_of X G y_range, PySem.W.mg_none_of X G y_sorted, PySem.W.mg_none_of X G y_max, PySem.W.mg_none_of X G y_list, PySem.W.mg_none_of X G y_reversed, ⟨_, PySem.W.mg_of X G z_SYSTEM⟩, ⟨_, PySem.W.mg_of X G z_GONE⟩, ⟨_, PySem.W.mg_of X G z_BEFORE⟩, ⟨_, PySem.W.mg_of X G z_FREE⟩, ⟨_, PySem.W.mg_of X G z_ORDER⟩, ⟨_, PySem.W.mg_of X G z_ROUNDS⟩, ⟨_, PySem.W.mg_of X G z_MOST_SYSTEMS⟩, ⟨_, PySem.W.mg_of X G z_HIGHEST_COST⟩, ⟨_, PySem.W.mg_of X G z_HIGHEST_KIND⟩, ⟨_, PySem.W.mg_of X G z_WRONG_SYSTEM⟩, ⟨_, PySem.W.mg_of X G z_NOT_THERE⟩, ⟨_, PySem.W.mg_of X G z_WOULD_BE_RING⟩, ⟨_, PySem.W.mg_of X G z_TOLD_ALREADY⟩, ⟨_, PySem.W.mg_of X G z_TOO_MANY⟩, ⟨_, PySem.W.mg_of X G z_UNTOLD⟩, ⟨_, PySem.W.mg_of X G z_WAY⟩, ⟨_, PySem.W.mg_of X G z_TIME⟩, ⟨_, PySem.W.mg_of X G z_APART⟩, ⟨_, PySem.W.mg_of X G z_SYSTEMS⟩, ⟨_, PySem.W.mg_of X G z_NO_ROW⟩, ⟨_, PySem.W.mg_of X G z_FIRST_BEFORE_SECOND⟩, ⟨_, PySem.W.mg_of X G z_SECOND_BEFORE_FIRST⟩, ⟨_, PySem.W.mg_of X G z_NOT_TOLD⟩⟩
  have TT : TxtT K mg CT := ⟨⟨pgCT, hdCT, poCT, saCT⟩, nCT_order, nCT_needs, nCT_begins, nCT_ends, PySem.W.mg_of X G aCT⟩
  have FRInit := fun_mk (st := sRInit) lRInit cRInit kRInit
  have bRInit := FRInit.binds (ps := ["self", "calls"]) fun _ _ _ _ _ _ us hl => match us, hl with | [_, _], _ => rfl
  have FOver := fun_mk (st := sOver) lOver cOver kOver
  have bOver := FOver.binds (ps := ["self"]) fun _ _ _ _ _ _ us hl => match us, hl with | [_], _ => rfl
  have mOver : Meth K CR "is_over" fOver := ⟨aOver, iOver, kOver⟩
  have FNum := fun_mk (st := sNum) lNum cNum kNum
  have bNum := FNum.binds (ps := ["self"]) fun _ _ _ _ _ _ us hl => match us, hl with | [_], _ => rfl
  have mNum : Meth K CR "take_number" fNum := ⟨aNum, iNum, kNum⟩
  have FRow := fun_mk (st := sRow) lRow cRow kRow
  have bRow := FRow.binds (ps := ["self"]) fun _ _ _ _ _ _ us hl => match us, hl with | [_], _ => rfl
  have mRow : Meth K CR "take_row" fRow := ⟨aRow, iRow, kRow⟩
  have FSInit := fun_mk (st := sSInit) lSInit cSInit kSInit
  have bSInit := FSInit.binds (ps := ["self", "cost", "reads", "writes"]) fun _ _ _ _ _ _ us hl => match us, hl with | [_, _, _, _], _ => rfl
  have FTouch := fun_mk (st := sTouch) lTouch cTouch kTouch
  have bTouch := FTouch.binds (ps := ["self", "kind"]) fun _ _ _ _ _ _ us hl => match us, hl with | [_, _], _ => rfl
  have mTouch : Meth K CS "touches" fTouch := ⟨aTouch, iTouch, kTouch⟩
  have FFor := fun_mk (st := sFor) lFor cFor kFor
  have bFor := FFor.binds (ps := ["one", "other", "kind"]) fun _ _ _ _ _ _ us hl => match us, hl with | [_, _, _], _ => rfl
  have gFor := PySem.W.mg_of X G aFor
  have FCK := fun_mk (st := sCK) lCK cCK kCK
  have bCK := FCK.binds (ps := ["one", "other"]) fun _ _ _ _ _ _ us hl => match us, hl with | [_, _], _ => rfl
  have gCK := PySem.W.mg_of X G aCK
  have FClash := fun_mk (st := sClash) lClash cClash kClash
  have bClash := FClash.binds (ps := ["one", "other"]) fun _ _ _ _ _ _ us hl => match us, hl with | [_, _], _ => rfl
  have gClash := PySem.W.mg_of X G aClash
  have FKinds := fun_mk (st := sKinds) lKinds cKinds kKinds
  have bKinds := FKinds.binds (ps := ["kinds"]) fun _ _ _ _ _ _ us hl => match us, hl with | [_], _ => rfl
  have gKinds := PySem.W.mg_of X G aKinds
  have FCost := fun_mk (st := sCost) lCost cCost kCost
  have bCost := FCost.binds (ps := ["cost"]) fun _ _ _ _ _ _ us hl => match us, hl with | [_], _ => rfl
  have gCost := PySem.W.mg_of X G aCost
  have FPInit := fun_mk (st := sPInit) lPInit cPInit kPInit
  have bPInit := FPInit.binds (ps := ["self"]) fun _ _ _ _ _ _ us hl => match us, hl with | [_], _ => rfl
  have FAdd := fun_mk (st := sAdd) lAdd cAdd kAdd
  have bAdd := FAdd.binds (ps := ["self", "cost", "reads", "writes"]) fun _ _ _ _ _ _ us hl => match us, hl with | [_, _, _, _], _ => rfl
  have mAdd : Meth K CP "add_system" fAdd := ⟨aAdd, iAdd, kAdd⟩
  have FRem := fun_mk (st := sRem) lRem cRem kRem
  have bRem := FRem.binds (ps := ["self", "number"]) fun _ _ _ _ _ _ us hl => match us, hl with | [_, _], _ => rfl
  have mRem : Meth K CP "remove_system" fRem := ⟨aRem, iRem, kRem⟩
  have FTell := fun_mk (st := sTell) lTell cTell kTell
  have bTell := FTell.binds (ps := ["self", "first", "second"]) fun _ _ _ _ _ _ us hl => match us, hl with | [_, _, _], _ => rfl
  have mTell : Meth K CP "tell_pair" fTell := ⟨aTell, iTell, kTell⟩
  have FFree := fun_mk (st := sFree) lFree cFree kFree
  have bFree := FFree.binds (ps := ["self", "first", "second"]) fun _ _ _ _ _ _ us hl => match us, hl with | [_, _, _], _ => rfl
  have mFree : Meth K CP "free_pair" fFree := ⟨aFree, iFree, kFree⟩
  have FWay := fun_mk (st := sWay) lWay cWay kWay
  have bWay := FWay.binds (ps := ["self", "first", "second"]) fun _ _ _ _ _ _ us hl => match us, hl with | [_, _, _], _ => rfl
  have mWay : Meth K CP "way" fWay := ⟨aWay, iWay, kWay⟩
  have FApart := fun_mk (st := sApart) lApart cApart kApart
  have bApart := FApart.binds (ps := ["self", "first", "second"]) fun _ _ _ _ _ _ us hl => match us, hl with | [_, _, _], _ => rfl
  have mApart : Meth K CP "apart" fApart := ⟨aApart, iApart, kApart⟩
  have FCB := fun_mk (st := sCB) lCB cCB kCB
  have bCB := FCB.binds (ps := ["self", "first", "second"]) fun _ _ _ _ _ _ us hl => match us, hl with | [_, _, _], _ => rfl
  have mCB : Meth K CP "comes_before" fCB := ⟨aCB, iCB, kCB⟩
  have FTO := fun_mk (st := sTO) lTO cTO kTO
  have bTO := FTO.binds (ps := ["self", "first", "second"]) fun _ _ _ _ _ _ us hl => match us, hl with | [_, _, _], _ => rfl
  have mTO : Meth K CP "told_order" fTO := ⟨aTO, iTO, kTO⟩
  have FStp := fun_mk (st := sStp) lStp cStp kStp
  have bStp := FStp.binds (ps := ["self", "last"]) fun _ _ _ _ _ _ us hl => match us, hl with | [_, _], _ => rfl
  have mStp : Meth K CP "steps_to" fStp := ⟨aStp, iStp, kStp⟩
  have FSR := fun_mk (st := sSR) lSR cSR kSR
  have bSR := FSR.binds (ps := ["self", "first", "steps"]) fun _ _ _ _ _ _ us hl => match us, hl with | [_, _, _], _ => rfl
  have mSR : Meth K CP "shortest_row" fSR := ⟨aSR, iSR, kSR⟩
  have FIU := fun_mk (st := sIU) lIU cIU kIU
  have bIU := FIU.binds (ps := ["self", "one", "other"]) fun _ _ _ _ _ _ us hl => match us, hl with | [_, _, _], _ => rfl
  have mIU : Meth K CP "is_untold" fIU := ⟨aIU, iIU, kIU⟩
  have FUP := fun_mk (st := sUP) lUP cUP kUP
  have bUP := FUP.binds (ps := ["self"]) fun _ _ _ _ _ _ us hl => match us, hl with | [_], _ => rfl
  have mUP : Meth K CP "untold_pairs" fUP := ⟨aUP, iUP, kUP⟩
  have FNext := fun_mk (st := sNext) lNext cNext kNext
  have bNext := FNext.binds (ps := ["self", "placed"]) fun _ _ _ _ _ _ us hl => match us, hl with | [_, _], _ => rfl
  have mNext : Meth K CP "next_in_order" fNext := ⟨aNext, iNext, kNext⟩
  have FOrd := fun_mk (st := sOrd) lOrd cOrd kOrd
  have bOrd := FOrd.binds (ps := ["self"]) fun _ _ _ _ _ _ us hl => match us, hl with | [_], _ => rfl
  have mOrd : Meth K CP "in_order" fOrd := ⟨aOrd, iOrd, kOrd⟩
  have FMust := fun_mk (st := sMust) lMust cMust kMust
  have bMust := FMust.binds (ps := ["self", "earlier", "later"]) fun _ _ _ _ _ _ us hl => match us, hl with | [_, _, _], _ => rfl
  have mMust : Meth K CP "must_be_over" fMust := ⟨aMust, iMust, kMust⟩
  have FFirst := fun_mk (st := sFirst) lFirst cFirst kFirst
  have bFirst := FFirst.binds (ps := ["self", "rounds", "number"]) fun _ _ _ _ _ _ us hl => match us, hl with | [_, _, _], _ => rfl
  have mFirst : Meth K CP "first_round" fFirst := ⟨aFirst, iFirst, kFirst⟩
  have FRds := fun_mk (st := sRds) lRds cRds kRds
  have bRds := FRds.binds (ps := ["self"]) fun _ _ _ _ _ _ us hl => match us, hl with | [_], _ => rfl
  have mRds : Meth K CP "in_rounds" fRds := ⟨aRds, iRds, kRds⟩
  have FTInit := fun_mk (st := sTInit) lTInit cTInit kTInit
  have bTInit := FTInit.binds (ps := ["self"]) fun _ _ _ _ _ _ us hl => match us, hl with | [_], _ => rfl
  have FEnter := fun_mk (st := sEnter) lEnter cEnter kEnter
  have bEnter := FEnter.binds (ps := ["self", "number", "needs", "cost"]) fun _ _ _ _ _ _ us hl => match us, hl with | [_, _, _, _], _ => rfl
  have mEnter : Meth K CT "enter" fEnter := ⟨aEnter, iEnter, kEnter⟩
  have FTick := fun_mk (st := sTick) lTick cTick kTick
  have bTick := FTick.binds (ps := ["self"]) fun _ _ _ _ _ _ us hl => match us, hl with | [_], _ => rfl
  have mTick : Meth K CT "tick_length" fTick := ⟨aTick, iTick, kTick⟩
  have FAt := fun_mk (st := sAt) lAt cAt kAt
  have bAt := FAt.binds (ps := ["self", "numbers", "moment"]) fun _ _ _ _ _ _ us hl => match us, hl with | [_, _, _], _ => rfl
  have mAt : Meth K CT "over_at" fAt := ⟨aAt, iAt, kAt⟩
  have FChain := fun_mk (st := sChain) lChain cChain kChain
  have bChain := FChain.binds (ps := ["self"]) fun _ _ _ _ _ _ us hl => match us, hl with | [_], _ => rfl
  have mChain : Meth K CT "chain" fChain := ⟨aChain, iChain, kChain⟩
  have FTimes := fun_mk (st := sTimes) lTimes cTimes kTimes
  have bTimes := FTimes.binds (ps := ["plan"]) fun _ _ _ _ _ _ us hl => match us, hl with | [_], _ => rfl
  have gTimes := PySem.W.mg_of X G aTimes
  have FUA := fun_mk (st := sUA) lUA cUA kUA
  have bUA := FUA.binds (ps := ["pairs"]) fun _ _ _ _ _ _ us hl => match us, hl with | [_], _ => rfl
  have gUA := PySem.W.mg_of X G aUA
  have FTA := fun_mk (st := sTA) lTA cTA kTA
  have bTA := FTA.binds (ps := ["times"]) fun _ _ _ _ _ _ us hl => match us, hl with | [_], _ => rfl
  have gTA := PySem.W.mg_of X G aTA
  have FCount := fun_mk (st := sCount) lCount cCount kCount
  have bCount := FCount.binds (ps := ["numbers"]) fun _ _ _ _ _ _ us hl => match us, hl with | [_], _ => rfl
  have gCount := PySem.W.mg_of X G aCount
  have FRA := fun_mk (st := sRA) lRA cRA kRA
  have bRA := FRA.binds (ps := ["rounds"]) fun _ _ _ _ _ _ us hl => match us, hl with | [_], _ => rfl
  have gRA := PySem.W.mg_of X G aRA
  have FSA := fun_mk (st := sSA) lSA cSA kSA
  have bSA := FSA.binds (ps := ["plan", "reader"]) fun _ _ _ _ _ _ us hl => match us, hl with | [_, _], _ => rfl
  have gSA := PySem.W.mg_of X G aSA
  have FPA := fun_mk (st := sPA) lPA cPA kPA
  have bPA := FPA.binds (ps := ["plan", "reader", "call"]) fun _ _ _ _ _ _ us hl => match us, hl with | [_, _, _], _ => rfl
  have gPA := PySem.W.mg_of X G aPA
  have FWA := fun_mk (st := sWA) lWA cWA kWA
  have bWA := FWA.binds (ps := ["plan", "call"]) fun _ _ _ _ _ _ us hl => match us, hl with | [_, _], _ => rfl
  have gWA := PySem.W.mg_of X G aWA
  have FCA := fun_mk (st := sCA) lCA cCA kCA
  have bCA := FCA.binds (ps := ["plan", "reader"]) fun _ _ _ _ _ _ us hl => match us, hl with | [_, _], _ => rfl
  have gCA := PySem.W.mg_of X G aCA
  have FAns := fun_mk (st := sAns) lAns cAns kAns
  have gAns := PySem.W.mg_of X G aAns
  refine ⟨PySem.W.fnOf "answers" "answers" (defArgs sAns) (defBody sAns) (defScope sAns) .none kVAns dcAns pmAns anAns cdAns ctAns, fun s us hu => match us, hu with | [_], _ => .of_eq rfl, fun base _ _ => ?_⟩
  have GNum := ok_num (base := base) (P := P) (w := w) FNum T
  have GOver := ok_over (base := base) (P := P) (w := w) FOver T
  have GRInit := ok_rinit (base := base) (P := P) (w := w) FRInit T
  have GRow := ok_row (base := base) (P := P) (w := w) FRow T GNum bNum mNum
  have GSInit := ok_sinit (base := base) (P := P) (w := w) FSInit T
  have GTouch := ok_touch (base := base) (P := P) (w := w) FTouch T
  have GFor := ok_for (base := base) (P := P) (w := w) FFor T GTouch bTouch mTouch
  have GCK := ok_ck (base := base) (P := P) (w := w) FCK T GFor bFor gFor kFor
  have GClash := ok_clash (base := base) (P := P) (w := w) FClash T GCK bCK gCK kCK
  have GKinds := ok_kinds (base := base) (P := P) (w := w) FKinds T
  have GCost := ok_cost (base := base) (P := P) (w := w) FCost T
  have GPInit := ok_pinit (base := base) (P := P) (w := w) FPInit T
  have GAdd := ok_add (base := base) (P := P) (w := w) FAdd T GCost bCost gCost kCost GKinds bKinds gKinds kKinds ⟨mkCS, aSInit, iSInit, kcCS⟩ GSInit bSInit
  have GRem := ok_rem (base := base) (P := P) (w := w) FRem T
  have GStp := ok_stp (base := base) (P := P) (w := w) FStp T
  have GCB := ok_cb (base := base) (P := P) (w := w) FCB T GStp bStp mStp
  have GTell := ok_tell (base := base) (P := P) (w := w) FTell T GCB bCB mCB
  have GFree := ok_free (base := base) (P := P) (w := w) FFree T
  have GNext := ok_next (base := base) (P := P) (w := w) FNext T
  have GOrd := ok_ord (base := base) (P := P) (w := w) FOrd T GNext bNext mNext
  have GMust := ok_must (base := base) (P := P) (w := w) FMust T GCB bCB mCB GClash bClash gClash kClash
  have GFirst := ok_first (base := base) (P := P) (w := w) FFirst T GMust bMust mMust
  have GRds := ok_rds (base := base) (P := P) (w := w) FRds T GOrd bOrd mOrd GFirst bFirst mFirst
  have GCount := ok_count (base := base) (P := P) (w := w) FCount T
  have GSR := ok_sr (base := base) (P := P) (w := w) FSR T
  have GWay := ok_way (base := base) (P := P) (w := w) FWay T GStp bStp mStp GSR bSR mSR GCount bCount gCount kCount
  have GTO := ok_to (base := base) (P := P) (w := w) FTO T GCB bCB mCB
  have GApart := ok_apart (base := base) (P := P) (w := w) FApart T GCK bCK gCK kCK GTO bTO mTO GCount bCount gCount kCount
  have GIU := ok_iu (base := base) (P := P) (w := w) FIU T GClash bClash gClash kClash GTO bTO mTO
  have GUP := ok_up (base := base) (P := P) (w := w) FUP T GIU bIU mIU
  have GUA := ok_ua (base := base) (P := P) (w := w) FUA T
  have GTInit := ok_tinit (base := base) (P := P) (w := w) FTInit TT
  have GEnter := ok_enter (base := base) (P := P) (w := w) FEnter T TT
  have GTick := ok_tick (base := base) (P := P) (w := w) FTick T TT
  have GAt := ok_at (base := base) (P := P) (w := w) FAt TT
  have GChain := ok_chain (base := base) (P := P) (w := w) FChain T TT GTick bTick mTick GAt bAt mAt
  have GTimes := ok_times (base := base) (P := P) (w := w) FTimes T TT ⟨mkCT, aTInit, iTInit, kcCT⟩ GTInit bTInit GOrd bOrd mOrd GMust bMust mMust GEnter bEnter mEnter
  have GTA := ok_ta (base := base) (P := P) (w := w) FTA TT GTick bTick mTick GChain bChain mChain GCount bCount gCount kCount
  have GRA := ok_ra (base := base) (P := P) (w := w) FRA T GCount bCount gCount kCount
  have GSA := ok_sa (base := base) (P := P) (w := w) FSA T GNum bNum mNum GRow bRow mRow GAdd bAdd mAdd
  have GPA := ok_pa (base := base) (P := P) (w := w) FPA T GNum bNum mNum GTell bTell mTell GFree bFree mFree GWay bWay mWay GApart bApart mApart
  have GWA := ok_wa (base := base) (P := P) (w := w) FWA T ⟨_, _, GCount, bCount, gCount, kCount⟩ ⟨_, _, GOrd, bOrd, mOrd⟩ ⟨_, _, GRA, bRA, gRA, kRA⟩ ⟨_, _, GRds, bRds, mRds⟩ ⟨_, _, GUA, bUA, gUA, kUA⟩ ⟨_, _, GUP, bUP, mUP⟩ ⟨_, _, GTA, bTA, gTA, kTA⟩ ⟨_, _, GTimes, bTimes, gTimes, kTimes⟩
  have GCA := ok_ca (base := base) (P := P) (w := w) FCA T ⟨_, _, GNum, bNum, mNum⟩ ⟨_, _, GSA, bSA, gSA, kSA⟩ ⟨_, _, GRem, bRem, mRem⟩ ⟨_, _, GPA, bPA, gPA, kPA⟩ ⟨_, _, GWA, bWA, gWA, kWA⟩
  exact ok_ans FAns T ⟨_, _, GPInit, bPInit, ⟨mkCP, aPInit, iPInit, kcCP⟩⟩ ⟨_, _, GRInit, bRInit, ⟨mkCR, aRInit, iRInit, kcCR⟩⟩ ⟨_, _, GOver, bOver, mOver⟩ ⟨_, _, GCount, bCount, gCount, kCount⟩ ⟨_, _, GCA, bCA, gCA, kCA⟩
end Sr
open PySem PySem.W PyProof.Rows
set_option maxRecDepth 100000 in
set_option maxHeartbeats 0 in
theorem PySem.Challenge.cw_systemrounds_s01_answers_holds : PySem.Challenge.rw_systemrounds_s01_answers.Holds := by
  w_on; k_headS; (case hw => exact ⟨[.list [.int 10]], by decide +kernel, by decide +kernel⟩)
  k_fillS
  refine L2.walk_specK (r := PySem.Challenge.rw_systemrounds_s01_answers) (k := 10) (CX := L2.CX0) (ps := ["calls"]) (sp := Sr.spAns) (by decide +kernel) rfl rfl ⟨rfl, by decide, by decide⟩ (fun w h Y => PySem.W.kIn_of Y) ?F ?S (fun _ _ _ _ z => z)
  case F =>
    intro w mg fa h Y KX G hmg
    refine' Sr.all_mk KX G hmg ?aCR ?pgCR ?hdCR ?poCR ?saCR ?mkCR ?kcCR ?nCR_calls ?nCR_place ?aCS ?pgCS ?hdCS ?poCS ?saCS ?mkCS ?kcCS ?nCS_cost ?nCS_reads ?nCS_writes ?aCP ?pgCP ?hdCP ?poCP ?saCP ?mkCP ?kcCP ?nCP_numbers_given ?nCP_systems ?nCP_pairs ?aCT ?pgCT ?hdCT ?poCT ?saCT ?mkCT ?kcCT ?nCT_order ?nCT_needs ?nCT_begins ?nCT_ends ?aRInit ?iRInit ?lRInit ?cRInit ?kRInit ?aOver ?iOver ?lOver ?cOver ?kOver ?aNum ?iNum ?lNum ?cNum ?kNum ?aRow ?iRow ?lRow ?cRow ?kRow ?aSInit ?iSInit ?lSInit ?cSInit ?kSInit ?aTouch ?iTouch ?lTouch ?cTouch ?kTouch ?aFor ?lFor ?cFor ?kFor ?aCK ?lCK ?cCK ?kCK ?aClash ?lClash ?cClash ?kClash ?aKinds ?lKinds ?cKinds ?kKinds ?aCost ?lCost ?cCost ?kCost ?aPInit ?iPInit ?lPInit ?cPInit ?kPInit ?aAdd ?iAdd ?lAdd ?cAdd ?kAdd ?aRem ?iRem ?lRem ?cRem ?kRem ?aTell ?iTell ?lTell ?cTell ?kTell ?aFree ?iFree ?lFree ?cFree ?kFree ?aWay ?iWay ?lWay ?cWay ?kWay ?aApart ?iApart ?lApart ?cApart ?kApart ?aCB ?iCB ?lCB ?cCB ?kCB ?aTO ?iTO ?lTO ?cTO ?kTO ?aStp ?iStp ?lStp ?cStp ?kStp ?aSR ?iSR ?lSR ?cSR ?kSR ?aIU ?iIU ?lIU ?cIU ?kIU ?aUP ?iUP ?lUP ?cUP ?kUP ?aNext ?iNext ?lNext ?cNext ?kNext ?aOrd ?iOrd ?lOrd ?cOrd ?kOrd ?aMust ?iMust ?lMust ?cMust ?kMust ?aFirst ?iFirst ?lFirst ?cFirst ?kFirst ?aRds ?iRds ?lRds ?cRds ?kRds ?aTInit ?iTInit ?lTInit ?cTInit ?kTInit ?aEnter ?iEnter ?lEnter ?cEnter ?kEnter ?aTick ?iTick ?lTick ?cTick ?kTick ?aAt ?iAt ?lAt ?cAt ?kAt ?aChain ?iChain ?lChain ?cChain ?kChain ?aTimes ?lTimes ?cTimes ?kTimes ?aUA ?lUA ?cUA ?kUA ?aTA ?lTA ?cTA ?kTA ?aCount ?lCount ?cCount ?kCount ?aRA ?lRA ?cRA ?kRA ?aSA ?lSA ?cSA ?kSA ?aPA ?lPA ?cPA ?kPA ?aWA ?lWA ?cWA ?kWA ?aCA ?lCA ?cCA ?kCA ?aAns ?lAns ?cAns ?kAns ?z_SYSTEM ?z_GONE ?z_BEFORE ?z_FREE ?z_ORDER ?z_ROUNDS ?z_MOST_SYSTEMS ?z_HIGHEST_COST ?z_HIGHEST_KIND ?z_WRONG_SYSTEM ?z_NOT_THERE ?z_WOULD_BE_RING ?z_TOLD_ALREADY ?z_TOO_MANY ?z_UNTOLD ?z_WAY ?z_TIME ?z_APART ?z_SYSTEMS ?z_NO_ROW ?z_FIRST_BEFORE_SECOND ?z_SECOND_BEFORE_FIRST ?z_NOT_TOLD ?y_len ?y_min ?y_any ?y_enumerate ?y_range ?y_sorted ?y_max ?y_list ?y_reversed
    (case aCR => k_is)
    (case pgCR => k_is)
    (case hdCR => k_is)
    (case poCR => k_is)
    (case saCR => k_is)
    (case mkCR => k_is)
    (case kcCR => k_is)
    (case nCR_calls => k_is)
    (case nCR_place => k_is)
    (case aCS => k_is)
    (case pgCS => k_is)
    (case hdCS => k_is)
    (case poCS => k_is)
    (case saCS => k_is)
    (case mkCS => k_is)
    (case kcCS => k_is)
    (case nCS_cost => k_is)
    (case nCS_reads => k_is)
    (case nCS_writes => k_is)
    (case aCP => k_is)
    (case pgCP => k_is)
    (case hdCP => k_is)
    (case poCP => k_is)
    (case saCP => k_is)
    (case mkCP => k_is)
    (case kcCP => k_is)
    (case nCP_numbers_given => k_is)
    (case nCP_systems => k_is)
    (case nCP_pairs => k_is)
    (case aCT => k_is)
    (case pgCT => k_is)
    (case hdCT => k_is)
    (case poCT => k_is)
    (case saCT => k_is)
    (case mkCT => k_is)
    (case kcCT => k_is)
    (case nCT_order => k_is)
    (case nCT_needs => k_is)
    (case nCT_begins => k_is)
    (case nCT_ends => k_is)
    (case aRInit => k_is)
    (case iRInit => k_is)
    (case lRInit => k_is)
    (case cRInit => k_is)
    (case kRInit => k_is)
    (case aOver => k_is)
    (case iOver => k_is)
    (case lOver => k_is)
    (case cOver => k_is)
    (case kOver => k_is)
    (case aNum => k_is)
    (case iNum => k_is)
    (case lNum => k_is)
    (case cNum => k_is)
    (case kNum => k_is)
    (case aRow => k_is)
    (case iRow => k_is)
    (case lRow => k_is)
    (case cRow => k_is)
    (case kRow => k_is)
    (case aSInit => k_is)
    (case iSInit => k_is)
    (case lSInit => k_is)
    (case cSInit => k_is)
    (case kSInit => k_is)
    (case aTouch => k_is)
    (case iTouch => k_is)
    (case lTouch => k_is)
    (case cTouch => k_is)
    (case kTouch => k_is)
    (case aFor => k_is)
    (case lFor => k_is)
    (case cFor => k_is)
    (case kFor => k_is)
    (case aCK => k_is)
    (case lCK => k_is)
    (case cCK => k_is)
    (case kCK => k_is)
    (case aClash => k_is)
    (case lClash => k_is)
    (case cClash => k_is)
    (case kClash => k_is)
    (case aKinds => k_is)
    (case lKinds => k_is)
    (case cKinds => k_is)
    (case kKinds => k_is)
    (case aCost => k_is)
    (case lCost => k_is)
    (case cCost => k_is)
    (case kCost => k_is)
    (case aPInit => k_is)
    (case iPInit => k_is)
    (case lPInit => k_is)
    (case cPInit => k_is)
    (case kPInit => k_is)
    (case aAdd => k_is)
    (case iAdd => k_is)
    (case lAdd => k_is)
    (case cAdd => k_is)
    (case kAdd => k_is)
    (case aRem => k_is)
    (case iRem => k_is)
    (case lRem => k_is)
    (case cRem => k_is)
    (case kRem => k_is)
    (case aTell => k_is)
    (case iTell => k_is)
    (case lTell => k_is)
    (case cTell => k_is)
    (case kTell => k_is)
    (case aFree => k_is)
    (case iFree => k_is)
    (case lFree => k_is)
    (case cFree => k_is)
    (case kFree => k_is)
    (case aWay => k_is)
    (case iWay => k_is)
    (case lWay => k_is)
    (case cWay => k_is)
    (case kWay => k_is)
    (case aApart => k_is)
    (case iApart => k_is)
    (case lApart => k_is)
    (case cApart => k_is)
    (case kApart => k_is)
    (case aCB => k_is)
    (case iCB => k_is)
    (case lCB => k_is)
    (case cCB => k_is)
    (case kCB => k_is)
    (case aTO => k_is)
    (case iTO => k_is)
    (case lTO => k_is)
    (case cTO => k_is)
    (case kTO => k_is)
    (case aStp => k_is)
    (case iStp => k_is)
    (case lStp => k_is)
    (case cStp => k_is)
    (case kStp => k_is)
    (case aSR => k_is)
    (case iSR => k_is)
    (case lSR => k_is)
    (case cSR => k_is)
    (case kSR => k_is)
    (case aIU => k_is)
    (case iIU => k_is)
    (case lIU => k_is)
    (case cIU => k_is)
    (case kIU => k_is)
    (case aUP => k_is)
    (case iUP => k_is)
    (case lUP => k_is)
    (case cUP => k_is)
    (case kUP => k_is)
    (case aNext => k_is)
    (case iNext => k_is)
    (case lNext => k_is)
    (case cNext => k_is)
    (case kNext => k_is)
    (case aOrd => k_is)
    (case iOrd => k_is)
    (case lOrd => k_is)
    (case cOrd => k_is)
    (case kOrd => k_is)
    (case aMust => k_is)
    (case iMust => k_is)
    (case lMust => k_is)
    (case cMust => k_is)
    (case kMust => k_is)
    (case aFirst => k_is)
    (case iFirst => k_is)
    (case lFirst => k_is)
    (case cFirst => k_is)
    (case kFirst => k_is)
    (case aRds => k_is)
    (case iRds => k_is)
    (case lRds => k_is)
    (case cRds => k_is)
    (case kRds => k_is)
    (case aTInit => k_is)
    (case iTInit => k_is)
    (case lTInit => k_is)
    (case cTInit => k_is)
    (case kTInit => k_is)
    (case aEnter => k_is)
    (case iEnter => k_is)
    (case lEnter => k_is)
    (case cEnter => k_is)
    (case kEnter => k_is)
    (case aTick => k_is)
    (case iTick => k_is)
    (case lTick => k_is)
    (case cTick => k_is)
    (case kTick => k_is)
    (case aAt => k_is)
    (case iAt => k_is)
    (case lAt => k_is)
    (case cAt => k_is)
    (case kAt => k_is)
    (case aChain => k_is)
    (case iChain => k_is)
    (case lChain => k_is)
    (case cChain => k_is)
    (case kChain => k_is)
    (case aTimes => k_is)
    (case lTimes => k_is)
    (case cTimes => k_is)
    (case kTimes => k_is)
    (case aUA => k_is)
    (case lUA => k_is)
    (case cUA => k_is)
    (case kUA => k_is)
    (case aTA => k_is)
    (case lTA => k_is)
    (case cTA => k_is)
    (case kTA => k_is)
    (case aCount => k_is)
    (case lCount => k_is)
    (case cCount => k_is)
    (case kCount => k_is)
    (case aRA => k_is)
    (case lRA => k_is)
    (case cRA => k_is)
    (case kRA => k_is)
    (case aSA => k_is)
    (case lSA => k_is)
    (case cSA => k_is)
    (case kSA => k_is)
    (case aPA => k_is)
    (case lPA => k_is)
    (case cPA => k_is)
    (case kPA => k_is)
    (case aWA => k_is)
    (case lWA => k_is)
    (case cWA => k_is)
    (case kWA => k_is)
    (case aCA => k_is)
    (case lCA => k_is)
    (case cCA => k_is)
    (case kCA => k_is)
    (case aAns => k_is)
    (case lAns => k_is)
    (case cAns => k_is)
    (case kAns => k_is)
    (case z_SYSTEM => k_is)
    (case z_GONE => k_is)
    (case z_BEFORE => k_is)
    (case z_FREE => k_is)
    (case z_ORDER => k_is)
    (case z_ROUNDS => k_is)
    (case z_MOST_SYSTEMS => k_is)
    (case z_HIGHEST_COST => k_is)
    (case z_HIGHEST_KIND => k_is)
    (case z_WRONG_SYSTEM => k_is)
    (case z_NOT_THERE => k_is)
    (case z_WOULD_BE_RING => k_is)
    (case z_TOLD_ALREADY => k_is)
    (case z_TOO_MANY => k_is)
    (case z_UNTOLD => k_is)
    (case z_WAY => k_is)
    (case z_TIME => k_is)
    (case z_APART => k_is)
    (case z_SYSTEMS => k_is)
    (case z_NO_ROW => k_is)
    (case z_FIRST_BEFORE_SECOND => k_is)
    (case z_SECOND_BEFORE_FIRST => k_is)
    (case z_NOT_TOLD => k_is)
    (case y_len => k_is)
    (case y_min => k_is)
    (case y_any => k_is)
    (case y_enumerate => k_is)
    (case y_range => k_is)
    (case y_sorted => k_is)
    (case y_max => k_is)
    (case y_list => k_is)
    (case y_reversed => k_is)
  case S =>
    intro K H xs a hO hwi hask hx
    cases hx with
    | cons h1 h2 =>
      cases h2
      cases h1 with
      | lst hs ha =>
        have e := L2.ints_dw a.1 _ ha
        subst e
        have q : ((Codec.inLen 0 1800 a.1 && a.1.all (Codec.inInt 0 4294967295)) && true) = true := hwi
        rw [Bool.and_eq_true, Bool.and_eq_true] at q
        refine ⟨_, a.1, rfl, hs, (Codec.inNat_iff.mp q.1.1).2, fun x hx => ?_, hask, fun H' p hp => .lst (L2.SqL.of hp) (L2.dw_ints _)⟩
        exact Codec.inInt_iff.mp (List.all_eq_true.mp q.1.2 x hx)
#print axioms PySem.Challenge.cw_systemrounds_s01_answers_holds
