import PyProof.Rows.All
import Wide.All
import OpenK.AllK
import Wide.FinOn
import Open.SpecLaws
import KE.OsGo
import HandS.ForSpec
import HandS.Comp
import HandS.Conv
import HandS.Deep
import HandS.Evl
import HandS.CallLocal
import HandS.Iter
import HandS.Walk
import HandS.SortInts
import HandS.Dict
import PySem.Challenge.RW_whatmustbe_s01_answers
set_option Elab.async false
set_option linter.all false
set_option maxRecDepth 100000
set_option maxHeartbeats 2000000
/-! The specification's side, without the library: what spread reaches, what is above a direction and a basic one, what is bad, what a node's type holds, when a node is fine. -/
namespace Wm
open Gq03

/-! ### Going along a step -/
inductive Path {A : Type} (f : A → List A) : A → A → Prop
  | refl (a : A) : Path f a a
  | step {a b c : A} : Path f a b → c ∈ f b → Path f a c
theorem Path.trans {A : Type} {f : A → List A} {a b c : A} (h : Path f a b) (k : Path f b c) : Path f a c := by
  induction k with
  | refl => exact h
  | step _ m ih => exact .step ih m
theorem Path.one {A : Type} {f : A → List A} {a b : A} (h : b ∈ f a) : Path f a b := .step (.refl a) h
theorem Path.head {A : Type} {f : A → List A} {a b c : A} (h : b ∈ f a) (k : Path f b c) : Path f a c := (Path.one h).trans k
theorem Path.closed {A : Type} {f : A → List A} {P : A → Prop} {a b : A} (h : Path f a b) (pa : P a) (hs : ∀ x y, P x → y ∈ f x → P y) : P b := by
  induction h with
  | refl => exact pa
  | step _ m ih => exact hs _ _ ih m
theorem Path.mono {A : Type} {f g : A → List A} {a b : A} (h : Path f a b) (hs : ∀ x y, y ∈ f x → y ∈ g x) : Path g a b := by
  induction h with
  | refl => exact .refl _
  | step _ m ih => exact .step ih (hs _ _ m)

/-! ### spread -/
def add {A : Type} [DecidableEq A] (m ys : List A) : List A := ys.foldl (fun m y => if m.contains y = true then m else m ++ [y]) m
def rnd {A : Type} [DecidableEq A] (f : A → List A) (m xs : List A) : List A := xs.foldl (fun m x => add m (f x)) m
theorem add_ext {A : Type} [DecidableEq A] : ∀ (ys m : List A), ∃ t, add m ys = m ++ t ∧ ∀ z ∈ t, z ∉ m
  | [], m => ⟨[], by simp [add], by simp⟩
  | y :: ys, m => by
    show ∃ t, add (if m.contains y = true then m else m ++ [y]) ys = m ++ t ∧ _
    split
    · exact add_ext ys m
    · rename_i h
      obtain ⟨t, e, q⟩ := add_ext ys (m ++ [y])
      refine ⟨[y] ++ t, by rw [e, List.append_assoc], fun z hz => ?_⟩
      rcases List.mem_append.mp hz with a | a
      · cases List.mem_singleton.mp a
        exact fun w => h (List.contains_iff_mem.mpr w)
      · exact fun w => q z a (List.mem_append.mpr (.inl w))
theorem mem_add {A : Type} [DecidableEq A] : ∀ (ys m : List A) (z : A), z ∈ add m ys ↔ z ∈ m ∨ z ∈ ys
  | [], m, z => by simp [add]
  | y :: ys, m, z => by
    show z ∈ add (if m.contains y = true then m else m ++ [y]) ys ↔ _
    rw [mem_add ys]
    split
    · rename_i h
      have h' : y ∈ m := List.contains_iff_mem.mp h
      rw [List.mem_cons]
      constructor
      · rintro (a | a)
        · exact .inl a
        · exact .inr (.inr a)
      · rintro (a | a | a)
        · exact .inl a
        · subst a; exact .inl h'
        · exact .inr a
    · rw [List.mem_append, List.mem_singleton, List.mem_cons, or_assoc]
theorem rnd_ext {A : Type} [DecidableEq A] (f : A → List A) : ∀ (xs m : List A), ∃ t, rnd f m xs = m ++ t ∧ ∀ z ∈ t, z ∉ m
  | [], m => ⟨[], by simp [rnd], by simp⟩
  | x :: xs, m => by
    show ∃ t, rnd f (add m (f x)) xs = m ++ t ∧ _
    obtain ⟨t, e, q⟩ := add_ext (f x) m
    obtain ⟨u, e2, q2⟩ := rnd_ext f xs (add m (f x))
    refine ⟨t ++ u, by rw [e2, e, List.append_assoc], fun z hz => ?_⟩
    rcases List.mem_append.mp hz with a | a
    · exact q z a
    · exact fun w => q2 z a (by rw [e]; exact List.mem_append.mpr (.inl w))
theorem mem_rnd {A : Type} [DecidableEq A] (f : A → List A) : ∀ (xs m : List A) (z : A), z ∈ rnd f m xs ↔ z ∈ m ∨ ∃ x ∈ xs, z ∈ f x
  | [], m, z => by simp [rnd]
  | x :: xs, m, z => by
    show z ∈ rnd f (add m (f x)) xs ↔ _
    rw [mem_rnd f xs, mem_add]
    simp only [List.mem_cons, exists_eq_or_imp, or_assoc]
theorem spread_succ {A : Type} [DecidableEq A] (f : A → List A) (n : Nat) (l : List A) : spread f (n + 1) l = if (rnd f l l).length = l.length then l else spread f n (rnd f l l) := rfl
theorem sub_spread {A : Type} [DecidableEq A] (f : A → List A) : ∀ (n : Nat) (l : List A) (z : A), z ∈ l → z ∈ spread f n l
  | 0, _, _, h => h
  | n + 1, l, z, h => by
    rw [spread_succ]
    split
    · exact h
    · exact sub_spread f n _ z ((mem_rnd f l l z).mpr (.inl h))
theorem spread_sound {A : Type} [DecidableEq A] (f : A → List A) : ∀ (n : Nat) (l : List A) (z : A), z ∈ spread f n l → ∃ a ∈ l, Path f a z
  | 0, _, z, h => ⟨z, h, .refl z⟩
  | n + 1, l, z, h => by
    rw [spread_succ] at h
    split at h
    · exact ⟨z, h, .refl z⟩
    · obtain ⟨a, ha, p⟩ := spread_sound f n _ z h
      rcases (mem_rnd f l l a).mp ha with q | ⟨x, hx, q⟩
      · exact ⟨a, q, p⟩
      · exact ⟨x, hx, .head q p⟩
theorem filter_lt {A : Type} {p q : A → Bool} (hpq : ∀ u, p u = true → q u = true) : ∀ (U : List A) (z : A), z ∈ U → q z = true → p z = false → (U.filter p).length < (U.filter q).length
  | u :: U, z, hz, hq, hp => by
    have le : (U.filter p).length ≤ (U.filter q).length := by
      clear hz
      induction U with
      | nil => simp
      | cons v U ih =>
        rw [List.filter_cons, List.filter_cons]
        by_cases c : p v = true
        · rw [if_pos c, if_pos (hpq v c)]; simpa using ih
        · rw [if_neg c]
          split
          · simp only [List.length_cons]; omega
          · exact ih
    rw [List.filter_cons, List.filter_cons]
    rcases List.mem_cons.mp hz with e | hz
    · subst e
      rw [if_neg (by rw [hp]; decide), if_pos hq]
      simp only [List.length_cons]; omega
    · have ih := filter_lt hpq U z hz hq hp
      by_cases c : p u = true
      · rw [if_pos c, if_pos (hpq u c)]; simpa using ih
      · rw [if_neg c]
        split
        · simp only [List.length_cons]; omega
        · exact ih
def miss {A : Type} [DecidableEq A] (U l : List A) : Nat := (U.filter fun u => !l.contains u).length
theorem miss_le {A : Type} [DecidableEq A] (U l : List A) : miss U l ≤ U.length := List.length_filter_le _ _
theorem miss_lt {A : Type} [DecidableEq A] {U l k : List A} (h : ∀ x ∈ l, x ∈ k) {z : A} (zU : z ∈ U) (zk : z ∈ k) (zl : z ∉ l) : miss U k < miss U l := by
  refine filter_lt (fun u hu => ?_) U z zU ?_ ?_
  · have hu' : k.contains u = false := by simpa using hu
    have : u ∉ l := fun q => by
      have := List.contains_iff_mem.mpr (h u q)
      rw [hu'] at this; cases this
    simpa using this
  · simpa using zl
  · simpa using zk
theorem spread_closed {A : Type} [DecidableEq A] (f : A → List A) {U : List A} (hU : ∀ x ∈ U, ∀ y ∈ f x, y ∈ U) : ∀ (n : Nat) (l : List A), (∀ x ∈ l, x ∈ U) → miss U l ≤ n → ∀ x ∈ spread f n l, ∀ y ∈ f x, y ∈ spread f n l
  | 0, l, hl, hm, x, hx, y, hy => by
    have yU := hU x (hl x hx) y hy
    have e : U.filter (fun u => !l.contains u) = [] := List.eq_nil_of_length_eq_zero (Nat.le_zero.mp hm)
    have := List.filter_eq_nil_iff.mp e y yU
    show y ∈ l
    simpa using this
  | n + 1, l, hl, hm, x, hx, y, hy => by
    rw [spread_succ] at hx ⊢
    obtain ⟨t, e, q⟩ := rnd_ext f l l
    by_cases c : (rnd f l l).length = l.length
    · rw [if_pos c] at hx ⊢
      have ht : t = [] := by
        rw [e, List.length_append] at c
        exact List.eq_nil_of_length_eq_zero (by omega)
      have := (mem_rnd f l l y).mpr (.inr ⟨x, hx, hy⟩)
      rw [e, ht, List.append_nil] at this
      exact this
    · rw [if_neg c] at hx ⊢
      have hk : ∀ x ∈ rnd f l l, x ∈ U := fun z hz => by
        rcases (mem_rnd f l l z).mp hz with q | ⟨w, hw, q⟩
        · exact hl z q
        · exact hU w (hl w hw) z q
      have new : ∃ z ∈ rnd f l l, z ∉ l := by
        cases t with
        | nil => exact absurd (by rw [e, List.append_nil]) c
        | cons z t => exact ⟨z, by rw [e]; exact List.mem_append.mpr (.inr (List.mem_cons_self ..)), q z (List.mem_cons_self ..)⟩
      obtain ⟨z, zk, zl⟩ := new
      have := miss_lt (U := U) (l := l) (k := rnd f l l) (fun x hx => (mem_rnd f l l x).mpr (.inl hx)) (hk z zk) zk zl
      exact spread_closed f hU n _ hk (by omega) x hx y hy
end Wm

namespace Wm
open Gq03

/-! ### What may stand on a desk -/
def OkRule : Rule → Prop
  | .sub b c => b ∈ basics ∧ c ∈ basics
  | .role r s => r ∈ roles ∧ s ∈ roles
  | .never b c => b ∈ basics ∧ c ∈ basics
  | .neverRole r s => r ∈ roles ∧ s ∈ roles
def OkRules (rs : List Rule) : Prop := ∀ x ∈ rs, OkRule x
def OkFact : Fact → Prop
  | .kind x k => x ∈ nodes ∧ (1 ≤ k ∧ k ≤ 6)
  | .edge x a y => x ∈ nodes ∧ (1 ≤ a ∧ a ≤ 4) ∧ y ∈ nodes
def OkFacts (fs : List Fact) : Prop := ∀ x ∈ fs, OkFact x
theorem turned_roles {r : Nat} (h : r ∈ roles) : turned r ∈ roles := by
  revert r; decide
theorem turned_turned {r : Nat} (h : r ∈ roles) : turned (turned r) = r := by
  revert r; decide
theorem has_basics {r : Nat} : Basic.has r ∈ basics ↔ r ∈ roles := by
  simp only [basics, List.mem_append, List.mem_map, List.mem_cons, Basic.has.injEq, exists_eq_right]
  constructor
  · rintro (⟨_, _, q⟩ | q)
    · cases q
    · exact q
  · exact .inr
theorem kind_basics {k : Nat} : Basic.kind k ∈ basics ↔ 1 ≤ k ∧ k ≤ 6 := by
  simp only [basics, List.mem_append, List.mem_map, Basic.kind.injEq, exists_eq_right]
  constructor
  · rintro (q | ⟨_, _, q⟩)
    · simp at q; omega
    · cases q
  · intro h
    left
    simp; omega
theorem mem_roles {r : Nat} : r ∈ roles ↔ 2 ≤ r ∧ r ≤ 9 := by
  simp [roles]; omega
theorem mem_nodes {x : Nat} : x ∈ nodes ↔ 1 ≤ x ∧ x ≤ 8 := by
  simp [nodes]; omega

/-! ### Directions -/
theorem mem_onRole {rs : List Rule} {r s : Nat} : s ∈ onRole rs r ↔ ∃ a b, Rule.role a b ∈ rs ∧ ((a = r ∧ s = b) ∨ (turned a = r ∧ s = turned b)) := by
  unfold onRole
  rw [List.mem_flatMap]
  constructor
  · rintro ⟨x, hx, hs⟩
    cases x with
    | role a b =>
      refine ⟨a, b, hx, ?_⟩
      rcases List.mem_append.mp hs with q | q
      · split at q
        · exact .inl ⟨by assumption, List.mem_singleton.mp q⟩
        · cases q
      · split at q
        · exact .inr ⟨by assumption, List.mem_singleton.mp q⟩
        · cases q
    | sub => cases hs
    | never => cases hs
    | neverRole => cases hs
  · rintro ⟨a, b, hx, q⟩
    refine ⟨_, hx, ?_⟩
    show s ∈ (if a = r then [b] else []) ++ (if turned a = r then [turned b] else [])
    rcases q with ⟨h, e⟩ | ⟨h, e⟩
    · rw [if_pos h, e]; simp
    · rw [if_pos h, e]; simp
theorem onRole_roles {rs : List Rule} (ok : OkRules rs) {r s : Nat} (h : s ∈ onRole rs r) : s ∈ roles := by
  obtain ⟨a, b, hx, q⟩ := mem_onRole.mp h
  have hb : b ∈ roles := (ok _ hx).2
  rcases q with ⟨_, e⟩ | ⟨_, e⟩
  · rw [e]; exact hb
  · rw [e]; exact turned_roles hb
theorem onRole_turned {rs : List Rule} (ok : OkRules rs) {r s : Nat} (hr : r ∈ roles) (h : s ∈ onRole rs r) : turned s ∈ onRole rs (turned r) := by
  obtain ⟨a, b, hx, q⟩ := mem_onRole.mp h
  have ha : a ∈ roles := (ok _ hx).1
  have hb : b ∈ roles := (ok _ hx).2
  refine mem_onRole.mpr ⟨a, b, hx, ?_⟩
  rcases q with ⟨e1, e⟩ | ⟨e1, e⟩
  · right; rw [e, e1]; exact ⟨rfl, rfl⟩
  · left; rw [e, ← e1]; exact ⟨(turned_turned ha).symm, turned_turned hb⟩
abbrev RPath (rs : List Rule) : Nat → Nat → Prop := Path (onRole rs)
theorem RPath.roles {rs : List Rule} (ok : OkRules rs) {r s : Nat} (hr : r ∈ roles) (h : RPath rs r s) : s ∈ roles :=
  Path.closed (P := fun x => x ∈ Gq03.roles) h hr fun _ _ _ q => onRole_roles ok q
theorem RPath.turned {rs : List Rule} (ok : OkRules rs) {r s : Nat} (hr : r ∈ Gq03.roles) (h : RPath rs r s) : RPath rs (turned r) (turned s) := by
  induction h with
  | refl => exact .refl _
  | step p m ih => exact .step ih (onRole_turned ok (RPath.roles ok hr p) m)
theorem mem_upRole {rs : List Rule} (ok : OkRules rs) {r s : Nat} (hr : r ∈ roles) : s ∈ upRole rs r ↔ RPath rs r s := by
  have cl := spread_closed (onRole rs) (U := roles) (fun x _ y hy => onRole_roles ok hy) 8 [r] (fun x hx => by cases List.mem_singleton.mp hx; exact hr) (miss_le _ _)
  constructor
  · intro h
    obtain ⟨a, ha, p⟩ := spread_sound _ _ _ _ h
    cases List.mem_singleton.mp ha
    exact p
  · intro h
    exact Path.closed (P := fun x => x ∈ upRole rs r) h (sub_spread _ _ _ _ (List.mem_singleton.mpr rfl)) fun x y hx hy => cl x hx y hy
theorem upRole_roles {rs : List Rule} (ok : OkRules rs) {r s : Nat} (hr : r ∈ roles) (h : s ∈ upRole rs r) : s ∈ roles := RPath.roles ok hr ((mem_upRole ok hr).mp h)
theorem upRole_turned {rs : List Rule} (ok : OkRules rs) {r s : Nat} (hr : r ∈ roles) (h : s ∈ upRole rs r) : turned s ∈ upRole rs (turned r) :=
  (mem_upRole ok (turned_roles hr)).mpr (RPath.turned ok hr ((mem_upRole ok hr).mp h))

/-! ### Basic ones -/
/-- what follows at once: by a sub rule, by one role rule -/
def oneOn (rs : List Rule) (b : Basic) : List Basic := (rs.flatMap fun x => match x with
  | .sub a c => if a = b then [c] else []
  | _ => []) ++ match b with
    | .has r => (onRole rs r).map fun s => .has s
    | .kind _ => []
theorem mem_subs {rs : List Rule} {b c : Basic} : c ∈ (rs.flatMap fun x => match x with
  | .sub a c => if a = b then [c] else []
  | _ => []) ↔ Rule.sub b c ∈ rs := by
  rw [List.mem_flatMap]
  constructor
  · rintro ⟨x, hx, hs⟩
    cases x with
    | sub a c' =>
      dsimp only at hs
      split at hs
      · rename_i e
        cases List.mem_singleton.mp hs
        rw [← e]; exact hx
      · cases hs
    | role => cases hs
    | never => cases hs
    | neverRole => cases hs
  · intro h
    exact ⟨_, h, by simp⟩
theorem mem_onBasic {rs : List Rule} {b c : Basic} : c ∈ onBasic rs b ↔ Rule.sub b c ∈ rs ∨ ∃ r s, b = .has r ∧ c = .has s ∧ s ∈ upRole rs r := by
  unfold onBasic
  rw [List.mem_append]
  refine or_congr mem_subs ?_
  cases b with
  | kind k => constructor
              · intro h; cases h
              · rintro ⟨r, s, e, _⟩; cases e
  | has r =>
    simp only [List.mem_map]
    constructor
    · rintro ⟨s, h, e⟩; exact ⟨r, s, rfl, e.symm, h⟩
    · rintro ⟨r', s, e, e2, h⟩; cases e; exact ⟨s, h, e2.symm⟩
theorem mem_oneOn {rs : List Rule} {b c : Basic} : c ∈ oneOn rs b ↔ Rule.sub b c ∈ rs ∨ ∃ r s, b = .has r ∧ c = .has s ∧ s ∈ onRole rs r := by
  unfold oneOn
  rw [List.mem_append]
  refine or_congr mem_subs ?_
  cases b with
  | kind k => constructor
              · intro h; cases h
              · rintro ⟨r, s, e, _⟩; cases e
  | has r =>
    simp only [List.mem_map]
    constructor
    · rintro ⟨s, h, e⟩; exact ⟨r, s, rfl, e.symm, h⟩
    · rintro ⟨r', s, e, e2, h⟩; cases e; exact ⟨s, h, e2.symm⟩
theorem oneOn_basics {rs : List Rule} (ok : OkRules rs) {b c : Basic} (h : c ∈ oneOn rs b) : c ∈ basics := by
  rcases mem_oneOn.mp h with q | ⟨r, s, _, e, q⟩
  · exact (ok _ q).2
  · rw [e]; exact has_basics.mpr (onRole_roles ok q)
abbrev BPath (rs : List Rule) : Basic → Basic → Prop := Path (oneOn rs)
theorem BPath.basics {rs : List Rule} (ok : OkRules rs) {b c : Basic} (hb : b ∈ Gq03.basics) (h : BPath rs b c) : c ∈ Gq03.basics :=
  Path.closed (P := fun x => x ∈ Gq03.basics) h hb fun _ _ _ q => oneOn_basics ok q
theorem RPath.has {rs : List Rule} {r s : Nat} (h : RPath rs r s) : BPath rs (.has r) (.has s) := by
  induction h with
  | refl => exact .refl _
  | step p m ih => exact .step ih (mem_oneOn.mpr (.inr ⟨_, _, rfl, rfl, m⟩))
theorem onBasic_path {rs : List Rule} (ok : OkRules rs) {b c : Basic} (hb : b ∈ basics) (h : c ∈ onBasic rs b) : BPath rs b c := by
  rcases mem_onBasic.mp h with q | ⟨r, s, e1, e2, q⟩
  · exact .one (mem_oneOn.mpr (.inl q))
  · subst e1; subst e2
    exact RPath.has ((mem_upRole ok (has_basics.mp hb)).mp q)
theorem oneOn_onBasic {rs : List Rule} (ok : OkRules rs) {b c : Basic} (hb : b ∈ basics) (h : c ∈ oneOn rs b) : c ∈ onBasic rs b := by
  rcases mem_oneOn.mp h with q | ⟨r, s, e1, e2, q⟩
  · exact mem_onBasic.mpr (.inl q)
  · subst e1
    exact mem_onBasic.mpr (.inr ⟨r, s, rfl, e2, (mem_upRole ok (has_basics.mp hb)).mpr (.one q)⟩)
theorem mem_up {rs : List Rule} (ok : OkRules rs) {l : List Basic} (hl : ∀ b ∈ l, b ∈ basics) {c : Basic} : c ∈ up rs l ↔ ∃ b ∈ l, BPath rs b c := by
  have hU : ∀ x ∈ basics, ∀ y ∈ onBasic rs x, y ∈ basics := fun x hx y hy => BPath.basics ok hx (onBasic_path ok hx hy)
  have cl := spread_closed (onBasic rs) (U := basics) hU 14 l hl (miss_le _ _)
  constructor
  · intro h
    obtain ⟨a, ha, p⟩ := spread_sound _ _ _ _ h
    have w : c ∈ basics ∧ BPath rs a c := Path.closed (P := fun x => x ∈ basics ∧ BPath rs a x) p ⟨hl a ha, .refl a⟩ fun x y hx hy => ⟨hU x hx.1 y hy, hx.2.trans (onBasic_path ok hx.1 hy)⟩
    exact ⟨a, ha, w.2⟩
  · rintro ⟨b, hb, p⟩
    have w : c ∈ basics ∧ c ∈ up rs l := Path.closed (P := fun x => x ∈ basics ∧ x ∈ up rs l) p ⟨hl b hb, sub_spread _ _ _ _ hb⟩ fun x y hx hy => ⟨oneOn_basics ok hy, cl x hx.2 y (oneOn_onBasic ok hx.1 hy)⟩
    exact w.2
theorem mem_up1 {rs : List Rule} (ok : OkRules rs) {b c : Basic} (hb : b ∈ basics) : c ∈ up rs [b] ↔ BPath rs b c := by
  rw [mem_up ok (fun x hx => by cases List.mem_singleton.mp hx; exact hb)]
  simp
theorem up_basics {rs : List Rule} (ok : OkRules rs) {l : List Basic} (hl : ∀ b ∈ l, b ∈ basics) {c : Basic} (h : c ∈ up rs l) : c ∈ basics := by
  obtain ⟨b, hb, p⟩ := (mem_up ok hl).mp h
  exact BPath.basics ok (hl b hb) p

/-! ### What rules forbid -/
theorem neverBoth_iff {rs : List Rule} {l : List Basic} : neverBoth rs l = true ↔ ∃ b c, Rule.never b c ∈ rs ∧ b ∈ l ∧ c ∈ l := by
  unfold neverBoth
  rw [List.any_eq_true]
  constructor
  · rintro ⟨x, hx, h⟩
    cases x with
    | never b c =>
      rw [Bool.and_eq_true, List.contains_iff_mem, List.contains_iff_mem] at h
      exact ⟨b, c, hx, h⟩
    | sub => cases h
    | role => cases h
    | neverRole => cases h
  · rintro ⟨b, c, hx, h⟩
    exact ⟨_, hx, by simpa using h⟩
theorem neverRoles_iff {rs : List Rule} {l : List Role} : neverRoles rs l = true ↔ ∃ r s, Rule.neverRole r s ∈ rs ∧ ((r ∈ l ∧ s ∈ l) ∨ (turned r ∈ l ∧ turned s ∈ l)) := by
  unfold neverRoles
  rw [List.any_eq_true]
  constructor
  · rintro ⟨x, hx, h⟩
    cases x with
    | neverRole b c =>
      simp only [Bool.or_eq_true, Bool.and_eq_true, List.contains_iff_mem] at h
      exact ⟨b, c, hx, h⟩
    | sub => cases h
    | role => cases h
    | never => cases h
  · rintro ⟨b, c, hx, h⟩
    exact ⟨_, hx, by simpa using h⟩

/-! ### Bad ones -/
inductive Bad (rs : List Rule) : Basic → Prop
  | never {b : Basic} : neverBoth rs (up rs [b]) = true → Bad rs b
  | up {b c : Basic} : c ∈ Gq03.up rs [b] → Bad rs c → Bad rs b
  | nrole {b : Basic} {r : Role} : .has r ∈ Gq03.up rs [b] → neverRoles rs (upRole rs r) = true → Bad rs b
  | turn {b : Basic} {r : Role} : .has r ∈ Gq03.up rs [b] → Bad rs (.has (turned r)) → Bad rs b
def badStep (rs : List Rule) (u : List Basic) : List Basic := basics.filter fun b => u.contains b || (neverBoth rs (up rs [b]) || (up rs [b]).any fun c => u.contains c || match c with
    | .has r => badRole rs u r
    | .kind _ => false)
theorem badFrom_succ (rs : List Rule) (n : Nat) (u : List Basic) : badFrom rs (n + 1) u = badFrom rs n (badStep rs u) := rfl
theorem mem_badStep {rs : List Rule} {u : List Basic} {b : Basic} : b ∈ badStep rs u ↔ b ∈ basics ∧ (b ∈ u ∨ neverBoth rs (up rs [b]) = true ∨ ∃ c ∈ up rs [b], c ∈ u ∨ ∃ r, c = .has r ∧ (neverRoles rs (upRole rs r) = true ∨ .has r ∈ u ∨ .has (turned r) ∈ u)) := by
  unfold badStep
  rw [List.mem_filter, Bool.or_eq_true, Bool.or_eq_true, List.any_eq_true, List.contains_iff_mem]
  refine and_congr Iff.rfl (or_congr Iff.rfl (or_congr Iff.rfl ?_))
  refine exists_congr fun c => and_congr Iff.rfl ?_
  rw [Bool.or_eq_true, List.contains_iff_mem]
  refine or_congr Iff.rfl ?_
  cases c with
  | kind k => constructor
              · intro h; cases h
              · rintro ⟨r, e, _⟩; cases e
  | has r =>
    unfold badRole
    rw [Bool.or_eq_true, Bool.or_eq_true, List.contains_iff_mem, List.contains_iff_mem]
    constructor
    · intro h; exact ⟨r, rfl, h⟩
    · rintro ⟨r', e, h⟩; cases e; exact h
theorem badStep_sub {rs : List Rule} {u : List Basic} (hu : ∀ b ∈ u, b ∈ basics) : ∀ b ∈ u, b ∈ badStep rs u := fun b hb => mem_badStep.mpr ⟨hu b hb, .inl hb⟩
theorem badStep_congr {rs : List Rule} {u v : List Basic} (h : ∀ b, b ∈ u ↔ b ∈ v) : badStep rs u = badStep rs v := by
  have e : ∀ b, u.contains b = v.contains b := fun b => by
    have := h b
    rw [Bool.eq_iff_iff, List.contains_iff_mem, List.contains_iff_mem]; exact this
  unfold badStep
  congr 1
  funext b
  simp only [e, badRole]
theorem badFrom_sound {rs : List Rule} : ∀ (n : Nat) (u : List Basic), (∀ b ∈ u, Bad rs b) → ∀ b ∈ badFrom rs n u, Bad rs b
  | 0, _, hu => hu
  | n + 1, u, hu => by
    rw [badFrom_succ]
    refine badFrom_sound n _ fun b hb => ?_
    rcases (mem_badStep.mp hb).2 with q | q | ⟨c, hc, q | ⟨r, e, q | q | q⟩⟩
    · exact hu b q
    · exact .never q
    · exact .up hc (hu c q)
    · subst e; exact .nrole hc q
    · subst e; exact .up hc (hu _ q)
    · subst e; exact .turn hc (hu _ q)
theorem badFrom_fix {rs : List Rule} {u : List Basic} (h : badStep rs u = u) : ∀ n, badFrom rs n u = u
  | 0 => rfl
  | n + 1 => by rw [badFrom_succ, h]; exact badFrom_fix h n
theorem badFrom_closed {rs : List Rule} : ∀ (n : Nat) (u : List Basic), (∀ b ∈ u, b ∈ basics) → miss basics u ≤ n → ∀ b ∈ badStep rs (badFrom rs n u), b ∈ badFrom rs n u
  | 0, u, hu, hm, b, hb => by
    have bU := (mem_badStep.mp hb).1
    have e : basics.filter (fun v => !u.contains v) = [] := List.eq_nil_of_length_eq_zero (Nat.le_zero.mp hm)
    have := List.filter_eq_nil_iff.mp e b bU
    show b ∈ u
    simpa using this
  | n + 1, u, hu, hm, b, hb => by
    rw [badFrom_succ] at hb ⊢
    by_cases c : ∃ z ∈ badStep rs u, z ∉ u
    · obtain ⟨z, zk, zl⟩ := c
      have := miss_lt (U := basics) (badStep_sub hu) (mem_badStep.mp zk).1 zk zl
      exact badFrom_closed n _ (fun b hb => (mem_badStep.mp hb).1) (by omega) b hb
    · have hs : ∀ z, z ∈ badStep rs u ↔ z ∈ u := fun z => ⟨fun h => Classical.byContradiction fun q => c ⟨z, h, q⟩, badStep_sub hu z⟩
      have e := badStep_congr (rs := rs) hs
      rw [badFrom_fix e] at hb ⊢
      rw [e] at hb
      exact hb
theorem bad_basics {rs : List Rule} : ∀ (n : Nat) (u : List Basic), (∀ b ∈ u, b ∈ basics) → ∀ b ∈ badFrom rs n u, b ∈ basics
  | 0, _, hu => hu
  | n + 1, _, _ => by rw [badFrom_succ]; exact bad_basics n _ fun b hb => (mem_badStep.mp hb).1
theorem mem_bad {rs : List Rule} (ok : OkRules rs) {b : Basic} : b ∈ bad rs ↔ b ∈ basics ∧ Bad rs b := by
  have cl := badFrom_closed (rs := rs) 15 [] (by simp) (Nat.le_trans (miss_le _ _) (by decide))
  have inb := bad_basics (rs := rs) 15 [] (by simp)
  constructor
  · intro h
    exact ⟨inb b h, badFrom_sound 15 [] (by simp) b h⟩
  · rintro ⟨hb, h⟩
    induction h with
    | never q => exact cl _ (mem_badStep.mpr ⟨hb, .inr (.inl q)⟩)
    | up hc _ ih =>
      have hc' := up_basics ok (fun x hx => by cases List.mem_singleton.mp hx; exact hb) hc
      exact cl _ (mem_badStep.mpr ⟨hb, .inr (.inr ⟨_, hc, .inl (ih hc')⟩)⟩)
    | nrole hc q => exact cl _ (mem_badStep.mpr ⟨hb, .inr (.inr ⟨_, hc, .inr ⟨_, rfl, .inl q⟩⟩)⟩)
    | turn hc _ ih =>
      have hc' := up_basics ok (fun x hx => by cases List.mem_singleton.mp hx; exact hb) hc
      exact cl _ (mem_badStep.mpr ⟨hb, .inr (.inr ⟨_, hc, .inr ⟨_, rfl, .inr (.inr (ih (has_basics.mpr (turned_roles (has_basics.mp hc')))))⟩⟩)⟩)
theorem bad_filter {rs : List Rule} (ok : OkRules rs) : bad rs = basics.filter fun b => (bad rs).contains b := by
  have cl := badFrom_closed (rs := rs) 15 [] (by simp) (Nat.le_trans (miss_le _ _) (by decide))
  have inb := bad_basics (rs := rs) 15 [] (by simp)
  have hs : ∀ z, z ∈ badStep rs (bad rs) ↔ z ∈ bad rs := fun z => ⟨cl z, badStep_sub inb z⟩
  -- a filter of basics: bad is badStep of the fourteenth
  have e : bad rs = badStep rs (badFrom rs 14 []) := by
    have : ∀ (n : Nat) (u : List Basic), badFrom rs (n + 1) u = badStep rs (badFrom rs n u) := by
      intro n
      induction n with
      | zero => intro u; rfl
      | succ n ih => intro u; rw [badFrom_succ, ih, ← badFrom_succ]
    exact this 14 []
  conv => lhs; rw [e]
  unfold badStep
  refine List.filter_congr fun b hb => ?_
  have := hs b
  rw [Bool.eq_iff_iff]
  have w : b ∈ badStep rs (badFrom rs 14 []) ↔ b ∈ bad rs := by rw [← e]
  unfold badStep at w
  rw [List.mem_filter] at w
  rw [List.contains_iff_mem, ← w]
  exact ⟨fun q => ⟨hb, q⟩, fun q => q.2⟩
theorem badRole_bad {rs : List Rule} (ok : OkRules rs) {r : Nat} (hr : r ∈ roles) : badRole rs (bad rs) r = true ↔ Bad rs (.has r) := by
  have self : Basic.has r ∈ up rs [.has r] := sub_spread _ _ _ _ (List.mem_singleton.mpr rfl)
  unfold badRole
  rw [Bool.or_eq_true, Bool.or_eq_true, List.contains_iff_mem, List.contains_iff_mem, mem_bad ok, mem_bad ok]
  constructor
  · rintro (q | q | q)
    · exact .nrole self q
    · exact q.2
    · exact .turn self q.2
  · intro h
    exact .inr (.inl ⟨has_basics.mpr hr, h⟩)
end Wm

namespace Wm
open Gq03

/-! ### Bad ones, by going along steps and to far ends -/
def farOn (rs : List Rule) (b : Basic) : List Basic := oneOn rs b ++ match b with
  | .has r => [.has (turned r)]
  | .kind _ => []
def oneSided (rs : List Rule) (l : List Role) : Prop := ∃ r s, Rule.neverRole r s ∈ rs ∧ r ∈ l ∧ s ∈ l
def Clash (rs : List Rule) (b : Basic) : Prop := neverBoth rs (up rs [b]) = true ∨ ∃ r, b = .has r ∧ oneSided rs (upRole rs r)
theorem farOn_one {rs : List Rule} {b c : Basic} (h : c ∈ oneOn rs b) : c ∈ farOn rs b := List.mem_append.mpr (.inl h)
theorem mem_farOn {rs : List Rule} {b c : Basic} : c ∈ farOn rs b ↔ c ∈ oneOn rs b ∨ ∃ r, b = .has r ∧ c = .has (turned r) := by
  unfold farOn
  rw [List.mem_append]
  refine or_congr Iff.rfl ?_
  cases b with
  | kind k => constructor
              · intro h; cases h
              · rintro ⟨r, e, _⟩; cases e
  | has r => constructor
             · intro h; exact ⟨r, rfl, List.mem_singleton.mp h⟩
             · rintro ⟨r', e, h⟩; cases e; exact List.mem_singleton.mpr h
theorem farOn_basics {rs : List Rule} (ok : OkRules rs) {b c : Basic} (hb : b ∈ basics) (h : c ∈ farOn rs b) : c ∈ basics := by
  rcases mem_farOn.mp h with q | ⟨r, e, q⟩
  · exact oneOn_basics ok q
  · subst e; rw [q]; exact has_basics.mpr (turned_roles (has_basics.mp hb))
theorem Clash.bad {rs : List Rule} {b : Basic} (h : Clash rs b) : Bad rs b := by
  rcases h with h | ⟨r, e, x, y, hx, h⟩
  · exact .never h
  · subst e
    exact .nrole (sub_spread _ _ _ _ (List.mem_singleton.mpr rfl)) (neverRoles_iff.mpr ⟨x, y, hx, .inl h⟩)
theorem Bad.back {rs : List Rule} (ok : OkRules rs) {b c : Basic} (hb : b ∈ basics) (h : c ∈ farOn rs b) (hc : Bad rs c) : Bad rs b := by
  rcases mem_farOn.mp h with q | ⟨r, e, q⟩
  · exact .up ((mem_up1 ok hb).mpr (.one q)) hc
  · subst e; subst q
    exact .turn (sub_spread _ _ _ _ (List.mem_singleton.mpr rfl)) hc
theorem Bad.path {rs : List Rule} (ok : OkRules rs) {b c : Basic} (hb : b ∈ basics) (h : Path (farOn rs) b c) (hc : Bad rs c) : Bad rs b := by
  induction h with
  | refl => exact hc
  | step p m ih => exact ih (Bad.back ok (Path.closed (P := fun x => x ∈ basics) p hb fun x y hx hy => farOn_basics ok hx hy) m hc)
theorem bad_iff {rs : List Rule} (ok : OkRules rs) {b : Basic} (hb : b ∈ basics) : Bad rs b ↔ ∃ c, Path (farOn rs) b c ∧ Clash rs c := by
  constructor
  · intro h
    have far : ∀ {x y : Basic}, BPath rs x y → Path (farOn rs) x y := fun p => p.mono fun _ _ q => farOn_one q
    induction h with
    | never q => exact ⟨_, .refl _, .inl q⟩
    | @up b c hc _ ih =>
      have p := (mem_up1 ok hb).mp hc
      obtain ⟨e, q, w⟩ := ih (BPath.basics ok hb p)
      exact ⟨e, (far p).trans q, w⟩
    | @nrole b r hc q =>
      have p := (mem_up1 ok hb).mp hc
      have hr := has_basics.mp (BPath.basics ok hb p)
      obtain ⟨x, y, hx, h | h⟩ := neverRoles_iff.mp q
      · exact ⟨_, far p, .inr ⟨r, rfl, x, y, hx, h⟩⟩
      · refine ⟨_, (far p).step (mem_farOn.mpr (.inr ⟨r, rfl, rfl⟩)), .inr ⟨_, rfl, x, y, hx, ?_⟩⟩
        have h1 := upRole_turned ok hr h.1
        have h2 := upRole_turned ok hr h.2
        rw [turned_turned (ok _ hx).1] at h1
        rw [turned_turned (ok _ hx).2] at h2
        exact ⟨h1, h2⟩
    | @turn b r hc _ ih =>
      have p := (mem_up1 ok hb).mp hc
      have hr := has_basics.mp (BPath.basics ok hb p)
      obtain ⟨e, q, w⟩ := ih (has_basics.mpr (turned_roles hr))
      exact ⟨e, ((far p).step (mem_farOn.mpr (.inr ⟨r, rfl, rfl⟩))).trans q, w⟩
  · rintro ⟨c, p, w⟩
    exact Bad.path ok hb p w.bad

/-! ### What's told, types, edges between -/
theorem mem_toldOf {fs : List Fact} {x : Nat} {b : Basic} : b ∈ toldOf fs x ↔ (∃ k, Fact.kind x k ∈ fs ∧ b = .kind k) ∨ (∃ a y, Fact.edge x a y ∈ fs ∧ b = .has (2 * a)) ∨ (∃ a y, Fact.edge y a x ∈ fs ∧ b = .has (2 * a + 1)) := by
  unfold toldOf
  rw [List.mem_flatMap]
  constructor
  · rintro ⟨f, hf, h⟩
    cases f with
    | kind y k =>
      dsimp only at h
      split at h
      · rename_i e; subst e
        exact .inl ⟨k, hf, List.mem_singleton.mp h⟩
      · cases h
    | edge y a z =>
      rcases List.mem_append.mp h with q | q
      · split at q
        · rename_i e; subst e
          exact .inr (.inl ⟨a, z, hf, List.mem_singleton.mp q⟩)
        · cases q
      · split at q
        · rename_i e; subst e
          exact .inr (.inr ⟨a, y, hf, List.mem_singleton.mp q⟩)
        · cases q
  · rintro (⟨k, hf, e⟩ | ⟨a, y, hf, e⟩ | ⟨a, y, hf, e⟩)
    · exact ⟨_, hf, by simp [e]⟩
    · refine ⟨_, hf, ?_⟩
      show b ∈ (if x = x then [Basic.has (2 * a)] else []) ++ _
      rw [if_pos rfl, e]; simp
    · refine ⟨_, hf, ?_⟩
      show b ∈ _ ++ (if x = x then [Basic.has (2 * a + 1)] else [])
      rw [if_pos rfl, e]; simp
theorem roles_of {a : Nat} (h : 1 ≤ a ∧ a ≤ 4) : 2 * a ∈ roles ∧ 2 * a + 1 ∈ roles := ⟨mem_roles.mpr (by omega), mem_roles.mpr (by omega)⟩
theorem turned_even (a : Nat) : turned (2 * a) = 2 * a + 1 := by
  have h : (2 * a) % 2 = 0 := by omega
  exact if_pos h
theorem turned_odd (a : Nat) : turned (2 * a + 1) = 2 * a := by
  have h : ¬ (2 * a + 1) % 2 = 0 := by omega
  exact if_neg h
theorem toldOf_basics {fs : List Fact} (ok : OkFacts fs) {x : Nat} {b : Basic} (h : b ∈ toldOf fs x) : b ∈ basics := by
  rcases mem_toldOf.mp h with ⟨k, hf, e⟩ | ⟨a, y, hf, e⟩ | ⟨a, y, hf, e⟩
  · rw [e]; exact kind_basics.mpr (ok _ hf).2
  · rw [e]; exact has_basics.mpr (roles_of (ok _ hf).2.1).1
  · rw [e]; exact has_basics.mpr (roles_of (ok _ hf).2.1).2
/-- the directions in which edges are told from one to another -/
def toldDirs (fs : List Fact) (x y : Nat) : List Nat := fs.flatMap fun f => match f with
  | .kind _ _ => []
  | .edge z a w => (if z = x ∧ w = y then [2 * a] else []) ++ (if z = y ∧ w = x then [2 * a + 1] else [])
theorem mem_toldDirs {fs : List Fact} {x y r : Nat} : r ∈ toldDirs fs x y ↔ (∃ a, Fact.edge x a y ∈ fs ∧ r = 2 * a) ∨ (∃ a, Fact.edge y a x ∈ fs ∧ r = 2 * a + 1) := by
  unfold toldDirs
  rw [List.mem_flatMap]
  constructor
  · rintro ⟨f, hf, h⟩
    cases f with
    | kind => cases h
    | edge z a w =>
      rcases List.mem_append.mp h with q | q
      · split at q
        · rename_i e; obtain ⟨e1, e2⟩ := e; subst e1; subst e2
          exact .inl ⟨a, hf, List.mem_singleton.mp q⟩
        · cases q
      · split at q
        · rename_i e; obtain ⟨e1, e2⟩ := e; subst e1; subst e2
          exact .inr ⟨a, hf, List.mem_singleton.mp q⟩
        · cases q
  · rintro (⟨a, hf, e⟩ | ⟨a, hf, e⟩)
    · refine ⟨_, hf, ?_⟩
      show r ∈ (if x = x ∧ y = y then [2 * a] else []) ++ _
      rw [if_pos ⟨rfl, rfl⟩, e]; simp
    · refine ⟨_, hf, ?_⟩
      exact List.mem_append.mpr (.inr (by rw [if_pos ⟨rfl, rfl⟩, e]; simp))
theorem toldDirs_roles {fs : List Fact} (ok : OkFacts fs) {x y r : Nat} (h : r ∈ toldDirs fs x y) : r ∈ roles := by
  rcases mem_toldDirs.mp h with ⟨a, hf, e⟩ | ⟨a, hf, e⟩
  · rw [e]; exact (roles_of (ok _ hf).2.1).1
  · rw [e]; exact (roles_of (ok _ hf).2.1).2
theorem toldDirs_turned {fs : List Fact} {x y r : Nat} (h : r ∈ toldDirs fs x y) : turned r ∈ toldDirs fs y x := by
  rcases mem_toldDirs.mp h with ⟨a, hf, e⟩ | ⟨a, hf, e⟩
  · exact mem_toldDirs.mpr (.inr ⟨a, hf, by rw [e, turned_even]⟩)
  · exact mem_toldDirs.mpr (.inl ⟨a, hf, by rw [e, turned_odd]⟩)
structure OkDesk (d : Desk) : Prop where
  facts : OkFacts d.facts
  rules : OkRules d.rules
theorem mem_between {d : Desk} (ok : OkDesk d) {x y r : Nat} : r ∈ between d x y ↔ ∃ t ∈ toldDirs d.facts x y, RPath d.rules t r := by
  unfold between
  rw [List.mem_flatMap]
  constructor
  · rintro ⟨f, hf, h⟩
    cases f with
    | kind => cases h
    | edge z a w =>
      have ro := roles_of (ok.facts _ hf).2.1
      rcases List.mem_append.mp h with q | q
      · split at q
        · rename_i e; obtain ⟨e1, e2⟩ := e; subst e1; subst e2
          exact ⟨2 * a, mem_toldDirs.mpr (.inl ⟨a, hf, rfl⟩), (mem_upRole ok.rules ro.1).mp q⟩
        · cases q
      · split at q
        · rename_i e; obtain ⟨e1, e2⟩ := e; subst e1; subst e2
          exact ⟨2 * a + 1, mem_toldDirs.mpr (.inr ⟨a, hf, rfl⟩), (mem_upRole ok.rules ro.2).mp q⟩
        · cases q
  · rintro ⟨t, ht, p⟩
    rcases mem_toldDirs.mp ht with ⟨a, hf, e⟩ | ⟨a, hf, e⟩
    · have ro := roles_of (ok.facts _ hf).2.1
      refine ⟨_, hf, ?_⟩
      show r ∈ (if x = x ∧ y = y then upRole d.rules (2 * a) else []) ++ _
      rw [if_pos ⟨rfl, rfl⟩]
      subst e
      exact List.mem_append.mpr (.inl ((mem_upRole ok.rules ro.1).mpr p))
    · have ro := roles_of (ok.facts _ hf).2.1
      refine ⟨_, hf, ?_⟩
      subst e
      exact List.mem_append.mpr (.inr (by rw [if_pos ⟨rfl, rfl⟩]; exact (mem_upRole ok.rules ro.2).mpr p))
theorem between_roles {d : Desk} (ok : OkDesk d) {x y r : Nat} (h : r ∈ between d x y) : r ∈ roles := by
  obtain ⟨t, ht, p⟩ := (mem_between ok).mp h
  exact RPath.roles ok.rules (toldDirs_roles ok.facts ht) p
theorem mem_typeOf {d : Desk} (ok : OkDesk d) {x : Nat} {b : Basic} : b ∈ typeOf d x ↔ ∃ t ∈ toldOf d.facts x, BPath d.rules t b := mem_up ok.rules fun _ h => toldOf_basics ok.facts h
theorem typeOf_basics {d : Desk} (ok : OkDesk d) {x : Nat} {b : Basic} (h : b ∈ typeOf d x) : b ∈ basics := up_basics ok.rules (fun _ h => toldOf_basics ok.facts h) h
theorem toldDirs_toldOf {fs : List Fact} {x y r : Nat} (h : r ∈ toldDirs fs x y) : Basic.has r ∈ toldOf fs x := by
  rcases mem_toldDirs.mp h with ⟨a, hf, e⟩ | ⟨a, hf, e⟩
  · exact mem_toldOf.mpr (.inr (.inl ⟨a, y, hf, by rw [e]⟩))
  · exact mem_toldOf.mpr (.inr (.inr ⟨a, y, hf, by rw [e]⟩))
theorem between_typeOf {d : Desk} (ok : OkDesk d) {x y r : Nat} (h : r ∈ between d x y) : Basic.has r ∈ typeOf d x := by
  obtain ⟨t, ht, p⟩ := (mem_between ok).mp h
  exact (mem_typeOf ok).mpr ⟨_, toldDirs_toldOf ht, RPath.has p⟩

/-! ### When a node is wrong -/
theorem fineBy_bad {d : Desk} (ok : OkDesk d) {x : Nat} : fineBy (bad d.rules) d x = true ↔ neverBoth d.rules (typeOf d x) = false ∧ (∀ b ∈ typeOf d x, ¬ Bad d.rules b) ∧ ∀ y ∈ nodes, neverRoles d.rules (between d x y) = false := by
  unfold fineBy
  simp only [Bool.and_eq_true, Bool.not_eq_true', List.all_eq_true]
  refine and_congr Iff.rfl ?_
  constructor
  · rintro ⟨h1, h2⟩
    refine ⟨fun b hb q => ?_, fun y hy => (h2 y hy).1⟩
    have := h1 b hb
    have w := List.contains_iff_mem.mpr ((mem_bad ok.rules).mpr ⟨typeOf_basics ok hb, q⟩)
    rw [this] at w; cases w
  · rintro ⟨h1, h2⟩
    refine ⟨fun b hb => ?_, fun y hy => ⟨h2 y hy, fun r hr => ?_⟩⟩
    · rw [Bool.eq_false_iff]
      intro w
      exact h1 b hb ((mem_bad ok.rules).mp (List.contains_iff_mem.mp w)).2
    · rw [Bool.eq_false_iff]
      intro w
      exact h1 _ (between_typeOf ok hr) ((badRole_bad ok.rules (between_roles ok hr)).mp w)
theorem sound_iff {d : Desk} : sound d = true ↔ ∀ x ∈ nodes, fineBy (bad d.rules) d x = true := by
  unfold sound
  rw [List.all_eq_true]
end Wm

namespace Wm
open Gq03
/-! ### Going through steps with a waiting row -/
section
variable {A : Type} [DecidableEq A]
def succs (steps : List (A × A)) (a : A) : List A := (steps.filter fun s => decide (s.1 = a)).map fun s => s.2
theorem mem_succs {steps : List (A × A)} {a b : A} : b ∈ succs steps a ↔ (a, b) ∈ steps := by
  unfold succs
  rw [List.mem_map]
  constructor
  · rintro ⟨s, hs, e⟩
    obtain ⟨h1, h2⟩ := List.mem_filter.mp hs
    have h2 := of_decide_eq_true h2
    rw [← e, ← h2]; exact h1
  · intro h
    exact ⟨(a, b), List.mem_filter.mpr ⟨h, decide_eq_true rfl⟩, rfl⟩
def reachM (steps : List (A × A)) : Nat → List A → List A → List A
  | 0, _, F => F
  | n + 1, W, F => match W.getLast? with
    | none => F
    | some a => if F.contains a = true then reachM steps n W.dropLast F else reachM steps n (W.dropLast ++ succs steps a) (F ++ [a])
def uni (starts : List A) (steps : List (A × A)) : List A := starts ++ steps.map fun s => s.2
def mu (U : List A) (steps : List (A × A)) (W F : List A) : Nat := W.length + miss U F * steps.length
def fuel (starts : List A) (steps : List (A × A)) : Nat := starts.length + (starts.length + steps.length) * steps.length
def reachedM (starts : List A) (steps : List (A × A)) : List A := reachM steps (fuel starts steps) starts []
theorem succs_len {steps : List (A × A)} {a : A} : (succs steps a).length ≤ steps.length := by
  unfold succs
  rw [List.length_map]
  exact List.length_filter_le _ _
theorem reachM_nil {steps : List (A × A)} {F : List A} : ∀ n, reachM steps n [] F = F
  | 0 => rfl
  | _ + 1 => rfl
theorem reachM_old {steps : List (A × A)} {W F : List A} {a : A} {n : Nat} (h : a ∈ F) : reachM steps (n + 1) (W ++ [a]) F = reachM steps n W F := by
  rw [reachM, List.getLast?_concat, List.dropLast_concat]
  exact if_pos (List.contains_iff_mem.mpr h)
theorem reachM_new {steps : List (A × A)} {W F : List A} {a : A} {n : Nat} (h : a ∉ F) : reachM steps (n + 1) (W ++ [a]) F = reachM steps n (W ++ succs steps a) (F ++ [a]) := by
  rw [reachM, List.getLast?_concat, List.dropLast_concat]
  exact if_neg (fun q => h (List.contains_iff_mem.mp q))
/-- what holds between two turns -/
structure Walk (U : List A) (steps : List (A × A)) (W F : List A) : Prop where
  ws : ∀ x ∈ W, x ∈ U
  fs : ∀ x ∈ F, x ∈ U
  len : F.length + miss U F ≤ U.length
theorem miss_app {U F : List A} {a : A} (hU : a ∈ U) (h : a ∉ F) : miss U (F ++ [a]) < miss U F := miss_lt (fun x hx => List.mem_append.mpr (.inl hx)) hU (List.mem_append.mpr (.inr (List.mem_singleton.mpr rfl))) h
theorem Walk.start (starts : List A) (steps : List (A × A)) : Walk (uni starts steps) steps starts [] :=
  ⟨fun x hx => List.mem_append.mpr (.inl hx), fun x hx => (by cases hx), (by simpa using miss_le _ _)⟩
theorem Walk.old {U : List A} {steps : List (A × A)} {W F : List A} {a : A} (w : Walk U steps (W ++ [a]) F) : Walk U steps W F :=
  ⟨fun x hx => w.ws x (List.mem_append.mpr (.inl hx)), w.fs, w.len⟩
theorem Walk.new {U : List A} {steps : List (A × A)} {W F : List A} {a : A} (hU : ∀ x y, (x, y) ∈ steps → y ∈ U) (w : Walk U steps (W ++ [a]) F) (h : a ∉ F) : Walk U steps (W ++ succs steps a) (F ++ [a]) := by
  have aU : a ∈ U := w.ws a (List.mem_append.mpr (.inr (List.mem_singleton.mpr rfl)))
  refine ⟨fun x hx => ?_, fun x hx => ?_, ?_⟩
  · rcases List.mem_append.mp hx with q | q
    · exact w.ws x (List.mem_append.mpr (.inl q))
    · exact hU _ _ (mem_succs.mp q)
  · rcases List.mem_append.mp hx with q | q
    · exact w.fs x q
    · cases List.mem_singleton.mp q; exact aU
  · have := miss_app (F := F) aU h
    have := w.len
    rw [List.length_append, List.length_singleton]
    omega
theorem mu_old {U : List A} {steps : List (A × A)} {W F : List A} {a : A} : mu U steps W F + 1 = mu U steps (W ++ [a]) F := by
  unfold mu
  rw [List.length_append, List.length_singleton]
  omega
theorem mu_new {U : List A} {steps : List (A × A)} {W F : List A} {a : A} (hU : a ∈ U) (h : a ∉ F) : mu U steps (W ++ succs steps a) (F ++ [a]) + 1 ≤ mu U steps (W ++ [a]) F := by
  unfold mu
  have h1 := miss_app (F := F) hU h
  have h2 := succs_len (steps := steps) (a := a)
  have h3 : (miss U (F ++ [a]) + 1) * steps.length ≤ miss U F * steps.length := Nat.mul_le_mul_right _ h1
  rw [Nat.succ_mul] at h3
  rw [List.length_append, List.length_append, List.length_singleton]
  omega
theorem mu_start (starts : List A) (steps : List (A × A)) : mu (uni starts steps) steps starts [] ≤ fuel starts steps := by
  unfold mu fuel
  have h : miss (uni starts steps) [] ≤ starts.length + steps.length := by
    refine Nat.le_trans (miss_le _ _) ?_
    unfold uni
    rw [List.length_append, List.length_map]
    exact Nat.le_refl _
  exact Nat.add_le_add_left (Nat.mul_le_mul_right _ h) _
theorem uni_step {starts : List A} {steps : List (A × A)} : ∀ x y, (x, y) ∈ steps → y ∈ uni starts steps := fun x y h => List.mem_append.mpr (.inr (List.mem_map.mpr ⟨(x, y), h, rfl⟩))
theorem reachM_mem {starts : List A} {steps : List (A × A)} : ∀ (n : Nat) (W F : List A), Walk (uni starts steps) steps W F → mu (uni starts steps) steps W F ≤ n →
    (∀ x ∈ W, ∃ a ∈ starts, Path (succs steps) a x) → (∀ x ∈ F, ∃ a ∈ starts, Path (succs steps) a x) → (∀ x ∈ starts, x ∈ W ∨ x ∈ F) → (∀ x ∈ F, ∀ y ∈ succs steps x, y ∈ W ∨ y ∈ F) →
    ∀ b, b ∈ reachM steps n W F ↔ ∃ a ∈ starts, Path (succs steps) a b := by
  intro n
  induction n with
  | zero =>
    intro W F w hm hW hF hs hc b
    have e : W = [] := List.eq_nil_of_length_eq_zero (by unfold mu at hm; omega)
    subst e
    show b ∈ F ↔ _
    refine ⟨hF b, ?_⟩
    rintro ⟨a, ha, p⟩
    have ha' : a ∈ F := (hs a ha).elim (fun q => by cases q) id
    exact Path.closed (P := fun x => x ∈ F) p ha' fun x y hx hy => (hc x hx y hy).elim (fun q => by cases q) id
  | succ n ih =>
    intro W F w hm hW hF hs hc b
    rcases List.eq_nil_or_concat W with e | ⟨W', a, e⟩
    · subst e
      rw [reachM_nil]
      refine ⟨hF b, ?_⟩
      rintro ⟨a, ha, p⟩
      have ha' : a ∈ F := (hs a ha).elim (fun q => by cases q) id
      exact Path.closed (P := fun x => x ∈ F) p ha' fun x y hx hy => (hc x hx y hy).elim (fun q => by cases q) id
    · rw [List.concat_eq_append] at e
      subst e
      have wa := w.ws a (List.mem_append.mpr (.inr (List.mem_singleton.mpr rfl)))
      by_cases h : a ∈ F
      · rw [reachM_old h]
        refine ih W' F w.old ?_ (fun x hx => hW x (List.mem_append.mpr (.inl hx))) hF (fun x hx => ?_) (fun x hx y hy => ?_) b
        · have := mu_old (U := uni starts steps) (steps := steps) (W := W') (F := F) (a := a); omega
        · rcases hs x hx with q | q
          · rcases List.mem_append.mp q with q | q
            · exact .inl q
            · cases List.mem_singleton.mp q; exact .inr h
          · exact .inr q
        · rcases hc x hx y hy with q | q
          · rcases List.mem_append.mp q with q | q
            · exact .inl q
            · cases List.mem_singleton.mp q; exact .inr h
          · exact .inr q
      · rw [reachM_new h]
        have pa := hW a (List.mem_append.mpr (.inr (List.mem_singleton.mpr rfl)))
        refine ih _ _ (w.new uni_step h) ?_ (fun x hx => ?_) (fun x hx => ?_) (fun x hx => ?_) (fun x hx y hy => ?_) b
        · have := mu_new (steps := steps) (W := W') wa h; omega
        · rcases List.mem_append.mp hx with q | q
          · exact hW x (List.mem_append.mpr (.inl q))
          · obtain ⟨s, hs', p⟩ := pa
            exact ⟨s, hs', .step p q⟩
        · rcases List.mem_append.mp hx with q | q
          · exact hF x q
          · cases List.mem_singleton.mp q; exact pa
        · rcases hs x hx with q | q
          · rcases List.mem_append.mp q with q | q
            · exact .inl (List.mem_append.mpr (.inl q))
            · exact .inr (List.mem_append.mpr (.inr q))
          · exact .inr (List.mem_append.mpr (.inl q))
        · rcases List.mem_append.mp hx with q | q
          · rcases hc x q y hy with q | q
            · rcases List.mem_append.mp q with q | q
              · exact .inl (List.mem_append.mpr (.inl q))
              · exact .inr (List.mem_append.mpr (.inr q))
            · exact .inr (List.mem_append.mpr (.inl q))
          · cases List.mem_singleton.mp q
            exact .inl (List.mem_append.mpr (.inr hy))
/-- **what is reached** -/
theorem mem_reachedM {starts : List A} {steps : List (A × A)} {b : A} : b ∈ reachedM starts steps ↔ ∃ a ∈ starts, Path (succs steps) a b :=
  reachM_mem (fuel starts steps) starts [] (Walk.start _ _) (mu_start _ _) (fun x hx => ⟨x, hx, .refl x⟩) (fun x hx => by cases hx) (fun x hx => .inl hx) (fun x hx => by cases hx) b
theorem reachM_len {U : List A} {steps : List (A × A)} (hU : ∀ x y, (x, y) ∈ steps → y ∈ U) : ∀ (n : Nat) (W F : List A), Walk U steps W F → (reachM steps n W F).length ≤ U.length := by
  intro n
  induction n with
  | zero => intro W F w; have := w.len; show F.length ≤ _; omega
  | succ n ih =>
    intro W F w
    rcases List.eq_nil_or_concat W with e | ⟨W', a, e⟩
    · subst e; rw [reachM_nil]; have := w.len; omega
    · rw [List.concat_eq_append] at e
      subst e
      by_cases h : a ∈ F
      · rw [reachM_old h]; exact ih _ _ w.old
      · rw [reachM_new h]; exact ih _ _ (w.new hU h)
theorem reachedM_len {starts : List A} {steps : List (A × A)} : (reachedM starts steps).length ≤ starts.length + steps.length := by
  have := reachM_len (U := uni starts steps) uni_step (fuel starts steps) starts [] (Walk.start _ _)
  unfold uni at this
  rw [List.length_append, List.length_map] at this
  exact this
end
end Wm

set_option linter.all false
namespace Wm
open Gq03
/-! ### The program's own rows, and what they are -/
def dirSteps (rs : List Rule) : List (Nat × Nat) := rs.flatMap fun x => match x with
  | .role r s => [(r, s), (turned r, turned s)]
  | _ => []
def subSteps (rs : List Rule) : List (Basic × Basic) := rs.flatMap fun x => match x with
  | .sub b c => [(b, c)]
  | _ => []
def basSteps (rs : List Rule) : List (Basic × Basic) := ((dirSteps rs).map fun p => (Basic.has p.1, Basic.has p.2)) ++ subSteps rs
def farSteps : List (Basic × Basic) := roles.map fun r => (Basic.has r, Basic.has (turned r))
theorem mem_dirSteps {rs : List Rule} {r s : Nat} : (r, s) ∈ dirSteps rs ↔ s ∈ onRole rs r := by
  rw [mem_onRole]
  unfold dirSteps
  rw [List.mem_flatMap]
  constructor
  · rintro ⟨x, hx, h⟩
    cases x with
    | role a b =>
      rcases List.mem_cons.mp h with e | e
      · cases e; exact ⟨_, _, hx, .inl ⟨rfl, rfl⟩⟩
      · cases List.mem_singleton.mp e; exact ⟨a, b, hx, .inr ⟨rfl, rfl⟩⟩
    | sub => cases h
    | never => cases h
    | neverRole => cases h
  · rintro ⟨a, b, hx, ⟨e1, e2⟩ | ⟨e1, e2⟩⟩
    · subst e1; subst e2; exact ⟨_, hx, List.mem_cons_self ..⟩
    · subst e1; subst e2; exact ⟨_, hx, List.mem_cons_of_mem _ (List.mem_singleton.mpr rfl)⟩
theorem mem_subSteps {rs : List Rule} {b c : Basic} : (b, c) ∈ subSteps rs ↔ Rule.sub b c ∈ rs := by
  unfold subSteps
  rw [List.mem_flatMap]
  constructor
  · rintro ⟨x, hx, h⟩
    cases x with
    | sub a d => cases List.mem_singleton.mp h; exact hx
    | role => cases h
    | never => cases h
    | neverRole => cases h
  · intro h; exact ⟨_, h, List.mem_singleton.mpr rfl⟩
theorem mem_basSteps {rs : List Rule} {b c : Basic} : (b, c) ∈ basSteps rs ↔ c ∈ oneOn rs b := by
  rw [mem_oneOn]
  unfold basSteps
  rw [List.mem_append, mem_subSteps, List.mem_map]
  constructor
  · rintro (⟨⟨r, s⟩, h, e⟩ | h)
    · cases e; exact .inr ⟨r, s, rfl, rfl, mem_dirSteps.mp h⟩
    · exact .inl h
  · rintro (h | ⟨r, s, e1, e2, h⟩)
    · exact .inr h
    · exact .inl ⟨(r, s), mem_dirSteps.mpr h, by rw [e1, e2]⟩
theorem path_congr {A : Type} {f g : A → List A} (h : ∀ x y, y ∈ f x ↔ y ∈ g x) {a b : A} : Path f a b ↔ Path g a b := ⟨fun p => p.mono fun x y => (h x y).mp, fun p => p.mono fun x y => (h x y).mpr⟩
theorem path_dir {rs : List Rule} {r s : Nat} : Path (succs (dirSteps rs)) r s ↔ RPath rs r s := path_congr fun x y => by rw [mem_succs, mem_dirSteps]
theorem path_bas {rs : List Rule} {b c : Basic} : Path (succs (basSteps rs)) b c ↔ BPath rs b c := path_congr fun x y => by rw [mem_succs, mem_basSteps]
theorem mem_farSteps {b c : Basic} : (b, c) ∈ farSteps ↔ ∃ r ∈ roles, b = .has r ∧ c = .has (turned r) := by
  unfold farSteps
  rw [List.mem_map]
  constructor
  · rintro ⟨r, h, e⟩; cases e; exact ⟨r, h, rfl, rfl⟩
  · rintro ⟨r, h, e1, e2⟩; exact ⟨r, h, by rw [e1, e2]⟩
theorem path_far {rs : List Rule} (ok : OkRules rs) {b c : Basic} (hb : b ∈ basics) : Path (succs (basSteps rs ++ farSteps)) b c ↔ Path (farOn rs) b c := by
  constructor
  · intro p
    refine p.mono fun x y h => ?_
    rcases List.mem_append.mp (mem_succs.mp h) with q | q
    · exact mem_farOn.mpr (.inl (mem_basSteps.mp q))
    · obtain ⟨r, hr, e1, e2⟩ := mem_farSteps.mp q
      exact mem_farOn.mpr (.inr ⟨r, e1, e2⟩)
  · intro p
    have : c ∈ basics ∧ Path (succs (basSteps rs ++ farSteps)) b c := Path.closed (P := fun x => x ∈ basics ∧ Path (succs (basSteps rs ++ farSteps)) b x) p ⟨hb, .refl b⟩ fun x y hx hy => ⟨farOn_basics ok hx.1 hy, .step hx.2 (mem_succs.mpr (List.mem_append.mpr (by
      rcases mem_farOn.mp hy with q | ⟨r, e1, e2⟩
      · exact .inl (mem_basSteps.mpr q)
      · exact .inr (mem_farSteps.mpr ⟨r, has_basics.mp (e1 ▸ hx.1), e1, e2⟩))))⟩
    exact this.2
/-! what is reached -/
theorem reached_dir {rs : List Rule} {l : List Nat} {s : Nat} : s ∈ reachedM l (dirSteps rs) ↔ ∃ r ∈ l, RPath rs r s := by
  rw [mem_reachedM]
  exact exists_congr fun a => and_congr Iff.rfl path_dir
theorem reached_bas {rs : List Rule} {l : List Basic} {c : Basic} : c ∈ reachedM l (basSteps rs) ↔ ∃ b ∈ l, BPath rs b c := by
  rw [mem_reachedM]
  exact exists_congr fun a => and_congr Iff.rfl path_bas
/-! what rules forbid -/
def forbN (rs : List Rule) (l : List Nat) : Bool := rs.any fun x => match x with
  | .neverRole r s => l.contains r && l.contains s
  | _ => false
theorem forbN_iff {rs : List Rule} {l : List Nat} : forbN rs l = true ↔ oneSided rs l := by
  unfold forbN oneSided
  rw [List.any_eq_true]
  constructor
  · rintro ⟨x, hx, h⟩
    cases x with
    | neverRole b c =>
      rw [Bool.and_eq_true, List.contains_iff_mem, List.contains_iff_mem] at h
      exact ⟨b, c, hx, h⟩
    | sub => cases h
    | role => cases h
    | never => cases h
  · rintro ⟨b, c, hx, h⟩
    exact ⟨_, hx, by simpa using h⟩
theorem neverBoth_congr {rs : List Rule} {l k : List Basic} (h : ∀ b, b ∈ l ↔ b ∈ k) : neverBoth rs l = neverBoth rs k := by
  rw [Bool.eq_iff_iff, neverBoth_iff, neverBoth_iff]
  simp only [h]
def sideM (rs : List Rule) : Basic → Bool
  | .has r => forbN rs (reachedM [r] (dirSteps rs))
  | .kind _ => false
def clashM (rs : List Rule) (b : Basic) : Bool := neverBoth rs (reachedM [b] (basSteps rs)) || sideM rs b
theorem clashM_iff {rs : List Rule} (ok : OkRules rs) {b : Basic} (hb : b ∈ basics) : clashM rs b = true ↔ Clash rs b := by
  unfold clashM Clash
  rw [Bool.or_eq_true]
  have e : neverBoth rs (reachedM [b] (basSteps rs)) = neverBoth rs (up rs [b]) := neverBoth_congr fun c => by
    rw [reached_bas, mem_up1 ok hb]; simp
  rw [e]
  refine or_congr Iff.rfl ?_
  cases b with
  | kind k => constructor
              · intro h; cases h
              · rintro ⟨r, e, _⟩; cases e
  | has r =>
    show forbN rs (reachedM [r] (dirSteps rs)) = true ↔ _
    rw [forbN_iff]
    have hr := has_basics.mp hb
    have m : ∀ s, s ∈ reachedM [r] (dirSteps rs) ↔ s ∈ upRole rs r := fun s => by
      rw [reached_dir, mem_upRole ok hr]; simp
    unfold oneSided
    simp only [m]
    constructor
    · intro h; exact ⟨r, rfl, h⟩
    · rintro ⟨r', e, h⟩; cases e; exact h
/-! steps turned round -/
theorem path_rev {A : Type} [DecidableEq A] {steps : List (A × A)} {a b : A} (h : Path (succs steps) a b) : Path (succs (steps.map fun s => (s.2, s.1))) b a := by
  have one : ∀ x y, y ∈ succs steps x → x ∈ succs (steps.map fun s => (s.2, s.1)) y := fun x y h => mem_succs.mpr (List.mem_map.mpr ⟨(x, y), mem_succs.mp h, rfl⟩)
  induction h with
  | refl => exact .refl _
  | step _ h2 ih => exact Path.head (one _ _ h2) ih
theorem rev_rev {A : Type} {steps : List (A × A)} : ((steps.map fun s => (s.2, s.1)).map fun s => (s.2, s.1)) = steps := by
  rw [List.map_map]
  exact List.map_id'' (fun _ => rfl) _
theorem path_rev_iff {A : Type} [DecidableEq A] {steps : List (A × A)} {a b : A} : Path (succs (steps.map fun s => (s.2, s.1))) a b ↔ Path (succs steps) b a := by
  constructor
  · intro h
    have := path_rev h
    rw [rev_rev] at this
    exact this
  · exact path_rev
def badM (rs : List Rule) : List Basic := basics.filter fun b => (reachedM (basics.filter (clashM rs)) ((basSteps rs ++ farSteps).map fun s => (s.2, s.1))).contains b
theorem badM_eq {rs : List Rule} (ok : OkRules rs) : badM rs = bad rs := by
  rw [bad_filter ok]
  unfold badM
  refine List.filter_congr fun b hb => ?_
  rw [Bool.eq_iff_iff, List.contains_iff_mem, List.contains_iff_mem, mem_bad ok, bad_iff ok hb, mem_reachedM]
  constructor
  · rintro ⟨c, hc, p⟩
    have h' := List.mem_filter.mp hc
    exact ⟨hb, c, (path_far ok hb).mp (path_rev_iff.mp p), (clashM_iff ok h'.1).mp h'.2⟩
  · rintro ⟨_, c, p, w⟩
    have hc : c ∈ basics := Path.closed (P := fun x => x ∈ basics) p hb fun x y hx hy => farOn_basics ok hx hy
    exact ⟨c, List.mem_filter.mpr ⟨hc, (clashM_iff ok hc).mpr w⟩, path_rev_iff.mpr ((path_far ok hb).mpr p)⟩
/-! lengths -/
theorem flatMap_len {A B : Type} {f : A → List B} {n : Nat} (h : ∀ a, (f a).length ≤ n) : ∀ l : List A, (l.flatMap f).length ≤ n * l.length
  | [] => by simp
  | a :: l => by
    rw [List.flatMap_cons, List.length_append, List.length_cons, Nat.mul_succ]
    have := h a
    have := flatMap_len h l
    omega
theorem dirSteps_len (rs : List Rule) : (dirSteps rs).length ≤ 2 * rs.length := flatMap_len (fun x => by cases x <;> simp) rs
theorem subSteps_len (rs : List Rule) : (subSteps rs).length ≤ 1 * rs.length := flatMap_len (fun x => by cases x <;> simp) rs
theorem basSteps_len (rs : List Rule) : (basSteps rs).length ≤ 3 * rs.length := by
  unfold basSteps
  rw [List.length_append, List.length_map]
  have := dirSteps_len rs
  have := subSteps_len rs
  omega
/-! ### each once -/
theorem reachM_nodup {A : Type} [DecidableEq A] {steps : List (A × A)} : ∀ (n : Nat) (W F : List A), F.Nodup → (reachM steps n W F).Nodup
  | 0, _, _, h => h
  | n + 1, W, F, h => by
    rw [reachM]
    split
    · exact h
    · rename_i a _
      split
      · exact reachM_nodup n _ _ h
      · rename_i q
        refine reachM_nodup n _ _ ?_
        rw [List.nodup_append]
        refine ⟨h, by simp, fun x hx y hy => ?_⟩
        cases List.mem_singleton.mp hy
        rintro rfl
        exact q (List.contains_iff_mem.mpr hx)
theorem reachedM_nodup {A : Type} [DecidableEq A] {starts : List A} {steps : List (A × A)} : (reachedM starts steps).Nodup := reachM_nodup _ _ _ List.nodup_nil
theorem nodup_len {A : Type} [DecidableEq A] : ∀ (l m : List A), l.Nodup → (∀ x ∈ l, x ∈ m) → l.length ≤ m.length
  | [], m, _, _ => Nat.zero_le _
  | x :: l, m, h, s => by
    have h' := List.nodup_cons.mp h
    have := nodup_len l (m.erase x) h'.2 fun y hy => (List.mem_erase_of_ne (a := y) (b := x) (fun e => h'.1 (by subst e; exact hy))).mpr (s y (List.mem_cons_of_mem _ hy))
    rw [List.length_erase_of_mem (s x (List.mem_cons_self ..))] at this
    have : 0 < m.length := List.length_pos_of_mem (s x (List.mem_cons_self ..))
    rw [List.length_cons]
    omega
/-- what is in any of the rows, each once -/
def allInto {A B : Type} [DecidableEq B] (tab : A → List B) (found : List B) (starts : List A) : List B := starts.foldl (fun found s => found ++ (tab s).filter fun one => !found.contains one) found
def allM {A B : Type} [DecidableEq B] (tab : A → List B) (starts : List A) : List B := allInto tab [] starts
theorem allInto_more {A B : Type} [DecidableEq B] {tab : A → List B} {found : List B} {l : List A} {a : A} : allInto tab found (l ++ [a]) = allInto tab found l ++ (tab a).filter fun one => !(allInto tab found l).contains one := by
  unfold allInto
  rw [List.foldl_append]
  rfl
theorem mem_allInto {A B : Type} [DecidableEq B] {tab : A → List B} {b : B} : ∀ {starts : List A} {found : List B}, b ∈ allInto tab found starts ↔ b ∈ found ∨ ∃ a ∈ starts, b ∈ tab a
  | [], found => by simp [allInto]
  | a :: l, found => by
    have e : allInto tab found (a :: l) = allInto tab (found ++ (tab a).filter fun one => !found.contains one) l := rfl
    rw [e, mem_allInto, List.mem_append, List.mem_filter]
    constructor
    · rintro ((h | h) | ⟨x, hx, h⟩)
      · exact .inl h
      · exact .inr ⟨a, List.mem_cons_self .., h.1⟩
      · exact .inr ⟨x, List.mem_cons_of_mem _ hx, h⟩
    · rintro (h | ⟨x, hx, h⟩)
      · exact .inl (.inl h)
      · rcases List.mem_cons.mp hx with e | hx
        · subst e
          by_cases q : b ∈ found
          · exact .inl (.inl q)
          · exact .inl (.inr ⟨h, by simpa using q⟩)
        · exact .inr ⟨x, hx, h⟩
theorem mem_allM {A B : Type} [DecidableEq B] {tab : A → List B} {b : B} {starts : List A} : b ∈ allM tab starts ↔ ∃ a ∈ starts, b ∈ tab a := by
  unfold allM
  rw [mem_allInto]
  simp
theorem allInto_nodup {A B : Type} [DecidableEq B] {tab : A → List B} (ht : ∀ a, (tab a).Nodup) : ∀ {starts : List A} {found : List B}, found.Nodup → (allInto tab found starts).Nodup
  | [], found, h => h
  | a :: l, found, h => by
    have e : allInto tab found (a :: l) = allInto tab (found ++ (tab a).filter fun one => !found.contains one) l := rfl
    rw [e]
    refine allInto_nodup ht ?_
    rw [List.nodup_append]
    refine ⟨h, (ht a).filter _, fun x hx y hy => ?_⟩
    rintro rfl
    have := (List.mem_filter.mp hy).2
    rw [List.contains_iff_mem.mpr hx] at this
    cases this
theorem allM_nodup {A B : Type} [DecidableEq B] {tab : A → List B} (ht : ∀ a, (tab a).Nodup) {starts : List A} : (allM tab starts).Nodup := allInto_nodup ht List.nodup_nil
/-! ### what's told -/
theorem toldOf_len (fs : List Fact) (x : Nat) : (toldOf fs x).length ≤ 2 * fs.length := flatMap_len (fun f => by
  cases f with
  | kind y k => dsimp only; split <;> simp
  | edge z a w =>
    dsimp only
    rw [List.length_append]
    split <;> split <;> simp) fs
theorem toldDirs_len (fs : List Fact) (x y : Nat) : (toldDirs fs x y).length ≤ 2 * fs.length := flatMap_len (fun f => by
  cases f with
  | kind => simp
  | edge z a w =>
    dsimp only
    rw [List.length_append]
    split <;> split <;> simp) fs
def afterD (rs : List Rule) (r : Nat) : List Nat := reachedM [r] (dirSteps rs)
def afterB (rs : List Rule) (b : Basic) : List Basic := reachedM [b] (basSteps rs)
theorem mem_afterD {rs : List Rule} {r s : Nat} : s ∈ afterD rs r ↔ RPath rs r s := by
  unfold afterD
  rw [reached_dir]
  simp
theorem mem_afterB {rs : List Rule} {b c : Basic} : c ∈ afterB rs b ↔ BPath rs b c := by
  unfold afterB
  rw [reached_bas]
  simp
def dirsM (d : Desk) (x y : Nat) : List Nat := allM (afterD d.rules) (toldDirs d.facts x y)
theorem mem_dirsM {d : Desk} (ok : OkDesk d) {x y r : Nat} : r ∈ dirsM d x y ↔ r ∈ between d x y := by
  rw [mem_between ok]
  unfold dirsM
  rw [mem_allM]
  exact exists_congr fun t => and_congr Iff.rfl mem_afterD
def profM (d : Desk) (x : Nat) : List Basic := allM (afterB d.rules) (toldOf d.facts x)
theorem mem_profM {d : Desk} (ok : OkDesk d) {x : Nat} {b : Basic} : b ∈ profM d x ↔ b ∈ typeOf d x := by
  rw [mem_typeOf ok]
  unfold profM
  rw [mem_allM]
  exact exists_congr fun t => and_congr Iff.rfl mem_afterB
theorem dirsM_nodup {d : Desk} {x y : Nat} : (dirsM d x y).Nodup := allM_nodup fun _ => reachedM_nodup
theorem profM_nodup {d : Desk} {x : Nat} : (profM d x).Nodup := allM_nodup fun _ => reachedM_nodup
theorem dirsM_len {d : Desk} (ok : OkDesk d) {x y : Nat} : (dirsM d x y).length ≤ 8 := nodup_len _ roles dirsM_nodup fun r h => between_roles ok ((mem_dirsM ok).mp h)
theorem profM_len {d : Desk} (ok : OkDesk d) {x : Nat} : (profM d x).length ≤ 14 := nodup_len _ basics profM_nodup fun r h => typeOf_basics ok ((mem_profM ok).mp h)
theorem afterD_len {rs : List Rule} (ok : OkRules rs) {r : Nat} (hr : r ∈ roles) : (afterD rs r).length ≤ 8 := nodup_len _ roles reachedM_nodup fun s h => RPath.roles ok hr (mem_afterD.mp h)
theorem afterB_len {rs : List Rule} (ok : OkRules rs) {b : Basic} (hb : b ∈ basics) : (afterB rs b).length ≤ 14 := nodup_len _ basics reachedM_nodup fun s h => BPath.basics ok hb (mem_afterB.mp h)
def clashBM (d : Desk) (x y : Nat) : Bool := forbN d.rules (dirsM d x y) || forbN d.rules ((dirsM d x y).map turned)
theorem clashBM_eq {d : Desk} (ok : OkDesk d) {x y : Nat} : clashBM d x y = neverRoles d.rules (between d x y) := by
  rw [Bool.eq_iff_iff]
  unfold clashBM
  rw [Bool.or_eq_true, forbN_iff, forbN_iff, neverRoles_iff]
  unfold oneSided
  have m : ∀ r, r ∈ dirsM d x y ↔ r ∈ between d x y := fun r => mem_dirsM ok
  have t : ∀ r ∈ roles, (r ∈ (dirsM d x y).map turned ↔ turned r ∈ between d x y) := fun r hr => by
    rw [List.mem_map]
    constructor
    · rintro ⟨s, hs, e⟩
      have hs' := (m s).mp hs
      rw [← e, turned_turned (between_roles ok hs')]; exact hs'
    · intro h
      exact ⟨turned r, (m _).mpr h, turned_turned hr⟩
  constructor
  · rintro (⟨r, s, hx, h1, h2⟩ | ⟨r, s, hx, h1, h2⟩)
    · exact ⟨r, s, hx, .inl ⟨(m r).mp h1, (m s).mp h2⟩⟩
    · exact ⟨r, s, hx, .inr ⟨(t r (ok.rules _ hx).1).mp h1, (t s (ok.rules _ hx).2).mp h2⟩⟩
  · rintro ⟨r, s, hx, ⟨h1, h2⟩ | ⟨h1, h2⟩⟩
    · exact .inl ⟨r, s, hx, (m r).mpr h1, (m s).mpr h2⟩
    · exact .inr ⟨r, s, hx, (t r (ok.rules _ hx).1).mpr h1, (t s (ok.rules _ hx).2).mpr h2⟩
def wrongM (d : Desk) (bd : List Basic) (x : Nat) : Bool := (neverBoth d.rules (profM d x) || (profM d x).any fun b => bd.contains b) || nodes.any fun y => clashBM d x y
theorem wrongM_eq {d : Desk} (ok : OkDesk d) {x : Nat} : wrongM d (bad d.rules) x = !fineBy (bad d.rules) d x := by
  rw [Bool.eq_iff_iff, Bool.not_eq_true', ← Bool.not_eq_true, fineBy_bad ok]
  unfold wrongM
  rw [Bool.or_eq_true, Bool.or_eq_true, neverBoth_congr (fun b => mem_profM ok), List.any_eq_true, List.any_eq_true]
  constructor
  · rintro ((h | ⟨b, hb, h⟩) | ⟨y, hy, h⟩) ⟨h1, h2, h3⟩
    · rw [h1] at h; cases h
    · exact h2 b ((mem_profM ok).mp hb) ((mem_bad ok.rules).mp (List.contains_iff_mem.mp h)).2
    · rw [clashBM_eq ok, h3 y hy] at h; cases h
  · intro h
    apply Classical.byContradiction
    intro no
    refine h ⟨?_, fun b hb q => ?_, fun y hy => ?_⟩
    · rw [Bool.eq_false_iff]; exact fun q => no (.inl (.inl q))
    · exact no (.inl (.inr ⟨b, (mem_profM ok).mpr hb, List.contains_iff_mem.mpr ((mem_bad ok.rules).mpr ⟨typeOf_basics ok hb, q⟩)⟩))
    · rw [Bool.eq_false_iff, ← clashBM_eq ok]; exact fun q => no (.inr ⟨y, hy, q⟩)
def wrongsM (d : Desk) : List Nat := nodes.filter fun x => wrongM d (badM d.rules) x
theorem wrongsM_eq {d : Desk} (ok : OkDesk d) : wrongsM d = nodes.filter fun x => !fineBy (bad d.rules) d x := by
  unfold wrongsM
  rw [badM_eq ok.rules]
  exact List.filter_congr fun x _ => wrongM_eq ok
theorem sound_wrongs {d : Desk} (ok : OkDesk d) : sound d = (wrongsM d).isEmpty := by
  rw [Bool.eq_iff_iff, sound_iff, List.isEmpty_iff, wrongsM_eq ok, List.filter_eq_nil_iff]
  simp
def certM (d : Desk) (b : Basic) : List Nat := if 0 < (wrongsM d).length then nodes else nodes.filter fun x => (profM d x).contains b
theorem certM_eq {d : Desk} (ok : OkDesk d) {b : Basic} : certM d b = nodes.filter fun x => isCertain d x b := by
  unfold certM isCertain
  rw [sound_wrongs ok]
  cases h : wrongsM d with
  | nil =>
    rw [if_neg (by simp)]
    refine List.filter_congr fun x _ => ?_
    show _ = (false || _)
    rw [Bool.false_or, Bool.eq_iff_iff, List.contains_iff_mem, List.contains_iff_mem]
    exact mem_profM ok
  | cons a l =>
    rw [if_pos (by simp)]
    show nodes = nodes.filter fun x => true
    rw [List.filter_eq_self.mpr (fun _ _ => rfl)]
/-! ### edges that are certain -/
theorem roles_sorted : roles.Pairwise (· ≤ ·) := by decide
def cdirM (d : Desk) (x y : Nat) : List Nat := if 0 < (wrongsM d).length then roles else roles.filter fun r => (dirsM d x y).contains r
theorem cdirM_eq {d : Desk} (ok : OkDesk d) {x y : Nat} : cdirM d x y = roles.filter fun r => edgeCertain d x y r := by
  unfold cdirM edgeCertain
  rw [sound_wrongs ok]
  cases h : wrongsM d with
  | nil =>
    rw [if_neg (by simp)]
    refine List.filter_congr fun r _ => ?_
    show _ = (false || _)
    rw [Bool.false_or, Bool.eq_iff_iff, List.contains_iff_mem, List.contains_iff_mem]
    exact mem_dirsM ok
  | cons a l =>
    rw [if_pos (by simp)]
    show roles = roles.filter fun x => true
    rw [List.filter_eq_self.mpr (fun _ _ => rfl)]
end Wm

namespace Wm
open Gq03
/-! ### A desk that may be, and what a call leaves of it -/
structure Fit (d : Desk) : Prop where
  ok : OkDesk d
  fl : d.facts.length ≤ 14
  rl : d.rules.length ≤ 12
theorem fit_init : Fit init := ⟨⟨fun _ h => (by cases h), fun _ h => (by cases h)⟩, (by decide), (by decide)⟩
theorem fit_addFact {d : Desk} (h : Fit d) {f : Fact} (hf : OkFact f) : Fit (addFact d f).1 := by
  unfold addFact
  split
  · exact h
  · split
    · exact h
    · refine ⟨⟨fun x hx => ?_, h.ok.rules⟩, ?_, h.rl⟩
      · rcases List.mem_append.mp hx with q | q
        · exact h.ok.facts x q
        · cases List.mem_singleton.mp q; exact hf
      · show (d.facts ++ [f]).length ≤ 14
        rw [List.length_append, List.length_singleton]; omega
theorem fit_addRule {d : Desk} (h : Fit d) {r : Rule} (hr : OkRule r) : Fit (addRule d r).1 := by
  unfold addRule
  split
  · exact h
  · refine ⟨⟨h.ok.facts, fun x hx => ?_⟩, h.fl, ?_⟩
    · rcases List.mem_append.mp hx with q | q
      · exact h.ok.rules x q
      · cases List.mem_singleton.mp q; exact hr
    · show (d.rules ++ [r]).length ≤ 12
      rw [List.length_append, List.length_singleton]; omega
theorem mem_without {A : Type} {n : Nat} {l : List A} {x : A} (h : x ∈ without n l) : x ∈ l := by
  unfold without at h
  rcases List.mem_append.mp h with q | q
  · exact List.mem_of_mem_take q
  · exact List.mem_of_mem_drop q
theorem len_without {A : Type} {n : Nat} {l : List A} : (without n l).length ≤ l.length := by
  unfold without
  rw [List.length_append, List.length_take, List.length_drop]
  omega
theorem not_false_mem {A : Type} [BEq A] [LawfulBEq A] {l : List A} {x : A} (h : ¬ l.contains x = false) : x ∈ l := List.contains_iff_mem.mp (by simpa using h)
theorem fit_step {d : Desk} (h : Fit d) (c : Call) : Fit (step d c).1 := by
  cases c with
  | kind x k =>
    show Fit (if isNode x = false ∨ k = 0 ∨ 6 < k then (d, [-1]) else addFact d (.kind x k)).1
    split
    · exact h
    · rename_i q
      simp only [not_or] at q
      exact fit_addFact h ⟨not_false_mem q.1, by omega⟩
  | edge x a y =>
    show Fit (if isNode x = false ∨ isNode y = false ∨ a = 0 ∨ 4 < a then (d, [-1]) else addFact d (.edge x a y)).1
    split
    · exact h
    · rename_i q
      simp only [not_or] at q
      exact fit_addFact h ⟨not_false_mem q.1, by omega, not_false_mem q.2.1⟩
  | drop n =>
    show Fit (if d.facts.length ≤ n then (d, [-2]) else ({ d with facts := without n d.facts }, Gq03.ints [d.facts.length - 1])).1
    split
    · exact h
    · exact ⟨⟨fun x hx => h.ok.facts x (mem_without hx), h.ok.rules⟩, Nat.le_trans len_without h.fl, h.rl⟩
  | sub b c =>
    show Fit (if isBasic b = false ∨ isBasic c = false then (d, [-1]) else addRule d (.sub b c)).1
    split
    · exact h
    · rename_i q
      simp only [not_or] at q
      exact fit_addRule h ⟨not_false_mem q.1, not_false_mem q.2⟩
  | role b c =>
    show Fit (if isRole b = false ∨ isRole c = false then (d, [-1]) else addRule d (.role b c)).1
    split
    · exact h
    · rename_i q
      simp only [not_or] at q
      exact fit_addRule h ⟨not_false_mem q.1, not_false_mem q.2⟩
  | never b c =>
    show Fit (if isBasic b = false ∨ isBasic c = false then (d, [-1]) else addRule d (.never b c)).1
    split
    · exact h
    · rename_i q
      simp only [not_or] at q
      exact fit_addRule h ⟨not_false_mem q.1, not_false_mem q.2⟩
  | neverRole b c =>
    show Fit (if isRole b = false ∨ isRole c = false then (d, [-1]) else addRule d (.neverRole b c)).1
    split
    · exact h
    · rename_i q
      simp only [not_or] at q
      exact fit_addRule h ⟨not_false_mem q.1, not_false_mem q.2⟩
  | strike n =>
    show Fit (if d.rules.length ≤ n then (d, [-2]) else ({ d with rules := without n d.rules }, Gq03.ints [d.rules.length - 1])).1
    split
    · exact h
    · exact ⟨⟨h.ok.facts, fun x hx => h.ok.rules x (mem_without hx)⟩, h.fl, Nat.le_trans len_without h.rl⟩
  | is_ => exact h
  | who => exact h
  | edges => exact h
  | chain => exact h
  | all => exact h
  | sound => exact h
  | follows => exact h
  | bad => exact h
  | idle => exact h
  | whence => exact h
  | fewest => exact h

/-! ### Fewer things told -/
theorem ok_sub {d : Desk} (ok : OkDesk d) {fs : List Fact} (h : ∀ f ∈ fs, f ∈ d.facts) : OkDesk ⟨fs, d.rules⟩ := ⟨fun f hf => ok.facts f (h f hf), ok.rules⟩
theorem toldOf_mono {fs gs : List Fact} (h : ∀ f ∈ fs, f ∈ gs) {x : Nat} {b : Basic} (hb : b ∈ toldOf fs x) : b ∈ toldOf gs x := by
  rcases mem_toldOf.mp hb with ⟨k, hf, e⟩ | ⟨a, y, hf, e⟩ | ⟨a, y, hf, e⟩
  · exact mem_toldOf.mpr (.inl ⟨k, h _ hf, e⟩)
  · exact mem_toldOf.mpr (.inr (.inl ⟨a, y, h _ hf, e⟩))
  · exact mem_toldOf.mpr (.inr (.inr ⟨a, y, h _ hf, e⟩))
theorem toldOf_one {fs : List Fact} {x : Nat} {b : Basic} (hb : b ∈ toldOf fs x) : ∃ f ∈ fs, b ∈ toldOf [f] x := by
  rcases mem_toldOf.mp hb with ⟨k, hf, e⟩ | ⟨a, y, hf, e⟩ | ⟨a, y, hf, e⟩
  · exact ⟨_, hf, mem_toldOf.mpr (.inl ⟨k, by simp, e⟩)⟩
  · exact ⟨_, hf, mem_toldOf.mpr (.inr (.inl ⟨a, y, by simp, e⟩))⟩
  · exact ⟨_, hf, mem_toldOf.mpr (.inr (.inr ⟨a, y, by simp, e⟩))⟩
theorem toldDirs_mono {fs gs : List Fact} (h : ∀ f ∈ fs, f ∈ gs) {x y r : Nat} (hb : r ∈ toldDirs fs x y) : r ∈ toldDirs gs x y := by
  rcases mem_toldDirs.mp hb with ⟨a, hf, e⟩ | ⟨a, hf, e⟩
  · exact mem_toldDirs.mpr (.inl ⟨a, h _ hf, e⟩)
  · exact mem_toldDirs.mpr (.inr ⟨a, h _ hf, e⟩)
theorem toldDirs_one {fs : List Fact} {x y r : Nat} (hb : r ∈ toldDirs fs x y) : ∃ f ∈ fs, r ∈ toldDirs [f] x y := by
  rcases mem_toldDirs.mp hb with ⟨a, hf, e⟩ | ⟨a, hf, e⟩
  · exact ⟨_, hf, mem_toldDirs.mpr (.inl ⟨a, by simp, e⟩)⟩
  · exact ⟨_, hf, mem_toldDirs.mpr (.inr ⟨a, by simp, e⟩)⟩
theorem typeOf_mono {fs gs : List Fact} {rs : List Rule} (okg : OkDesk ⟨gs, rs⟩) (h : ∀ f ∈ fs, f ∈ gs) {x : Nat} {b : Basic} (hb : b ∈ typeOf ⟨fs, rs⟩ x) : b ∈ typeOf ⟨gs, rs⟩ x := by
  have okf : OkDesk ⟨fs, rs⟩ := ⟨fun f hf => okg.facts f (h f hf), okg.rules⟩
  obtain ⟨t, ht, p⟩ := (mem_typeOf okf).mp hb
  exact (mem_typeOf okg).mpr ⟨t, toldOf_mono h ht, p⟩
theorem between_mono {fs gs : List Fact} {rs : List Rule} (okg : OkDesk ⟨gs, rs⟩) (h : ∀ f ∈ fs, f ∈ gs) {x y r : Nat} (hb : r ∈ between ⟨fs, rs⟩ x y) : r ∈ between ⟨gs, rs⟩ x y := by
  have okf : OkDesk ⟨fs, rs⟩ := ⟨fun f hf => okg.facts f (h f hf), okg.rules⟩
  obtain ⟨t, ht, p⟩ := (mem_between okf).mp hb
  exact (mem_between okg).mpr ⟨t, toldDirs_mono h ht, p⟩
theorem sound_mono {fs gs : List Fact} {rs : List Rule} (okg : OkDesk ⟨gs, rs⟩) (h : ∀ f ∈ fs, f ∈ gs) (hs : sound ⟨gs, rs⟩ = true) : sound ⟨fs, rs⟩ = true := by
  have okf : OkDesk ⟨fs, rs⟩ := ⟨fun f hf => okg.facts f (h f hf), okg.rules⟩
  rw [sound_iff] at hs ⊢
  intro x hx
  have := (fineBy_bad okg).mp (hs x hx)
  refine (fineBy_bad okf).mpr ⟨?_, fun b hb => this.2.1 b (typeOf_mono okg h hb), fun y hy => ?_⟩
  · rw [Bool.eq_false_iff]
    intro q
    obtain ⟨b, c, hr, h1, h2⟩ := neverBoth_iff.mp q
    have := this.1
    rw [neverBoth_iff.mpr ⟨b, c, hr, typeOf_mono okg h h1, typeOf_mono okg h h2⟩] at this
    cases this
  · rw [Bool.eq_false_iff]
    intro q
    obtain ⟨b, c, hr, h1⟩ := neverRoles_iff.mp q
    have := this.2.2 y hy
    rw [neverRoles_iff.mpr ⟨b, c, hr, h1.imp (fun z => ⟨between_mono okg h z.1, between_mono okg h z.2⟩) (fun z => ⟨between_mono okg h z.1, between_mono okg h z.2⟩)⟩] at this
    cases this
/-- no rule looks at more than two things told -/
theorem sound_pairs {fs : List Fact} {rs : List Rule} (ok : OkDesk ⟨fs, rs⟩) : sound ⟨fs, rs⟩ = true ↔ ∀ f ∈ fs, ∀ g ∈ fs, sound ⟨[f, g], rs⟩ = true := by
  constructor
  · intro h f hf g hg
    exact sound_mono ok (fun z hz => by
      rcases List.mem_cons.mp hz with e | e
      · rw [e]; exact hf
      · rw [List.mem_singleton.mp e]; exact hg) h
  · intro h
    rw [sound_iff]
    intro x hx
    have two : ∀ f ∈ fs, ∀ g ∈ fs, OkDesk ⟨[f, g], rs⟩ := fun f hf g hg => ⟨fun z hz => by
      rcases List.mem_cons.mp hz with e | e
      · rw [e]; exact ok.facts f hf
      · rw [List.mem_singleton.mp e]; exact ok.facts g hg, ok.rules⟩
    have fine : ∀ f ∈ fs, ∀ g ∈ fs, _ := fun f hf g hg => (fineBy_bad (two f hf g hg)).mp (sound_iff.mp (h f hf g hg) x hx)
    have ty : ∀ b ∈ typeOf ⟨fs, rs⟩ x, ∃ f ∈ fs, ∀ g ∈ fs, b ∈ typeOf ⟨[f, g], rs⟩ x ∧ b ∈ typeOf ⟨[g, f], rs⟩ x := fun b hb => by
      obtain ⟨t, ht, p⟩ := (mem_typeOf ok).mp hb
      obtain ⟨f, hf, ht'⟩ := toldOf_one ht
      exact ⟨f, hf, fun g hg => ⟨(mem_typeOf (two f hf g hg)).mpr ⟨t, toldOf_mono (fun z hz => by cases List.mem_singleton.mp hz; simp) ht', p⟩, (mem_typeOf (two g hg f hf)).mpr ⟨t, toldOf_mono (fun z hz => by cases List.mem_singleton.mp hz; simp) ht', p⟩⟩⟩
    have bt : ∀ y r, r ∈ between ⟨fs, rs⟩ x y → ∃ f ∈ fs, ∀ g ∈ fs, r ∈ between ⟨[f, g], rs⟩ x y ∧ r ∈ between ⟨[g, f], rs⟩ x y := fun y r hb => by
      obtain ⟨t, ht, p⟩ := (mem_between ok).mp hb
      obtain ⟨f, hf, ht'⟩ := toldDirs_one ht
      exact ⟨f, hf, fun g hg => ⟨(mem_between (two f hf g hg)).mpr ⟨t, toldDirs_mono (fun z hz => by cases List.mem_singleton.mp hz; simp) ht', p⟩, (mem_between (two g hg f hf)).mpr ⟨t, toldDirs_mono (fun z hz => by cases List.mem_singleton.mp hz; simp) ht', p⟩⟩⟩
    refine (fineBy_bad ok).mpr ⟨?_, fun b hb q => ?_, fun y hy => ?_⟩
    · rw [Bool.eq_false_iff]
      intro q
      obtain ⟨b, c, hr, h1, h2⟩ := neverBoth_iff.mp q
      obtain ⟨f, hf, k1⟩ := ty b h1
      obtain ⟨g, hg, k2⟩ := ty c h2
      have := (fine f hf g hg).1
      rw [neverBoth_iff.mpr ⟨b, c, hr, (k1 g hg).1, (k2 f hf).2⟩] at this
      cases this
    · obtain ⟨f, hf, k1⟩ := ty b hb
      exact (fine f hf f hf).2.1 b (k1 f hf).1 q
    · rw [Bool.eq_false_iff]
      intro q
      obtain ⟨b, c, hr, h1⟩ := neverRoles_iff.mp q
      rcases h1 with ⟨h1, h2⟩ | ⟨h1, h2⟩
      · obtain ⟨f, hf, k1⟩ := bt y _ h1
        obtain ⟨g, hg, k2⟩ := bt y _ h2
        have := (fine f hf g hg).2.2 y hy
        rw [neverRoles_iff.mpr ⟨b, c, hr, .inl ⟨(k1 g hg).1, (k2 f hf).2⟩⟩] at this
        cases this
      · obtain ⟨f, hf, k1⟩ := bt y _ h1
        obtain ⟨g, hg, k2⟩ := bt y _ h2
        have := (fine f hf g hg).2.2 y hy
        rw [neverRoles_iff.mpr ⟨b, c, hr, .inr ⟨(k1 g hg).1, (k2 f hf).2⟩⟩] at this
        cases this

/-! ### Rows of steps -/
def tyP (d : Desk) : Pos → List Basic
  | (x, []) => typeOf d x
  | (_, r :: _) => up d.rules [.has (turned r)]
def OkPos (p : Pos) : Prop := p.1 ∈ nodes ∧ ∀ r ∈ p.2, r ∈ roles
def goP (d : Desk) (p : Pos) (t : Role) (z : Pos) : Prop :=
  (match p.2 with
    | [] => ∃ y ∈ nodes, z = (y, []) ∧ t ∈ between d p.1 y
    | r :: l => z = (p.1, l) ∧ t ∈ upRole d.rules (turned r)) ∨
  ∃ s ∈ roles, .has s ∈ tyP d p ∧ t ∈ upRole d.rules s ∧ z = (p.1, s :: p.2)
def leadP (d : Desk) : Pos → Ask → Prop
  | _, [] => True
  | p, q :: l => ∃ z, goP d p q.1 z ∧ (q.2 = 0 ∨ .kind q.2 ∈ tyP d z) ∧ leadP d z l
theorem getD_range {A : Type} {n : Nat} {f : Nat → A} {i : Nat} {e : A} (h : i < n) : ((List.range n).map f).getD i e = f i := by
  rw [List.getD_eq_getElem?_getD, List.getElem?_map, List.getElem?_range h]
  rfl
theorem role_lt {r : Nat} (h : r ∈ roles) : r < 10 := by have := mem_roles.mp h; omega
theorem node_lt {r : Nat} (h : r ∈ nodes) : r < 9 := by have := mem_nodes.mp h; omega
theorem typeIn_eq {d : Desk} : ∀ {p : Pos}, OkPos p → typeIn (bookOf d) p = tyP d p
  | (x, []), h => by
    show ((List.range 9).map (typeOf d)).getD x [] = typeOf d x
    exact getD_range (node_lt h.1)
  | (x, r :: l), h => by
    show ((List.range 10).map fun r => up d.rules [.has r]).getD (turned r) [] = _
    rw [getD_range (role_lt (turned_roles (h.2 r (List.mem_cons_self ..))))]
    rfl
theorem above_eq {d : Desk} {r : Nat} (h : r ∈ roles) : (bookOf d).above.getD r [] = upRole d.rules r := getD_range (role_lt h)
theorem dirs_eq {d : Desk} {x y : Nat} (hx : x ∈ nodes) (hy : y ∈ nodes) : ((bookOf d).dirs.getD x []).getD y [] = between d x y := by
  show (((List.range 9).map fun x => (List.range 9).map fun y => between d x y).getD x []).getD y [] = _
  rw [getD_range (node_lt hx), getD_range (node_lt hy)]
theorem goP_ok {d : Desk} {p : Pos} (hp : OkPos p) {t : Role} {z : Pos} (h : goP d p t z) : OkPos z := by
  obtain ⟨x, path⟩ := p
  rcases h with h | ⟨s, hs, _, _, e⟩
  · cases path with
    | nil =>
      obtain ⟨y, hy, e, _⟩ := h
      rw [e]
      exact ⟨hy, fun r hr => by cases hr⟩
    | cons r l =>
      obtain ⟨e, _⟩ := h
      rw [e]
      exact ⟨hp.1, fun q hq => hp.2 q (List.mem_cons_of_mem _ hq)⟩
  · rw [e]
    refine ⟨hp.1, fun q hq => ?_⟩
    rcases List.mem_cons.mp hq with e | e
    · rw [e]; exact hs
    · exact hp.2 q e
theorem mem_goesIn {d : Desk} {p : Pos} (hp : OkPos p) {t : Role} {z : Pos} : z ∈ goesIn (bookOf d) p t ↔ goP d p t z := by
  unfold goesIn goP
  rw [List.mem_append, typeIn_eq hp]
  obtain ⟨x, path⟩ := p
  refine or_congr ?_ ?_
  · cases path with
    | nil =>
      dsimp only
      rw [List.mem_map]
      constructor
      · rintro ⟨y, hy, e⟩
        obtain ⟨h1, h2⟩ := List.mem_filter.mp hy
        rw [dirs_eq hp.1 h1] at h2
        exact ⟨y, h1, e.symm, List.contains_iff_mem.mp h2⟩
      · rintro ⟨y, hy, e, h⟩
        exact ⟨y, List.mem_filter.mpr ⟨hy, by rw [dirs_eq hp.1 hy]; exact List.contains_iff_mem.mpr h⟩, e.symm⟩
    | cons r l =>
      dsimp only
      rw [above_eq (turned_roles (hp.2 r (List.mem_cons_self ..)))]
      constructor
      · intro h
        split at h
        · rename_i q
          exact ⟨List.mem_singleton.mp h, List.contains_iff_mem.mp q⟩
        · cases h
      · rintro ⟨e, h⟩
        rw [if_pos (List.contains_iff_mem.mpr h)]
        exact List.mem_singleton.mpr e
  · dsimp only
    rw [List.mem_map]
    constructor
    · rintro ⟨s, hs, e⟩
      obtain ⟨h1, h2⟩ := List.mem_filter.mp hs
      rw [Bool.and_eq_true, List.contains_iff_mem, List.contains_iff_mem, above_eq h1] at h2
      exact ⟨s, h1, h2.1, h2.2, e.symm⟩
    · rintro ⟨s, hs, h1, h2, e⟩
      exact ⟨s, List.mem_filter.mpr ⟨hs, by rw [Bool.and_eq_true, List.contains_iff_mem, List.contains_iff_mem, above_eq hs]; exact ⟨h1, h2⟩⟩, e.symm⟩
theorem leadsIn_iff {d : Desk} : ∀ {q : Ask} {p : Pos}, OkPos p → (leadsIn (bookOf d) p q = true ↔ leadP d p q)
  | [], _, _ => by simp [leadsIn, leadP]
  | a :: l, p, hp => by
    unfold leadsIn leadP
    rw [List.any_eq_true]
    constructor
    · rintro ⟨z, hz, h⟩
      have hz' := (mem_goesIn hp).mp hz
      have oz := goP_ok hp hz'
      rw [Bool.and_eq_true, Bool.or_eq_true, typeIn_eq oz, List.contains_iff_mem, leadsIn_iff oz] at h
      exact ⟨z, hz', h.1.imp (fun q => by simpa using q) id, h.2⟩
    · rintro ⟨z, hz, h1, h2⟩
      have oz := goP_ok hp hz
      refine ⟨z, (mem_goesIn hp).mpr hz, ?_⟩
      rw [Bool.and_eq_true, Bool.or_eq_true, typeIn_eq oz, List.contains_iff_mem, leadsIn_iff oz]
      exact ⟨h1.imp (fun q => by simpa using q) id, h2⟩
end Wm

namespace Wm
open Gq03
/-! ### The fewest things told -/
def remain (c : List Nat) (fs : List Fact) : List Fact := ((List.range fs.length).zip fs).filterMap fun a => if c.contains a.1 = true then none else some a.2
theorem mem_zip_range {A : Type} {l : List A} {i : Nat} {x : A} : (i, x) ∈ (List.range l.length).zip l ↔ l[i]? = some x := by
  rw [List.mem_iff_getElem?]
  constructor
  · rintro ⟨j, h⟩
    rw [List.getElem?_zip_eq_some] at h
    obtain ⟨h1, h2⟩ := h
    rw [List.getElem?_range (List.getElem?_eq_some_iff.mp h2).1] at h1
    cases h1
    exact h2
  · intro h
    refine ⟨i, List.getElem?_zip_eq_some.mpr ⟨List.getElem?_range (List.getElem?_eq_some_iff.mp h).1, h⟩⟩
theorem mem_remain {c : List Nat} {fs : List Fact} {f : Fact} : f ∈ remain c fs ↔ ∃ i, fs[i]? = some f ∧ i ∉ c := by
  unfold remain
  rw [List.mem_filterMap]
  constructor
  · rintro ⟨⟨i, x⟩, h1, h2⟩
    have h1 := mem_zip_range.mp h1
    dsimp only at h2
    split at h2
    · cases h2
    · rename_i q
      cases h2
      exact ⟨i, h1, fun w => q (List.contains_iff_mem.mpr w)⟩
  · rintro ⟨i, h, q⟩
    exact ⟨(i, f), mem_zip_range.mpr h, by dsimp only; rw [if_neg (fun w => q (List.contains_iff_mem.mp w))]⟩
theorem remain_sub {c : List Nat} {fs : List Fact} {f : Fact} (h : f ∈ remain c fs) : f ∈ fs := by
  obtain ⟨i, h, _⟩ := mem_remain.mp h
  exact List.mem_of_getElem? h
theorem sound_swap {f g : Fact} {rs : List Rule} (ok : OkDesk ⟨[f, g], rs⟩) (h : sound ⟨[f, g], rs⟩ = true) : sound ⟨[g, f], rs⟩ = true := sound_mono ok (fun z hz => by
  rcases List.mem_cons.mp hz with e | e
  · rw [e]; simp
  · rw [List.mem_singleton.mp e]; simp) h
theorem mem_clashes {d : Desk} {i j : Nat} : (i, j) ∈ clashes d ↔ ∃ f g, d.facts[i]? = some f ∧ d.facts[j]? = some g ∧ i ≤ j ∧ sound ⟨[f, g], d.rules⟩ = false := by
  unfold clashes
  dsimp only
  rw [List.mem_flatMap]
  constructor
  · rintro ⟨⟨i', f⟩, hf, h⟩
    rw [List.mem_filterMap] at h
    obtain ⟨⟨j', g⟩, hg, h⟩ := h
    dsimp only at h
    split at h
    · rename_i q
      cases h
      exact ⟨f, g, mem_zip_range.mp hf, mem_zip_range.mp hg, q.1, q.2⟩
    · cases h
  · rintro ⟨f, g, hf, hg, hij, hs⟩
    refine ⟨(i, f), mem_zip_range.mpr hf, List.mem_filterMap.mpr ⟨(j, g), mem_zip_range.mpr hg, ?_⟩⟩
    dsimp only
    rw [if_pos ⟨hij, hs⟩]
/-- a choice hits every clash just if what is left can be -/
theorem clashes_hit {d : Desk} (ok : OkDesk d) (c : List Nat) : ((clashes d).all fun p => c.contains p.1 || c.contains p.2) = sound ⟨remain c d.facts, d.rules⟩ := by
  have okr : OkDesk ⟨remain c d.facts, d.rules⟩ := ok_sub ok fun f hf => remain_sub hf
  rw [Bool.eq_iff_iff, List.all_eq_true, sound_pairs okr]
  constructor
  · intro h f hf g hg
    obtain ⟨i, hi, ni⟩ := mem_remain.mp hf
    obtain ⟨j, hj, nj⟩ := mem_remain.mp hg
    have okf := ok.facts f (List.mem_of_getElem? hi)
    have okg := ok.facts g (List.mem_of_getElem? hj)
    apply Classical.byContradiction
    intro no
    have no' : sound ⟨[f, g], d.rules⟩ = false := by simpa using no
    rcases Nat.le_total i j with le | le
    · have := h (i, j) (mem_clashes.mpr ⟨f, g, hi, hj, le, no'⟩)
      simp at this
      exact this.elim ni nj
    · have okgf : OkDesk ⟨[g, f], d.rules⟩ := ⟨fun z hz => by
        rcases List.mem_cons.mp hz with e | e
        · rw [e]; exact okg
        · rw [List.mem_singleton.mp e]; exact okf, ok.rules⟩
      have no2 : sound ⟨[g, f], d.rules⟩ = false := by
        rw [Bool.eq_false_iff]
        intro q
        rw [sound_swap okgf q] at no'
        cases no'
      have := h (j, i) (mem_clashes.mpr ⟨g, f, hj, hi, le, no2⟩)
      simp at this
      exact this.elim nj ni
  · rintro h ⟨i, j⟩ hp
    obtain ⟨f, g, hi, hj, _, hs⟩ := mem_clashes.mp hp
    dsimp only
    rw [Bool.or_eq_true, List.contains_iff_mem, List.contains_iff_mem]
    apply Classical.byContradiction
    intro no
    simp only [not_or] at no
    have := h f (mem_remain.mpr ⟨i, hi, no.1⟩) g (mem_remain.mpr ⟨j, hj, no.2⟩)
    rw [hs] at this
    cases this
/-- the first choice, fewest first, behind which the others can be -/
def fewestM (d : Desk) : List Nat := ((List.range (d.facts.length + 1)).findSome? fun k => (choices k (List.range d.facts.length)).find? fun c => sound ⟨remain c d.facts, d.rules⟩).getD []
theorem fewest_eq {d : Desk} (ok : OkDesk d) : fewest d = fewestM d := by
  unfold fewest fewestM
  have e : (fun k => (choices k (List.range d.facts.length)).find? fun c => (clashes d).all fun p => c.contains p.1 || c.contains p.2) = fun k => (choices k (List.range d.facts.length)).find? fun c => sound ⟨remain c d.facts, d.rules⟩ := by
    funext k
    congr 1
    funext c
    exact clashes_hit ok c
  show ((List.range (d.facts.length + 1)).findSome? fun k => (choices k (List.range d.facts.length)).find? fun c => (clashes d).all fun p => c.contains p.1 || c.contains p.2).getD [] = _
  rw [e]
theorem choices_len {A : Type} : ∀ (k : Nat) (l : List A) (c : List A), c ∈ choices k l → c.length = k
  | 0, l, c, h => by
    rw [choices] at h
    cases List.mem_singleton.mp h; rfl
  | k + 1, [], c, h => by cases h
  | k + 1, x :: l, c, h => by
    rw [choices] at h
    rcases List.mem_append.mp h with q | q
    · obtain ⟨e, he, rfl⟩ := List.mem_map.mp q
      rw [List.length_cons, choices_len k l e he]
    · exact choices_len (k + 1) l c q
theorem fewest_len (d : Desk) : (fewest d).length ≤ d.facts.length := by
  unfold fewest
  dsimp only
  cases h : (List.range (d.facts.length + 1)).findSome? fun k => (choices k (List.range d.facts.length)).find? fun c => (clashes d).all fun p => c.contains p.1 || c.contains p.2 with
  | none => simp
  | some c =>
    obtain ⟨k, hk, hc⟩ := List.exists_of_findSome?_eq_some h
    have := choices_len k _ c (List.mem_of_find?_eq_some hc)
    have := List.mem_range.mp hk
    simp only [Option.getD_some]
    omega
/-! ### How long an answer is -/
theorem bad_len (rs : List Rule) : (bad rs).length ≤ 14 := by
  have : ∀ (n : Nat) (u : List Basic), u.length ≤ 14 → (badFrom rs n u).length ≤ 14 := by
    intro n
    induction n with
    | zero => intro u h; exact h
    | succ n ih => intro u h; rw [badFrom_succ]; exact ih _ (List.length_filter_le _ _)
  exact this 15 [] (by simp)
theorem step_len {d : Desk} (h : Fit d) (c : Call) : (step d c).2.length ≤ 30 := by
  have ints1 : ∀ n : Nat, (Gq03.ints [n]).length = 1 := fun _ => rfl
  have toldl : ∀ l : List Nat, (told l).length = l.length + 1 := fun l => by unfold told Gq03.ints; simp
  have addF : ∀ f, (addFact d f).2.length ≤ 30 := fun f => by
    unfold addFact
    split
    · simp
    · split <;> simp [Gq03.ints]
  have addR : ∀ f, (addRule d f).2.length ≤ 30 := fun f => by
    unfold addRule
    split <;> simp [Gq03.ints]
  cases c with
  | kind x k =>
    show (if isNode x = false ∨ k = 0 ∨ 6 < k then (d, [-1]) else addFact d (.kind x k)).2.length ≤ 30
    split
    · simp
    · exact addF _
  | edge x a y =>
    show (if isNode x = false ∨ isNode y = false ∨ a = 0 ∨ 4 < a then (d, [-1]) else addFact d (.edge x a y)).2.length ≤ 30
    split
    · simp
    · exact addF _
  | drop n =>
    show (if d.facts.length ≤ n then (d, [-2]) else ({ d with facts := without n d.facts }, Gq03.ints [d.facts.length - 1])).2.length ≤ 30
    split <;> simp [Gq03.ints]
  | sub b c =>
    show (if isBasic b = false ∨ isBasic c = false then (d, [-1]) else addRule d (.sub b c)).2.length ≤ 30
    split
    · simp
    · exact addR _
  | role b c =>
    show (if isRole b = false ∨ isRole c = false then (d, [-1]) else addRule d (.role b c)).2.length ≤ 30
    split
    · simp
    · exact addR _
  | never b c =>
    show (if isBasic b = false ∨ isBasic c = false then (d, [-1]) else addRule d (.never b c)).2.length ≤ 30
    split
    · simp
    · exact addR _
  | neverRole b c =>
    show (if isRole b = false ∨ isRole c = false then (d, [-1]) else addRule d (.neverRole b c)).2.length ≤ 30
    split
    · simp
    · exact addR _
  | strike n =>
    show (if d.rules.length ≤ n then (d, [-2]) else ({ d with rules := without n d.rules }, Gq03.ints [d.rules.length - 1])).2.length ≤ 30
    split <;> simp [Gq03.ints]
  | is_ x b =>
    show (if isNode x = false ∨ isBasic b = false then [-1] else flag (isCertain d x b)).length ≤ 30
    split <;> simp [flag, Gq03.ints]
  | who b =>
    show (if isBasic b = false then [-1] else told (nodes.filter fun x => isCertain d x b)).length ≤ 30
    split
    · simp
    · rw [toldl]
      have := List.length_filter_le (fun x => isCertain d x b) nodes
      have : nodes.length = 8 := rfl
      omega
  | edges x y =>
    show (if isNode x = false ∨ isNode y = false then [-1] else told (roles.filter fun r => edgeCertain d x y r)).length ≤ 30
    split
    · simp
    · rw [toldl]
      have h1 := List.length_filter_le (fun r => edgeCertain d x y r) roles
      have h2 : roles.length = 8 := rfl
      rw [h2] at h1
      exact Nat.le_trans (Nat.succ_le_succ h1) (by decide)
  | chain x l =>
    show (if isNode x = false ∨ 8 < l.length then [-1] else match askOf l with
      | none => [-1]
      | some q => flag (chainCertain d x q)).length ≤ 30
    split
    · simp
    · split <;> simp [flag, Gq03.ints]
  | all l =>
    show (if 8 < l.length then [-1] else match askOf l with
      | none => [-1]
      | some q => told (allCertain d q)).length ≤ 30
    split
    · simp
    · split
      · simp
      · rename_i q _
        rw [toldl]
        have : (allCertain d q).length ≤ nodes.length := List.length_filter_le _ _
        have : nodes.length = 8 := rfl
        omega
  | sound =>
    show (match nodes.find? fun x => !fineBy (bad d.rules) d x with
      | none => [1]
      | some x => Gq03.ints [0, x]).length ≤ 30
    split <;> simp [Gq03.ints]
  | follows b c =>
    show (if isBasic b = false ∨ isBasic c = false then [-1] else flag (Gq03.follows d.rules b c)).length ≤ 30
    split <;> simp [flag, Gq03.ints]
  | bad =>
    show (((Gq03.bad d.rules).length : Int) :: Gq03.ints ((Gq03.bad d.rules).flatMap row)).length ≤ 30
    have h1 := bad_len d.rules
    have h2 : ((Gq03.bad d.rules).flatMap row).length ≤ 2 * (Gq03.bad d.rules).length := flatMap_len (fun b => by cases b <;> simp [row]) _
    unfold Gq03.ints
    rw [List.length_cons, List.length_map]
    omega
  | idle n =>
    show (if d.rules.length ≤ n then [-2] else flag (Gq03.idle d.rules n)).length ≤ 30
    split <;> simp [flag, Gq03.ints]
  | whence x b =>
    show (if isNode x = false ∨ isBasic b = false then [-1] else match Gq03.whence d x b with
      | none => [-3]
      | some n => Gq03.ints [n]).length ≤ 30
    split
    · simp
    · split <;> simp [Gq03.ints]
  | fewest =>
    show (told (Gq03.fewest d)).length ≤ 30
    rw [toldl]
    have := fewest_len d
    have := h.fl
    omega
end Wm

set_option linter.all false
namespace Wm
open Gq03
/-! ### One thing told, or two: what holds in every graph that keeps the rules -/
theorem hasEq {a b : Nat} (h : a = b) : Basic.has a = Basic.has b := by rw [h]
def factE (r x y : Nat) : Fact := if r % 2 = 0 then .edge x (r / 2) y else .edge y (r / 2) x
def factB (b : Basic) (x y : Nat) : Fact := match b with
  | .kind k => .kind x k
  | .has r => factE r x y
theorem factE_ok {r x y : Nat} (hr : r ∈ roles) (hx : x ∈ nodes) (hy : y ∈ nodes) : OkFact (factE r x y) := by
  have := mem_roles.mp hr
  unfold factE
  split
  · exact ⟨hx, by omega, hy⟩
  · exact ⟨hy, by omega, hx⟩
theorem factB_ok {b : Basic} {x y : Nat} (hb : b ∈ basics) (hx : x ∈ nodes) (hy : y ∈ nodes) : OkFact (factB b x y) := by
  cases b with
  | kind k => exact ⟨hx, kind_basics.mp hb⟩
  | has r => exact factE_ok (has_basics.mp hb) hx hy
theorem told_E {r x y z : Nat} {t : Basic} : t ∈ toldOf [factE r x y] z ↔ (z = x ∧ t = .has r) ∨ (z = y ∧ t = .has (turned r)) := by
  rw [mem_toldOf]
  unfold factE turned
  by_cases h : r % 2 = 0
  · rw [if_pos h, if_pos h]
    constructor
    · rintro (⟨k, hf, _⟩ | ⟨a, w, hf, e⟩ | ⟨a, w, hf, e⟩)
      · cases List.mem_singleton.mp hf
      · cases List.mem_singleton.mp hf
        exact .inl ⟨rfl, by rw [e]; exact hasEq (by omega)⟩
      · cases List.mem_singleton.mp hf
        exact .inr ⟨rfl, by rw [e]; exact hasEq (by omega)⟩
    · rintro (⟨rfl, e⟩ | ⟨rfl, e⟩)
      · exact .inr (.inl ⟨r / 2, y, List.mem_singleton.mpr rfl, by rw [e]; exact hasEq (by omega)⟩)
      · exact .inr (.inr ⟨r / 2, x, List.mem_singleton.mpr rfl, by rw [e]; exact hasEq (by omega)⟩)
  · rw [if_neg h, if_neg h]
    constructor
    · rintro (⟨k, hf, _⟩ | ⟨a, w, hf, e⟩ | ⟨a, w, hf, e⟩)
      · cases List.mem_singleton.mp hf
      · cases List.mem_singleton.mp hf
        exact .inr ⟨rfl, by rw [e]; exact hasEq (by omega)⟩
      · cases List.mem_singleton.mp hf
        exact .inl ⟨rfl, by rw [e]; exact hasEq (by omega)⟩
    · rintro (⟨rfl, e⟩ | ⟨rfl, e⟩)
      · exact .inr (.inr ⟨r / 2, y, List.mem_singleton.mpr rfl, by rw [e]; exact hasEq (by omega)⟩)
      · exact .inr (.inl ⟨r / 2, x, List.mem_singleton.mpr rfl, by rw [e]; exact hasEq (by omega)⟩)
theorem dirs_E {r x y z w t : Nat} : t ∈ toldDirs [factE r x y] z w ↔ (z = x ∧ w = y ∧ t = r) ∨ (z = y ∧ w = x ∧ t = turned r) := by
  rw [mem_toldDirs]
  unfold factE turned
  by_cases h : r % 2 = 0
  · rw [if_pos h, if_pos h]
    constructor
    · rintro (⟨a, hf, e⟩ | ⟨a, hf, e⟩)
      · cases List.mem_singleton.mp hf
        exact .inl ⟨rfl, rfl, by omega⟩
      · cases List.mem_singleton.mp hf
        exact .inr ⟨rfl, rfl, by omega⟩
    · rintro (⟨rfl, rfl, e⟩ | ⟨rfl, rfl, e⟩)
      · exact .inl ⟨r / 2, List.mem_singleton.mpr rfl, by omega⟩
      · exact .inr ⟨r / 2, List.mem_singleton.mpr rfl, by omega⟩
  · rw [if_neg h, if_neg h]
    constructor
    · rintro (⟨a, hf, e⟩ | ⟨a, hf, e⟩)
      · cases List.mem_singleton.mp hf
        exact .inr ⟨rfl, rfl, by omega⟩
      · cases List.mem_singleton.mp hf
        exact .inl ⟨rfl, rfl, by omega⟩
    · rintro (⟨rfl, rfl, e⟩ | ⟨rfl, rfl, e⟩)
      · exact .inr ⟨r / 2, List.mem_singleton.mpr rfl, by omega⟩
      · exact .inl ⟨r / 2, List.mem_singleton.mpr rfl, by omega⟩
/-- the far end of b -/
def turnB : Basic → List Basic
  | .kind _ => []
  | .has r => [.has (turned r)]
theorem told_B {b : Basic} {x y z : Nat} {t : Basic} : t ∈ toldOf [factB b x y] z ↔ (z = x ∧ t = b) ∨ (z = y ∧ t ∈ turnB b) := by
  cases b with
  | kind k =>
    rw [mem_toldOf]
    constructor
    · rintro (⟨l, hf, e⟩ | ⟨a, w, hf, e⟩ | ⟨a, w, hf, e⟩)
      · cases List.mem_singleton.mp hf; exact .inl ⟨rfl, e⟩
      · cases List.mem_singleton.mp hf
      · cases List.mem_singleton.mp hf
    · rintro (⟨rfl, e⟩ | ⟨_, h⟩)
      · exact .inl ⟨k, List.mem_singleton.mpr rfl, e⟩
      · cases h
  | has r =>
    show t ∈ toldOf [factE r x y] z ↔ _
    rw [told_E, turnB, List.mem_singleton]
theorem dirs_B {b : Basic} {x y z w t : Nat} : t ∈ toldDirs [factB b x y] z w ↔ (z = x ∧ w = y ∧ b = .has t) ∨ (z = y ∧ w = x ∧ .has t ∈ turnB b) := by
  cases b with
  | kind k =>
    rw [mem_toldDirs]
    constructor
    · rintro (⟨a, hf, e⟩ | ⟨a, hf, e⟩) <;> cases List.mem_singleton.mp hf
    · rintro (⟨_, _, h⟩ | ⟨_, _, h⟩) <;> cases h
  | has r =>
    show t ∈ toldDirs [factE r x y] z w ↔ _
    rw [dirs_E, turnB, List.mem_singleton]
    refine or_congr (and_congr Iff.rfl (and_congr Iff.rfl ?_)) (and_congr Iff.rfl (and_congr Iff.rfl ?_))
    · exact ⟨fun e => by rw [e], fun e => by injection e with e; exact e.symm⟩
    · exact ⟨fun e => by rw [e], fun e => by injection e⟩
theorem told_two {f g : Fact} {z : Nat} {t : Basic} : t ∈ toldOf [f, g] z ↔ t ∈ toldOf [f] z ∨ t ∈ toldOf [g] z := by
  have e : toldOf [f, g] z = toldOf [f] z ++ toldOf [g] z := by
    unfold toldOf
    simp only [List.flatMap_cons, List.flatMap_nil, List.append_nil]
  rw [e, List.mem_append]
theorem dirs_two {f g : Fact} {z w t : Nat} : t ∈ toldDirs [f, g] z w ↔ t ∈ toldDirs [f] z w ∨ t ∈ toldDirs [g] z w := by
  have e : toldDirs [f, g] z w = toldDirs [f] z w ++ toldDirs [g] z w := by
    unfold toldDirs
    simp only [List.flatMap_cons, List.flatMap_nil, List.append_nil]
  rw [e, List.mem_append]
theorem turnB_bad {rs : List Rule} (ok : OkRules rs) {b t : Basic} (hb : b ∈ basics) (ht : t ∈ turnB b) (h : Bad rs t) : Bad rs b := by
  cases b with
  | kind k => cases ht
  | has r =>
    cases List.mem_singleton.mp ht
    exact Bad.back ok hb (mem_farOn.mpr (.inr ⟨r, rfl, rfl⟩)) h
theorem turnB_basics {b t : Basic} (hb : b ∈ basics) (ht : t ∈ turnB b) : t ∈ basics := by
  cases b with
  | kind k => cases ht
  | has r =>
    cases List.mem_singleton.mp ht
    exact has_basics.mpr (turned_roles (has_basics.mp hb))
theorem bad_path {rs : List Rule} (ok : OkRules rs) {b c : Basic} (hb : b ∈ basics) (p : BPath rs b c) (h : Bad rs c) : Bad rs b := Bad.path ok hb (p.mono fun _ _ q => farOn_one q) h
/-- what must be so of what's told, without what follows -/
theorem sound_told {d : Desk} (ok : OkDesk d) : sound d = true ↔ (∀ x ∈ nodes, ∀ t ∈ toldOf d.facts x, ¬ Bad d.rules t) ∧
    (∀ x ∈ nodes, ∀ b c, Rule.never b c ∈ d.rules → ∀ t ∈ toldOf d.facts x, ∀ u ∈ toldOf d.facts x, BPath d.rules t b → BPath d.rules u c → False) ∧
    ∀ x ∈ nodes, ∀ y ∈ nodes, ∀ r s, Rule.neverRole r s ∈ d.rules → ∀ t ∈ toldDirs d.facts x y, ∀ u ∈ toldDirs d.facts x y, (RPath d.rules t r ∧ RPath d.rules u s) ∨ (RPath d.rules t (turned r) ∧ RPath d.rules u (turned s)) → False := by
  rw [sound_iff]
  constructor
  · intro h
    have f := fun x hx => (fineBy_bad ok).mp (h x hx)
    refine ⟨fun x hx t ht => (f x hx).2.1 t ((mem_typeOf ok).mpr ⟨t, ht, .refl t⟩), fun x hx b c hr t ht u hu p q => ?_, fun x hx y hy r s hr t ht u hu w => ?_⟩
    · have := (f x hx).1
      rw [neverBoth_iff.mpr ⟨b, c, hr, (mem_typeOf ok).mpr ⟨t, ht, p⟩, (mem_typeOf ok).mpr ⟨u, hu, q⟩⟩] at this
      cases this
    · have := (f x hx).2.2 y hy
      rw [neverRoles_iff.mpr ⟨r, s, hr, w.imp (fun w => ⟨(mem_between ok).mpr ⟨t, ht, w.1⟩, (mem_between ok).mpr ⟨u, hu, w.2⟩⟩) (fun w => ⟨(mem_between ok).mpr ⟨t, ht, w.1⟩, (mem_between ok).mpr ⟨u, hu, w.2⟩⟩)⟩] at this
      cases this
  · rintro ⟨h1, h2, h3⟩ x hx
    refine (fineBy_bad ok).mpr ⟨?_, fun b hb q => ?_, fun y hy => ?_⟩
    · rw [Bool.eq_false_iff]
      intro q
      obtain ⟨b, c, hr, hb, hc⟩ := neverBoth_iff.mp q
      obtain ⟨t, ht, p⟩ := (mem_typeOf ok).mp hb
      obtain ⟨u, hu, p2⟩ := (mem_typeOf ok).mp hc
      exact h2 x hx b c hr t ht u hu p p2
    · obtain ⟨t, ht, p⟩ := (mem_typeOf ok).mp hb
      exact h1 x hx t ht (bad_path ok.rules (toldOf_basics ok.facts ht) p q)
    · rw [Bool.eq_false_iff]
      intro q
      obtain ⟨r, s, hr, w⟩ := neverRoles_iff.mp q
      rcases w with ⟨hb, hc⟩ | ⟨hb, hc⟩
      · obtain ⟨t, ht, p⟩ := (mem_between ok).mp hb
        obtain ⟨u, hu, p2⟩ := (mem_between ok).mp hc
        exact h3 x hx y hy r s hr t ht u hu (.inl ⟨p, p2⟩)
      · obtain ⟨t, ht, p⟩ := (mem_between ok).mp hb
        obtain ⟨u, hu, p2⟩ := (mem_between ok).mp hc
        exact h3 x hx y hy r s hr t ht u hu (.inr ⟨p, p2⟩)
theorem both_bad {rs : List Rule} (ok : OkRules rs) {t b c : Basic} (ht : t ∈ basics) (hr : Rule.never b c ∈ rs) (p : BPath rs t b) (q : BPath rs t c) : Bad rs t :=
  Clash.bad (.inl (neverBoth_iff.mpr ⟨b, c, hr, (mem_up1 ok ht).mpr p, (mem_up1 ok ht).mpr q⟩))
theorem dirs_bad {rs : List Rule} (ok : OkRules rs) {t r s : Nat} (ht : t ∈ roles) (hr : Rule.neverRole r s ∈ rs) (w : (RPath rs t r ∧ RPath rs t s) ∨ (RPath rs t (turned r) ∧ RPath rs t (turned s))) : Bad rs (.has t) := by
  refine (badRole_bad ok ht).mp ?_
  unfold badRole
  rw [neverRoles_iff.mpr ⟨r, s, hr, w.imp (fun w => ⟨(mem_upRole ok ht).mpr w.1, (mem_upRole ok ht).mpr w.2⟩) (fun w => ⟨(mem_upRole ok ht).mpr w.1, (mem_upRole ok ht).mpr w.2⟩)⟩]
  rfl
theorem one_node : (1 : Nat) ∈ nodes := by decide
theorem two_node : (2 : Nat) ∈ nodes := by decide
theorem three_node : (3 : Nat) ∈ nodes := by decide
theorem ok_one {rs : List Rule} (ok : OkRules rs) {f : Fact} (hf : OkFact f) : OkDesk ⟨[f], rs⟩ := ⟨fun z hz => by cases List.mem_singleton.mp hz; exact hf, ok⟩
theorem ok_two {rs : List Rule} (ok : OkRules rs) {f g : Fact} (hf : OkFact f) (hg : OkFact g) : OkDesk ⟨[f, g], rs⟩ := ⟨fun z hz => by
  rcases List.mem_cons.mp hz with e | e
  · rw [e]; exact hf
  · rw [List.mem_singleton.mp e]; exact hg, ok⟩
theorem sound_one {rs : List Rule} (ok : OkRules rs) {b : Basic} (hb : b ∈ basics) : sound ⟨[factB b 1 2], rs⟩ = true ↔ ¬ Bad rs b := by
  have okd := ok_one ok (factB_ok hb one_node two_node)
  rw [sound_told okd]
  constructor
  · intro h
    exact h.1 1 one_node b (told_B.mpr (.inl ⟨rfl, rfl⟩))
  · intro h
    have tb : ∀ x t, t ∈ toldOf [factB b 1 2] x → t ∈ basics := fun x t ht => toldOf_basics okd.facts ht
    have tbad : ∀ x t, t ∈ toldOf [factB b 1 2] x → ¬ Bad rs t := fun x t ht q => by
      rcases told_B.mp ht with ⟨_, e⟩ | ⟨_, e⟩
      · rw [e] at q; exact h q
      · exact h (turnB_bad ok hb e q)
    refine ⟨fun x _ t ht => tbad x t ht, fun x _ b' c' hr t ht u hu p q => ?_, fun x _ y _ r s hr t ht u hu w => ?_⟩
    · have e : u = t := by
        rcases told_B.mp ht with ⟨h1, e1⟩ | ⟨h1, e1⟩ <;> rcases told_B.mp hu with ⟨h2, e2⟩ | ⟨h2, e2⟩
        · rw [e1, e2]
        · omega
        · omega
        · cases b with
          | kind => cases e1
          | has r => rw [List.mem_singleton.mp e1, List.mem_singleton.mp e2]
      subst e
      exact tbad x _ ht (both_bad ok (tb x _ ht) hr p q)
    · have e : u = t := by
        rcases dirs_B.mp ht with ⟨h1, h1', e1⟩ | ⟨h1, h1', e1⟩ <;> rcases dirs_B.mp hu with ⟨h2, h2', e2⟩ | ⟨h2, h2', e2⟩
        · rw [e1] at e2; injection e2 with e2; exact e2.symm
        · omega
        · omega
        · cases b with
          | kind => cases e1
          | has r =>
            have a1 := List.mem_singleton.mp e1
            have a2 := List.mem_singleton.mp e2
            rw [← a2] at a1; injection a1 with a1; exact a1.symm
      subst e
      exact tbad x _ (toldDirs_toldOf ht) (dirs_bad ok (toldDirs_roles okd.facts ht) hr w)
/-- whoever is b is c -/
theorem always_sub {rs : List Rule} (ok : OkRules rs) {b c : Basic} (hb : b ∈ basics) : isCertain ⟨[factB b 1 2], rs⟩ 1 c = follows rs b c := by
  have okd := ok_one ok (factB_ok hb one_node two_node)
  rw [Bool.eq_iff_iff]
  unfold isCertain follows
  rw [Bool.or_eq_true, Bool.or_eq_true, Bool.not_eq_true', ← Bool.not_eq_true, sound_one ok hb, List.contains_iff_mem, List.contains_iff_mem, List.contains_iff_mem, mem_bad ok, mem_up1 ok hb, mem_typeOf okd]
  have e : (∃ t, t ∈ toldOf [factB b 1 2] 1 ∧ BPath rs t c) ↔ BPath rs b c := by
    constructor
    · rintro ⟨t, ht, p⟩
      rcases told_B.mp ht with ⟨_, e⟩ | ⟨e, _⟩
      · rw [← e]; exact p
      · omega
    · intro p
      exact ⟨b, told_B.mpr (.inl ⟨rfl, rfl⟩), p⟩
  rw [e, Classical.not_not]
  constructor
  · rintro (h | h)
    · exact .inr ⟨hb, h⟩
    · exact .inl h
  · rintro (h | h)
    · exact .inr h
    · exact .inl h.2
theorem always_role {rs : List Rule} (ok : OkRules rs) {r s : Nat} (hr : r ∈ roles) : edgeCertain ⟨[factE r 1 2], rs⟩ 1 2 s = ((upRole rs r).contains s || badRole rs (bad rs) r) := by
  have okd := ok_one ok (factE_ok hr one_node two_node)
  rw [Bool.eq_iff_iff]
  unfold edgeCertain
  have so := sound_one ok (has_basics.mpr hr)
  have so : sound ⟨[factE r 1 2], rs⟩ = true ↔ ¬ Bad rs (.has r) := so
  rw [Bool.or_eq_true, Bool.or_eq_true, Bool.not_eq_true', ← Bool.not_eq_true, so, List.contains_iff_mem, List.contains_iff_mem, badRole_bad ok hr, mem_upRole ok hr, mem_between okd]
  have e : (∃ t, t ∈ toldDirs [factE r 1 2] 1 2 ∧ RPath rs t s) ↔ RPath rs r s := by
    constructor
    · rintro ⟨t, ht, p⟩
      rcases dirs_E.mp ht with ⟨_, _, e⟩ | ⟨e, _, _⟩
      · rw [← e]; exact p
      · omega
    · intro p
      exact ⟨r, dirs_E.mpr (.inl ⟨rfl, rfl, rfl⟩), p⟩
  rw [e, Classical.not_not, or_comm]
theorem never_two {rs : List Rule} (ok : OkRules rs) {t u b c : Basic} (ht : t ∈ basics) (hu : u ∈ basics) (hr : Rule.never b c ∈ rs) (p : BPath rs t b) (q : BPath rs u c) : neverBoth rs (up rs [t, u]) = true := by
  have hl : ∀ z ∈ [t, u], z ∈ basics := fun z hz => by
    rcases List.mem_cons.mp hz with e | e
    · rw [e]; exact ht
    · rw [List.mem_singleton.mp e]; exact hu
  exact neverBoth_iff.mpr ⟨b, c, hr, (mem_up ok hl).mpr ⟨t, by simp, p⟩, (mem_up ok hl).mpr ⟨u, by simp, q⟩⟩
theorem never_swap {rs : List Rule} (ok : OkRules rs) {t u : Basic} (ht : t ∈ basics) (hu : u ∈ basics) : neverBoth rs (up rs [t, u]) = neverBoth rs (up rs [u, t]) := by
  have h1 : ∀ z ∈ [t, u], z ∈ basics := fun z hz => by
    rcases List.mem_cons.mp hz with e | e
    · rw [e]; exact ht
    · rw [List.mem_singleton.mp e]; exact hu
  have h2 : ∀ z ∈ [u, t], z ∈ basics := fun z hz => by
    rcases List.mem_cons.mp hz with e | e
    · rw [e]; exact hu
    · rw [List.mem_singleton.mp e]; exact ht
  refine neverBoth_congr fun z => ?_
  rw [mem_up ok h1, mem_up ok h2]
  constructor
  · rintro ⟨y, hy, p⟩; exact ⟨y, by simp at hy ⊢; exact hy.symm, p⟩
  · rintro ⟨y, hy, p⟩; exact ⟨y, by simp at hy ⊢; exact hy.symm, p⟩
theorem never_split {rs : List Rule} (ok : OkRules rs) {t u : Basic} (ht : t ∈ basics) (hu : u ∈ basics) (h : neverBoth rs (up rs [t, u]) = true) : ∃ b c, Rule.never b c ∈ rs ∧ ∃ y ∈ [t, u], ∃ z ∈ [t, u], BPath rs y b ∧ BPath rs z c := by
  have h1 : ∀ z ∈ [t, u], z ∈ basics := fun z hz => by
    rcases List.mem_cons.mp hz with e | e
    · rw [e]; exact ht
    · rw [List.mem_singleton.mp e]; exact hu
  obtain ⟨b, c, hr, hb, hc⟩ := neverBoth_iff.mp h
  obtain ⟨y, hy, p⟩ := (mem_up ok h1).mp hb
  obtain ⟨z, hz, q⟩ := (mem_up ok h1).mp hc
  exact ⟨b, c, hr, y, hy, z, hz, p, q⟩
theorem always_never {rs : List Rule} (ok : OkRules rs) {b c : Basic} (hb : b ∈ basics) (hc : c ∈ basics) : (!sound ⟨[factB b 1 2, factB c 1 3], rs⟩) = ((bad rs).contains b || ((bad rs).contains c || neverBoth rs (up rs [b, c]))) := by
  have okd := ok_two ok (factB_ok hb one_node two_node) (factB_ok hc one_node three_node)
  rw [Bool.eq_iff_iff, Bool.not_eq_true', ← Bool.not_eq_true, sound_told okd, Bool.or_eq_true, Bool.or_eq_true, List.contains_iff_mem, List.contains_iff_mem, mem_bad ok, mem_bad ok]
  have t1 : b ∈ toldOf [factB b 1 2, factB c 1 3] 1 := told_two.mpr (.inl (told_B.mpr (.inl ⟨rfl, rfl⟩)))
  have t2 : c ∈ toldOf [factB b 1 2, factB c 1 3] 1 := told_two.mpr (.inr (told_B.mpr (.inl ⟨rfl, rfl⟩)))
  constructor
  · intro h
    apply Classical.byContradiction
    intro no
    simp only [not_or, not_and, Bool.not_eq_true] at no
    obtain ⟨nb, nc, nn⟩ := no
    have nb := nb hb
    have nc := nc hc
    refine h ?_
    have tb : ∀ x t, t ∈ toldOf [factB b 1 2, factB c 1 3] x → t ∈ basics := fun x t ht => toldOf_basics okd.facts ht
    have tbad : ∀ x t, t ∈ toldOf [factB b 1 2, factB c 1 3] x → ¬ Bad rs t := fun x t ht q => by
      rcases told_two.mp ht with ht | ht <;> rcases told_B.mp ht with ⟨_, e⟩ | ⟨_, e⟩
      · rw [e] at q; exact nb q
      · exact nb (turnB_bad ok hb e q)
      · rw [e] at q; exact nc q
      · exact nc (turnB_bad ok hc e q)
    refine ⟨fun x _ t ht => tbad x t ht, fun x _ b' c' hr t ht u hu p q => ?_, fun x _ y _ r s hr t ht u hu w => ?_⟩
    · have same : u = t → False := fun e => by
        subst e
        exact tbad x _ ht (both_bad ok (tb x _ ht) hr p q)
      have tt : ∀ {b : Basic} {z z' : Basic}, z ∈ turnB b → z' ∈ turnB b → z' = z := fun {b z z'} e1 e2 => by
        cases b with
        | kind => cases e1
        | has r => rw [List.mem_singleton.mp e1, List.mem_singleton.mp e2]
      rcases told_two.mp ht with k1 | k1 <;> rcases told_two.mp hu with k2 | k2 <;> rcases told_B.mp k1 with ⟨h1, e1⟩ | ⟨h1, e1⟩ <;> rcases told_B.mp k2 with ⟨h2, e2⟩ | ⟨h2, e2⟩
      · exact same (by rw [e1, e2])
      · omega
      · omega
      · exact same (tt e1 e2)
      · subst e1 e2
        rw [never_two ok hb hc hr p q] at nn; cases nn
      · omega
      · omega
      · omega
      · subst e1 e2
        rw [never_swap ok hb hc, never_two ok hc hb hr p q] at nn; cases nn
      · omega
      · omega
      · omega
      · exact same (by rw [e1, e2])
      · omega
      · omega
      · exact same (tt e1 e2)
    · have hh : ∀ {b : Basic} {z z' : Nat}, .has z ∈ turnB b → .has z' ∈ turnB b → z' = z := fun {b z z'} e1 e2 => by
        cases b with
        | kind => cases e1
        | has r =>
          have a1 := List.mem_singleton.mp e1
          have a2 := List.mem_singleton.mp e2
          rw [← a2] at a1; injection a1 with a1; exact a1.symm
      have h3 : ∀ {b : Basic} {z z' : Nat}, b = .has z → b = .has z' → z' = z := fun {b z z'} e1 e2 => by
        rw [e1] at e2; injection e2 with e2; exact e2.symm
      have e : u = t := by
        rcases dirs_two.mp ht with k1 | k1 <;> rcases dirs_two.mp hu with k2 | k2 <;> rcases dirs_B.mp k1 with ⟨h1, h1', e1⟩ | ⟨h1, h1', e1⟩ <;> rcases dirs_B.mp k2 with ⟨h2, h2', e2⟩ | ⟨h2, h2', e2⟩ <;> first | exact h3 e1 e2 | exact hh e1 e2 | omega
      subst e
      exact tbad x _ (toldDirs_toldOf ht) (dirs_bad ok (toldDirs_roles okd.facts ht) hr w)
  · rintro h ⟨h1, h2, h3⟩
    rcases h with ⟨_, h⟩ | ⟨_, h⟩ | h
    · exact h1 1 one_node b t1 h
    · exact h1 1 one_node c t2 h
    · obtain ⟨b', c', hr, y, hy, z, hz, p, q⟩ := never_split ok hb hc h
      refine h2 1 one_node b' c' hr y ?_ z ?_ p q
      · rcases List.mem_cons.mp hy with e | e
        · rw [e]; exact t1
        · rw [List.mem_singleton.mp e]; exact t2
      · rcases List.mem_cons.mp hz with e | e
        · rw [e]; exact t1
        · rw [List.mem_singleton.mp e]; exact t2
theorem always_neverRole {rs : List Rule} (ok : OkRules rs) {r s : Nat} (hr : r ∈ roles) (hs : s ∈ roles) : (!sound ⟨[factE r 1 2, factE s 1 2], rs⟩) = (badRole rs (bad rs) r || (badRole rs (bad rs) s || (neverRoles rs (upRole rs r ++ upRole rs s) ||
    (neverBoth rs (up rs [.has r, .has s]) || neverBoth rs (up rs [.has (turned r), .has (turned s)]))))) := by
  have okd := ok_two ok (factE_ok hr one_node two_node) (factE_ok hs one_node two_node)
  have hb := has_basics.mpr hr
  have hc := has_basics.mpr hs
  have hb' := has_basics.mpr (turned_roles hr)
  have hc' := has_basics.mpr (turned_roles hs)
  rw [Bool.eq_iff_iff, Bool.not_eq_true', ← Bool.not_eq_true, sound_told okd]
  simp only [Bool.or_eq_true]
  rw [badRole_bad ok hr, badRole_bad ok hs]
  have mt : ∀ x t, t ∈ toldOf [factE r 1 2, factE s 1 2] x ↔ (x = 1 ∧ (t = .has r ∨ t = .has s)) ∨ (x = 2 ∧ (t = .has (turned r) ∨ t = .has (turned s))) := fun x t => by
    rw [told_two, told_E, told_E]
    constructor
    · rintro ((⟨h, e⟩ | ⟨h, e⟩) | (⟨h, e⟩ | ⟨h, e⟩))
      · exact .inl ⟨h, .inl e⟩
      · exact .inr ⟨h, .inl e⟩
      · exact .inl ⟨h, .inr e⟩
      · exact .inr ⟨h, .inr e⟩
    · rintro (⟨h, e | e⟩ | ⟨h, e | e⟩)
      · exact .inl (.inl ⟨h, e⟩)
      · exact .inr (.inl ⟨h, e⟩)
      · exact .inl (.inr ⟨h, e⟩)
      · exact .inr (.inr ⟨h, e⟩)
  have md : ∀ x y t, t ∈ toldDirs [factE r 1 2, factE s 1 2] x y ↔ (x = 1 ∧ y = 2 ∧ (t = r ∨ t = s)) ∨ (x = 2 ∧ y = 1 ∧ (t = turned r ∨ t = turned s)) := fun x y t => by
    rw [dirs_two, dirs_E, dirs_E]
    constructor
    · rintro ((⟨h, h', e⟩ | ⟨h, h', e⟩) | (⟨h, h', e⟩ | ⟨h, h', e⟩))
      · exact .inl ⟨h, h', .inl e⟩
      · exact .inr ⟨h, h', .inl e⟩
      · exact .inl ⟨h, h', .inr e⟩
      · exact .inr ⟨h, h', .inr e⟩
    · rintro (⟨h, h', e | e⟩ | ⟨h, h', e | e⟩)
      · exact .inl (.inl ⟨h, h', e⟩)
      · exact .inr (.inl ⟨h, h', e⟩)
      · exact .inl (.inr ⟨h, h', e⟩)
      · exact .inr (.inr ⟨h, h', e⟩)
  constructor
  · intro h
    apply Classical.byContradiction
    intro no
    simp only [not_or, Bool.not_eq_true] at no
    obtain ⟨nb, nc, nr, n1, n2⟩ := no
    refine h ?_
    have tr : ∀ {z : Nat}, z ∈ roles → ¬ Bad rs (.has z) → ¬ Bad rs (.has (turned z)) := fun {z} hz q w => q (turnB_bad ok (has_basics.mpr hz) (List.mem_singleton.mpr rfl) w)
    have tbad : ∀ x t, t ∈ toldOf [factE r 1 2, factE s 1 2] x → ¬ Bad rs t := fun x t ht q => by
      rcases (mt x t).mp ht with ⟨_, e | e⟩ | ⟨_, e | e⟩ <;> rw [e] at q
      · exact nb q
      · exact nc q
      · exact tr hr nb q
      · exact tr hs nc q
    have up2 : ∀ z, z ∈ upRole rs r ++ upRole rs s ↔ RPath rs r z ∨ RPath rs s z := fun z => by
      rw [List.mem_append, mem_upRole ok hr, mem_upRole ok hs]
    refine ⟨fun x _ t ht => tbad x t ht, fun x _ b' c' hr' t ht u hu p q => ?_, fun x _ y _ r' s' hr' t ht u hu w => ?_⟩
    · have same : ∀ z, z ∈ basics → BPath rs z b' → BPath rs z c' → ¬ Bad rs z → False := fun z hz p q n => n (both_bad ok hz hr' p q)
      rcases (mt x t).mp ht with ⟨h1, e1⟩ | ⟨h1, e1⟩ <;> rcases (mt x u).mp hu with ⟨h2, e2⟩ | ⟨h2, e2⟩
      · rcases e1 with e1 | e1 <;> rcases e2 with e2 | e2 <;> rw [e1] at p <;> rw [e2] at q
        · exact same _ hb p q nb
        · rw [never_two ok hb hc hr' p q] at n1; cases n1
        · rw [never_swap ok hb hc, never_two ok hc hb hr' p q] at n1; cases n1
        · exact same _ hc p q nc
      · omega
      · omega
      · rcases e1 with e1 | e1 <;> rcases e2 with e2 | e2 <;> rw [e1] at p <;> rw [e2] at q
        · exact same _ hb' p q (tr hr nb)
        · rw [never_two ok hb' hc' hr' p q] at n2; cases n2
        · rw [never_swap ok hb' hc', never_two ok hc' hb' hr' p q] at n2; cases n2
        · exact same _ hc' p q (tr hs nc)
    · have ro := ok _ hr'
      have no : ¬ neverRoles rs (upRole rs r ++ upRole rs s) = true := by rw [nr]; decide
      refine no (neverRoles_iff.mpr ⟨r', s', hr', ?_⟩)
      simp only [up2]
      rcases (md x y t).mp ht with ⟨h1, _, e1⟩ | ⟨h1, _, e1⟩ <;> rcases (md x y u).mp hu with ⟨h2, _, e2⟩ | ⟨h2, _, e2⟩
      · have g : ∀ z z', (RPath rs t z ∧ RPath rs u z') → (RPath rs r z ∨ RPath rs s z) ∧ (RPath rs r z' ∨ RPath rs s z') := fun z z' w => ⟨by rcases e1 with e | e <;> rw [e] at w <;> simp [w.1], by rcases e2 with e | e <;> rw [e] at w <;> simp [w.2]⟩
        exact w.imp (g _ _) (g _ _)
      · omega
      · omega
      · have back : ∀ {t0 z : Nat}, t0 ∈ roles → RPath rs (turned t0) z → RPath rs t0 (turned z) := fun {t0 z} h0 p => by
          have := RPath.turned ok (turned_roles h0) p
          rw [turned_turned h0] at this
          exact this
        have g : ∀ z z', (RPath rs t z ∧ RPath rs u z') → (RPath rs r (turned z) ∨ RPath rs s (turned z)) ∧ (RPath rs r (turned z') ∨ RPath rs s (turned z')) := fun z z' w => ⟨by
            rcases e1 with e | e <;> rw [e] at w
            · exact .inl (back hr w.1)
            · exact .inr (back hs w.1), by
            rcases e2 with e | e <;> rw [e] at w
            · exact .inl (back hr w.2)
            · exact .inr (back hs w.2)⟩
        rcases w with w | w
        · exact .inr (g _ _ w)
        · have := g _ _ w
          rw [turned_turned ro.1, turned_turned ro.2] at this
          exact .inl this
  · rintro h ⟨h1, h2, h3⟩
    rcases h with h | h | h | h | h
    · exact h1 1 one_node _ ((mt 1 _).mpr (.inl ⟨rfl, .inl rfl⟩)) h
    · exact h1 1 one_node _ ((mt 1 _).mpr (.inl ⟨rfl, .inr rfl⟩)) h
    · obtain ⟨r', s', hr', w⟩ := neverRoles_iff.mp h
      have up2 : ∀ z, z ∈ upRole rs r ++ upRole rs s ↔ ∃ t, (t = r ∨ t = s) ∧ RPath rs t z := fun z => by
        rw [List.mem_append, mem_upRole ok hr, mem_upRole ok hs]
        constructor
        · rintro (h | h)
          · exact ⟨r, .inl rfl, h⟩
          · exact ⟨s, .inr rfl, h⟩
        · rintro ⟨t, e | e, h⟩
          · rw [e] at h; exact .inl h
          · rw [e] at h; exact .inr h
      simp only [up2] at w
      rcases w with ⟨⟨t, ht, p⟩, ⟨u, hu, q⟩⟩ | ⟨⟨t, ht, p⟩, ⟨u, hu, q⟩⟩
      · exact h3 1 one_node 2 two_node r' s' hr' t ((md 1 2 t).mpr (.inl ⟨rfl, rfl, ht⟩)) u ((md 1 2 u).mpr (.inl ⟨rfl, rfl, hu⟩)) (.inl ⟨p, q⟩)
      · exact h3 1 one_node 2 two_node r' s' hr' t ((md 1 2 t).mpr (.inl ⟨rfl, rfl, ht⟩)) u ((md 1 2 u).mpr (.inl ⟨rfl, rfl, hu⟩)) (.inr ⟨p, q⟩)
    · obtain ⟨b', c', hr', y, hy, z, hz, p, q⟩ := never_split ok hb hc h
      have g : ∀ y ∈ [Basic.has r, Basic.has s], y ∈ toldOf [factE r 1 2, factE s 1 2] 1 := fun y hy => (mt 1 y).mpr (.inl ⟨rfl, by simpa using hy⟩)
      exact h2 1 one_node b' c' hr' y (g y hy) z (g z hz) p q
    · obtain ⟨b', c', hr', y, hy, z, hz, p, q⟩ := never_split ok hb' hc' h
      have g : ∀ y ∈ [Basic.has (turned r), Basic.has (turned s)], y ∈ toldOf [factE r 1 2, factE s 1 2] 2 := fun y hy => (mt 2 y).mpr (.inr ⟨rfl, by simpa using hy⟩)
      exact h2 2 two_node b' c' hr' y (g y hy) z (g z hz) p q
end Wm

set_option linter.all false
namespace Wm
open Gq03
/-! ### The fewest, by foes -/
theorem memf {A : Type} {l : List A} {p : A → Bool} {x : A} (h : x ∈ l.filter p) : x ∈ l := (List.mem_filter.mp h).1
/-- at the first place of l at which they differ p has it -/
def pre : List Nat → (Nat → Bool) → (Nat → Bool) → Prop
  | [], _, _ => True
  | x :: l, p, q => (p x = true ∧ q x = false) ∨ (p x = q x ∧ pre l p q)
theorem pre_congr : ∀ {l : List Nat} {p p' q q' : Nat → Bool}, (∀ z ∈ l, p z = p' z) → (∀ z ∈ l, q z = q' z) → pre l p q → pre l p' q'
  | [], _, _, _, _, _, _, _ => trivial
  | x :: l, p, p', q, q', hp, hq, h => by
    have px := hp x (List.mem_cons_self ..)
    have qx := hq x (List.mem_cons_self ..)
    rcases h with ⟨h1, h2⟩ | ⟨h1, h2⟩
    · exact .inl ⟨px ▸ h1, qx ▸ h2⟩
    · exact .inr ⟨by rw [← px, ← qx, h1], pre_congr (fun z hz => hp z (List.mem_cons_of_mem _ hz)) (fun z hz => hq z (List.mem_cons_of_mem _ hz)) h2⟩
/-- what differs, differs among those of f -/
theorem pre_filter : ∀ {l : List Nat} {f p q : Nat → Bool}, (∀ z ∈ l, f z = false → p z = q z) → pre (l.filter f) p q → pre l p q
  | [], _, _, _, _, _ => trivial
  | x :: l, f, p, q, h, k => by
    have h' : ∀ z ∈ l, f z = false → p z = q z := fun z hz => h z (List.mem_cons_of_mem _ hz)
    cases e : f x with
    | true =>
      rw [List.filter_cons, if_pos e] at k
      rcases k with k | ⟨k1, k2⟩
      · exact .inl k
      · exact .inr ⟨k1, pre_filter h' k2⟩
    | false =>
      rw [List.filter_cons, if_neg (by rw [e]; decide)] at k
      exact .inr ⟨h x (List.mem_cons_self ..) e, pre_filter h' k⟩
abbrev cnt (l : List Nat) (p : Nat → Bool) : Nat := (l.filter p).length
theorem cnt_cons {x : Nat} {l : List Nat} {p : Nat → Bool} : cnt (x :: l) p = (if p x = true then 1 else 0) + cnt l p := by
  unfold cnt
  rw [List.filter_cons]
  split
  · rw [List.length_cons]; omega
  · omega
theorem cnt_split : ∀ {l : List Nat} {f q : Nat → Bool}, cnt l q = cnt (l.filter f) q + cnt (l.filter fun z => !f z) q
  | [], _, _ => rfl
  | x :: l, f, q => by
    have ih := cnt_split (l := l) (f := f) (q := q)
    cases e : f x with
    | false =>
      have a : (x :: l).filter f = l.filter f := by rw [List.filter_cons, if_neg (by rw [e]; decide)]
      have b : ((x :: l).filter fun z => !f z) = x :: l.filter fun z => !f z := by rw [List.filter_cons, if_pos (by rw [e]; rfl)]
      rw [a, b, cnt_cons, cnt_cons, ih]; omega
    | true =>
      have a : (x :: l).filter f = x :: l.filter f := by rw [List.filter_cons, if_pos e]
      have b : ((x :: l).filter fun z => !f z) = l.filter fun z => !f z := by rw [List.filter_cons, if_neg (by rw [e]; decide)]
      rw [a, b, cnt_cons, cnt_cons, ih]; omega
theorem cnt_all {l : List Nat} {q : Nat → Bool} (h : ∀ z ∈ l, q z = true) : cnt l q = l.length := by
  unfold cnt
  rw [List.filter_eq_self.mpr h]
theorem choices_sub : ∀ (k : Nat) (l : List Nat) (c : List Nat), l.Nodup → c ∈ choices k l → l.filter (fun z => c.contains z) = c
  | 0, l, c, _, h => by
    rw [choices] at h
    cases List.mem_singleton.mp h
    rw [List.filter_eq_nil_iff]
    intro z _ q
    cases q
  | k + 1, [], c, _, h => by cases h
  | k + 1, x :: l, c, nd, h => by
    have nd' := List.nodup_cons.mp nd
    rw [choices] at h
    rcases List.mem_append.mp h with q | q
    · obtain ⟨e, he, rfl⟩ := List.mem_map.mp q
      have ih := choices_sub k l e nd'.2 he
      rw [List.filter_cons, if_pos (by simp)]
      congr 1
      rw [← ih]
      refine List.filter_congr fun z hz => ?_
      rw [ih, List.contains_cons]
      have ne : ¬ z = x := fun w => nd'.1 (w ▸ hz)
      rw [beq_eq_false_iff_ne.mpr ne, Bool.false_or]
    · have ih := choices_sub (k + 1) l c nd'.2 q
      have nx : x ∉ c := fun w => by
        rw [← ih] at w
        exact nd'.1 (memf w)
      rw [List.filter_cons, if_neg (by simpa using nx)]
      exact ih
/-- the first choice that does -/
theorem choices_first : ∀ (l : List Nat) (k : Nat) (P : List Nat → Bool) (p : Nat → Bool), l.Nodup → cnt l p = k → P (l.filter p) = true →
    (∀ q, cnt l q = k → P (l.filter q) = true → pre l p q) → (choices k l).find? P = some (l.filter p)
  | l, 0, P, p, _, hk, hP, _ => by
    have e : l.filter p = [] := List.eq_nil_of_length_eq_zero hk
    rw [e] at hP ⊢
    rw [choices, List.find?_cons, hP]
  | [], k + 1, P, p, _, hk, _, _ => by cases hk
  | x :: l, k + 1, P, p, nd, hk, hP, hm => by
    have nd' := List.nodup_cons.mp nd
    have ne : ∀ z ∈ l, (z == x) = false := fun z hz => beq_eq_false_iff_ne.mpr fun w => nd'.1 (w ▸ hz)
    have up : ∀ q' : Nat → Bool, (x :: l).filter (fun z => z == x || q' z) = x :: l.filter q' := fun q' => by
      rw [List.filter_cons, if_pos (by simp)]
      congr 1
      exact List.filter_congr fun z hz => by rw [ne z hz, Bool.false_or]
    have upc : ∀ q' : Nat → Bool, cnt (x :: l) (fun z => z == x || q' z) = cnt l q' + 1 := fun q' => by
      unfold cnt
      rw [up, List.length_cons]
    rw [choices]
    cases px : p x with
    | true =>
      have ef : (x :: l).filter p = x :: l.filter p := by rw [List.filter_cons, if_pos px]
      rw [cnt_cons, if_pos px] at hk
      rw [ef] at hP ⊢
      have ih := choices_first l k (fun c => P (x :: c)) p nd'.2 (by omega) hP fun q' c' P' => by
        have := hm (fun z => z == x || q' z) (by rw [upc, c']) (by rw [up]; exact P')
        rcases this with ⟨_, h⟩ | ⟨_, h⟩
        · simp at h
        · exact pre_congr (fun _ _ => rfl) (fun z hz => by rw [ne z hz, Bool.false_or]) h
      rw [List.find?_append, List.find?_map]
      have ih' : (choices k l).find? (P ∘ fun c => x :: c) = some (l.filter p) := ih
      rw [ih']
      rfl
    | false =>
      have ef : (x :: l).filter p = l.filter p := by rw [List.filter_cons, if_neg (by rw [px]; decide)]
      rw [cnt_cons, if_neg (by rw [px]; decide), Nat.zero_add] at hk
      rw [ef] at hP ⊢
      have none : ((choices k l).map fun c => x :: c).find? P = none := by
        rw [List.find?_eq_none]
        intro c hc hP'
        obtain ⟨e, he, rfl⟩ := List.mem_map.mp hc
        have hs := choices_sub k l e nd'.2 he
        have hl := choices_len k l e he
        have := hm (fun z => z == x || e.contains z) (by rw [upc]; unfold cnt; rw [hs, hl]) (by rw [up, hs]; exact hP')
        rcases this with ⟨h, _⟩ | ⟨h, _⟩
        · rw [px] at h; cases h
        · rw [px] at h; simp at h
      rw [List.find?_append, none]
      have ih := choices_first l (k + 1) P p nd'.2 hk hP fun q' c' P' => by
        have eq : (x :: l).filter (fun z => !(z == x) && q' z) = l.filter q' := by
          rw [List.filter_cons, if_neg (by simp)]
          exact List.filter_congr fun z hz => by rw [ne z hz]; rfl
        have := hm (fun z => !(z == x) && q' z) (by unfold cnt; rw [eq]; exact c') (by rw [eq]; exact P')
        rcases this with ⟨h, _⟩ | ⟨_, h⟩
        · rw [px] at h; cases h
        · exact pre_congr (fun _ _ => rfl) (fun z hz => by rw [ne z hz]; rfl) h
      rw [ih]
      rfl
/-! the fewest of those left -/
def rowM (G : Nat → Nat → Bool) : Nat → List Nat → List Nat
  | 0, _ => []
  | _ + 1, [] => []
  | n + 1, x :: rest =>
    if (rest.filter (G x)).length = 0 then rowM G n rest else
    if (x :: rowM G n rest).length ≤ (rest.filter (G x) ++ rowM G n (rest.filter fun m => !(rest.filter (G x)).contains m)).length then x :: rowM G n rest
    else rest.filter (G x) ++ rowM G n (rest.filter fun m => !(rest.filter (G x)).contains m)
theorem not_against {rest : List Nat} {f : Nat → Bool} : (rest.filter fun m => !(rest.filter f).contains m) = rest.filter fun m => !f m := List.filter_congr fun z hz => by
  congr 1
  rw [Bool.eq_iff_iff, List.contains_iff_mem, List.mem_filter]
  exact ⟨fun h => h.2, fun h => ⟨hz, h⟩⟩
/-- q hits all foes among l -/
def Hits (G : Nat → Nat → Bool) : List Nat → (Nat → Bool) → Prop
  | [], _ => True
  | x :: l, q => (∀ y ∈ l, G x y = true → q x = true ∨ q y = true) ∧ Hits G l q
theorem Hits.filter {G : Nat → Nat → Bool} {q : Nat → Bool} (f : Nat → Bool) : ∀ {l : List Nat}, Hits G l q → Hits G (l.filter f) q
  | [], _ => trivial
  | x :: l, h => by
    rw [List.filter_cons]
    split
    · exact ⟨fun y hy => h.1 y (memf hy), Hits.filter f h.2⟩
    · exact Hits.filter f h.2
theorem Hits.mono {G : Nat → Nat → Bool} {q q' : Nat → Bool} : ∀ {l : List Nat}, (∀ z ∈ l, q z = true → q' z = true) → Hits G l q → Hits G l q'
  | [], _, _ => trivial
  | x :: l, hm, h => ⟨fun y hy g => (h.1 y hy g).imp (hm x (List.mem_cons_self ..)) (hm y (List.mem_cons_of_mem _ hy)), Hits.mono (fun z hz => hm z (List.mem_cons_of_mem _ hz)) h.2⟩
theorem Hits.all {G : Nat → Nat → Bool} {q : Nat → Bool} {f : Nat → Bool} : ∀ {l : List Nat}, (∀ z ∈ l, f z = false → q z = true) → Hits G (l.filter f) q → Hits G l q
  | [], _, _ => trivial
  | x :: l, hm, h => by
    have hm' : ∀ z ∈ l, f z = false → q z = true := fun z hz => hm z (List.mem_cons_of_mem _ hz)
    rw [List.filter_cons] at h
    cases e : f x with
    | true =>
      rw [if_pos e] at h
      refine ⟨fun y hy g => ?_, Hits.all hm' h.2⟩
      cases ey : f y with
      | true => exact h.1 y (List.mem_filter.mpr ⟨hy, ey⟩) g
      | false => exact .inr (hm' y hy ey)
    | false =>
      rw [if_neg (by rw [e]; decide)] at h
      exact ⟨fun y hy g => .inl (hm x (List.mem_cons_self ..) e), Hits.all hm' h⟩
structure Row (G : Nat → Nat → Bool) (l R : List Nat) : Prop where
  sub : ∀ z ∈ R, z ∈ l
  nd : R.Nodup
  hits : Hits G l fun z => R.contains z
  le : ∀ q, Hits G l q → R.length ≤ cnt l q
  first : ∀ q, Hits G l q → R.length = cnt l q → pre l (fun z => R.contains z) q
theorem rowM_row (G : Nat → Nat → Bool) : ∀ (n : Nat) (l : List Nat), l.Nodup → l.length ≤ n → Row G l (rowM G n l)
  | 0, l, _, hl => by
    have e : l = [] := List.eq_nil_of_length_eq_zero (by omega)
    subst e
    exact ⟨fun _ h => (by cases h), List.nodup_nil, trivial, fun _ _ => Nat.zero_le _, fun _ _ _ => trivial⟩
  | n + 1, [], _, _ => ⟨fun _ h => (by cases h), List.nodup_nil, trivial, fun _ _ => Nat.zero_le _, fun _ _ _ => trivial⟩
  | n + 1, x :: rest, nd, hl => by
    have nd' := List.nodup_cons.mp nd
    rw [List.length_cons] at hl
    have A := rowM_row G n rest nd'.2 (by omega)
    have xA : x ∉ rowM G n rest := fun h => nd'.1 (A.sub x h)
    rw [rowM, not_against]
    split
    · rename_i e
      have e : rest.filter (G x) = [] := List.eq_nil_of_length_eq_zero e
      have no : ∀ y ∈ rest, G x y = false := fun y hy => by
        have := List.filter_eq_nil_iff.mp e y hy
        simpa using this
      refine ⟨fun z hz => List.mem_cons_of_mem _ (A.sub z hz), A.nd, ⟨fun y hy g => ?_, A.hits⟩, fun q hq => ?_, fun q hq ht => ?_⟩
      · rw [no y hy] at g; cases g
      · have := A.le q hq.2
        rw [cnt_cons]; omega
      · have := A.le q hq.2
        rw [cnt_cons] at ht
        have qx : q x = false := by
          cases w : q x with
          | false => rfl
          | true => rw [if_pos w] at ht; omega
        rw [if_neg (by rw [qx]; decide), Nat.zero_add] at ht
        refine .inr ⟨?_, A.first q hq.2 ht⟩
        rw [qx]
        simpa using xA
    · have B := rowM_row G n (rest.filter fun m => !G x m) (nd'.2.filter _) (Nat.le_trans (List.length_filter_le _ _) (by omega))
      have cw : ∀ z, (x :: rowM G n rest).contains z = (z == x || (rowM G n rest).contains z) := fun z => List.contains_cons ..
      have ne : ∀ z ∈ rest, (z == x) = false := fun z hz => beq_eq_false_iff_ne.mpr fun w => nd'.1 (w ▸ hz)
      -- one that keeps x has all its foes
      have stay : ∀ q, Hits G (x :: rest) q → q x = false → (∀ z ∈ rest, G x z = true → q z = true) ∧ cnt (x :: rest) q = (rest.filter (G x)).length + cnt (rest.filter fun m => !G x m) q := fun q hq qx => by
        have h1 : ∀ z ∈ rest, G x z = true → q z = true := fun z hz g => (hq.1 z hz g).elim (fun w => by rw [qx] at w; cases w) id
        refine ⟨h1, ?_⟩
        rw [cnt_cons, if_neg (by rw [qx]; decide), Nat.zero_add, cnt_split (f := G x)]
        congr 1
        exact cnt_all fun z hz => h1 z (memf hz) (List.mem_filter.mp hz).2
      have go : ∀ q, Hits G (x :: rest) q → q x = true → cnt (x :: rest) q = 1 + cnt rest q := fun q hq qx => by rw [cnt_cons, if_pos qx]
      have sB : ∀ z, (rest.filter (G x) ++ rowM G n (rest.filter fun m => !G x m)).contains z = ((rest.filter (G x)).contains z || (rowM G n (rest.filter fun m => !G x m)).contains z) := fun z => List.contains_append ..
      split
      · rename_i le
        rw [List.length_cons, List.length_append] at le
        refine ⟨fun z hz => ?_, List.nodup_cons.mpr ⟨xA, A.nd⟩, ⟨fun y hy g => .inl (by show (x :: rowM G n rest).contains x = true; simp), ?_⟩, fun q hq => ?_, fun q hq ht => ?_⟩
        · rcases List.mem_cons.mp hz with e | e
          · rw [e]; exact List.mem_cons_self ..
          · exact List.mem_cons_of_mem _ (A.sub z e)
        · exact A.hits.mono fun z hz w => by
            have w : (rowM G n rest).contains z = true := w
            rw [cw, w, Bool.or_true]
        · rw [List.length_cons]
          cases qx : q x with
          | true => rw [go q hq qx]; have := A.le q hq.2; omega
          | false =>
            have s := stay q hq qx
            have := B.le q (hq.2.filter _)
            rw [s.2]; omega
        · rw [List.length_cons] at ht
          cases qx : q x with
          | true =>
            rw [go q hq qx] at ht
            refine .inr ⟨by rw [qx]; show (x :: rowM G n rest).contains x = true; simp, ?_⟩
            exact pre_congr (fun z hz => by rw [cw, ne z hz, Bool.false_or]) (fun _ _ => rfl) (A.first q hq.2 (by omega))
          | false => exact .inl ⟨by show (x :: rowM G n rest).contains x = true; simp, qx⟩
      · rename_i le
        rw [List.length_cons, List.length_append] at le
        have xS : (rest.filter (G x) ++ rowM G n (rest.filter fun m => !G x m)).contains x = false := by
          rw [Bool.eq_false_iff]
          intro w
          rcases List.mem_append.mp (List.contains_iff_mem.mp w) with w | w
          · exact nd'.1 (memf w)
          · exact nd'.1 (memf (B.sub x w))
        refine ⟨fun z hz => ?_, ?_, ⟨fun y hy g => .inr ?_, ?_⟩, fun q hq => ?_, fun q hq ht => ?_⟩
        · rcases List.mem_append.mp hz with e | e
          · exact List.mem_cons_of_mem _ (memf e)
          · exact List.mem_cons_of_mem _ (memf (B.sub z e))
        · rw [List.nodup_append]
          refine ⟨nd'.2.filter _, B.nd, fun a ha b hb => ?_⟩
          rintro rfl
          have h1 := (List.mem_filter.mp ha).2
          have h2 := (List.mem_filter.mp (B.sub a hb)).2
          rw [h1] at h2
          cases h2
        · show (rest.filter (G x) ++ rowM G n (rest.filter fun m => !G x m)).contains y = true
          rw [sB, List.contains_iff_mem.mpr (List.mem_filter.mpr ⟨hy, g⟩), Bool.true_or]
        · refine Hits.all (f := fun m => !G x m) (fun z hz w => ?_) (B.hits.mono fun z hz w => ?_)
          · have w : G x z = true := by simpa using w
            rw [sB, List.contains_iff_mem.mpr (List.mem_filter.mpr ⟨hz, w⟩), Bool.true_or]
          · have w : (rowM G n (rest.filter fun m => !G x m)).contains z = true := w
            rw [sB, w, Bool.or_true]
        · rw [List.length_append]
          cases qx : q x with
          | true => rw [go q hq qx]; have := A.le q hq.2; omega
          | false =>
            have s := stay q hq qx
            have := B.le q (hq.2.filter _)
            rw [s.2]; omega
        · rw [List.length_append] at ht
          cases qx : q x with
          | true => rw [go q hq qx] at ht; have := A.le q hq.2; omega
          | false =>
            have s := stay q hq qx
            rw [s.2] at ht
            refine .inr ⟨xS.trans qx.symm, ?_⟩
            refine pre_filter (f := fun m => !G x m) (fun z hz w => ?_) (pre_congr (fun z hz => ?_) (fun _ _ => rfl) (B.first q (hq.2.filter _) (by omega)))
            · have w : G x z = true := by simpa using w
              rw [sB, List.contains_iff_mem.mpr (List.mem_filter.mpr ⟨hz, w⟩), Bool.true_or, s.1 z hz w]
            · have h2 := (List.mem_filter.mp hz).2
              rw [sB]
              have : (rest.filter (G x)).contains z = false := by
                rw [Bool.eq_false_iff]
                intro w
                have := (List.mem_filter.mp (List.contains_iff_mem.mp w)).2
                rw [this] at h2
                cases h2
              rw [this, Bool.false_or]
/-! all together -/
def pairG (d : Desk) (i j : Nat) : Bool := match d.facts[i]?, d.facts[j]? with
  | some f, some g => !sound ⟨[f, g], d.rules⟩
  | _, _ => false
def aloneG (d : Desk) (i : Nat) : Bool := match d.facts[i]? with
  | some f => !sound ⟨[f], d.rules⟩
  | none => false
theorem alone_pair {d : Desk} (ok : OkDesk d) (i : Nat) : pairG d i i = aloneG d i := by
  unfold pairG aloneG
  cases h : d.facts[i]? with
  | none => rfl
  | some f =>
    dsimp only
    congr 1
    have hf := ok.facts f (List.mem_of_getElem? h)
    have ok1 : OkDesk ⟨[f], d.rules⟩ := ⟨fun z hz => by cases List.mem_singleton.mp hz; exact hf, ok.rules⟩
    have ok2 : OkDesk ⟨[f, f], d.rules⟩ := ⟨fun z hz => by simp at hz; rw [hz]; exact hf, ok.rules⟩
    rw [Bool.eq_iff_iff]
    exact ⟨fun w => sound_mono ok2 (fun z hz => by simp at hz; simp [hz]) w, fun w => sound_mono ok1 (fun z hz => by simp at hz; simp [hz]) w⟩
def rowOf (d : Desk) : List Nat := ((List.range d.facts.length).filter (aloneG d)) ++ rowM (pairG d) 14 ((List.range d.facts.length).filter fun n => !((List.range d.facts.length).filter (aloneG d)).contains n)
theorem range_pair (n : Nat) : (List.range n).Pairwise (· < ·) := List.pairwise_lt_range
theorem hits_iff {G : Nat → Nat → Bool} {q : Nat → Bool} : ∀ {l : List Nat}, l.Pairwise (· < ·) → (Hits G l q ↔ ∀ i ∈ l, ∀ j ∈ l, i < j → G i j = true → q i = true ∨ q j = true)
  | [], _ => ⟨fun _ _ h => (by cases h), fun _ => trivial⟩
  | x :: l, hp => by
    have hp' := List.pairwise_cons.mp hp
    rw [Hits, hits_iff hp'.2]
    constructor
    · rintro ⟨h1, h2⟩ i hi j hj lt g
      rcases List.mem_cons.mp hi with e | hi
      · subst e
        rcases List.mem_cons.mp hj with e | hj
        · omega
        · exact h1 j hj g
      · rcases List.mem_cons.mp hj with e | hj
        · have := hp'.1 i hi
          omega
        · exact h2 i hi j hj lt g
    · intro h
      exact ⟨fun y hy g => h x (List.mem_cons_self ..) y (List.mem_cons_of_mem _ hy) (hp'.1 y hy) g, fun i hi j hj lt g => h i (List.mem_cons_of_mem _ hi) j (List.mem_cons_of_mem _ hj) lt g⟩
theorem clash_pair {d : Desk} {i j : Nat} : (i, j) ∈ clashes d ↔ i ≤ j ∧ pairG d i j = true := by
  rw [mem_clashes]
  unfold pairG
  constructor
  · rintro ⟨f, g, h1, h2, le, hs⟩
    rw [h1, h2]
    exact ⟨le, by dsimp only; rw [hs]; rfl⟩
  · rintro ⟨le, h⟩
    cases h1 : d.facts[i]? with
    | none => rw [h1] at h; cases h
    | some f =>
      cases h2 : d.facts[j]? with
      | none => rw [h1, h2] at h; cases h
      | some g =>
        rw [h1, h2] at h
        exact ⟨f, g, rfl, rfl, le, by simpa using h⟩
theorem pair_lt {d : Desk} {i j : Nat} (h : pairG d i j = true) : i < d.facts.length ∧ j < d.facts.length := by
  unfold pairG at h
  cases h1 : d.facts[i]? with
  | none => rw [h1] at h; cases h
  | some f =>
    cases h2 : d.facts[j]? with
    | none => rw [h1, h2] at h; cases h
    | some g => exact ⟨(List.getElem?_eq_some_iff.mp h1).1, (List.getElem?_eq_some_iff.mp h2).1⟩
/-- a choice that hits every clash -/
theorem hit_iff {d : Desk} (ok : OkDesk d) (q : Nat → Bool) : ((clashes d).all fun p => ((List.range d.facts.length).filter q).contains p.1 || ((List.range d.facts.length).filter q).contains p.2) = true ↔
    (∀ i ∈ List.range d.facts.length, aloneG d i = true → q i = true) ∧ Hits (pairG d) (List.range d.facts.length) q := by
  rw [List.all_eq_true, hits_iff (range_pair _)]
  have m : ∀ i, i < d.facts.length → (((List.range d.facts.length).filter q).contains i = true ↔ q i = true) := fun i hi => by
    rw [List.contains_iff_mem, List.mem_filter, List.mem_range]
    exact ⟨fun h => h.2, fun h => ⟨hi, h⟩⟩
  constructor
  · intro h
    refine ⟨fun i hi a => ?_, fun i hi j hj lt g => ?_⟩
    · have hi' := List.mem_range.mp hi
      have := h (i, i) (clash_pair.mpr ⟨Nat.le_refl _, by rw [alone_pair ok]; exact a⟩)
      rw [Bool.or_eq_true] at this
      exact this.elim (m i hi').mp (m i hi').mp
    · have := h (i, j) (clash_pair.mpr ⟨Nat.le_of_lt lt, g⟩)
      rw [Bool.or_eq_true] at this
      exact this.imp (m i (List.mem_range.mp hi)).mp (m j (List.mem_range.mp hj)).mp
  · rintro ⟨h1, h2⟩ ⟨i, j⟩ hp
    obtain ⟨le, g⟩ := clash_pair.mp hp
    obtain ⟨li, lj⟩ := pair_lt g
    rw [Bool.or_eq_true]
    rcases Nat.lt_or_eq_of_le le with lt | e
    · exact (h2 i (List.mem_range.mpr li) j (List.mem_range.mpr lj) lt g).imp (m i li).mpr (m j lj).mpr
    · subst e
      rw [alone_pair ok] at g
      exact .inl ((m i li).mpr (h1 i (List.mem_range.mpr li) g))
theorem findSome_at {A : Type} {f : Nat → Option A} {k : Nat} {a : A} (h : f k = some a) : ∀ (n : Nat), k < n → (∀ j < k, f j = none) → (List.range n).findSome? f = some a := by
  intro n hn hj
  have e : List.range n = List.range k ++ (k :: (List.range (n - k - 1)).map fun i => k + 1 + i) := by
    have : n = k + (n - k - 1 + 1) := by omega
    conv => lhs; rw [this]
    rw [List.range_add, List.range_succ_eq_map, List.map_cons, List.map_map]
    congr 2
    apply List.map_congr_left
    intro i _
    show k + (i + 1) = k + 1 + i
    omega
  rw [e, List.findSome?_append]
  have none : (List.range k).findSome? f = none := by
    rw [List.findSome?_eq_none_iff]
    intro j hj'
    exact hj j (List.mem_range.mp hj')
  rw [none, List.findSome?_cons, h]
  rfl
theorem rowOf_facts {d : Desk} (ok : OkDesk d) (h14 : d.facts.length ≤ 14) : (rowOf d).Nodup ∧ (∀ z ∈ rowOf d, z < d.facts.length) ∧ fewest d = (List.range d.facts.length).filter fun z => (rowOf d).contains z := by
  have nr : (List.range d.facts.length).Nodup := List.nodup_range
  have el : ((List.range d.facts.length).filter fun n => !((List.range d.facts.length).filter (aloneG d)).contains n) = (List.range d.facts.length).filter fun n => !aloneG d n := not_against
  have R := rowM_row (pairG d) 14 ((List.range d.facts.length).filter fun n => !aloneG d n) (nr.filter _) (Nat.le_trans (List.length_filter_le _ _) (by rw [List.length_range]; exact h14))
  have er : rowOf d = ((List.range d.facts.length).filter (aloneG d)) ++ rowM (pairG d) 14 ((List.range d.facts.length).filter fun n => !aloneG d n) := by
    unfold rowOf
    rw [el]
  generalize hR : rowM (pairG d) 14 ((List.range d.facts.length).filter fun n => !aloneG d n) = R0 at R er
  have nd : (rowOf d).Nodup := by
    rw [er, List.nodup_append]
    refine ⟨nr.filter _, R.nd, fun a ha b hb => ?_⟩
    rintro rfl
    have h1 := (List.mem_filter.mp ha).2
    have h2 := (List.mem_filter.mp (R.sub a hb)).2
    rw [h1] at h2
    cases h2
  have lt : ∀ z ∈ rowOf d, z < d.facts.length := fun z hz => by
    rw [er] at hz
    rcases List.mem_append.mp hz with w | w
    · exact List.mem_range.mp (memf w)
    · exact List.mem_range.mp (memf (R.sub z w))
  refine ⟨nd, lt, ?_⟩
  have cont : ∀ z ∈ List.range d.facts.length, (rowOf d).contains z = (aloneG d z || R0.contains z) := fun z hz => by
    rw [er, List.contains_append]
    congr 1
    rw [Bool.eq_iff_iff, List.contains_iff_mem, List.mem_filter]
    exact ⟨fun w => w.2, fun w => ⟨hz, w⟩⟩
  have len : cnt (List.range d.facts.length) (fun z => (rowOf d).contains z) = (rowOf d).length := by
    refine Nat.le_antisymm (nodup_len _ _ (nr.filter _) fun z hz => List.contains_iff_mem.mp (List.mem_filter.mp hz).2) (nodup_len _ _ nd fun z hz => List.mem_filter.mpr ⟨List.mem_range.mpr (lt z hz), List.contains_iff_mem.mpr hz⟩)
  have lenr : (rowOf d).length = ((List.range d.facts.length).filter (aloneG d)).length + R0.length := by rw [er, List.length_append]
  -- any that hits
  have cq : ∀ q : Nat → Bool, (∀ i ∈ List.range d.facts.length, aloneG d i = true → q i = true) → cnt (List.range d.facts.length) q = ((List.range d.facts.length).filter (aloneG d)).length + cnt ((List.range d.facts.length).filter fun n => !aloneG d n) q := fun q h => by
    rw [cnt_split (f := aloneG d)]
    congr 1
    exact cnt_all fun z hz => h z (memf hz) (List.mem_filter.mp hz).2
  have hitR : ((clashes d).all fun p => ((List.range d.facts.length).filter fun z => (rowOf d).contains z).contains p.1 || ((List.range d.facts.length).filter fun z => (rowOf d).contains z).contains p.2) = true := by
    rw [hit_iff ok]
    refine ⟨fun i hi a => by rw [cont i hi, a, Bool.true_or], Hits.all (f := fun n => !aloneG d n) (fun z hz w => ?_) (R.hits.mono fun z hz w => ?_)⟩
    · have w : aloneG d z = true := by simpa using w
      rw [cont z hz, w, Bool.true_or]
    · have w : R0.contains z = true := w
      rw [cont z (memf hz), w, Bool.or_true]
  have least : ∀ q : Nat → Bool, ((clashes d).all fun p => ((List.range d.facts.length).filter q).contains p.1 || ((List.range d.facts.length).filter q).contains p.2) = true → (rowOf d).length ≤ cnt (List.range d.facts.length) q ∧ ((rowOf d).length = cnt (List.range d.facts.length) q → pre (List.range d.facts.length) (fun z => (rowOf d).contains z) q) := fun q hq => by
    obtain ⟨h1, h2⟩ := (hit_iff ok q).mp hq
    have c := cq q h1
    have l := R.le q (h2.filter _)
    refine ⟨by rw [lenr, c]; omega, fun e => ?_⟩
    rw [lenr, c] at e
    refine pre_filter (f := fun n => !aloneG d n) (fun z hz w => ?_) (pre_congr (fun z hz => ?_) (fun _ _ => rfl) (R.first q (h2.filter _) (by omega)))
    · have w : aloneG d z = true := by simpa using w
      rw [cont z hz, w, Bool.true_or, h1 z hz w]
    · have w : aloneG d z = false := by simpa using (List.mem_filter.mp hz).2
      rw [cont z (memf hz), w, Bool.false_or]
  unfold fewest
  dsimp only
  rw [findSome_at (k := (rowOf d).length) (a := (List.range d.facts.length).filter fun z => (rowOf d).contains z)]
  · rfl
  · exact choices_first _ _ _ _ nr len hitR fun q hc hP => (least q hP).2 hc.symm
  · have := nodup_len _ (List.range d.facts.length) nd fun z hz => List.mem_range.mpr (lt z hz)
    rw [List.length_range] at this
    omega
  · intro j hj
    rw [List.find?_eq_none]
    intro c hc hP
    have hs := choices_sub j _ c nr hc
    have hl := choices_len j _ c hc
    rw [← hs] at hP
    have := (least (fun z => c.contains z) hP).1
    unfold cnt at this
    rw [hs, hl] at this
    omega
end Wm

set_option linter.all false
namespace Wm
open Gq03
/-! ### Rows of steps, by what becomes of them out there -/
def ownP (rs : List Rule) (r : Nat) : List Basic := afterB rs (.has (turned r))
def fitsM (has : List Basic) (k : Nat) : Bool := decide (k = 0) || has.contains (.kind k)
def kindAt (steps : Ask) (i : Nat) : Nat := (steps[i]?.map fun s => s.2).getD 0
def ownN (rs : List Rule) (steps : Ask) (has : List Basic) (done : Nat) : List Nat := match steps[done]? with
  | none => []
  | some st => (roles.filter fun r => has.contains (.has r) && (afterD rs r).contains st.1).filter fun r => fitsM (ownP rs r) st.2
abbrev Tabs := Nat → Nat → List Nat × Bool
def overM (rs : List Rule) (steps : Ask) (T : Tabs) (has : List Basic) (done : Nat) : Bool := if done = steps.length then true else (ownN rs steps has done).any fun r => (T r (done + 1)).2
def cameM (steps : Ask) (T : Tabs) (has : List Basic) (done r : Nat) : List Nat := (T r (done + 1)).1.filter fun back => fitsM has (kindAt steps (back - 1))
def tripAt (rs : List Rule) (steps : Ask) (T : Tabs) (has : List Basic) (done : Nat) : List (Nat × Nat) := (ownN rs steps has done).flatMap fun r => (cameM steps T has done r).map fun back => (done, back)
def tripsM (rs : List Rule) (steps : Ask) (T : Tabs) (has : List Basic) (first : Nat) : List (Nat × Nat) := (List.range (steps.length - first)).flatMap fun i => tripAt rs steps T has (first + i)
def standM (rs : List Rule) (steps : Ask) (T : Tabs) (r done : Nat) : List Nat := reachedM [done] (tripsM rs steps T (ownP rs r) done)
def leaveM (rs : List Rule) (steps : Ask) (T : Tabs) (r done : Nat) : List Nat := (standM rs steps T r done).filter fun i => match steps[i]? with
  | none => false
  | some st => (afterD rs (turned r)).contains st.1
def outM (rs : List Rule) (steps : Ask) (T : Tabs) (r done : Nat) : List Nat × Bool :=
  ((leaveM rs steps T r done).map fun i => i + 1, (standM rs steps T r done).any fun i => overM rs steps T (ownP rs r) i)
def tabs (rs : List Rule) (steps : Ask) : Nat → Tabs
  | 0 => fun _ _ => ([], false)
  | j + 1 => fun r done => if done = steps.length - j then outM rs steps (tabs rs steps j) r done else tabs rs steps j r done
/-! bounds -/
def Bnd (steps : Ask) (T : Tabs) : Prop := ∀ r done, (T r done).1.Nodup ∧ ∀ back ∈ (T r done).1, done < back ∧ back ≤ steps.length
theorem ownN_mem {rs : List Rule} {steps : Ask} {has : List Basic} {done r : Nat} : r ∈ ownN rs steps has done ↔ ∃ st, steps[done]? = some st ∧ r ∈ roles ∧ .has r ∈ has ∧ st.1 ∈ afterD rs r ∧ fitsM (ownP rs r) st.2 = true := by
  unfold ownN
  cases h : steps[done]? with
  | none => simp
  | some st =>
    dsimp only
    rw [List.mem_filter, List.mem_filter, Bool.and_eq_true, List.contains_iff_mem, List.contains_iff_mem]
    constructor
    · rintro ⟨⟨h1, h2, h3⟩, h4⟩; exact ⟨st, rfl, h1, h2, h3, h4⟩
    · rintro ⟨st', e, h1, h2, h3, h4⟩
      cases e
      exact ⟨⟨h1, h2, h3⟩, h4⟩
theorem ownN_len {rs : List Rule} {steps : Ask} {has : List Basic} {done : Nat} : (ownN rs steps has done).length ≤ 8 := by
  unfold ownN
  split
  · simp
  · exact Nat.le_trans (List.length_filter_le _ _) (List.length_filter_le _ _)
theorem mem_tripAt {rs : List Rule} {steps : Ask} {T : Tabs} {has : List Basic} {done i back : Nat} : (i, back) ∈ tripAt rs steps T has done ↔ i = done ∧ ∃ r ∈ ownN rs steps has done, back ∈ (T r (done + 1)).1 ∧ fitsM has (kindAt steps (back - 1)) = true := by
  unfold tripAt cameM
  rw [List.mem_flatMap]
  constructor
  · rintro ⟨r, hr, h⟩
    obtain ⟨b, hb, e⟩ := List.mem_map.mp h
    cases e
    have := List.mem_filter.mp hb
    exact ⟨rfl, r, hr, this.1, this.2⟩
  · rintro ⟨rfl, r, hr, h1, h2⟩
    exact ⟨r, hr, List.mem_map.mpr ⟨back, List.mem_filter.mpr ⟨h1, h2⟩, rfl⟩⟩
theorem mem_trips {rs : List Rule} {steps : Ask} {T : Tabs} {has : List Basic} {first i back : Nat} : (i, back) ∈ tripsM rs steps T has first ↔ first ≤ i ∧ i < steps.length ∧ ∃ r ∈ ownN rs steps has i, back ∈ (T r (i + 1)).1 ∧ fitsM has (kindAt steps (back - 1)) = true := by
  unfold tripsM
  rw [List.mem_flatMap]
  constructor
  · rintro ⟨k, hk, h⟩
    have hk := List.mem_range.mp hk
    obtain ⟨rfl, w⟩ := mem_tripAt.mp h
    exact ⟨by omega, by omega, w⟩
  · rintro ⟨h1, h2, w⟩
    refine ⟨i - first, List.mem_range.mpr (by omega), ?_⟩
    have e : first + (i - first) = i := by omega
    rw [e]
    exact mem_tripAt.mpr ⟨rfl, w⟩
theorem trips_up {rs : List Rule} {steps : Ask} {T : Tabs} (B : Bnd steps T) {has : List Basic} {first i back : Nat} (h : (i, back) ∈ tripsM rs steps T has first) : first ≤ i ∧ i + 1 < back ∧ back ≤ steps.length := by
  obtain ⟨h1, h2, r, hr, hb, _⟩ := mem_trips.mp h
  have := (B r (i + 1)).2 back hb
  omega
theorem stand_bnd {rs : List Rule} {steps : Ask} {T : Tabs} (B : Bnd steps T) {r done i : Nat} (h : i ∈ standM rs steps T r done) : done ≤ i ∧ (done ≤ steps.length → i ≤ steps.length) := by
  obtain ⟨a, ha, p⟩ := mem_reachedM.mp h
  cases List.mem_singleton.mp ha
  exact Path.closed (P := fun x => done ≤ x ∧ (done ≤ steps.length → x ≤ steps.length)) p ⟨Nat.le_refl _, id⟩ fun x y hx hy => by
    have := trips_up B (mem_succs.mp hy)
    omega
theorem out_bnd {rs : List Rule} {steps : Ask} {T : Tabs} (B : Bnd steps T) (r done : Nat) : (outM rs steps T r done).1.Nodup ∧ ∀ back ∈ (outM rs steps T r done).1, done < back ∧ back ≤ steps.length := by
  constructor
  · show ((leaveM rs steps T r done).map fun i => i + 1).Nodup
    unfold leaveM
    have := (reachedM_nodup (starts := [done]) (steps := tripsM rs steps T (ownP rs r) done)).filter fun i => match steps[i]? with
      | none => false
      | some st => (afterD rs (turned r)).contains st.1
    unfold List.Nodup at this ⊢
    rw [List.pairwise_map]
    exact this.imp fun h e => h (by omega)
  · intro back hb
    obtain ⟨i, hi, rfl⟩ := List.mem_map.mp hb
    obtain ⟨h1, h2⟩ := List.mem_filter.mp hi
    have := (stand_bnd B h1).1
    cases h : steps[i]? with
    | none => rw [h] at h2; cases h2
    | some st =>
      have := (List.getElem?_eq_some_iff.mp h).1
      omega
theorem tabs_bnd (rs : List Rule) (steps : Ask) : ∀ j, Bnd steps (tabs rs steps j)
  | 0 => fun r done => ⟨List.nodup_nil, fun _ h => by cases h⟩
  | j + 1 => fun r done => by
    show (if done = steps.length - j then outM rs steps (tabs rs steps j) r done else tabs rs steps j r done).1.Nodup ∧ ∀ back ∈ (if done = steps.length - j then outM rs steps (tabs rs steps j) r done else tabs rs steps j r done).1, _
    split
    · exact out_bnd (tabs_bnd rs steps j) r done
    · exact tabs_bnd rs steps j r done
theorem came_len {steps : Ask} {T : Tabs} (B : Bnd steps T) (has : List Basic) (done r : Nat) : (cameM steps T has done r).length ≤ steps.length + 1 := by
  have h1 : (T r (done + 1)).1.length ≤ steps.length + 1 := by
    have := nodup_len _ (List.range (steps.length + 1)) (B r (done + 1)).1 fun z hz => List.mem_range.mpr (by have := (B r (done + 1)).2 z hz; omega)
    rw [List.length_range] at this
    exact this
  exact Nat.le_trans (List.length_filter_le _ _) h1
theorem tripAt_len {rs : List Rule} {steps : Ask} {T : Tabs} (B : Bnd steps T) (has : List Basic) (done : Nat) : (tripAt rs steps T has done).length ≤ (steps.length + 1) * 8 := by
  have h1 : (tripAt rs steps T has done).length ≤ (steps.length + 1) * (ownN rs steps has done).length := flatMap_len (fun r => by rw [List.length_map]; exact came_len B has done r) _
  exact Nat.le_trans h1 (Nat.mul_le_mul (Nat.le_refl _) ownN_len)
theorem trips_len {rs : List Rule} {steps : Ask} {T : Tabs} (B : Bnd steps T) (has : List Basic) (first : Nat) : (tripsM rs steps T has first).length ≤ ((steps.length + 1) * 8) * steps.length := by
  have h1 : (tripsM rs steps T has first).length ≤ ((steps.length + 1) * 8) * (List.range (steps.length - first)).length := flatMap_len (fun i => tripAt_len B has (first + i)) _
  rw [List.length_range] at h1
  exact Nat.le_trans h1 (Nat.mul_le_mul (Nat.le_refl _) (by omega))
theorem trips_small {rs : List Rule} {steps : Ask} {T : Tabs} (B : Bnd steps T) (h4 : steps.length ≤ 4) (has : List Basic) (first : Nat) : (tripsM rs steps T has first).length ≤ 160 := by
  have h := trips_len (rs := rs) B has first
  have h2 : ((steps.length + 1) * 8) * steps.length ≤ (5 * 8) * 4 := Nat.mul_le_mul (by omega) h4
  omega
/-! ### what it means -/
theorem closure {A : Type} [DecidableEq A] {pairs : List (A × A)} {P base I : A → Prop} (m : A → Nat) (hI : ∀ a b, I a → (a, b) ∈ pairs → I b ∧ m b < m a)
    (h : ∀ a, I a → (P a ↔ base a ∨ ∃ b, (a, b) ∈ pairs ∧ P b)) {a : A} (ia : I a) : P a ↔ ∃ c, Path (succs pairs) a c ∧ base c := by
  constructor
  · have go : ∀ n a, m a < n → I a → P a → ∃ c, Path (succs pairs) a c ∧ base c := by
      intro n
      induction n with
      | zero => intro a h0; omega
      | succ n ih =>
        intro a hn ia pa
        rcases (h a ia).mp pa with q | ⟨b, hb, pb⟩
        · exact ⟨a, .refl a, q⟩
        · have := hI a b ia hb
          obtain ⟨c, p, q⟩ := ih b (by omega) this.1 pb
          exact ⟨c, Path.head (mem_succs.mpr hb) p, q⟩
    exact go (m a + 1) a (Nat.lt_succ_self _) ia
  · rintro ⟨c, p, q⟩
    have := Path.closed (P := fun x => I x ∧ (P x → P a)) p ⟨ia, id⟩ fun x y hx hy => ⟨(hI x y hx.1 (mem_succs.mp hy)).1, fun py => hx.2 ((h x hx.1).mpr (.inr ⟨y, mem_succs.mp hy, py⟩))⟩
    exact this.2 ((h c this.1).mpr (.inl q))
section
variable {d : Desk}
def Lead (d : Desk) (steps : Ask) (p : Pos) (i : Nat) : Prop := leadP d p (steps.drop i)
def fitsP (ty : List Basic) (k : Nat) : Prop := k = 0 ∨ .kind k ∈ ty
theorem fits_iff {has ty : List Basic} (h : ∀ b, b ∈ has ↔ b ∈ ty) (k : Nat) : fitsM has k = true ↔ fitsP ty k := by
  unfold fitsM fitsP
  rw [Bool.or_eq_true, decide_eq_true_iff, List.contains_iff_mem, h]
/-- the steps but to a node of one's own -/
def Other (d : Desk) (steps : Ask) (p : Pos) (i : Nat) : Prop := ∃ st, steps[i]? = some st ∧ match p.2 with
  | [] => ∃ y ∈ nodes, st.1 ∈ between d p.1 y ∧ fitsP (typeOf d y) st.2 ∧ Lead d steps (y, []) (i + 1)
  | r :: l => st.1 ∈ upRole d.rules (turned r) ∧ fitsP (tyP d (p.1, l)) st.2 ∧ Lead d steps (p.1, l) (i + 1)
structure Sem (d : Desk) (steps : Ask) (T : Tabs) (r done : Nat) : Prop where
  iff : ∀ x l, OkPos (x, r :: l) → (Lead d steps (x, r :: l) done ↔ (T r done).2 = true ∨ ∃ back ∈ (T r done).1, fitsP (tyP d (x, l)) (kindAt steps (back - 1)) ∧ Lead d steps (x, l) back)
theorem ownP_mem (ok : OkDesk d) {r : Nat} (hr : r ∈ roles) {x : Nat} {l : List Role} (b : Basic) : b ∈ ownP d.rules r ↔ b ∈ tyP d (x, r :: l) := by
  unfold ownP
  rw [mem_afterB]
  exact (mem_up1 ok.rules (has_basics.mpr (turned_roles hr))).symm
theorem lead_step (ok : OkDesk d) {steps : Ask} {T : Tabs} {i0 : Nat} (S : ∀ r ∈ roles, ∀ done, i0 < done → done ≤ steps.length → Sem d steps T r done) {p : Pos} (hp : OkPos p) {has : List Basic} (hh : ∀ b, b ∈ has ↔ b ∈ tyP d p) {i : Nat} (h0 : i0 ≤ i) (hi : i ≤ steps.length) :
    Lead d steps p i ↔ (overM d.rules steps T has i = true ∨ Other d steps p i) ∨ ∃ back, (i, back) ∈ tripsM d.rules steps T has i0 ∧ Lead d steps p back := by
  rcases Nat.lt_or_eq_of_le hi with lt | e
  · obtain ⟨st, hst⟩ : ∃ st, steps[i]? = some st := ⟨steps[i], List.getElem?_eq_getElem lt⟩
    have hd : steps.drop i = st :: steps.drop (i + 1) := by
      rw [List.drop_eq_getElem_cons lt]
      rw [List.getElem?_eq_getElem lt] at hst
      cases hst
      rfl
    have hov : overM d.rules steps T has i = true ↔ ∃ r ∈ ownN d.rules steps has i, (T r (i + 1)).2 = true := by
      unfold overM
      rw [if_neg (by omega), List.any_eq_true]
    have el : Lead d steps p i ↔ ∃ z, goP d p st.1 z ∧ (st.2 = 0 ∨ .kind st.2 ∈ tyP d z) ∧ Lead d steps z (i + 1) := by
      unfold Lead
      rw [hd]
      rfl
    have own : ∀ s ∈ roles, (Lead d steps (p.1, s :: p.2) (i + 1) ↔ (T s (i + 1)).2 = true ∨ ∃ back ∈ (T s (i + 1)).1, fitsP (tyP d p) (kindAt steps (back - 1)) ∧ Lead d steps p back) := fun s hs =>
      (S s hs (i + 1) (by omega) (by omega)).iff p.1 p.2 ⟨hp.1, fun q hq => by
        rcases List.mem_cons.mp hq with e | e
        · rw [e]; exact hs
        · exact hp.2 q e⟩
    have mo : ∀ s, s ∈ ownN d.rules steps has i ↔ s ∈ roles ∧ .has s ∈ tyP d p ∧ st.1 ∈ upRole d.rules s ∧ fitsP (tyP d (p.1, s :: p.2)) st.2 := fun s => by
      rw [ownN_mem]
      constructor
      · rintro ⟨st', e, h1, h2, h3, h4⟩
        rw [hst] at e
        cases e
        exact ⟨h1, (hh _).mp h2, (mem_upRole ok.rules h1).mpr (mem_afterD.mp h3), (fits_iff (ownP_mem ok h1) _).mp h4⟩
      · rintro ⟨h1, h2, h3, h4⟩
        exact ⟨st, hst, h1, (hh _).mpr h2, mem_afterD.mpr ((mem_upRole ok.rules h1).mp h3), (fits_iff (ownP_mem ok h1) _).mpr h4⟩
    rw [el]
    constructor
    · rintro ⟨z, hz, hf, hl⟩
      rcases hz with hz | ⟨s, hs, h1, h2, rfl⟩
      · refine .inl (.inr ⟨st, hst, ?_⟩)
        obtain ⟨x, path⟩ := p
        cases path with
        | nil =>
          obtain ⟨y, hy, rfl, ht⟩ := hz
          exact ⟨y, hy, ht, hf, hl⟩
        | cons r l =>
          obtain ⟨rfl, ht⟩ := hz
          exact ⟨ht, hf, hl⟩
      · have so : s ∈ ownN d.rules steps has i := (mo s).mpr ⟨hs, h1, h2, hf⟩
        rcases (own s hs).mp hl with q | ⟨back, hb, hf2, hl2⟩
        · exact .inl (.inl (hov.mpr ⟨s, so, q⟩))
        · exact .inr ⟨back, mem_trips.mpr ⟨h0, lt, s, so, hb, (fits_iff hh _).mpr hf2⟩, hl2⟩
    · rintro ((q | ⟨st', e, q⟩) | ⟨back, hb, hl⟩)
      · obtain ⟨s, so, q⟩ := hov.mp q
        obtain ⟨hs, h1, h2, hf⟩ := (mo s).mp so
        exact ⟨(p.1, s :: p.2), .inr ⟨s, hs, h1, h2, rfl⟩, hf, (own s hs).mpr (.inl q)⟩
      · rw [hst] at e
        cases e
        obtain ⟨x, path⟩ := p
        cases path with
        | nil =>
          obtain ⟨y, hy, ht, hf, hl⟩ := q
          exact ⟨(y, []), .inl ⟨y, hy, rfl, ht⟩, hf, hl⟩
        | cons r l =>
          obtain ⟨ht, hf, hl⟩ := q
          exact ⟨(x, l), .inl ⟨rfl, ht⟩, hf, hl⟩
      · obtain ⟨_, _, s, so, hb, hf2⟩ := mem_trips.mp hb
        obtain ⟨hs, h1, h2, hf⟩ := (mo s).mp so
        exact ⟨(p.1, s :: p.2), .inr ⟨s, hs, h1, h2, rfl⟩, hf, (own s hs).mpr (.inr ⟨back, hb, (fits_iff hh _).mp hf2, hl⟩)⟩
  · subst e
    constructor
    · intro _
      exact .inl (.inl (by unfold overM; rw [if_pos rfl]))
    · intro _
      unfold Lead
      rw [List.drop_length]
      trivial
theorem out_sem (ok : OkDesk d) {steps : Ask} {T T' : Tabs} (B : Bnd steps T) {done r : Nat} (hr : r ∈ roles) (hd : done ≤ steps.length) (S : ∀ r ∈ roles, ∀ i, done < i → i ≤ steps.length → Sem d steps T r i) (e : T' r done = outM d.rules steps T r done) : Sem d steps T' r done := by
  refine ⟨fun x l hp => ?_⟩
  rw [e]
  have hh : ∀ b, b ∈ ownP d.rules r ↔ b ∈ tyP d (x, r :: l) := fun b => ownP_mem ok hr b
  have c := closure (pairs := tripsM d.rules steps T (ownP d.rules r) done) (P := fun i => Lead d steps (x, r :: l) i) (base := fun i => overM d.rules steps T (ownP d.rules r) i = true ∨ Other d steps (x, r :: l) i) (I := fun i => done ≤ i ∧ i ≤ steps.length) (fun i => steps.length - i)
    (fun a b ia hb => by have := trips_up B hb; omega) (fun i hi => lead_step ok S hp hh hi.1 hi.2) (a := done) ⟨Nat.le_refl _, hd⟩
  have st : ∀ i, i ∈ standM d.rules steps T r done ↔ Path (succs (tripsM d.rules steps T (ownP d.rules r) done)) done i := fun i => by
    unfold standM
    rw [mem_reachedM]
    simp
  show Lead d steps (x, r :: l) done ↔ _
  rw [c]
  constructor
  · rintro ⟨i, p, q | ⟨s, hs, h1, h2, h3⟩⟩
    · exact .inl (List.any_eq_true.mpr ⟨i, (st i).mpr p, q⟩)
    · refine .inr ⟨i + 1, List.mem_map.mpr ⟨i, List.mem_filter.mpr ⟨(st i).mpr p, ?_⟩, rfl⟩, ?_, h3⟩
      · rw [hs]
        exact List.contains_iff_mem.mpr (mem_afterD.mpr ((mem_upRole ok.rules (turned_roles hr)).mp h1))
      · have e : kindAt steps (i + 1 - 1) = s.2 := by
          unfold kindAt
          rw [Nat.add_sub_cancel, hs]
          rfl
        rw [e]
        exact h2
  · rintro (q | ⟨back, hb, hf, hl⟩)
    · obtain ⟨i, hi, q⟩ := List.any_eq_true.mp q
      exact ⟨i, (st i).mp hi, .inl q⟩
    · obtain ⟨i, hi, rfl⟩ := List.mem_map.mp hb
      obtain ⟨h1, h2⟩ := List.mem_filter.mp hi
      cases hs : steps[i]? with
      | none => rw [hs] at h2; cases h2
      | some s =>
        rw [hs] at h2
        have e : kindAt steps (i + 1 - 1) = s.2 := by
          unfold kindAt
          rw [Nat.add_sub_cancel, hs]
          rfl
        rw [e] at hf
        exact ⟨i, (st i).mp h1, .inr ⟨s, hs, (mem_upRole ok.rules (turned_roles hr)).mpr (mem_afterD.mp (List.contains_iff_mem.mp h2)), hf, hl⟩⟩
theorem tabs_sem (ok : OkDesk d) (steps : Ask) : ∀ j, j ≤ steps.length → ∀ r ∈ roles, ∀ done, steps.length - j < done → done ≤ steps.length → Sem d steps (tabs d.rules steps j) r done
  | 0, _, r, _, done, h1, h2 => by omega
  | j + 1, hj, r, hr, done, h1, h2 => by
    by_cases e : done = steps.length - j
    · refine out_sem ok (tabs_bnd d.rules steps j) hr h2 (fun r' hr' i hi hi2 => tabs_sem ok steps j (by omega) r' hr' i (by omega) hi2) ?_
      show (if done = steps.length - j then _ else _) = _
      rw [if_pos e]
    · have ih := tabs_sem ok steps j (by omega) r hr done (by omega) h2
      refine ⟨fun x l hp => ?_⟩
      have e2 : tabs d.rules steps (j + 1) r done = tabs d.rules steps j r done := if_neg e
      rw [e2]
      exact ih.iff x l hp
/-! ### told nodes -/
def edgeMoves (d : Desk) (steps : Ask) (x y : Nat) : List ((Nat × Nat) × (Nat × Nat)) := (steps.zipIdx.filter fun s => (dirsM d x y).contains s.1.1 && fitsM (profM d y) s.1.2).map fun s => ((x, s.2), (y, s.2 + 1))
def nodeMoves (d : Desk) (steps : Ask) (T : Tabs) (x : Nat) : List ((Nat × Nat) × (Nat × Nat)) := ((tripsM d.rules steps T (profM d x) 0).map fun p => ((x, p.1), (x, p.2))) ++ nodes.flatMap fun y => edgeMoves d steps x y
def movesM (d : Desk) (steps : Ask) (T : Tabs) : List ((Nat × Nat) × (Nat × Nat)) := nodes.flatMap fun x => nodeMoves d steps T x
def placesAt (d : Desk) (steps : Ask) (T : Tabs) (done : Nat) : List (Nat × Nat) := (nodes.filter fun x => overM d.rules steps T (profM d x) done).map fun x => (x, done)
def placesM (d : Desk) (steps : Ask) (T : Tabs) : List (Nat × Nat) := (List.range (steps.length + 1)).flatMap fun done => placesAt d steps T done
def startsM (d : Desk) (steps : Ask) : List Nat := if 0 < (wrongsM d).length then nodes else nodes.filter fun x => (reachedM (placesM d steps (tabs d.rules steps steps.length)) ((movesM d steps (tabs d.rules steps steps.length)).map fun s => (s.2, s.1))).contains (x, 0)
theorem edgeMoves_len {steps : Ask} {x y : Nat} : (edgeMoves d steps x y).length ≤ 1 * steps.length := by
  unfold edgeMoves
  rw [List.length_map]
  refine Nat.le_trans (List.length_filter_le _ _) ?_
  rw [List.length_zipIdx]
  omega
theorem nodeMoves_len {steps : Ask} {T : Tabs} (B : Bnd steps T) (h4 : steps.length ≤ 4) (x : Nat) : (nodeMoves d steps T x).length ≤ 192 := by
  unfold nodeMoves
  rw [List.length_append, List.length_map]
  have h1 := trips_small (rs := d.rules) B h4 (profM d x) 0
  have h2 : (nodes.flatMap fun y => edgeMoves d steps x y).length ≤ (1 * steps.length) * nodes.length := flatMap_len (fun y => edgeMoves_len) nodes
  have h3 : nodes.length = 8 := rfl
  rw [h3] at h2
  omega
theorem movesM_len {steps : Ask} {T : Tabs} (B : Bnd steps T) (h4 : steps.length ≤ 4) : (movesM d steps T).length ≤ 1536 := by
  have h2 : (movesM d steps T).length ≤ 192 * nodes.length := flatMap_len (fun x => nodeMoves_len B h4 x) nodes
  exact h2
theorem placesM_len {steps : Ask} {T : Tabs} (h4 : steps.length ≤ 4) : (placesM d steps T).length ≤ 40 := by
  have h1 : (placesM d steps T).length ≤ 8 * (List.range (steps.length + 1)).length := flatMap_len (fun i => by
    unfold placesAt
    rw [List.length_map]
    exact List.length_filter_le _ _) _
  rw [List.length_range] at h1
  omega
theorem mem_edgeMoves (ok : OkDesk d) {steps : Ask} {x y : Nat} {a b : Nat × Nat} : (a, b) ∈ edgeMoves d steps x y ↔ ∃ i st, steps[i]? = some st ∧ a = (x, i) ∧ b = (y, i + 1) ∧ st.1 ∈ between d x y ∧ fitsP (typeOf d y) st.2 := by
  unfold edgeMoves
  rw [List.mem_map]
  constructor
  · rintro ⟨⟨st, i⟩, hs, e⟩
    obtain ⟨h1, h2⟩ := List.mem_filter.mp hs
    cases e
    rw [Bool.and_eq_true, List.contains_iff_mem] at h2
    have h1 := List.mem_zipIdx_iff_getElem?.mp h1
    exact ⟨i, st, h1, rfl, rfl, (mem_dirsM ok).mp h2.1, (fits_iff (fun b => mem_profM ok) _).mp h2.2⟩
  · rintro ⟨i, st, hs, rfl, rfl, h1, h2⟩
    refine ⟨(st, i), List.mem_filter.mpr ⟨List.mem_zipIdx_iff_getElem?.mpr hs, ?_⟩, rfl⟩
    rw [Bool.and_eq_true, List.contains_iff_mem]
    exact ⟨(mem_dirsM ok).mpr h1, (fits_iff (fun b => mem_profM ok) _).mpr h2⟩
theorem mem_moves (ok : OkDesk d) {steps : Ask} {T : Tabs} {x i : Nat} (hx : x ∈ nodes) {b : Nat × Nat} : ((x, i), b) ∈ movesM d steps T ↔ (∃ back, (i, back) ∈ tripsM d.rules steps T (profM d x) 0 ∧ b = (x, back)) ∨ ∃ y ∈ nodes, ∃ st, steps[i]? = some st ∧ b = (y, i + 1) ∧ st.1 ∈ between d x y ∧ fitsP (typeOf d y) st.2 := by
  unfold movesM nodeMoves
  rw [List.mem_flatMap]
  constructor
  · rintro ⟨x', hx', h⟩
    rcases List.mem_append.mp h with h | h
    · obtain ⟨p, hp, e⟩ := List.mem_map.mp h
      cases e
      exact .inl ⟨p.2, hp, rfl⟩
    · obtain ⟨y, hy, h⟩ := List.mem_flatMap.mp h
      obtain ⟨j, st, hs, e, e2, h1, h2⟩ := (mem_edgeMoves ok).mp h
      cases e
      exact .inr ⟨y, hy, st, hs, e2, h1, h2⟩
  · rintro (⟨back, hb, rfl⟩ | ⟨y, hy, st, hs, rfl, h1, h2⟩)
    · exact ⟨x, hx, List.mem_append.mpr (.inl (List.mem_map.mpr ⟨(i, back), hb, rfl⟩))⟩
    · exact ⟨x, hx, List.mem_append.mpr (.inr (List.mem_flatMap.mpr ⟨y, hy, (mem_edgeMoves ok).mpr ⟨i, st, hs, rfl, rfl, h1, h2⟩⟩))⟩
theorem mem_places {steps : Ask} {T : Tabs} {x i : Nat} : (x, i) ∈ placesM d steps T ↔ i ≤ steps.length ∧ x ∈ nodes ∧ overM d.rules steps T (profM d x) i = true := by
  unfold placesM placesAt
  rw [List.mem_flatMap]
  constructor
  · rintro ⟨j, hj, h⟩
    obtain ⟨y, hy, e⟩ := List.mem_map.mp h
    cases e
    have := List.mem_range.mp hj
    have h2 := List.mem_filter.mp hy
    exact ⟨by omega, h2.1, h2.2⟩
  · rintro ⟨h1, h2, h3⟩
    exact ⟨i, List.mem_range.mpr (by omega), List.mem_map.mpr ⟨x, List.mem_filter.mpr ⟨h2, h3⟩, rfl⟩⟩
theorem starts_lead (ok : OkDesk d) (steps : Ask) {x : Nat} (hx : x ∈ nodes) : (x, 0) ∈ reachedM (placesM d steps (tabs d.rules steps steps.length)) ((movesM d steps (tabs d.rules steps steps.length)).map fun s => (s.2, s.1)) ↔ leadP d (x, []) steps := by
  have B := tabs_bnd d.rules steps steps.length
  have S : ∀ r ∈ roles, ∀ done, 0 < done → done ≤ steps.length → Sem d steps (tabs d.rules steps steps.length) r done := fun r hr done h1 h2 => tabs_sem ok steps steps.length (Nat.le_refl _) r hr done (by omega) h2
  generalize tabs d.rules steps steps.length = T at B S
  have c := closure (pairs := movesM d steps T) (P := fun a => Lead d steps (a.1, []) a.2) (base := fun a => overM d.rules steps T (profM d a.1) a.2 = true) (I := fun a => a.1 ∈ nodes ∧ a.2 ≤ steps.length) (fun a => steps.length - a.2)
    (fun a b ia hb => by
      obtain ⟨y, i⟩ := a
      rcases (mem_moves ok ia.1).mp hb with ⟨back, h, rfl⟩ | ⟨z, hz, st, hs, rfl, _, _⟩
      · have := trips_up B h
        exact ⟨⟨ia.1, this.2.2⟩, by dsimp only; omega⟩
      · have := (List.getElem?_eq_some_iff.mp hs).1
        exact ⟨⟨hz, by dsimp only; omega⟩, by dsimp only; omega⟩)
    (fun a ia => by
      obtain ⟨y, i⟩ := a
      have hp : OkPos (y, []) := ⟨ia.1, fun _ h => by cases h⟩
      have := lead_step ok S hp (has := profM d y) (fun b => mem_profM ok) (Nat.zero_le i) ia.2
      dsimp only
      rw [this]
      constructor
      · rintro ((q | ⟨st, hs, z, hz, h1, h2, h3⟩) | ⟨back, hb, h⟩)
        · exact .inl q
        · exact .inr ⟨(z, i + 1), (mem_moves ok ia.1).mpr (.inr ⟨z, hz, st, hs, rfl, h1, h2⟩), h3⟩
        · exact .inr ⟨(y, back), (mem_moves ok ia.1).mpr (.inl ⟨back, hb, rfl⟩), h⟩
      · rintro (q | ⟨b, hb, h⟩)
        · exact .inl (.inl q)
        · rcases (mem_moves ok ia.1).mp hb with ⟨back, h', rfl⟩ | ⟨z, hz, st, hs, rfl, h1, h2⟩
          · exact .inr ⟨back, h', h⟩
          · exact .inl (.inr ⟨st, hs, z, hz, h1, h2, h⟩)) (a := (x, 0)) ⟨hx, Nat.zero_le _⟩
  have c : leadP d (x, []) steps ↔ _ := c
  rw [c, mem_reachedM]
  constructor
  · rintro ⟨⟨y, i⟩, hp, p⟩
    exact ⟨(y, i), path_rev_iff.mp p, (mem_places.mp hp).2.2⟩
  · rintro ⟨⟨y, i⟩, p, q⟩
    have inv : y ∈ nodes ∧ i ≤ steps.length := Path.closed (P := fun (a : Nat × Nat) => a.1 ∈ nodes ∧ a.2 ≤ steps.length) p ⟨hx, Nat.zero_le _⟩ fun a b ia hb => by
      obtain ⟨y, i⟩ := a
      rcases (mem_moves ok ia.1).mp (mem_succs.mp hb) with ⟨back, h, rfl⟩ | ⟨z, hz, st, hs, rfl, _, _⟩
      · exact ⟨ia.1, (trips_up B h).2.2⟩
      · exact ⟨hz, (List.getElem?_eq_some_iff.mp hs).1⟩
    exact ⟨(y, i), mem_places.mpr ⟨inv.2, inv.1, q⟩, path_rev_iff.mpr p⟩
theorem startsM_eq (ok : OkDesk d) (steps : Ask) : startsM d steps = allCertain d steps := by
  unfold startsM allCertain
  dsimp only
  rw [sound_wrongs ok]
  cases h : wrongsM d with
  | nil =>
    rw [if_neg (by simp)]
    refine List.filter_congr fun x hx => ?_
    show _ = (false || _)
    rw [Bool.false_or, Bool.eq_iff_iff, List.contains_iff_mem, starts_lead ok steps hx, leadsIn_iff ⟨hx, fun _ h => by cases h⟩]
  | cons a l =>
    rw [if_pos (by simp)]
    show nodes = nodes.filter fun x => true
    rw [List.filter_eq_self.mpr (fun _ _ => rfl)]
end
end Wm

set_option linter.all false
namespace Wm
open Gq03
/-! ### The tables are what they are made of -/
theorem tripAt_congr {rs : List Rule} {steps : Ask} {T T' : Tabs} {has : List Basic} {done : Nat} (h : ∀ r, T r (done + 1) = T' r (done + 1)) : tripAt rs steps T has done = tripAt rs steps T' has done := by
  unfold tripAt cameM
  congr 1
  funext r
  rw [h r]
theorem trips_congr {rs : List Rule} {steps : Ask} {T T' : Tabs} {has : List Basic} {first : Nat} (h : ∀ r d, first < d → T r d = T' r d) : tripsM rs steps T has first = tripsM rs steps T' has first := by
  unfold tripsM
  congr 1
  funext i
  exact tripAt_congr fun r => h r _ (by omega)
theorem over_congr {rs : List Rule} {steps : Ask} {T T' : Tabs} {has : List Basic} {done : Nat} (h : ∀ r, T r (done + 1) = T' r (done + 1)) : overM rs steps T has done = overM rs steps T' has done := by
  unfold overM
  split
  · rfl
  · congr 1
    funext r
    rw [h r]
theorem any_congr {A : Type} {p q : A → Bool} : ∀ {l : List A}, (∀ a ∈ l, p a = q a) → l.any p = l.any q
  | [], _ => rfl
  | a :: l, h => by rw [List.any_cons, List.any_cons, h a (List.mem_cons_self ..), any_congr fun b hb => h b (List.mem_cons_of_mem _ hb)]
theorem out_congr {rs : List Rule} {steps : Ask} {T T' : Tabs} (B : Bnd steps T) {r done : Nat} (h : ∀ r d, done < d → T r d = T' r d) : outM rs steps T r done = outM rs steps T' r done := by
  have e : standM rs steps T r done = standM rs steps T' r done := by
    unfold standM
    rw [trips_congr h]
  unfold outM leaveM
  rw [← e]
  congr 1
  refine any_congr fun i hi => over_congr fun r' => h r' _ ?_
  have := (stand_bnd B hi).1
  omega
theorem tabs_stable {rs : List Rule} {steps : Ask} {r d : Nat} (hd : 1 ≤ d) : ∀ {j : Nat}, steps.length < d + j → ∀ k, tabs rs steps (j + k) r d = tabs rs steps j r d
  | _, _, 0 => rfl
  | j, h, k + 1 => by
    have e : tabs rs steps (j + (k + 1)) r d = if d = steps.length - (j + k) then outM rs steps (tabs rs steps (j + k)) r d else tabs rs steps (j + k) r d := rfl
    rw [e, if_neg (by omega)]
    exact tabs_stable hd h k
abbrev TT (rs : List Rule) (steps : Ask) : Tabs := tabs rs steps steps.length
theorem TT_fix {rs : List Rule} {steps : Ask} {r done : Nat} (h1 : 1 ≤ done) (h2 : done ≤ steps.length) : TT rs steps r done = outM rs steps (TT rs steps) r done := by
  have e1 : TT rs steps r done = tabs rs steps (steps.length - done + 1) r done := by
    have := tabs_stable (rs := rs) (steps := steps) (r := r) (d := done) h1 (j := steps.length - done + 1) (by omega) (done - 1)
    have ee : steps.length - done + 1 + (done - 1) = steps.length := by omega
    rw [ee] at this
    exact this
  have e2 : tabs rs steps (steps.length - done + 1) r done = outM rs steps (tabs rs steps (steps.length - done)) r done := by
    show (if done = steps.length - (steps.length - done) then _ else _) = _
    rw [if_pos (by omega)]
  rw [e1, e2]
  refine out_congr (tabs_bnd rs steps _) fun r' d hd => ?_
  have := tabs_stable (rs := rs) (steps := steps) (r := r') (d := d) (by omega) (j := steps.length - done) (by omega) done
  have ee : steps.length - done + done = steps.length := by omega
  rw [ee] at this
  exact this.symm
theorem TT_bnd (rs : List Rule) (steps : Ask) : Bnd steps (TT rs steps) := tabs_bnd rs steps steps.length
end Wm

/-! The list of calls, one call after another. -/
namespace Wm
open Gq03
def okN (z : Int) : Prop := 0 ≤ z ∧ z ≤ 4294967295
/-- how many numbers stand behind a call's own, of those that have no row -/
def sizeOf (p : Nat) : Option Nat := [some 2, some 3, some 1, some 4, some 2, some 4, some 2, some 1, some 3, some 2, some 2, none, none, some 0, some 4, some 0, some 1, some 3, some 0].getD p none
/-- one call at the list's head: its number, what stands behind it (body), its own numbers (args), the rest -/
inductive Head : Nat → List Nat → List Nat → Prop
  | plain {p n : Nat} {args : List Nat} : sizeOf p = some n → args.length = n → Head p args args
  | chain {x : Nat} {row : List Nat} : row.length ≤ 16 → Head 11 (x :: row.length :: row) (x :: row)
  | all {row : List Nat} : row.length ≤ 16 → Head 12 (row.length :: row) row
def ofN (l : List Nat) : List Int := l.map fun (n : Nat) => (n : Int)
/-- from a list that may be handed in, and a desk: the calls' answers -/
def From (f k : Nat) (l : List Int) : Prop := ∃ raw, PyFlat.calls PyGq03.shape f l = some raw ∧ raw.length ≤ k ∧ PyInside.calls PyGq03.bound raw = true ∧ ((raw.map PyGq03.whole).map fun c => c.headD []).all Gq03Neutral.asked1 = true
def outs (f : Nat) (s : Desk) (l : List Int) : List Int := match PyFlat.calls PyGq03.shape f l with
  | none => []
  | some raw => PyFlat.told (PyFlat.played (fun s c => Gq03Neutral.step s (c.headD [])) s (raw.map PyGq03.whole))
theorem asked_from {l : List Int} (h : PyGq03.answers_asked l = true) : From l.length 60 l := by
  unfold PyGq03.answers_asked at h
  split at h
  · cases h
  · rename_i raw e
    simp only [Bool.and_eq_true] at h
    obtain ⟨⟨⟨⟨h1, h2⟩, h3⟩, h4⟩, h5⟩ := h
    unfold Gq03Neutral.asked at h4
    rw [Bool.and_eq_true] at h4
    exact ⟨raw, e, of_decide_eq_true h2, h3, h4.1⟩
theorem answers_outs (l : List Int) : PyGq03.answers l = outs l.length init l := by
  unfold PyGq03.answers PyGq03.calls outs
  cases PyFlat.calls PyGq03.shape l.length l with
  | none => rfl
  | some raw => rfl
theorem outs_nil {f : Nat} {s : Desk} : outs f s [] = [] := by
  cases f <;> rfl
end Wm
namespace Wm
open Gq03
theorem whole_one (x : List Int) : PyGq03.whole [x] = [x] := by
  unfold PyGq03.whole
  split <;> first | rfl | (rename_i h; cases h; rfl) | (rename_i h; cases h)
theorem shape_cases {p : Int} {n k : Nat} (h : PyGq03.shape p = some (n, k)) : (∃ q : Nat, p = (q : Int) ∧ sizeOf q = some n ∧ k = 0) ∨ (p = 11 ∧ n = 1 ∧ k = 1) ∨ (p = 12 ∧ n = 0 ∧ k = 1) := by
  unfold PyGq03.shape at h
  by_cases h0 : p = 0
  · rw [if_pos h0] at h; cases h; exact .inl ⟨0, h0, rfl, rfl⟩
  rw [if_neg h0] at h
  by_cases h1 : p = 1
  · rw [if_pos h1] at h; cases h; exact .inl ⟨1, h1, rfl, rfl⟩
  rw [if_neg h1] at h
  by_cases h2 : p = 2
  · rw [if_pos h2] at h; cases h; exact .inl ⟨2, h2, rfl, rfl⟩
  rw [if_neg h2] at h
  by_cases h3 : p = 3
  · rw [if_pos h3] at h; cases h; exact .inl ⟨3, h3, rfl, rfl⟩
  rw [if_neg h3] at h
  by_cases h4 : p = 4
  · rw [if_pos h4] at h; cases h; exact .inl ⟨4, h4, rfl, rfl⟩
  rw [if_neg h4] at h
  by_cases h5 : p = 5
  · rw [if_pos h5] at h; cases h; exact .inl ⟨5, h5, rfl, rfl⟩
  rw [if_neg h5] at h
  by_cases h6 : p = 6
  · rw [if_pos h6] at h; cases h; exact .inl ⟨6, h6, rfl, rfl⟩
  rw [if_neg h6] at h
  by_cases h7 : p = 7
  · rw [if_pos h7] at h; cases h; exact .inl ⟨7, h7, rfl, rfl⟩
  rw [if_neg h7] at h
  by_cases h8 : p = 8
  · rw [if_pos h8] at h; cases h; exact .inl ⟨8, h8, rfl, rfl⟩
  rw [if_neg h8] at h
  by_cases h9 : p = 9
  · rw [if_pos h9] at h; cases h; exact .inl ⟨9, h9, rfl, rfl⟩
  rw [if_neg h9] at h
  by_cases h10 : p = 10
  · rw [if_pos h10] at h; cases h; exact .inl ⟨10, h10, rfl, rfl⟩
  rw [if_neg h10] at h
  by_cases h11 : p = 11
  · rw [if_pos h11] at h; cases h; exact .inr (.inl ⟨h11, rfl, rfl⟩)
  rw [if_neg h11] at h
  by_cases h12 : p = 12
  · rw [if_pos h12] at h; cases h; exact .inr (.inr ⟨h12, rfl, rfl⟩)
  rw [if_neg h12] at h
  by_cases h13 : p = 13
  · rw [if_pos h13] at h; cases h; exact .inl ⟨13, h13, rfl, rfl⟩
  rw [if_neg h13] at h
  by_cases h14 : p = 14
  · rw [if_pos h14] at h; cases h; exact .inl ⟨14, h14, rfl, rfl⟩
  rw [if_neg h14] at h
  by_cases h15 : p = 15
  · rw [if_pos h15] at h; cases h; exact .inl ⟨15, h15, rfl, rfl⟩
  rw [if_neg h15] at h
  by_cases h16 : p = 16
  · rw [if_pos h16] at h; cases h; exact .inl ⟨16, h16, rfl, rfl⟩
  rw [if_neg h16] at h
  by_cases h17 : p = 17
  · rw [if_pos h17] at h; cases h; exact .inl ⟨17, h17, rfl, rfl⟩
  rw [if_neg h17] at h
  by_cases h18 : p = 18
  · rw [if_pos h18] at h; cases h; exact .inl ⟨18, h18, rfl, rfl⟩
  rw [if_neg h18] at h
  cases h
theorem ofN_toNat : ∀ {l : List Int}, l.all Gq03Neutral.nat = true → ofN (l.map Int.toNat) = l
  | [], _ => rfl
  | z :: l, h => by
    rw [List.all_cons, Bool.and_eq_true] at h
    have h1 : 0 ≤ z := by
      have := h.1
      unfold Gq03Neutral.nat at this
      simp at this
      exact this.1
    show ((z.toNat : Int)) :: ofN (l.map Int.toNat) = z :: l
    rw [ofN_toNat h.2]
    congr 1
    omega
theorem nat_bound {l : List Int} (h : l.all Gq03Neutral.nat = true) : ∀ n ∈ l.map Int.toNat, n ≤ 4294967295 := by
  intro n hn
  obtain ⟨z, hz, rfl⟩ := List.mem_map.mp hn
  have := List.all_eq_true.mp h z hz
  unfold Gq03Neutral.nat at this
  simp at this
  omega
theorem callOf_some {l : List Int} (h : Gq03Neutral.asked1 l = true) : ∃ c, Gq03Neutral.callOf l = some c ∧ l.all Gq03Neutral.nat = true ∧ Gq03Neutral.callIn (l.map Int.toNat) = some c := by
  unfold Gq03Neutral.asked1 at h
  obtain ⟨c, hc⟩ := Option.isSome_iff_exists.mp h
  refine ⟨c, hc, ?_⟩
  unfold Gq03Neutral.callOf at hc
  split at hc
  · cases hc
  · rename_i q
    exact ⟨by simpa using q, hc⟩
/-- **the call at the head** -/
theorem next {f k : Nat} {l : List Int} (hl : l ≠ []) (h : From f k l) : ∃ f' k' p body args c rest, f = f' + 1 ∧ k = k' + 1 ∧ l = ofN (p :: body) ++ rest ∧ Head p body args ∧ Gq03Neutral.callIn (p :: args) = some c ∧ (∀ z ∈ args, z ≤ 4294967295) ∧ From f' k' rest ∧
    ∀ s, outs f s l = (((step s c).2.length : Nat) : Int) :: (step s c).2 ++ outs f' (step s c).1 rest := by
  obtain ⟨raw, e, hcount, hin, hask⟩ := h
  cases l with
  | nil => exact absurd rfl hl
  | cons p r =>
  cases f with
  | zero => cases e
  | succ f =>
  have e0 := e
  rw [PyFlat.calls] at e
  cases hc : PyFlat.call PyGq03.shape (p :: r) with
  | none => rw [hc] at e; cases e
  | some ct =>
  obtain ⟨c, t⟩ := ct
  rw [hc] at e
  dsimp only at e
  cases hcs : PyFlat.calls PyGq03.shape f t with
  | none => rw [hcs] at e; cases e
  | some cs =>
  rw [hcs] at e
  dsimp only at e
  cases e
  have hin' : PyInside.call PyGq03.bound c = true ∧ PyInside.calls PyGq03.bound cs = true := by
    unfold PyInside.calls at hin
    rw [List.all_cons, Bool.and_eq_true] at hin
    exact hin
  rw [List.map_cons, List.map_cons, List.all_cons, Bool.and_eq_true] at hask
  obtain ⟨k0, rfl⟩ : ∃ k0, k = k0 + 1 := ⟨k - 1, by rw [List.length_cons] at hcount; omega⟩
  obtain ⟨k, hk1, hk2, hk3⟩ := callOf_some hask.1
  have hrest : From f k0 t := ⟨cs, hcs, by rw [List.length_cons] at hcount; omega, hin'.2, hask.2⟩
  have hout : ∀ s, outs (f + 1) s (p :: r) = (((step s k).2.length : Nat) : Int) :: (step s k).2 ++ outs f (step s k).1 t := by
    intro s
    unfold outs
    rw [e0, hcs]
    have hs : Gq03Neutral.step s ((PyGq03.whole c).headD []) = step s k := by
      unfold Gq03Neutral.step
      rw [hk1]
    show PyFlat.told ((Gq03Neutral.step s ((PyGq03.whole c).headD [])).2 :: PyFlat.played _ (Gq03Neutral.step s ((PyGq03.whole c).headD [])).1 (cs.map PyGq03.whole)) = _
    rw [hs]
    unfold PyFlat.told
    rw [List.flatMap_cons]
  -- the call's form
  dsimp only [PyFlat.call] at hc
  cases hsh : PyGq03.shape p with
  | none => rw [hsh] at hc; cases hc
  | some nk =>
  obtain ⟨n, kk⟩ := nk
  rw [hsh] at hc
  dsimp only at hc
  by_cases hlen : r.length < n
  · rw [if_pos hlen] at hc; cases hc
  rw [if_neg hlen] at hc
  rcases shape_cases hsh with ⟨q, rfl, hsz, rfl⟩ | ⟨rfl, rfl, rfl⟩ | ⟨rfl, rfl, rfl⟩
  · have hr : PyFlat.rows 0 (r.drop n) = some ([], r.drop n) := rfl
    rw [hr] at hc
    cases hc
    rw [whole_one] at hk2 hk3
    have hk2 : (((q : Int) :: r.take n)).all Gq03Neutral.nat = true := hk2
    have hk3 : Gq03Neutral.callIn (((q : Int) :: r.take n).map Int.toNat) = some k := hk3
    rw [List.all_cons, Bool.and_eq_true] at hk2
    have e1 := ofN_toNat hk2.2
    refine ⟨f, k0, q, (r.take n).map Int.toNat, (r.take n).map Int.toNat, k, r.drop n, rfl, rfl, ?_, .plain hsz ?_, hk3, nat_bound hk2.2, hrest, hout⟩
    · show (q : Int) :: r = (q : Int) :: (ofN ((r.take n).map Int.toNat) ++ r.drop n)
      rw [e1, List.take_append_drop]
    · rw [List.length_map, List.length_take]; omega
  · cases r with
    | nil => exact absurd (by simp) hlen
    | cons x r =>
    have hr : PyFlat.rows 1 ((x :: r).drop 1) = match PyFlat.row r with
      | none => none
      | some (y, s) => some ([y], s) := by
      show PyFlat.rows 1 r = _
      rw [PyFlat.rows]
      cases PyFlat.row r with
      | none => rfl
      | some ys => rfl
    rw [hr] at hc
    cases r with
    | nil => cases hc
    | cons m r =>
    unfold PyFlat.row at hc
    dsimp only at hc
    by_cases hm : 0 ≤ m ∧ m.toNat ≤ r.length
    · rw [if_pos hm] at hc
      cases hc
      have w : PyGq03.whole [[11, x], r.take m.toNat] = [11 :: x :: r.take m.toNat] := rfl
      have hk2 : ((11 : Int) :: x :: r.take m.toNat).all Gq03Neutral.nat = true := hk2
      have hk3 : Gq03Neutral.callIn (((11 : Int) :: x :: r.take m.toNat).map Int.toNat) = some k := hk3
      rw [List.all_cons, Bool.and_eq_true] at hk2
      have hx := hk2.2
      rw [List.all_cons, Bool.and_eq_true] at hx
      have e1 := ofN_toNat hx.2
      have ex : ((x.toNat : Nat) : Int) = x := by
        have := hx.1
        unfold Gq03Neutral.nat at this
        simp at this
        omega
      have hl16 : (r.take m.toNat).length ≤ 16 := by
        have h1 := hin'.1
        have h2 : (PyInside.each [((0 : Int), (4294967295 : Int))] [x] && PyInside.lists [((0 : Int), (4294967295 : Int), 0, 16)] [r.take m.toNat]) = true := h1
        rw [Bool.and_eq_true] at h2
        have h3 : (decide (0 ≤ (r.take m.toNat).length) && decide ((r.take m.toNat).length ≤ 16) && (r.take m.toNat).all (PyInside.within 0 4294967295) && true) = true := h2.2
        simp only [Bool.and_eq_true, decide_eq_true_eq] at h3
        exact h3.1.1.2
      have hml : (r.take m.toNat).length = m.toNat := by rw [List.length_take]; omega
      refine ⟨f, k0, 11, x.toNat :: ((r.take m.toNat).map Int.toNat).length :: (r.take m.toNat).map Int.toNat, x.toNat :: (r.take m.toNat).map Int.toNat, k, r.drop m.toNat, rfl, rfl, ?_, .chain (by rw [List.length_map]; exact hl16), hk3, nat_bound hk2.2, hrest, hout⟩
      show (11 : Int) :: x :: m :: r = (11 : Int) :: (x.toNat : Int) :: (((r.take m.toNat).map Int.toNat).length : Int) :: (ofN ((r.take m.toNat).map Int.toNat) ++ r.drop m.toNat)
      rw [e1, List.take_append_drop, ex, List.length_map, hml]
      congr 3
      omega
    · rw [if_neg hm] at hc
      cases hc
  · have hr : PyFlat.rows 1 (r.drop 0) = match PyFlat.row r with
      | none => none
      | some (y, s) => some ([y], s) := by
      show PyFlat.rows 1 r = _
      rw [PyFlat.rows]
      cases PyFlat.row r with
      | none => rfl
      | some ys => rfl
    rw [hr] at hc
    cases r with
    | nil => cases hc
    | cons m r =>
    unfold PyFlat.row at hc
    dsimp only at hc
    by_cases hm : 0 ≤ m ∧ m.toNat ≤ r.length
    · rw [if_pos hm] at hc
      cases hc
      have hk2 : ((12 : Int) :: r.take m.toNat).all Gq03Neutral.nat = true := hk2
      have hk3 : Gq03Neutral.callIn (((12 : Int) :: r.take m.toNat).map Int.toNat) = some k := hk3
      rw [List.all_cons, Bool.and_eq_true] at hk2
      have e1 := ofN_toNat hk2.2
      have hl16 : (r.take m.toNat).length ≤ 16 := by
        have h1 := hin'.1
        have h2 : (true && PyInside.lists [((0 : Int), (4294967295 : Int), 0, 16)] [r.take m.toNat]) = true := h1
        rw [Bool.and_eq_true] at h2
        have h3 : (decide (0 ≤ (r.take m.toNat).length) && decide ((r.take m.toNat).length ≤ 16) && (r.take m.toNat).all (PyInside.within 0 4294967295) && true) = true := h2.2
        simp only [Bool.and_eq_true, decide_eq_true_eq] at h3
        exact h3.1.1.2
      have hml : (r.take m.toNat).length = m.toNat := by rw [List.length_take]; omega
      refine ⟨f, k0, 12, ((r.take m.toNat).map Int.toNat).length :: (r.take m.toNat).map Int.toNat, (r.take m.toNat).map Int.toNat, k, r.drop m.toNat, rfl, rfl, ?_, .all (by rw [List.length_map]; exact hl16), hk3, nat_bound hk2.2, hrest, hout⟩
      show (12 : Int) :: m :: r = (12 : Int) :: (((r.take m.toNat).map Int.toNat).length : Int) :: (ofN ((r.take m.toNat).map Int.toNat) ++ r.drop m.toNat)
      rw [e1, List.take_append_drop, List.length_map, hml]
      congr 2
      omega
    · rw [if_neg hm] at hc
      cases hc
end Wm

set_option Elab.async false
set_option linter.all false
set_option maxRecDepth 100000
set_option maxHeartbeats 2000000
/-! A layer over HandS: values read as data. Plain data (None, bools, ints, texts, tuples of such) stand whatever lists and objects change; lists hold plain data. -/
namespace Dx
open PySem L2 Evl

/-! ### Plain data: None, bools, ints, texts, tuples of such that the program has made -/
mutual
inductive Tp (H : Hp) : V → PyData → Prop
  | non : Tp H .non .none
  | bl (b : Bool) : Tp H (.bl b) (.bool b)
  | int (i : Int) : Tp H (.int i) (.int i)
  | str (x : Str) : Tp H (.str x) (.str x)
  | tup {a : Addr} {xs : List V} {ds : List PyData} : H a = some (.tup xs) → TpAll H xs ds → Tp H (.ref a) (.tuple ds)
inductive TpAll (H : Hp) : List V → List PyData → Prop
  | nil : TpAll H [] []
  | cons {v : V} {vs : List V} {d : PyData} {ds : List PyData} : Tp H v d → TpAll H vs ds → TpAll H (v :: vs) (d :: ds)
end
/-- tuples stand -/
def Tx (H H' : Hp) : Prop := ∀ a xs, H a = some (.tup xs) → H' a = some (.tup xs)
theorem Tx.refl (H : Hp) : Tx H H := fun _ _ h => h
theorem Tx.trans {H H1 H2 : Hp} (a : Tx H H1) (b : Tx H1 H2) : Tx H H2 := fun x o h => b x o (a x o h)
theorem Tx.of {H H' : Hp} (e : Ex H H') : Tx H H' := fun _ _ h => e _ _ h
/-- what may be written over -/
def soft : HO → Bool
  | .lst _ => true
  | .ins _ _ _ => true
  | .dK _ => true
  | .dT _ => true
  | _ => false
theorem Tx.upd {H : Hp} {l : Addr} {o o' : HO} (h : H l = some o) (s : soft o = true) : Tx H (L2.upd H l o') := fun a xs r => by
  have ne : a ≠ l := by
    rintro rfl
    rw [h] at r; cases r; cases s
  rw [upd_ne ne]; exact r
mutual
theorem tp_tx {H H' : Hp} (t : Tx H H') : ∀ (d : PyData) (v : V), Tp H v d → Tp H' v d
  | .none, _, h => by cases h; exact .non
  | .bool _, _, h => by cases h; exact .bl _
  | .int _, _, h => by cases h; exact .int _
  | .str _, _, h => by cases h; exact .str _
  | .tuple ds, _, h => by
    cases h with
    | tup hs ha => exact .tup (t _ _ hs) (tpAll_tx t ds _ ha)
  | .list _, _, h => by cases h
  | .dict _, _, h => by cases h
theorem tpAll_tx {H H' : Hp} (t : Tx H H') : ∀ (ds : List PyData) (vs : List V), TpAll H vs ds → TpAll H' vs ds
  | [], _, h => by cases h; exact .nil
  | d :: ds, _, h => by
    cases h with
    | cons h1 h2 => exact .cons (tp_tx t d _ h1) (tpAll_tx t ds _ h2)
end
mutual
theorem tp_dp {K : PySem.W.Frag} {H : Hp} : ∀ (d : PyData) (v : V), Tp H v d → Dp K H v d
  | .none, _, h => by cases h; exact .non
  | .bool _, _, h => by cases h; exact .bl _
  | .int _, _, h => by cases h; exact .int _
  | .str _, _, h => by cases h; exact .str _
  | .tuple ds, _, h => by
    cases h with
    | tup hs ha => exact .tup (st_of hs) (tpAll_dp ds _ ha)
  | .list _, _, h => by cases h
  | .dict _, _, h => by cases h
theorem tpAll_dp {K : PySem.W.Frag} {H : Hp} : ∀ (ds : List PyData) (vs : List V), TpAll H vs ds → DpAll K H vs ds
  | [], _, h => by cases h; exact .nil
  | d :: ds, _, h => by
    cases h with
    | cons h1 h2 => exact .cons (tp_dp d _ h1) (tpAll_dp ds _ h2)
end
/-- a value that is the plain datum d -/
structure Dt (K : PySem.W.Frag) (H : Hp) (v : V) (d : PyData) : Prop where
  tp : Tp H v d
structure DtAll (K : PySem.W.Frag) (H : Hp) (vs : List V) (ds : List PyData) : Prop where
  tp : TpAll H vs ds
section
variable {K : PySem.W.Frag} {H H' H1 H2 : Hp} {v : V} {d : PyData} {vs : List V} {ds : List PyData}
theorem Dt.tx (h : Dt K H v d) (t : Tx H H') : Dt K H' v d := ⟨tp_tx t d v h.tp⟩
theorem Dt.dp (h : Dt K H v d) : Dp K H v d := tp_dp d v h.tp
theorem DtAll.dp (h : DtAll K H vs ds) : DpAll K H vs ds := tpAll_dp ds vs h.tp
theorem DtAll.tx (h : DtAll K H vs ds) (t : Tx H H') : DtAll K H' vs ds := ⟨tpAll_tx t ds vs h.tp⟩
theorem Dt.ex (h : Dt K H v d) (e : Ex H H') : Dt K H' v d := h.tx (.of e)
theorem DtAll.ex (h : DtAll K H vs ds) (e : Ex H H') : DtAll K H' vs ds := h.tx (.of e)
theorem Dt.int {i : Int} : Dt K H (.int i) (.int i) := ⟨.int i⟩
theorem Dt.str {x : Str} : Dt K H (.str x) (.str x) := ⟨.str x⟩
theorem Dt.bl {b : Bool} : Dt K H (.bl b) (.bool b) := ⟨.bl b⟩
theorem Dt.int_eq {i : Int} (h : Dt K H v (.int i)) : v = .int i := by cases h.tp; rfl
theorem Dt.str_eq {x : Str} (h : Dt K H v (.str x)) : v = .str x := by cases h.tp; rfl
theorem Dt.bl_eq {b : Bool} (h : Dt K H v (.bool b)) : v = .bl b := by cases h.tp; rfl
theorem Dt.tup_at (h : Dt K H v (.tuple ds)) : ∃ a xs, v = .ref a ∧ H a = some (.tup xs) ∧ DtAll K H xs ds := by
  obtain ⟨h⟩ := h
  cases h with
  | tup hs ha => exact ⟨_, _, rfl, hs, ⟨ha⟩⟩
theorem Dt.tup_eq (h : Dt K H v (.tuple ds)) : ∃ a xs, v = .ref a ∧ SqT K H a xs ∧ DtAll K H xs ds := by
  obtain ⟨a, xs, e, h, k⟩ := h.tup_at
  exact ⟨a, xs, e, st_of h, k⟩
theorem Dt.of_tup {a : Addr} {xs : List V} (h : H a = some (.tup xs)) (k : DtAll K H xs ds) : Dt K H (.ref a) (.tuple ds) := ⟨.tup h k.tp⟩
theorem DtAll.nil : DtAll K H [] [] := ⟨.nil⟩
theorem DtAll.cons (h : Dt K H v d) (t : DtAll K H vs ds) : DtAll K H (v :: vs) (d :: ds) := ⟨.cons h.tp t.tp⟩
theorem DtAll.uncons (h : DtAll K H vs (d :: ds)) : ∃ v r, vs = v :: r ∧ Dt K H v d ∧ DtAll K H r ds := by
  obtain ⟨h⟩ := h
  cases h with
  | cons h1 h2 => exact ⟨_, _, rfl, ⟨h1⟩, ⟨h2⟩⟩
theorem DtAll.nil_eq (h : DtAll K H vs []) : vs = [] := by cases h.tp; rfl
theorem DtAll.append {us : List V} {es : List PyData} : ∀ {vs : List V} {ds : List PyData}, DtAll K H vs ds → DtAll K H us es → DtAll K H (vs ++ us) (ds ++ es)
  | _, [], h, g => by cases h.nil_eq; exact g
  | _, d :: ds, h, g => by
    obtain ⟨v, r, rfl, h1, h2⟩ := h.uncons
    exact .cons h1 (DtAll.append h2 g)
theorem DtAll.length : ∀ {vs : List V} {ds : List PyData}, DtAll K H vs ds → vs.length = ds.length
  | _, [], h => by cases h.nil_eq; rfl
  | _, d :: ds, h => by
    obtain ⟨v, r, rfl, h1, h2⟩ := h.uncons
    rw [List.length_cons, List.length_cons, DtAll.length h2]
theorem DtAll.get : ∀ {vs : List V} {ds : List PyData} {i : Nat} {v : V}, DtAll K H vs ds → vs[i]? = some v → ∃ d, ds[i]? = some d ∧ Dt K H v d
  | _, [], i, v, h, e => by cases h.nil_eq; simp at e
  | _, d :: ds, 0, v, h, e => by
    obtain ⟨w, r, rfl, h1, h2⟩ := h.uncons
    simp at e; subst e
    exact ⟨d, rfl, h1⟩
  | _, d :: ds, i + 1, v, h, e => by
    obtain ⟨w, r, rfl, h1, h2⟩ := h.uncons
    have := DtAll.get (i := i) (v := v) h2 (by simpa using e)
    simpa using this
theorem DtAll.got : ∀ {vs : List V} {ds : List PyData} {i : Nat} {d : PyData}, DtAll K H vs ds → ds[i]? = some d → ∃ v, vs[i]? = some v ∧ Dt K H v d
  | _, [], i, d, h, e => by simp at e
  | _, d' :: ds, 0, d, h, e => by
    obtain ⟨w, r, rfl, h1, h2⟩ := h.uncons
    simp at e; subst e
    exact ⟨w, rfl, h1⟩
  | _, d' :: ds, i + 1, d, h, e => by
    obtain ⟨w, r, rfl, h1, h2⟩ := h.uncons
    have := DtAll.got (i := i) (d := d) h2 (by simpa using e)
    simpa using this
theorem DtAll.eraseIdx : ∀ {vs : List V} {ds : List PyData} (i : Nat), DtAll K H vs ds → DtAll K H (vs.eraseIdx i) (ds.eraseIdx i)
  | _, [], i, h => by cases h.nil_eq; exact .nil
  | _, d :: ds, 0, h => by
    obtain ⟨w, r, rfl, h1, h2⟩ := h.uncons
    exact h2
  | _, d :: ds, i + 1, h => by
    obtain ⟨w, r, rfl, h1, h2⟩ := h.uncons
    exact .cons h1 (DtAll.eraseIdx i h2)
theorem DtAll.dropLast : ∀ {vs : List V} {ds : List PyData}, DtAll K H vs ds → DtAll K H vs.dropLast ds.dropLast
  | _, [], h => by cases h.nil_eq; exact .nil
  | _, [d], h => by
    obtain ⟨w, r, rfl, h1, h2⟩ := h.uncons
    cases h2.nil_eq
    exact .nil
  | _, d :: e :: ds, h => by
    obtain ⟨w, r, rfl, h1, h2⟩ := h.uncons
    obtain ⟨w', r', rfl, h3, h4⟩ := h2.uncons
    rw [List.dropLast_cons₂, List.dropLast_cons₂]
    exact .cons h1 (DtAll.dropLast h2)
theorem DtAll.bools : ∀ {vs : List V} {bs : List Bool}, DtAll K H vs (bs.map PyData.bool) → vs = bs.map V.bl
  | _, [], h => h.nil_eq
  | _, b :: bs, h => by
    obtain ⟨w, r, rfl, h1, h2⟩ := h.uncons
    rw [h1.bl_eq, DtAll.bools h2]; rfl
theorem DtAll.ints : ∀ {vs : List V} {ns : List Int}, DtAll K H vs (ns.map PyData.int) → vs = ns.map V.int
  | _, [], h => h.nil_eq
  | _, b :: bs, h => by
    obtain ⟨w, r, rfl, h1, h2⟩ := h.uncons
    rw [h1.int_eq, DtAll.ints h2]; rfl
theorem DtAll.of_ints : ∀ {ns : List Int}, DtAll K H (ns.map V.int) (ns.map PyData.int)
  | [] => .nil
  | _ :: _ => .cons .int .of_ints
end
/-- a list of plain data, to be read -/
def Ls (K : PySem.W.Frag) (H : Hp) (v : V) (ds : List PyData) : Prop := ∃ p xs, v = .ref p ∧ SqL K H p xs ∧ DtAll K H xs ds
/-- a list of one's own -/
def Own (K : PySem.W.Frag) (H : Hp) (p : Addr) (ds : List PyData) : Prop := ∃ xs, H p = some (.lst xs) ∧ DtAll K H xs ds
/-- all but what stands at l is as it was -/
def Exb (l : Addr) (H H' : Hp) : Prop := ∀ a o, a ≠ l → H a = some o → H' a = some o
section
variable {K : PySem.W.Frag} {H H' H0 H1 H2 : Hp} {v : V} {d : PyData} {vs : List V} {ds : List PyData} {p l q : Addr}
theorem Ls.ex (h : Ls K H v ds) (e : Ex H H') : Ls K H' v ds := by
  obtain ⟨p, xs, rfl, a, b⟩ := h
  exact ⟨p, xs, rfl, ex_l e a, b.ex e⟩
theorem Own.ex (h : Own K H p ds) (e : Ex H H') : Own K H' p ds := by
  obtain ⟨xs, a, b⟩ := h
  exact ⟨xs, e _ _ a, b.ex e⟩
theorem Own.ls (h : Own K H p ds) : Ls K H (.ref p) ds := by
  obtain ⟨xs, a, b⟩ := h
  exact ⟨p, xs, rfl, sq_of a, b⟩
theorem Exb.of (e : Ex H H') : Exb l H H' := fun a o _ h => e a o h
theorem Exb.trans (a : Exb l H H1) (b : Exb l H1 H2) : Exb l H H2 := fun x o n h => b x o n (a x o n h)
theorem Exb.upd {o : HO} : Exb l H (L2.upd H l o) := fun a u n h => by rw [upd_ne n]; exact h
theorem Exb.ex (n : H0 l = none) (e : Ex H0 H) (b : Exb l H H') : Ex H0 H' := fun a o h => b a o (ne_of_none h n) (e a o h)
theorem Exb.own (b : Exb l H H') (ne : q ≠ l) (t : Tx H H') (h : Own K H q ds) : Own K H' q ds := by
  obtain ⟨xs, x, y⟩ := h
  exact ⟨xs, b q _ ne x, y.tx t⟩
theorem Ls.get (h : Ls K H v ds) : ∃ p xs, v = .ref p ∧ SqL K H p xs ∧ DtAll K H xs ds := h
end

/-! ### What an expression gives -/
/-- a plain datum -/
def Ve (K : PySem.W.Frag) (te : TE) (σ : L2.St) (H : Hp) (d : PyData) : Prop := ∀ H1, Ex H H1 → ∀ Q : VK, (∀ v H2, Ex H1 H2 → Dt K H2 v d → Q v H2) → te σ H1 Q
/-- a list to be read -/
def Vl (K : PySem.W.Frag) (te : TE) (σ : L2.St) (H : Hp) (ds : List PyData) : Prop := ∀ H1, Ex H H1 → ∀ Q : VK, (∀ v H2, Ex H1 H2 → Ls K H2 v ds → Q v H2) → te σ H1 Q
/-- a new list -/
def Vn (K : PySem.W.Frag) (te : TE) (σ : L2.St) (H : Hp) (ds : List PyData) : Prop := ∀ H1, Ex H H1 → ∀ Q : VK, (∀ p H2, H1 p = none → Ex H1 H2 → Own K H2 p ds → Q (.ref p) H2) → te σ H1 Q
/-- an argument: a plain datum, or a list -/
inductive Arg where
  | p (d : PyData)
  | l (ds : List PyData)
  | x (φ : Hp → V → Prop)
def Is (K : PySem.W.Frag) (H : Hp) (v : V) : Arg → Prop
  | .p d => Dt K H v d
  | .l ds => Ls K H v ds
  | .x φ => ∀ H', Ex H H' → φ H' v
def Args (K : PySem.W.Frag) (H : Hp) : List V → List Arg → Prop
  | [], [] => True
  | v :: vs, a :: as => Is K H v a ∧ Args K H vs as
  | _, _ => False
def Va (K : PySem.W.Frag) (ta : TA) (σ : L2.St) (H : Hp) (as : List Arg) : Prop := ∀ H1, Ex H H1 → ∀ Q : List V → Hp → Prop, (∀ vs H2, Ex H1 H2 → Args K H2 vs as → Q vs H2) → ta σ H1 Q
section
variable {K : PySem.W.Frag} {σ : L2.St} {H H' H1 H2 : Hp} {ta tb tc te tx : TE} {t u : TT} {v x y z : V} {d e : PyData} {vs : List V} {ds es : List PyData} {a : Arg} {as : List Arg} {r : TA}
theorem Is.ex (h : Is K H v a) (e : Ex H H') : Is K H' v a := by
  cases a with
  | p d => exact Dt.ex h e
  | l ds => exact Ls.ex h e
  | x φ => exact fun H2 e2 => h H2 (e.trans e2)
theorem Args.ex : ∀ {vs : List V} {as : List Arg}, Args K H vs as → Ex H H' → Args K H' vs as
  | [], [], _, _ => trivial
  | v :: vs, a :: as, h, e => ⟨Is.ex h.1 e, Args.ex h.2 e⟩
  | [], _ :: _, h, _ => h.elim
  | _ :: _, [], h, _ => h.elim
theorem Ve.mono (h : Ve K te σ H d) (e : Ex H H') : Ve K te σ H' d := fun H1 a Q q => h H1 (e.trans a) Q q
theorem Vl.mono (h : Vl K te σ H ds) (e : Ex H H') : Vl K te σ H' ds := fun H1 a Q q => h H1 (e.trans a) Q q
theorem Vn.mono (h : Vn K te σ H ds) (e : Ex H H') : Vn K te σ H' ds := fun H1 a Q q => h H1 (e.trans a) Q q
theorem Vn.l (h : Vn K te σ H ds) : Vl K te σ H ds := fun H1 e Q q => h H1 e Q fun p H2 _ e2 o => q _ H2 e2 o.ls
theorem Ve.to (h : Ve K te σ H d) (eq : d = e) : Ve K te σ H e := eq ▸ h
theorem Vn.to (h : Vn K te σ H ds) (eq : ds = es) : Vn K te σ H es := eq ▸ h
theorem Vl.to (h : Vl K te σ H ds) (eq : ds = es) : Vl K te σ H es := eq ▸ h
/-! names and constants -/
theorem ve_var {i : Nat} (hs : σ[i]? = some (some v)) (h : Dt K H v d) : Ve K (tVar i) σ H d := fun H1 e _ q => ⟨v, hs, q v H1 (Ex.refl H1) (h.ex e)⟩
theorem vl_var {i : Nat} (hs : σ[i]? = some (some v)) (h : Ls K H v ds) : Vl K (tVar i) σ H ds := fun H1 e _ q => ⟨v, hs, q v H1 (Ex.refl H1) (h.ex e)⟩
theorem ve_int {i : Int} : Ve K (tC (.int i)) σ H (.int i) := fun H1 _ _ q => q _ H1 (Ex.refl H1) .int
theorem ve_str {i : Str} : Ve K (tC (.str i)) σ H (.str i) := fun H1 _ _ q => q _ H1 (Ex.refl H1) .str
theorem ve_bl {i : Bool} : Ve K (tC (.bl i)) σ H (.bool i) := fun H1 _ _ q => q _ H1 (Ex.refl H1) .bl
/-! arguments -/
theorem va_nil : Va K tNil σ H [] := fun H1 _ _ q => q [] H1 (Ex.refl H1) trivial
theorem va_p (h : Ve K te σ H d) (hr : Va K r σ H as) : Va K (tCons te r) σ H (.p d :: as) := fun H1 e _ q =>
  h H1 e _ fun v H2 e2 hv => hr H2 (e.trans e2) _ fun vs H3 e3 hs => q (v :: vs) H3 (e2.trans e3) ⟨Dt.ex hv e3, hs⟩
theorem va_l (h : Vl K te σ H ds) (hr : Va K r σ H as) : Va K (tCons te r) σ H (.l ds :: as) := fun H1 e _ q =>
  h H1 e _ fun v H2 e2 hv => hr H2 (e.trans e2) _ fun vs H3 e3 hs => q (v :: vs) H3 (e2.trans e3) ⟨Ls.ex hv e3, hs⟩
/-- a thing of which φ is so, whatever is laid beside it -/
def Vx (te : TE) (σ : L2.St) (H : Hp) (φ : Hp → V → Prop) : Prop := ∀ H1, Ex H H1 → ∀ Q : VK, (∀ v H2, Ex H1 H2 → (∀ H3, Ex H2 H3 → φ H3 v) → Q v H2) → te σ H1 Q
theorem Vx.mono {φ : Hp → V → Prop} (h : Vx te σ H φ) (e : Ex H H') : Vx te σ H' φ := fun H1 a Q q => h H1 (e.trans a) Q q
theorem vx_var {φ : Hp → V → Prop} {i : Nat} (hs : σ[i]? = some (some v)) (h : ∀ H', Ex H H' → φ H' v) : Vx (tVar i) σ H φ := fun H1 e _ q => ⟨v, hs, q v H1 (Ex.refl H1) fun H3 e3 => h H3 (e.trans e3)⟩
theorem va_x {φ : Hp → V → Prop} (h : Vx te σ H φ) (hr : Va K r σ H as) : Va K (tCons te r) σ H (.x φ :: as) := fun H1 e _ q =>
  h H1 e _ fun v H2 e2 hv => hr H2 (e.trans e2) _ fun vs H3 e3 hs => q (v :: vs) H3 (e2.trans e3) ⟨fun H4 e4 => hv H4 (e3.trans e4), hs⟩
/-- all arguments plain -/
theorem Args.plains : ∀ {ds : List PyData} {vs : List V}, Args K H vs (ds.map Arg.p) → DtAll K H vs ds
  | [], [], _ => .nil
  | d :: ds, v :: vs, h => .cons h.1 (Args.plains h.2)
  | [], _ :: _, h => h.elim
  | _ :: _, [], h => h.elim
theorem ve_tup {r : TA} (ds : List PyData) (h : Va K r σ H (ds.map Arg.p)) (hl : ds.length ≤ 100000) : Ve K (tTup r) σ H (.tuple ds) := fun H1 e _ q =>
  h H1 e _ fun vs H2 e2 hs => by
    have hs := hs.plains
    exact ⟨sz_of (by rw [hs.length]; exact hl), fun p hp => q _ _ (e2.trans (Ex.new hp)) (.of_tup upd_same (hs.ex (Ex.new hp)))⟩
theorem vn_lst {r : TA} (ds : List PyData) (h : Va K r σ H (ds.map Arg.p)) (hl : ds.length ≤ 100000) : Vn K (tLst r) σ H ds := fun H1 e _ q =>
  h H1 e _ fun vs H2 e2 hs => by
    have hs := hs.plains
    exact ⟨sz_of (by rw [hs.length]; exact hl), fun p hp => q _ _ (fresh_back e2 hp) (e2.trans (Ex.new hp)) ⟨vs, upd_same, hs.ex (Ex.new hp)⟩⟩
/-! ints, bools: their values are told -/
theorem Ve.int {i : Int} (h : Ve K te σ H (.int i)) : Ev te σ H (.int i) := fun H1 e Q q => h H1 e Q fun v H2 e2 hv => by rw [hv.int_eq]; exact q H2 e2
theorem Ve.bl {i : Bool} (h : Ve K te σ H (.bool i)) : Ev te σ H (.bl i) := fun H1 e Q q => h H1 e Q fun v H2 e2 hv => by rw [hv.bl_eq]; exact q H2 e2
theorem Ve.str {i : Str} (h : Ve K te σ H (.str i)) : Ev te σ H (.str i) := fun H1 e Q q => h H1 e Q fun v H2 e2 hv => by rw [hv.str_eq]; exact q H2 e2
theorem ve_of_int {i : Int} (h : Ev te σ H (.int i)) : Ve K te σ H (.int i) := fun H1 e Q q => h H1 e Q fun H2 e2 => q _ H2 e2 .int
theorem ve_of_bl {i : Bool} (h : Ev te σ H (.bl i)) : Ve K te σ H (.bool i) := fun H1 e Q q => h H1 e Q fun H2 e2 => q _ H2 e2 .bl
theorem ve_I0 {g : Int → Int → Int} {i j : Int} (ha : Ve K ta σ H (.int i)) (hb : Ve K tb σ H (.int j)) : Ve K (tOp (rI0 fun i j => .int (g i j)) ta tb) σ H (.int (g i j)) := ve_of_int (ev_op ha.int hb.int rv_I0)
theorem ve_B0 {g : Int → Int → Bool} {i j : Int} (ha : Ve K ta σ H (.int i)) (hb : Ve K tb σ H (.int j)) : Ve K (tOp (rI0 fun i j => .bl (g i j)) ta tb) σ H (.bool (g i j)) := ve_of_bl (ev_op ha.int hb.int rv_I0)
theorem ve_I {C : Int → Int → Prop} {g : Int → Int → Int} {i j : Int} (hc : C i j) (ha : Ve K ta σ H (.int i)) (hb : Ve K tb σ H (.int j)) : Ve K (tOp (rI C fun i j => .int (g i j)) ta tb) σ H (.int (g i j)) := ve_of_int (ev_op ha.int hb.int (rv_I hc))
theorem ve_eqI {i j : Int} (ha : Ve K ta σ H (.int i)) (hb : Ve K tb σ H (.int j)) : Ve K (tOp rEq ta tb) σ H (.bool (decide (i = j))) := by
  have h := ve_of_bl (K := K) (ev_op ha.int hb.int (rv_eq rfl))
  refine h.to ?_
  congr 1
  rw [Bool.eq_iff_iff]; simp
theorem ve_eqS {i j : Str} (ha : Ve K ta σ H (.str i)) (hb : Ve K tb σ H (.str j)) : Ve K (tOp rEq ta tb) σ H (.bool (decide (i = j))) := by
  have h := ve_of_bl (K := K) (ev_op ha.str hb.str (rv_eq rfl))
  refine h.to ?_
  congr 1
  rw [Bool.eq_iff_iff]; simp
/-- == of data -/
theorem ve_eqD (ha : Ve K ta σ H d) (hb : Ve K tb σ H e) (sd : SeqAt.shaped d = true) (se : SeqAt.shaped e = true) : Ve K (tOp (rEqD K) ta tb) σ H (.bool (PyData.eqv d e)) := fun H1 e1 Q q =>
  ha H1 e1 _ fun v H2 e2 hv => hb H2 (e1.trans e2) _ fun w H3 e3 hw => ⟨d, e, (hv.ex e3).dp, hw.dp, sd, se, q _ H3 (e2.trans e3) .bl⟩
theorem Ls.dp (h : Ls K H v ds) : Dp K H v (.list ds) := by
  obtain ⟨p, xs, rfl, hs, ha⟩ := h
  exact .lst hs ha.dp
theorem ve_inD (ha : Ve K ta σ H d) (hb : Vl K tb σ H ds) (sd : SeqAt.shaped d = true) (se : SeqAt.shaped (.list ds) = true) : Ve K (tOp (rInD K) ta tb) σ H (.bool (ds.any fun z => PyData.eqv z d)) := fun H1 e1 Q q =>
  ha H1 e1 _ fun v H2 e2 hv => hb H2 (e1.trans e2) _ fun w H3 e3 hw => ⟨d, ds, (hv.ex e3).dp, hw.dp, sd, se, q _ H3 (e2.trans e3) .bl⟩
theorem ve_notInD (ha : Ve K ta σ H d) (hb : Vl K tb σ H ds) (sd : SeqAt.shaped d = true) (se : SeqAt.shaped (.list ds) = true) : Ve K (tOp (rNotInD K) ta tb) σ H (.bool (!ds.any fun z => PyData.eqv z d)) := fun H1 e1 Q q =>
  ha H1 e1 _ fun v H2 e2 hv => hb H2 (e1.trans e2) _ fun w H3 e3 hw => ⟨d, ds, (hv.ex e3).dp, hw.dp, sd, se, q _ H3 (e2.trans e3) .bl⟩
/-! items -/
theorem ve_ixT {i : Nat} (ha : Ve K ta σ H (.tuple ds)) (hb : Ve K tb σ H (.int (i : Int))) (hi : ds[i]? = some d) : Ve K (tOp (rIxT K) ta tb) σ H d := fun H1 e1 Q q =>
  ha H1 e1 _ fun v H2 e2 hv => hb H2 (e1.trans e2) _ fun w H3 e3 hw => by
    obtain ⟨a, xs, rfl, hs, hx⟩ := (hv.ex e3).tup_eq
    cases hw.int_eq
    obtain ⟨u, hu, hd⟩ := hx.got hi
    exact ⟨a, xs, _, u, rfl, rfl, hs, atI_nat hu, q _ H3 (e2.trans e3) hd⟩
theorem ve_ixL {i : Nat} (ha : Vl K ta σ H ds) (hb : Ve K tb σ H (.int (i : Int))) (hi : ds[i]? = some d) : Ve K (tOp (rIxL K) ta tb) σ H d := fun H1 e1 Q q =>
  ha H1 e1 _ fun v H2 e2 hv => hb H2 (e1.trans e2) _ fun w H3 e3 hw => by
    obtain ⟨a, xs, rfl, hs, hx⟩ := (hv.ex e3)
    cases hw.int_eq
    obtain ⟨u, hu, hd⟩ := hx.got hi
    exact ⟨a, xs, _, u, rfl, rfl, hs, atI_nat hu, q _ H3 (e2.trans e3) hd⟩
/-! truth -/
theorem vt_test {b : Bool} (h : Ve K te σ H (.bool b)) : EvT (tTest te) σ H b := et_test h.bl
theorem vt_B {b : Bool} (h : Ve K te σ H (.bool b)) : EvT (tB te) σ H b := et_B h.bl
theorem ve_andV {a b : Bool} (h1 : Ve K ta σ H (.bool a)) (h2 : a = true → Ve K tb σ H (.bool b)) : Ve K (tAndV ta tb) σ H (.bool (a && b)) := ve_of_bl (ev_andV h1.bl fun h => (h2 h).bl)
theorem ve_orV {a b : Bool} (h1 : Ve K ta σ H (.bool a)) (h2 : a = false → Ve K tb σ H (.bool b)) : Ve K (tOrV ta tb) σ H (.bool (a || b)) := ve_of_bl (ev_orV h1.bl fun h => (h2 h).bl)
theorem ve_notV {a : Bool} (h1 : Ve K ta σ H (.bool a)) : Ve K (tNotV ta) σ H (.bool (!a)) := ve_of_bl (ev_notV h1.bl)
theorem ve_if {b : Bool} (h : EvT t σ H b) (h1 : b = true → Ve K ta σ H d) (h2 : b = false → Ve K tb σ H d) : Ve K (tIf t ta tb) σ H d := fun H1 e Q q => h H1 e _ fun H2 e2 => by
  cases b with
  | true =>
    show ta σ H2 Q
    exact h1 rfl H2 (e.trans e2) Q fun v H3 e3 => q v H3 (e2.trans e3)
  | false =>
    show tb σ H2 Q
    exact h2 rfl H2 (e.trans e2) Q fun v H3 e3 => q v H3 (e2.trans e3)
/-- lo <= x <= hi -/
theorem ve_chain {g g' : Int → Int → Bool} {i j k : Int} (ha : Ve K ta σ H (.int i)) (hb : Ve K tb σ H (.int j)) (hc : Ve K tc σ H (.int k)) :
    Ve K (tChain (rI0 fun i j => .bl (g i j)) (rI0 fun i j => .bl (g' i j)) ta tb tc) σ H (.bool (g i j && g' j k)) := fun H1 e1 Q q =>
  ha.int H1 e1 _ fun H2 e2 => hb.int H2 (e1.trans e2) _ fun H3 e3 => ⟨i, j, rfl, rfl, g i j, rfl, by
    cases hg : g i j with
    | true =>
      show tc σ H3 _
      exact hc.int H3 ((e1.trans e2).trans e3) _ fun H4 e4 => ⟨j, k, rfl, rfl, by
        have := q (.bl (g' j k)) H4 ((e2.trans e3).trans e4)
        rw [hg] at this
        exact this .bl⟩
    | false =>
      show Q (.bl false) H3
      have := q (.bl false) H3 (e2.trans e3)
      rw [hg] at this
      exact this .bl⟩
/-! lists -/
theorem ve_len (h : Vl K te σ H ds) : Ve K (tCB (rLenS K) (tCons te tNil)) σ H (.int (ds.length : Int)) := fun H1 e Q q =>
  h H1 e _ fun v H2 e2 hv => by
    obtain ⟨p, xs, rfl, hs, ha⟩ := hv
    exact ⟨p, xs, rfl, .inl hs, by rw [ha.length]; exact q _ H2 e2 .int⟩
theorem vn_list (h : Vl K te σ H ds) : Vn K (tCB (rListS K) (tCons te tNil)) σ H ds := fun H1 e Q q =>
  h H1 e _ fun v H2 e2 hv => by
    obtain ⟨p, xs, rfl, hs, ha⟩ := hv
    exact ⟨p, xs, rfl, .inl hs, fun l hl => q l _ (fresh_back e2 hl) (e2.trans (Ex.new hl)) ⟨xs, upd_same, ha.ex (Ex.new hl)⟩⟩
theorem ve_any {bs : List Bool} (h : Vl K te σ H (bs.map PyData.bool)) : Ve K (tCB (rAny K) (tCons te tNil)) σ H (.bool (bs.any id)) := fun H1 e Q q =>
  h H1 e _ fun v H2 e2 hv => by
    obtain ⟨p, xs, rfl, hs, ha⟩ := hv
    cases ha.bools
    exact ⟨p, bs, rfl, hs, q _ H2 e2 .bl⟩
theorem ve_all {bs : List Bool} (h : Vl K te σ H (bs.map PyData.bool)) : Ve K (tCB (rAll K) (tCons te tNil)) σ H (.bool (bs.all id)) := fun H1 e Q q =>
  h H1 e _ fun v H2 e2 hv => by
    obtain ⟨p, xs, rfl, hs, ha⟩ := hv
    cases ha.bools
    exact ⟨p, bs, rfl, hs, q _ H2 e2 .bl⟩
theorem vn_cat (ha : Vn K ta σ H ds) (hb : Vn K tb σ H es) (hl : ds.length + es.length ≤ 100000) : Vn K (tOp rCat ta tb) σ H (ds ++ es) := fun H1 e Q q =>
  ha H1 e _ fun p H2 n2 e2 o2 => hb H2 (e.trans e2) _ fun r H3 n3 e3 o3 => by
    obtain ⟨xs, hx, dx⟩ := o2.ex e3
    obtain ⟨ys, hy, dy⟩ := o3
    exact ⟨p, r, xs, ys, rfl, rfl, hx, hy, sz_of (by rw [dx.length, dy.length]; exact hl), fun l hl => q l _ (fresh_back (e2.trans e3) hl) ((e2.trans e3).trans (Ex.new hl)) ⟨_, upd_same, (dx.append dy).ex (Ex.new hl)⟩⟩
/-- the lists of one's own count as well -/
def Vo (K : PySem.W.Frag) (te : TE) (σ : L2.St) (H : Hp) (ds : List PyData) : Prop := ∀ H1, Ex H H1 → ∀ Q : VK, (∀ p H2, Ex H1 H2 → Own K H2 p ds → Q (.ref p) H2) → te σ H1 Q
theorem Vn.o (h : Vn K te σ H ds) : Vo K te σ H ds := fun H1 e Q q => h H1 e Q fun p H2 _ e2 o => q p H2 e2 o
theorem Vo.l (h : Vo K te σ H ds) : Vl K te σ H ds := fun H1 e Q q => h H1 e Q fun p H2 e2 o => q _ H2 e2 o.ls
theorem vo_var {i : Nat} {p : Addr} (hs : σ[i]? = some (some (.ref p))) (h : Own K H p ds) : Vo K (tVar i) σ H ds := fun H1 e _ q => ⟨_, hs, q p H1 (Ex.refl H1) (h.ex e)⟩
theorem vn_catO (ha : Vo K ta σ H ds) (hb : Vo K tb σ H es) (hl : ds.length + es.length ≤ 100000) : Vn K (tOp rCat ta tb) σ H (ds ++ es) := fun H1 e Q q =>
  ha H1 e _ fun p H2 e2 o2 => hb H2 (e.trans e2) _ fun r H3 e3 o3 => by
    obtain ⟨xs, hx, dx⟩ := o2.ex e3
    obtain ⟨ys, hy, dy⟩ := o3
    exact ⟨p, r, xs, ys, rfl, rfl, hx, hy, sz_of (by rw [dx.length, dy.length]; exact hl), fun l hl => q l _ (fresh_back (e2.trans e3) hl) ((e2.trans e3).trans (Ex.new hl)) ⟨_, upd_same, (dx.append dy).ex (Ex.new hl)⟩⟩
end

/-! ### Promises of defs that change nothing -/
/-- from arguments to a plain datum | to a new list -/
def spV (K : PySem.W.Frag) (R : List Arg → PyData → Prop) : Sp := fun vs H Q _ => ∃ as d, Args K H vs as ∧ R as d ∧ ∀ v H2, Ex H H2 → Dt K H2 v d → Q v H2
/-- .. to a thing of which ψ is so -/
def spX (K : PySem.W.Frag) (R : List Arg → (Hp → V → Prop) → Prop) : Sp := fun vs H Q _ => ∃ as ψ, Args K H vs as ∧ R as ψ ∧ ∀ v H2, Ex H H2 → (∀ H3, Ex H2 H3 → ψ H3 v) → Q v H2
def spN (K : PySem.W.Frag) (R : List Arg → List PyData → Prop) : Sp := fun vs H Q _ => ∃ as ds, Args K H vs as ∧ R as ds ∧ ∀ p H2, H p = none → Ex H H2 → Own K H2 p ds → Q (.ref p) H2
section
variable {K : PySem.W.Frag} {σ : L2.St} {H : Hp} {r : TA} {as : List Arg} {d : PyData} {ds : List PyData} {E : XK}
theorem ve_call {R : List Arg → PyData → Prop} (h : Va K r σ H as) (hr : R as d) : Ve K (tCall (spV K R) [] E r) σ H d := fun H1 e Q q =>
  h H1 e _ fun vs H2 e2 ha => ⟨as, d, by rw [List.append_nil]; exact ha, hr, fun v H3 e3 hv => q v H3 (e2.trans e3) hv⟩
theorem vx_call {R : List Arg → (Hp → V → Prop) → Prop} {ψ : Hp → V → Prop} (h : Va K r σ H as) (hr : R as ψ) : Vx (tCall (spX K R) [] E r) σ H ψ := fun H1 e Q q =>
  h H1 e _ fun vs H2 e2 ha => ⟨as, ψ, by rw [List.append_nil]; exact ha, hr, fun v H3 e3 hv => q v H3 (e2.trans e3) hv⟩
theorem vn_call {R : List Arg → List PyData → Prop} (h : Va K r σ H as) (hr : R as ds) : Vn K (tCall (spN K R) [] E r) σ H ds := fun H1 e Q q =>
  h H1 e _ fun vs H2 e2 ha => ⟨as, ds, by rw [List.append_nil]; exact ha, hr, fun p H3 n e3 o => q p H3 (fresh_back e2 n) (e2.trans e3) o⟩
end
end Dx

set_option Elab.async false
set_option linter.all false
set_option maxRecDepth 100000
set_option maxHeartbeats 2000000
namespace Dx
open PySem L2 Evl
section
variable {K : PySem.W.Frag} {σ : L2.St} {H H' H1 H2 : Hp} {ta tb tc te tx tl : TE} {t u tt : TT} {v x y z : V} {d e : PyData} {ds es : List PyData} {r : TA} {g : TG}
theorem take_more {A : Type} {l : List A} {i : Nat} {x : A} (h : l[i]? = some x) : l.take (i + 1) = l.take i ++ [x] := by
  rw [List.take_add_one, h]
  rfl
theorem map_at {A B : Type} {f : A → B} {l : List A} {i : Nat} {y : B} (h : (l.map f)[i]? = some y) : ∃ x, l[i]? = some x ∧ y = f x := by
  rw [List.getElem?_map] at h
  cases e : l[i]? with
  | none => rw [e] at h; cases h
  | some x => rw [e] at h; exact ⟨x, rfl, (Option.some.inj h).symm⟩
/-- what the next item does to the list that is made -/
theorem fm_more {A : Type} {p : A → Bool} {f : A → PyData} {l : List A} {i : Nat} {x : A} (h : l[i]? = some x) : ((l.take (i + 1)).filter p).map f = ((l.take i).filter p).map f ++ (if p x = true then [f x] else []) := by
  rw [take_more h, List.filter_append, List.map_append, List.filter_cons, List.filter_nil]
  split <;> rfl
theorem fm_len {A : Type} {p : A → Bool} {f : A → PyData} {l : List A} {i : Nat} : (((l.take i).filter p).map f).length ≤ l.length := by
  rw [List.length_map]
  refine Nat.le_trans (List.length_filter_le _ _) ?_
  rw [List.length_take]
  exact Nat.min_le_right _ _
/-- one turn of a comprehension -/
theorem lc_turn {A : Type} {p : A → Bool} {f : A → PyData} {l : List A} {i : Nat} {a : A} {D : Addr} {H1 H' : Hp} {σ2 : L2.St} (hD : H1 D = none) (hi : l[i]? = some a) (hz : l.length ≤ 40000) (pe : Ex H1 H') (po : Own K H' D (((l.take i).filter p).map f))
    (ht : EvT tt σ2 H' (p a)) (he : p a = true → Ve K te σ2 H' (f a)) : tt σ2 H' fun b H3 => if b = true then te σ2 H3 fun y H4 => ∃ acc, H4 D = some (.lst acc) ∧ acc.length < sizeLine ∧
      (Ex H1 (upd H4 D (.lst (acc ++ [y]))) ∧ Own K (upd H4 D (.lst (acc ++ [y]))) D (((l.take (i + 1)).filter p).map f)) else (Ex H1 H3 ∧ Own K H3 D (((l.take (i + 1)).filter p).map f)) := by
  refine ht H' (Ex.refl _) _ fun H3 e3 => ?_
  cases hp : p a with
  | true =>
    show te σ2 H3 _
    refine he hp H3 e3 _ fun y H4 e4 hy => ?_
    obtain ⟨acc, ha, hacc⟩ := po.ex (e3.trans e4)
    refine ⟨acc, ha, sz_lt (by rw [hacc.length]; have := fm_len (p := p) (f := f) (l := l) (i := i); omega), Ex.mut ((pe.trans e3).trans e4) hD, ?_⟩
    refine ⟨_, upd_same, ?_⟩
    rw [fm_more hi, if_pos hp]
    exact (hacc.append (.cons hy .nil)).tx (Tx.upd ha rfl)
  | false =>
    refine ⟨pe.trans e3, ?_⟩
    rw [fm_more hi, if_neg (by rw [hp]; decide), List.append_nil]
    exact po.ex e3
/-- [e for x in xs if t]: over a list of A's -/
theorem vn_lc {A : Type} {vs : List Nat} (l : List A) (enc : A → PyData) (p : A → Bool) (f : A → PyData) (h : Vl K tl σ H (l.map enc)) (hz : l.length ≤ 40000)
    (hs : ∀ a ∈ l, ∀ v H1, Ex H H1 → Dt K H1 v (enc a) → ∃ σ2, (∀ Q : L2.St → Hp → Prop, Q σ2 H1 → g v (wipe σ vs) H1 Q) ∧ wipe σ2 vs = wipe σ vs ∧ EvT tt σ2 H1 (p a) ∧ (p a = true → Ve K te σ2 H1 (f a))) :
    Vn K (tLc (iList K tl) g tt te vs) σ H ((l.filter p).map f) := fun H0 e0 Q q => h H0 e0 _ fun v H1 e1 hv => by
  obtain ⟨a, xs, rfl, hx, hd⟩ := hv
  refine ⟨a, rfl, ⟨xs, hx⟩, fun D hD => ?_⟩
  refine lc_list (xs := xs) (fun i H' => Ex H1 H' ∧ Own K H' D (((l.take i).filter p).map f)) ⟨Ex.new hD, [], upd_same, .nil⟩ (fun i H' _ pv => ex_l pv.1 hx) (fun i x H' hi pv => ?_) (fun H' pv => ?_)
  · obtain ⟨d, hdi, hdt⟩ := hd.get hi
    obtain ⟨b, hb, rfl⟩ := map_at hdi
    obtain ⟨σ2, hg, hw, ht, he⟩ := hs b (List.mem_of_getElem? hb) x H' ((e0.trans e1).trans pv.1) (hdt.ex pv.1)
    exact hg _ ⟨hw, lc_turn hD hb hz pv.1 pv.2 ht he⟩
  · have hl : xs.length = l.length := by rw [hd.length, List.length_map]
    rw [hl, List.take_length] at pv
    exact q D H' (fresh_back e1 hD) (e1.trans pv.1) pv.2
/-- [e for x in xs] -/
theorem vn_map {A : Type} {vs : List Nat} (l : List A) (enc : A → PyData) (f : A → PyData) (h : Vl K tl σ H (l.map enc)) (hz : l.length ≤ 40000)
    (hs : ∀ a ∈ l, ∀ v H1, Ex H H1 → Dt K H1 v (enc a) → ∃ σ2, (∀ Q : L2.St → Hp → Prop, Q σ2 H1 → g v (wipe σ vs) H1 Q) ∧ wipe σ2 vs = wipe σ vs ∧ Ve K te σ2 H1 (f a)) :
    Vn K (tLc (iList K tl) g tYes te vs) σ H (l.map f) := by
  have := vn_lc (K := K) (te := te) (g := g) (tt := tYes) (vs := vs) l enc (fun _ => true) f h hz fun a ha v H1 e hv => by
    obtain ⟨σ2, h1, h2, h3⟩ := hs a ha v H1 e hv
    exact ⟨σ2, h1, h2, fun H2 _ _ q => q H2 (Ex.refl H2), fun _ => h3⟩
  rw [List.filter_eq_self.mpr (fun _ _ => rfl)] at this
  exact this
theorem ve_anyM {A : Type} {l : List A} {h : A → Bool} (hl : Vl K te σ H (l.map fun a => .bool (h a))) : Ve K (tCB (rAny K) (tCons te tNil)) σ H (.bool (l.any h)) := by
  have e : (l.map fun a => PyData.bool (h a)) = (l.map h).map PyData.bool := by rw [List.map_map] <;> rfl
  rw [e] at hl
  have := ve_any hl
  rw [List.any_map] at this
  exact this
theorem ve_allM {A : Type} {l : List A} {h : A → Bool} (hl : Vl K te σ H (l.map fun a => .bool (h a))) : Ve K (tCB (rAll K) (tCons te tNil)) σ H (.bool (l.all h)) := by
  have e : (l.map fun a => PyData.bool (h a)) = (l.map h).map PyData.bool := by rw [List.map_map] <;> rfl
  rw [e] at hl
  have := ve_all hl
  rw [List.all_map] at this
  exact this
/-- [e for i in range(lo, hi) if t] -/
theorem vn_lcR {vs : List Nat} {lo hi : Int} (n : Nat) (p : Nat → Bool) (f : Nat → PyData) (h : Va K r σ H [.p (.int lo), .p (.int hi)]) (hn : hi - lo = (n : Int)) (hz : n ≤ 40000) (hb : -1000000 ≤ lo ∧ lo ≤ 1000000)
    (hs : ∀ i, i < n → ∀ H1, Ex H H1 → ∃ σ2, (∀ Q : L2.St → Hp → Prop, Q σ2 H1 → g (.int (lo + (i : Int))) (wipe σ vs) H1 Q) ∧ wipe σ2 vs = wipe σ vs ∧ EvT tt σ2 H1 (p i) ∧ (p i = true → Ve K te σ2 H1 (f i))) :
    Vn K (tLc (iRng2 r) g tt te vs) σ H (((List.range n).filter p).map f) := fun H0 e0 Q q => h H0 e0 _ fun ws H1 e1 hv => by
  have hv := Args.plains (ds := [.int lo, .int hi]) hv
  have hw := DtAll.ints (ns := [lo, hi]) hv
  subst hw
  refine ⟨lo, hi, rfl, ⟨by omega, by omega, by omega, by omega⟩, fun D hD => ?_⟩
  have hnn : (hi - lo).toNat = n := by omega
  rw [hnn]
  refine lc_range (lo := lo) (n := n) (fun i H' => Ex H1 H' ∧ Own K H' D ((((List.range n).take i).filter p).map f)) ⟨Ex.new hD, [], upd_same, .nil⟩ (fun i H' hi pv => ?_) (fun H' pv => ?_)
  · obtain ⟨σ2, hg, hw, ht, he⟩ := hs i hi H' ((e0.trans e1).trans pv.1)
    exact hg _ ⟨hw, lc_turn (l := List.range n) (i := i) (a := i) hD (by simp [hi]) (by simpa using hz) pv.1 pv.2 ht he⟩
  · rw [List.take_of_length_le (by simp)] at pv
    exact q D H' (fresh_back e1 hD) (e1.trans pv.1) pv.2
/-- list(range(lo, hi)) -/
theorem rgV_ints (a b : Int) : ∃ ns : List Int, rgV a b = ns.map V.int ∧ ns = (List.range (b - a).toNat).map fun i => a + (i : Nat) := ⟨_, by
  unfold rgV
  rw [List.map_map] <;> rfl, rfl⟩
theorem vn_listRg {lo hi : Int} (n : Nat) (ha : Ve K ta σ H (.int lo)) (hb : Ve K tb σ H (.int hi)) (hn : hi - lo = (n : Int)) (hz : n ≤ 40000) (hlo : -1000000 ≤ lo ∧ lo ≤ 1000000) :
    Vn K (tLstRg (tRg2 ta tb)) σ H ((List.range n).map fun i => .int (lo + (i : Nat))) := fun H0 e0 Q q =>
  ha.int H0 e0 _ fun H1 e1 => hb.int H1 (e0.trans e1) _ fun H2 e2 => by
    refine ⟨lo, hi, rfl, rfl, ?_, fun p hp => ?_⟩
    · unfold RgOk
      exact ⟨by omega, by omega, by omega, by omega, by omega⟩
    · refine q p _ (fresh_back (e1.trans e2) hp) ((e1.trans e2).trans (Ex.new hp)) ⟨_, upd_same, ?_⟩
      obtain ⟨ns, e, e2⟩ := rgV_ints lo hi
      have hnn : (hi - lo).toNat = n := by omega
      rw [hnn] at e2
      rw [e, e2]
      have := DtAll.of_ints (K := K) (H := upd H2 p (.lst (rgV lo hi))) (ns := (List.range n).map fun i => lo + (i : Nat))
      rw [List.map_map (f := fun (i : Nat) => lo + (i : Int)) (g := PyData.int)] at this
      rw [e, e2] at this
      exact this
end

/-! ### Statements -/
section
variable {K : PySem.W.Frag} {σ : L2.St} {H H' H1 H2 : Hp} {ta tb tc te tx tl : TE} {t u tt : TT} {v x y z : V} {d e : PyData} {ds es : List PyData} {r : TA} {g : TG} {D : Ends} {tu tw tz : TS} {i j : Nat} {l : Addr}
theorem s_setV (h : Ve K te σ H d) (k : ∀ v H1, Ex H H1 → Dt K H1 v d → D.nx (σ.set i (some v)) H1) : tAsg te (gName i) D σ H := h H (Ex.refl H) _ fun v H1 e hv => k v H1 e hv
theorem q_setV (h : Ve K te σ H d) (k : ∀ v H1, Ex H H1 → Dt K H1 v d → tz D (σ.set i (some v)) H1) : tSeq (tAsg te (gName i)) tz D σ H := s_setV (D := { D with nx := tz D }) h k
theorem s_setN (h : Vn K te σ H ds) (k : ∀ p H1, H p = none → Ex H H1 → Own K H1 p ds → D.nx (σ.set i (some (.ref p))) H1) : tAsg te (gName i) D σ H := h H (Ex.refl H) _ fun p H1 n e o => k p H1 n e o
theorem q_setN (h : Vn K te σ H ds) (k : ∀ p H1, H p = none → Ex H H1 → Own K H1 p ds → tz D (σ.set i (some (.ref p))) H1) : tSeq (tAsg te (gName i)) tz D σ H := s_setN (D := { D with nx := tz D }) h k
theorem s_retV (h : Ve K te σ H d) (k : ∀ v H1, Ex H H1 → Dt K H1 v d → D.rt v H1) : tRet te D σ H := h H (Ex.refl H) _ k
theorem s_retN (h : Vn K te σ H ds) (k : ∀ p H1, H p = none → Ex H H1 → Own K H1 p ds → D.rt (.ref p) H1) : tRet te D σ H := h H (Ex.refl H) _ k
theorem s_retO (hs : σ[i]? = some (some v)) (k : D.rt v H) : tRet (tVar i) D σ H := ⟨v, hs, k⟩
theorem Own.put (o : Own K H l ds) {H1 : Hp} (e : Ex H H1) {ys : List V} {es : List PyData} (hy : DtAll K H1 ys es) : Exb l H (upd H1 l (.lst ys)) ∧ Tx H (upd H1 l (.lst ys)) ∧ Own K (upd H1 l (.lst ys)) l es := by
  obtain ⟨xs, hx, _⟩ := o.ex e
  exact ⟨(Exb.of e).trans Exb.upd, (Tx.of e).trans (Tx.upd hx rfl), _, upd_same, hy.tx (Tx.upd hx rfl)⟩
theorem s_app (o : Own K H l ds) (hs : σ[i]? = some (some (.ref l))) (h : Ve K te σ H d) (hz : ds.length < 100000) (k : ∀ H1, Exb l H H1 → Tx H H1 → Own K H1 l (ds ++ [d]) → D.nx σ H1) :
    tDrop (tBM K "list" rAppend (tVar i) (tCons te tNil)) D σ H := by
  obtain ⟨xs, hx, dx⟩ := id o
  refine ⟨_, hs, Or.inl ⟨rfl, xs, sq_of hx⟩, h H (Ex.refl H) _ fun v H1 e hv => ⟨l, xs, v, rfl, rfl, e l _ hx, sz_lt (by rw [dx.length]; exact hz), ?_⟩⟩
  obtain ⟨h1, h2, h3⟩ := o.put e ((dx.ex e).append (.cons hv .nil))
  exact k _ h1 h2 h3
theorem q_app (o : Own K H l ds) (hs : σ[i]? = some (some (.ref l))) (h : Ve K te σ H d) (hz : ds.length < 100000) (k : ∀ H1, Exb l H H1 → Tx H H1 → Own K H1 l (ds ++ [d]) → tz D σ H1) :
    tSeq (tDrop (tBM K "list" rAppend (tVar i) (tCons te tNil))) tz D σ H := s_app (D := { D with nx := tz D }) o hs h hz k
theorem s_ext (o : Own K H l ds) (hs : σ[i]? = some (some (.ref l))) (h : Vo K te σ H es) (hz : ds.length + es.length ≤ 10000000) (k : ∀ H1, Exb l H H1 → Tx H H1 → Own K H1 l (ds ++ es) → D.nx σ H1) :
    tDrop (tBM K "list" rExtend (tVar i) (tCons te tNil)) D σ H := by
  obtain ⟨xs, hx, dx⟩ := id o
  refine ⟨_, hs, Or.inl ⟨rfl, xs, sq_of hx⟩, h H (Ex.refl H) _ fun b H1 e ob => ?_⟩
  obtain ⟨zs, hb, dz⟩ := ob
  refine ⟨l, b, xs, zs, rfl, rfl, e l _ hx, hb, Nat.le_trans (by rw [dx.length, dz.length]; exact hz) (by decide : 10000000 ≤ sizeLine), ?_⟩
  obtain ⟨h1, h2, h3⟩ := o.put e ((dx.ex e).append dz)
  exact k _ h1 h2 h3
theorem q_ext (o : Own K H l ds) (hs : σ[i]? = some (some (.ref l))) (h : Vo K te σ H es) (hz : ds.length + es.length ≤ 10000000) (k : ∀ H1, Exb l H H1 → Tx H H1 → Own K H1 l (ds ++ es) → tz D σ H1) :
    tSeq (tDrop (tBM K "list" rExtend (tVar i) (tCons te tNil))) tz D σ H := s_ext (D := { D with nx := tz D }) o hs h hz k
/-- x = xs.pop() -/
theorem q_pop (o : Own K H l (ds ++ [d])) (hs : σ[i]? = some (some (.ref l))) (k : ∀ v H1, Exb l H H1 → Tx H H1 → Own K H1 l ds → Dt K H1 v d → tz D (σ.set j (some v)) H1) :
    tSeq (tAsg (tBM0 K "list" rPop (tVar i)) (gName j)) tz D σ H := by
  obtain ⟨xs, hx, dx⟩ := id o
  have hl := dx.length
  rw [List.length_append] at hl
  have hl' : xs.length = ds.length + 1 := hl
  obtain ⟨v, hv, dv⟩ := dx.got (i := ds.length) (d := d) (by simp)
  refine ⟨_, hs, Or.inl ⟨rfl, xs, sq_of hx⟩, l, xs, v, rfl, rfl, hx, by rw [hl']; exact hv, ?_⟩
  have dl := dx.dropLast
  rw [List.dropLast_concat] at dl
  obtain ⟨h1, h2, h3⟩ := o.put (Ex.refl H) dl
  exact k v _ h1 h2 h3 (dv.tx h2)
/-- for x in xs: the list is known at each turn -/
theorem for_core {A : Type} {a : Addr} (lst : List A) (enc : A → PyData) (Pv : Nat → L2.St → Hp → Prop) (w0 : Pv 0 σ H) (hl : ∀ i σ' H', i ≤ lst.length → Pv i σ' H' → Ls K H' (.ref a) (lst.map enc))
    (hs : ∀ i b x σ' H', lst[i]? = some b → Dt K H' x (enc b) → Pv i σ' H' → g x σ' H' fun σ2 H2 => tu { D with nx := Pv (i + 1), ct := Pv (i + 1), bk := D.nx } σ2 H2) (hd : ∀ σ' H', Pv lst.length σ' H' → D.nx σ' H') :
    ∃ W : Nat → Nat → L2.St → Hp → Prop, (∃ m, W 0 m σ H) ∧ ∀ i m σ H, W i m σ H →
      ((Itl K a).stop i H ∧ D.nx σ H) ∨ ((Itl K a).go i H ∧ ∃ N : L2.St → Hp → Prop, (∀ σ' H', N σ' H' → ∃ m', m' < m ∧ W (i + 1) m' σ' H') ∧ ∀ x H', (Itl K a).yld i H x H' → g x σ H' fun σ2 H2 => tu { D with nx := N, ct := N, bk := D.nx } σ2 H2) := by
  refine ⟨fun i m σ' H' => m = lst.length - i ∧ i ≤ lst.length ∧ Pv i σ' H', ⟨lst.length, by simp, Nat.zero_le _, w0⟩, ?_⟩
  rintro i m σ' H' ⟨rfl, hi, p⟩
  obtain ⟨a', ys, ea, hy, dy⟩ := hl i σ' H' hi p
  cases ea
  have hlen : ys.length = lst.length := by rw [dy.length, List.length_map]
  by_cases hlt : i < lst.length
  · refine .inr ⟨⟨ys, ys[i]'(by omega), hy, by simp [hlen, hlt]⟩, Pv (i + 1), fun σ2 H2 p' => ⟨lst.length - (i + 1), by omega, rfl, hlt, p'⟩, fun x H2 yv => ?_⟩
    obtain ⟨e2, yv⟩ := yv
    subst e2
    obtain ⟨dd, hdd, hdt⟩ := dy.get (yv ys hy)
    obtain ⟨b, hb, rfl⟩ := map_at hdd
    exact hs i b x σ' _ hb hdt p
  · have e : i = lst.length := by omega
    subst e
    exact .inl ⟨⟨ys, hy, by omega⟩, hd σ' H' p⟩
/-- .. a list that a name holds -/
theorem s_forX {A : Type} {v1 : V} (lst : List A) (enc : A → PyData) (hv : σ[i]? = some (some v1)) (Pv : Nat → L2.St → Hp → Prop) (h0 : Pv 0 σ H) (hl : ∀ i σ' H', i ≤ lst.length → Pv i σ' H' → Ls K H' v1 (lst.map enc))
    (hs : ∀ i b x σ' H', lst[i]? = some b → Dt K H' x (enc b) → Pv i σ' H' → g x σ' H' fun σ2 H2 => tu { D with nx := Pv (i + 1), ct := Pv (i + 1), bk := D.nx } σ2 H2) (hd : ∀ σ' H', Pv lst.length σ' H' → D.nx σ' H') : tFor (iList K (tVar i)) g tu D σ H := by
  obtain ⟨a, xs, rfl, hx, dx⟩ := hl 0 σ H (Nat.zero_le _) h0
  exact ⟨_, hv, a, rfl, ⟨xs, hx⟩, for_core lst enc Pv h0 hl hs hd⟩
theorem q_forX {A : Type} {v1 : V} (lst : List A) (enc : A → PyData) (hv : σ[i]? = some (some v1)) (Pv : Nat → L2.St → Hp → Prop) (h0 : Pv 0 σ H) (hl : ∀ i σ' H', i ≤ lst.length → Pv i σ' H' → Ls K H' v1 (lst.map enc))
    (hs : ∀ i b x σ' H', lst[i]? = some b → Dt K H' x (enc b) → Pv i σ' H' → g x σ' H' fun σ2 H2 => tu { D with nx := Pv (i + 1), ct := Pv (i + 1), bk := tz D } σ2 H2) (hd : ∀ σ' H', Pv lst.length σ' H' → tz D σ' H') : tSeq (tFor (iList K (tVar i)) g tu) tz D σ H :=
  s_forX (D := { D with nx := tz D }) lst enc hv Pv h0 hl hs hd
/-- .. a new list -/
theorem s_forN {A : Type} {tl : TE} (lst : List A) (enc : A → PyData) (h : Vn K tl σ H (lst.map enc)) (Pv : Addr → Nat → L2.St → Hp → Prop) (h0 : ∀ p H1, H p = none → Ex H H1 → Own K H1 p (lst.map enc) → Pv p 0 σ H1) (hl : ∀ p i σ' H', i ≤ lst.length → Pv p i σ' H' → Ls K H' (.ref p) (lst.map enc))
    (hs : ∀ p i b x σ' H', lst[i]? = some b → Dt K H' x (enc b) → Pv p i σ' H' → g x σ' H' fun σ2 H2 => tu { D with nx := Pv p (i + 1), ct := Pv p (i + 1), bk := D.nx } σ2 H2) (hd : ∀ p σ' H', Pv p lst.length σ' H' → D.nx σ' H') : tFor (iList K tl) g tu D σ H :=
  h H (Ex.refl H) _ fun p H1 np e o => by
    have w0 := h0 p H1 np e o
    obtain ⟨xs, hx, dx⟩ := o
    exact ⟨p, rfl, ⟨xs, sq_of hx⟩, for_core lst enc (Pv p) w0 (hl p) (hs p) (hd p)⟩
theorem q_forN {A : Type} {tl : TE} (lst : List A) (enc : A → PyData) (h : Vn K tl σ H (lst.map enc)) (Pv : Addr → Nat → L2.St → Hp → Prop) (h0 : ∀ p H1, H p = none → Ex H H1 → Own K H1 p (lst.map enc) → Pv p 0 σ H1) (hl : ∀ p i σ' H', i ≤ lst.length → Pv p i σ' H' → Ls K H' (.ref p) (lst.map enc))
    (hs : ∀ p i b x σ' H', lst[i]? = some b → Dt K H' x (enc b) → Pv p i σ' H' → g x σ' H' fun σ2 H2 => tu { D with nx := Pv p (i + 1), ct := Pv p (i + 1), bk := tz D } σ2 H2) (hd : ∀ p σ' H', Pv p lst.length σ' H' → tz D σ' H') : tSeq (tFor (iList K tl) g tu) tz D σ H :=
  s_forN (D := { D with nx := tz D }) lst enc h Pv h0 hl hs hd
end
end Dx

set_option Elab.async false
set_option linter.all false
set_option maxRecDepth 100000
set_option maxHeartbeats 2000000
namespace Dx
open PySem PySem.Spec PyProof.Rows L2 Evl
/-! ### A def of the program, called by its name -/
structure Def (P : Program) (w : World) (K : PySem.W.Frag) (mg : Str → Option Value) (base : Heap) (k : Nat) (x : Str) (ps : List Str) (sp : Sp) : Prop where
  ex : ∃ f fd, FnOk P w K mg base CX0 k f fd ps sp ∧ mg x = some (.ref f) ∧ PySem.W.keepIn K (.ref f) = true ∧ Binds K fd ps []
/-- where it stands behind the top -/
structure At (K : PySem.W.Frag) (mg : Str → Option Value) (x : Str) (st : Stmt) (ps : List Str) : Prop where
  ex : ∃ f fd, Fun K x x st f fd ∧ mg x = some (.ref f) ∧ Binds K fd ps []
section
variable {X : Cx} {k : Nat} {x : Str} {ps : List Str} {sp : Sp} {p pos : Pos} {e : Expr} {es : List Expr} {t : TA}
theorem pe_def (D : Def X.prog X.w X.K X.mg X.base k x ps sp) (hr : Room k X.A) (hg : Gl X x) (ha : PA X (e :: es) t) (hdb : (x == ("__debug__" : Str)) = false := by decide)
    (he : starEach (e :: es) X.env = (false, eval e X.env) :: starEach es X.env := by rfl) (hpl : (backTo pos (starEach es X.env)).any (·.1) = false := by rfl) : PE X (.Call (.Name x p) (e :: es) [] pos) (tCall sp [] E0 t) := by
  obtain ⟨f, fd, F, hm, kp, b⟩ := D.ex
  exact pe_call F hr hg hm kp b .nil pass0 ha hdb he hpl
theorem pe_def0 (D : Def X.prog X.w X.K X.mg X.base k x ps sp) (hr : Room k X.A) (hg : Gl X x) (hdb : (x == ("__debug__" : Str)) = false := by decide) : PE X (.Call (.Name x p) [] [] pos) (tCall sp [] E0 tNil) := by
  obtain ⟨f, fd, F, hm, kp, b⟩ := D.ex
  exact pe_call0 F hr hg hm kp b .nil pass0 hdb
/-- a constant of the module -/
theorem pe_gI {i : Int} (h : ∃ t, X.mg x = some (.int i t)) (hg : Gl X x := by rfl) (hd : (x == ("__debug__" : Str)) = false := by decide) : PE X (.Name x pos) (tC (.int i)) := by
  obtain ⟨t, h⟩ := h
  exact pe_glob hg h ⟨t, rfl⟩ hd
theorem pe_gS {i : Str} (h : ∃ t, X.mg x = some (.str i t)) (hg : Gl X x := by rfl) (hd : (x == ("__debug__" : Str)) = false := by decide) : PE X (.Name x pos) (tC (.str i)) := by
  obtain ⟨t, h⟩ := h
  exact pe_glob hg h ⟨t, rfl⟩ hd
end
section
variable {P : Program} {w : World} {K : PySem.W.Frag} {mg : Str → Option Value} {base : Heap}
theorem hu1 {A : Around} {k : Nat} (hr : Room k A) : A.units + 1 < cLine := by have := hr.un; omega
theorem hu65 {A : Around} {k : Nat} (hr : Room k A) : A.units + 65 < cLine := by have := hr.un; omega
/-- THE RULE for a def -/
theorem At.ok {x : Str} {st : Stmt} {N ps : List Str} {k : Nat} {sp : Sp} (F : At K mg x st ps) (S : FnScope N ps (defScope st)) (len : ∀ vs H Q E, sp vs H Q E → vs.length = ps.length)
    (hbody : ∀ (f : Addr) (cdv : Value) (A : Around) (outer : List Env) (s : Shared) (H : Hp) (vs : List V) (Q : VK) (E : XK), Room k (A.deeper (envOfC x (defScope st) s.heap.objs.size f cdv)) → sp vs H Q E →
      ∃ t, PSs (cxOf CX0 P w K mg base N x (defScope st) f cdv A outer s H E).nox (defBody st) t ∧ t { nx := fun _ H' => Q .non H', rt := Q } (start N vs) H) : Def P w K mg base (k + 1) x ps sp := by
  obtain ⟨f, fd, F, hm, b⟩ := F.ex
  exact ⟨f, fd, F.ok S len (hbody f), hm, F.kp, b⟩
end
theorem spV_len {K : PySem.W.Frag} {R : List Arg → PyData → Prop} {n : Nat} (hR : ∀ as d, R as d → as.length = n) : ∀ vs H Q E, spV K R vs H Q E → vs.length = n := by
  rintro vs H Q E ⟨as, d, ha, hr, _⟩
  rw [← hR as d hr]
  clear hr
  induction vs generalizing as with
  | nil => cases as with
    | nil => rfl
    | cons => exact ha.elim
  | cons v vs ih => cases as with
    | nil => exact ha.elim
    | cons a as => rw [List.length_cons, List.length_cons, ih as ha.2]
theorem spN_len {K : PySem.W.Frag} {R : List Arg → List PyData → Prop} {n : Nat} (hR : ∀ as d, R as d → as.length = n) : ∀ vs H Q E, spN K R vs H Q E → vs.length = n := by
  rintro vs H Q E ⟨as, d, ha, hr, _⟩
  rw [← hR as d hr]
  clear hr
  induction vs generalizing as with
  | nil => cases as with
    | nil => rfl
    | cons => exact ha.elim
  | cons v vs ih => cases as with
    | nil => exact ha.elim
    | cons a as => rw [List.length_cons, List.length_cons, ih as ha.2]
section
variable {K : PySem.W.Frag} {H : Hp}
theorem args0 {vs : List V} (h : Args K H vs []) : vs = [] := by
  cases vs with
  | nil => rfl
  | cons => exact h.elim
theorem args1 {vs : List V} {a : Arg} (h : Args K H vs [a]) : ∃ v, vs = [v] ∧ Is K H v a := by
  match vs, h with
  | [v], h => exact ⟨v, rfl, h.1⟩
theorem args2 {vs : List V} {a b : Arg} (h : Args K H vs [a, b]) : ∃ v w, vs = [v, w] ∧ Is K H v a ∧ Is K H w b := by
  match vs, h with
  | [v, w], h => exact ⟨v, w, rfl, h.1, h.2.1⟩
theorem args3 {vs : List V} {a b c : Arg} (h : Args K H vs [a, b, c]) : ∃ v w x, vs = [v, w, x] ∧ Is K H v a ∧ Is K H w b ∧ Is K H x c := by
  match vs, h with
  | [v, w, x], h => exact ⟨v, w, x, rfl, h.1, h.2.1, h.2.2.1⟩
theorem args4 {vs : List V} {a b c d : Arg} (h : Args K H vs [a, b, c, d]) : ∃ v w x y, vs = [v, w, x, y] ∧ Is K H v a ∧ Is K H w b ∧ Is K H x c ∧ Is K H y d := by
  match vs, h with
  | [v, w, x, y], h => exact ⟨v, w, x, y, rfl, h.1, h.2.1, h.2.2.1, h.2.2.2.1⟩
end
end Dx

set_option Elab.async false
set_option linter.all false
set_option maxRecDepth 100000
set_option maxHeartbeats 2000000
namespace Dx
open PySem PySem.Spec PyProof.Rows L2 Evl
/-! ### A def taken out of a row and called: row[i](..) -/
def tCallAt (S : Addr → Sp → Prop) (tf : TE) (t : TA) : TE := fun σ H Q => tf σ H fun v H1 => ∃ f sp, v = .ref f ∧ S f sp ∧ t σ H1 fun vs H2 => sp vs H2 Q E0
section
variable {X : Cx} {k : Nat} {p pos ip : Pos} {e a i : Expr} {es : List Expr} {t : TA} {tf : TE}
theorem pe_callAt {S : Addr → Sp → Prop} (A : ∀ f sp, S f sp → Held X.prog X.w X.K X.mg X.base k f sp) (hr : Room k X.A) (hf : PE X (.Subscript a i ip) tf) (ha : PA X (e :: es) t)
    (he : starEach (e :: es) X.env = (false, eval e X.env) :: starEach es X.env := by rfl) (hpl : (backTo pos (starEach es X.env)).any (·.1) = false := by rfl) : PE X (.Call (.Subscript a i ip) (e :: es) [] pos) (tCallAt S tf t) := by
  refine ⟨fun pins s σ H Q I h => ?_⟩
  have heq : eval (.Call (.Subscript a i ip) (e :: es) [] pos) X.env = (do
    callWith pos (← eval (.Subscript a i ip) X.env) [] (backTo pos (starEach (e :: es) X.env)) (backToKw pos (keywordEach [] X.env))) := rfl
  rw [heq]
  refine wpAny_bind (thn (hf.run pins s σ H _ I h) fun u s1 ⟨v, H1, I1, r1, q1⟩ => ?_)
  obtain ⟨f, sp, rfl, hS, ht⟩ := q1
  cases r1
  obtain ⟨fd, ps, F, hk, hb⟩ := (A f sp hS).ex
  refine PySem.W.callWith_K (h₀ := X.base) I.ok.mod.kin hk (thn (ha.run pos pins s1 σ _ _ I1 ht) fun us s2 ⟨vs, H2, I2, r, q⟩ => ⟨I2.kIn, ?_⟩) he hpl
  exact run_fn (dvs := []) (ds := []) (E := E0) F hr hb .nil pass0 I2 r (by rw [List.append_nil]; exact q)
/-- an object of the module's own -/
theorem pe_gR {x : Str} {b : Addr} (h : X.mg x = some (.ref b)) (hg : Gl X x := by rfl) (hd : (x == ("__debug__" : Str)) = false := by decide) : PE X (.Name x pos) (tC (.ref b)) := pe_glob hg h rfl hd
end
section
variable {K : PySem.W.Frag} {σ : L2.St} {H H1 H2 : Hp} {ta tb te : TE} {v : V} {d : PyData} {ds es : List PyData} {D : Ends} {tz : TS} {l : Addr}
theorem ev_fld {a C dx : Addr} {fs : List (Str × V)} {f : Str} (ha : Ev ta σ H (.ref a)) (ho : H a = some (.ins C dx fs)) (hc : Cls K C) (hn : NoAttr K C f) (hl : fs.lookup f = some v) : Ev (tFld K ta f) σ H v := fun H1 e Q q =>
  ha H1 e _ fun H2 e2 => ⟨a, C, dx, fs, v, rfl, (e.trans e2) a _ ho, hc, hn, hl, q H2 e2⟩
theorem vl_ev (ha : Ev te σ H v) (h : Ls K H v ds) : Vl K te σ H ds := fun H1 e Q q => ha H1 e Q fun H2 e2 => q v H2 e2 (h.ex (e.trans e2))
theorem vo_ev (ha : Ev te σ H (.ref l)) (h : Own K H l ds) : Vo K te σ H ds := fun H1 e Q q => ha H1 e Q fun H2 e2 => q l H2 e2 (h.ex (e.trans e2))
theorem s_appE (o : Own K H l ds) (ha : Ev ta σ H (.ref l)) (h : Ve K te σ H d) (hz : ds.length < 100000) (k : ∀ H1, Exb l H H1 → Tx H H1 → Own K H1 l (ds ++ [d]) → D.nx σ H1) :
    tDrop (tBM K "list" rAppend ta (tCons te tNil)) D σ H := ha H (Ex.refl H) _ fun H0 e0 => by
  obtain ⟨xs, hx, dx⟩ := o.ex e0
  refine ⟨Or.inl ⟨rfl, xs, sq_of hx⟩, h H0 e0 _ fun v H1 e hv => ⟨l, xs, v, rfl, rfl, e l _ hx, sz_lt (by rw [dx.length]; exact hz), ?_⟩⟩
  obtain ⟨h1, h2, h3⟩ := o.put (e0.trans e) ((dx.ex e).append (.cons hv .nil))
  exact k _ h1 h2 h3
theorem q_appE (o : Own K H l ds) (ha : Ev ta σ H (.ref l)) (h : Ve K te σ H d) (hz : ds.length < 100000) (k : ∀ H1, Exb l H H1 → Tx H H1 → Own K H1 l (ds ++ [d]) → tz D σ H1) :
    tSeq (tDrop (tBM K "list" rAppend ta (tCons te tNil))) tz D σ H := s_appE (D := { D with nx := tz D }) o ha h hz k
/-- f(a, b), a a thing that is known by its value | f(a, b, c) -/
theorem c_two {sp : Sp} {E : XK} {Q : VK} {va : V} (ha : Ev ta σ H va) (hb : Ve K tb σ H d) (k : ∀ v H1, Ex H H1 → Dt K H1 v d → sp [va, v] H1 Q E) : tCall sp [] E (tCons ta (tCons tb tNil)) σ H Q :=
  ha H (Ex.refl H) _ fun H1 e1 => hb H1 e1 _ fun v H2 e2 hv => k v H2 (e1.trans e2) hv
theorem c_three {sp : Sp} {E : XK} {Q : VK} {va : V} {tc : TE} (ha : Ev ta σ H va) (hb : Ve K tb σ H d) (hc : Vl K tc σ H ds) (k : ∀ v w H1, Ex H H1 → Dt K H1 v d → Ls K H1 w ds → sp [va, v, w] H1 Q E) : tCall sp [] E (tCons ta (tCons tb (tCons tc tNil))) σ H Q :=
  ha H (Ex.refl H) _ fun H1 e1 => hb H1 e1 _ fun v H2 e2 hv => hc H2 (e1.trans e2) _ fun w H3 e3 hw => k v w H3 ((e1.trans e2).trans e3) (hv.ex e3) hw
/-- xs.pop(n) -/
theorem q_popAt {n : Nat} (o : Own K H l ds) (ha : Ev ta σ H (.ref l)) (h : Ve K te σ H (.int (n : Int))) (hn : n < ds.length) (hz : ds.length ≤ 100000) (k : ∀ H1, Exb l H H1 → Tx H H1 → Own K H1 l (ds.eraseIdx n) → tz D σ H1) :
    tSeq (tDrop (tBM K "list" rPopAt ta (tCons te tNil))) tz D σ H := ha H (Ex.refl H) _ fun H0 e0 => by
  obtain ⟨xs, hx, dx⟩ := o.ex e0
  refine ⟨Or.inl ⟨rfl, xs, sq_of hx⟩, h.int H0 e0 _ fun H1 e => ?_⟩
  have hl := dx.length
  refine ⟨l, xs, (n : Int), n, xs[n]'(by omega), rfl, rfl, e l _ hx, by omega, by omega, ?_, by simp [hl, hn], ?_⟩
  · unfold seqIndex?
    have e1 : ¬ ((n : Int) < 0) := by omega
    simp only [e1, if_false]
    rw [if_pos (by simp; omega)]
    simp
  · obtain ⟨h1, h2, h3⟩ := o.put (e0.trans e) ((dx.ex e).eraseIdx n)
    exact k _ h1 h2 h3
/-- xs[i:j] -/
theorem vn_sl {lo hi : Nat} (ha : Vl K te σ H ds) (h1 : Ve K ta σ H (.int (lo : Int))) (h2 : Ve K tb σ H (.int (hi : Int))) : Vn K (tSl (rSlL K) te (tPart ta) (tPart tb)) σ H ((ds.take hi).drop lo) := fun H1 e Q q =>
  ha H1 e _ fun v H2 e2 hv => h1.int H2 (e.trans e2) _ fun H3 e3 => ⟨_, rfl, h2.int H3 ((e.trans e2).trans e3) _ fun H4 e4 => ⟨_, rfl, by
    obtain ⟨p, xs, rfl, hs, dx⟩ := hv.ex (e3.trans e4)
    refine ⟨p, xs, rfl, hs, fun p hp => q p _ (fresh_back ((e2.trans e3).trans e4) hp) (((e2.trans e3).trans e4).trans (Ex.new hp)) ⟨_, upd_same, ?_⟩⟩
    have hl := dx.length
    have cut : cutV xs (some (lo : Int)) (some (hi : Int)) = (xs.take hi).drop lo := by
      unfold cutV
      rw [HT.sIx_nat, HT.sIx_nat]
      rw [List.drop_take]
      have e1 : xs.drop (min lo xs.length) = xs.drop lo := by
        by_cases h : lo ≤ xs.length
        · rw [Nat.min_eq_left h]
        · rw [Nat.min_eq_right (by omega), List.drop_length, List.drop_eq_nil_of_le (by omega)]
      rw [e1]
      apply List.ext_getElem?
      intro m
      rw [List.getElem?_take, List.getElem?_take, List.getElem?_drop]
      by_cases c1 : m < min hi xs.length - min lo xs.length
      · rw [if_pos c1, if_pos (by omega)]
      · rw [if_neg c1]
        split
        · rw [List.getElem?_eq_none (by omega)]
        · rfl
    rw [cut]
    exact sub hs dx hp⟩⟩
where
  sub {K : PySem.W.Frag} {H : Hp} {p q : Addr} {xs ys : List V} {ds : List PyData} {lo hi : Nat} (hs : SqL K H p xs) (dx : DtAll K H xs ds) (hq : H q = none) : DtAll K (upd H q (.lst ys)) ((xs.take hi).drop lo) ((ds.take hi).drop lo) := by
    have t : ∀ (n : Nat) {us : List V} {es : List PyData}, DtAll K H us es → DtAll K H (us.take n) (es.take n) := by
      intro n
      induction n with
      | zero => intro us es h; rw [List.take_zero, List.take_zero]; exact .nil
      | succ n ih =>
        intro us es h
        cases es with
        | nil => cases h.nil_eq; exact .nil
        | cons d es =>
          obtain ⟨w, r, rfl, h1, h2⟩ := h.uncons
          rw [List.take_succ_cons, List.take_succ_cons]
          exact .cons h1 (ih h2)
    have dr : ∀ (n : Nat) {us : List V} {es : List PyData}, DtAll K H us es → DtAll K H (us.drop n) (es.drop n) := by
      intro n
      induction n with
      | zero => intro us es h; exact h
      | succ n ih =>
        intro us es h
        cases es with
        | nil => cases h.nil_eq; exact .nil
        | cons d es =>
          obtain ⟨w, r, rfl, h1, h2⟩ := h.uncons
          exact ih h2
    exact (dr lo (t hi dx)).ex (Ex.new hq)
end
end Dx

set_option Elab.async false
set_option linter.all false
set_option maxRecDepth 100000
set_option maxHeartbeats 2000000
/-! More of the data layer: ranges, enumerate, sorted, rows put together. -/
namespace Dx
open PySem PySem.Spec PyProof.Rows L2 Evl
section
variable {K : PySem.W.Frag} {σ : L2.St} {H H' H1 H2 : Hp} {ta tb tc te tx tl : TE} {t u tt : TT} {v x y z : V} {d e : PyData} {ds es : List PyData} {r : TA} {g : TG} {D : Ends} {tu tw tz : TS} {i j : Nat} {l : Addr}
theorem args_int {vs : List V} {n : Int} (h : Args K H vs [.p (.int n)]) : vs = [.int n] := by
  obtain ⟨v, rfl, hv⟩ := args1 h
  rw [Dt.int_eq hv]
theorem args_int2 {vs : List V} {m n : Int} (h : Args K H vs [.p (.int m), .p (.int n)]) : vs = [.int m, .int n] := by
  obtain ⟨v, w, rfl, hv, hw⟩ := args2 h
  rw [Dt.int_eq hv, Dt.int_eq hw]
/-- for i in range(n) -/
theorem s_forR1 {n : Nat} (h : Va K r σ H [.p (.int (n : Int))]) (hn : n ≤ 100000) (Pv : Nat → L2.St → Hp → Prop) (h0 : ∀ H1, Ex H H1 → Pv 0 σ H1)
    (hs : ∀ i σ' H', i < n → Pv i σ' H' → g (.int (i : Int)) σ' H' fun σ2 H2 => tu { D with nx := Pv (i + 1), ct := Pv (i + 1), bk := D.nx } σ2 H2) (hd : ∀ σ' H', Pv n σ' H' → D.nx σ' H') : tFor (iRng1 r) g tu D σ H :=
  h H (Ex.refl H) _ fun vs H1 e hv => ⟨(n : Int), args_int hv, by omega, by omega, by
    have e1 : ((n : Int)).toNat = n := by omega
    rw [e1]
    refine for_range (lo := 0) (n := n) Pv (h0 H1 e) (fun i σ' H' hi p => ?_) hd
    have e0 : (0 : Int) + (i : Int) = (i : Int) := Int.zero_add _
    rw [e0]
    exact hs i σ' H' hi p⟩
theorem q_forR1 {n : Nat} (h : Va K r σ H [.p (.int (n : Int))]) (hn : n ≤ 100000) (Pv : Nat → L2.St → Hp → Prop) (h0 : ∀ H1, Ex H H1 → Pv 0 σ H1)
    (hs : ∀ i σ' H', i < n → Pv i σ' H' → g (.int (i : Int)) σ' H' fun σ2 H2 => tu { D with nx := Pv (i + 1), ct := Pv (i + 1), bk := tz D } σ2 H2) (hd : ∀ σ' H', Pv n σ' H' → tz D σ' H') : tSeq (tFor (iRng1 r) g tu) tz D σ H :=
  s_forR1 (D := { D with nx := tz D }) h hn Pv h0 hs hd
/-- for i in range(lo, hi) -/
theorem s_forR2 {lo hi : Nat} (h : Va K r σ H [.p (.int (lo : Int)), .p (.int (hi : Int))]) (hn : hi ≤ 100000) (hl : lo ≤ 100000) (Pv : Nat → L2.St → Hp → Prop) (h0 : ∀ H1, Ex H H1 → Pv 0 σ H1)
    (hs : ∀ i σ' H', lo + i < hi → Pv i σ' H' → g (.int ((lo + i : Nat) : Int)) σ' H' fun σ2 H2 => tu { D with nx := Pv (i + 1), ct := Pv (i + 1), bk := D.nx } σ2 H2) (hd : ∀ σ' H', Pv (hi - lo) σ' H' → D.nx σ' H') : tFor (iRng2 r) g tu D σ H :=
  h H (Ex.refl H) _ fun vs H1 e hv => ⟨(lo : Int), (hi : Int), args_int2 hv, ⟨by omega, by omega, by omega, by omega⟩, by
    have e1 : ((hi : Int) - (lo : Int)).toNat = hi - lo := by omega
    rw [e1]
    refine for_range (lo := (lo : Int)) (n := hi - lo) Pv (h0 H1 e) (fun i σ' H' h1 p => ?_) hd
    have e0 : (lo : Int) + (i : Int) = ((lo + i : Nat) : Int) := by omega
    rw [e0]
    exact hs i σ' H' (by omega) p⟩
theorem q_forR2 {lo hi : Nat} (h : Va K r σ H [.p (.int (lo : Int)), .p (.int (hi : Int))]) (hn : hi ≤ 100000) (hl : lo ≤ 100000) (Pv : Nat → L2.St → Hp → Prop) (h0 : ∀ H1, Ex H H1 → Pv 0 σ H1)
    (hs : ∀ i σ' H', lo + i < hi → Pv i σ' H' → g (.int ((lo + i : Nat) : Int)) σ' H' fun σ2 H2 => tu { D with nx := Pv (i + 1), ct := Pv (i + 1), bk := tz D } σ2 H2) (hd : ∀ σ' H', Pv (hi - lo) σ' H' → tz D σ' H') : tSeq (tFor (iRng2 r) g tu) tz D σ H :=
  s_forR2 (D := { D with nx := tz D }) h hn hl Pv h0 hs hd
/-- [e for i in range(n) if t] -/
theorem vn_lcR1 {vs : List Nat} (n : Nat) (p : Nat → Bool) (f : Nat → PyData) (h : Va K r σ H [.p (.int (n : Int))]) (hz : n ≤ 40000)
    (hs : ∀ i, i < n → ∀ H1, Ex H H1 → ∃ σ2, (∀ Q : L2.St → Hp → Prop, Q σ2 H1 → g (.int (i : Int)) (wipe σ vs) H1 Q) ∧ wipe σ2 vs = wipe σ vs ∧ EvT tt σ2 H1 (p i) ∧ (p i = true → Ve K te σ2 H1 (f i))) :
    Vn K (tLc (iRng1 r) g tt te vs) σ H (((List.range n).filter p).map f) := fun H0 e0 Q q => h H0 e0 _ fun ws H1 e1 hv => by
  have hw := args_int hv
  subst hw
  refine ⟨(n : Int), rfl, by omega, by omega, fun Dl hD => ?_⟩
  have hnn : ((n : Int)).toNat = n := by omega
  rw [hnn]
  refine lc_range (lo := 0) (n := n) (fun i H' => Ex H1 H' ∧ Own K H' Dl ((((List.range n).take i).filter p).map f)) ⟨Ex.new hD, [], upd_same, .nil⟩ (fun i H' hi pv => ?_) (fun H' pv => ?_)
  · have e00 : (0 : Int) + (i : Int) = (i : Int) := Int.zero_add _
    rw [e00]
    obtain ⟨σ2, hg, hw, ht, he⟩ := hs i hi H' ((e0.trans e1).trans pv.1)
    exact hg _ ⟨hw, lc_turn (l := List.range n) (i := i) (a := i) hD (by simp [hi]) (by simpa using hz) pv.1 pv.2 ht he⟩
  · rw [List.take_of_length_le (by simp)] at pv
    exact q Dl H' (fresh_back e1 hD) (e1.trans pv.1) pv.2
/-! enumerate -/
theorem zip_at {A : Type} {l : List A} {i : Nat} {a : A} (h : l[i]? = some a) : l.zipIdx[i]? = some (a, i) := by
  rw [List.getElem?_zipIdx, h]
  simp
theorem pair_dt {T : Addr} {a b : V} {d1 d2 : PyData} (n : H T = none) (h1 : Dt K H a d1) (h2 : Dt K H b d2) : Dt K (upd H T (.tup [a, b])) (.ref T) (.tuple [d1, d2]) := by
  have h := DtAll.cons h1 (.cons h2 .nil)
  exact .of_tup upd_same (h.ex (Ex.new n))
/-- [e for i, x in enumerate(xs) if t] -/
theorem vn_lcE {A : Type} {vs : List Nat} (lst : List A) (enc : A → PyData) (p : A × Nat → Bool) (f : A × Nat → PyData) (h : Va K r σ H [.l (lst.map enc)]) (hz : lst.length ≤ 40000)
    (hs : ∀ (i : Nat) a, lst[i]? = some a → ∀ v H1, Ex H H1 → Dt K H1 v (.tuple [.int (i : Int), enc a]) → ∃ σ2, (∀ Q : L2.St → Hp → Prop, Q σ2 H1 → g v (wipe σ vs) H1 Q) ∧ wipe σ2 vs = wipe σ vs ∧ EvT tt σ2 H1 (p (a, i)) ∧ (p (a, i) = true → Ve K te σ2 H1 (f (a, i)))) :
    Vn K (tLc (iEnum K r) g tt te vs) σ H ((lst.zipIdx.filter p).map f) := fun H0 e0 Q q => h H0 e0 _ fun ws H1 e1 hv => by
  obtain ⟨v1, rfl, hv1⟩ := args1 hv
  obtain ⟨a, xs, rfl, hx, hd⟩ := hv1
  have hl : xs.length = lst.length := by rw [hd.length, List.length_map]
  refine ⟨a, xs, rfl, hx, fun Dl hD => ?_⟩
  refine lc_it (walk_enum (K := K) (a := a) (xs := xs)) (fun i H' => Ex H1 H' ∧ Own K H' Dl (((lst.zipIdx.take i).filter p).map f)) ⟨Ex.new hD, [], upd_same, .nil⟩ (fun i H' _ pv => ex_l pv.1 hx) (fun i x H' H'' hi pv hy => ?_) (fun H' pv => ?_)
  · obtain ⟨T, y1, y2, rfl, nT, rfl, h1, h2⟩ := hy
    cases h1
    obtain ⟨dd, hdd, hdt⟩ := hd.get h2
    obtain ⟨b, hb, rfl⟩ := map_at hdd
    have ex1 : Ex H1 (upd H' T (.tup [.int (i : Nat), y2])) := pv.1.trans (Ex.new nT)
    obtain ⟨σ2, hg, hw, ht, he⟩ := hs i b hb (.ref T) _ ((e0.trans e1).trans ex1) (pair_dt nT .int (hdt.ex pv.1))
    exact hg _ ⟨hw, lc_turn (l := lst.zipIdx) (i := i) (a := (b, i)) hD (zip_at hb) (by simpa using hz) ex1 (pv.2.ex (Ex.new nT)) ht he⟩
  · rw [hl, List.take_of_length_le (by simp)] at pv
    exact q Dl H' (fresh_back e1 hD) (e1.trans pv.1) pv.2
/-- for i, x in enumerate(xs), xs a list that a name holds -/
theorem s_forE {A : Type} {v1 : V} (lst : List A) (enc : A → PyData) (hv : σ[j]? = some (some v1)) (Pv : Nat → L2.St → Hp → Prop) (h0 : Pv 0 σ H) (hl : ∀ i σ' H', i ≤ lst.length → Pv i σ' H' → Ls K H' v1 (lst.map enc)) (hn : ∀ i σ' H' T o, Pv i σ' H' → H' T = none → Pv i σ' (upd H' T o))
    (hs : ∀ (i : Nat) b x σ' H', lst[i]? = some b → Dt K H' x (.tuple [.int (i : Int), enc b]) → Pv i σ' H' → g x σ' H' fun σ2 H2 => tu { D with nx := Pv (i + 1), ct := Pv (i + 1), bk := D.nx } σ2 H2) (hd : ∀ σ' H', Pv lst.length σ' H' → D.nx σ' H') : tFor (iEnum K (tCons (tVar j) tNil)) g tu D σ H := by
  obtain ⟨a, xs, rfl, hx, dx⟩ := hl 0 σ H (Nat.zero_le _) h0
  refine ⟨_, hv, a, xs, rfl, hx, fun i m σ' H' => m = lst.length - i ∧ i ≤ lst.length ∧ Pv i σ' H', ⟨lst.length, by simp, Nat.zero_le _, h0⟩, ?_⟩
  rintro i m σ' H' ⟨rfl, hi, p⟩
  obtain ⟨a', ys, ea, hy, dy⟩ := hl i σ' H' hi p
  cases ea
  have hlen : ys.length = lst.length := by rw [dy.length, List.length_map]
  by_cases hlt : i < lst.length
  · refine .inr ⟨⟨ys, ys[i]'(by omega), hy, by simp [hlen, hlt]⟩, Pv (i + 1), fun σ2 H2 p' => ⟨lst.length - (i + 1), by omega, rfl, hlt, p'⟩, fun x H2 yv => ?_⟩
    obtain ⟨T, y, rfl, nT, rfl, h2⟩ := yv
    obtain ⟨dd, hdd, hdt⟩ := dy.get (h2 ys hy)
    obtain ⟨b, hb, rfl⟩ := map_at hdd
    exact hs i b (.ref T) σ' _ hb (pair_dt nT .int hdt) (hn i σ' H' T _ p nT)
  · have e : i = lst.length := by omega
    subst e
    exact .inl ⟨⟨ys, hy, by omega⟩, hd σ' H' p⟩
theorem q_forE {A : Type} {v1 : V} (lst : List A) (enc : A → PyData) (hv : σ[j]? = some (some v1)) (Pv : Nat → L2.St → Hp → Prop) (h0 : Pv 0 σ H) (hl : ∀ i σ' H', i ≤ lst.length → Pv i σ' H' → Ls K H' v1 (lst.map enc)) (hn : ∀ i σ' H' T o, Pv i σ' H' → H' T = none → Pv i σ' (upd H' T o))
    (hs : ∀ (i : Nat) b x σ' H', lst[i]? = some b → Dt K H' x (.tuple [.int (i : Int), enc b]) → Pv i σ' H' → g x σ' H' fun σ2 H2 => tu { D with nx := Pv (i + 1), ct := Pv (i + 1), bk := tz D } σ2 H2) (hd : ∀ σ' H', Pv lst.length σ' H' → tz D σ' H') : tSeq (tFor (iEnum K (tCons (tVar j) tNil)) g tu) tz D σ H :=
  s_forE (D := { D with nx := tz D }) lst enc hv Pv h0 hl hn hs hd
/-! sorted, rows -/
theorem vn_sorted {ns ns' : List Int} (h : Vl K te σ H (ns.map PyData.int)) (hp : ∀ ms : List Int, ms.Perm ns → ms.Pairwise (· ≤ ·) → ms = ns') : Vn K (tCB (rSortedI K) (tCons te tNil)) σ H (ns'.map PyData.int) := fun H1 e Q q =>
  h H1 e _ fun v H2 e2 hv => by
    obtain ⟨p, xs, rfl, hs, ha⟩ := hv
    cases ha.ints
    refine ⟨p, ns, rfl, hs, fun ms l h1 h2 hl => q l _ (fresh_back e2 hl) (e2.trans (Ex.new hl)) ⟨_, upd_same, ?_⟩⟩
    rw [hp ms h1 h2]
    exact .of_ints
/-- two tuples put together -/
theorem ve_catT (ha : Ve K ta σ H (.tuple ds)) (hb : Ve K tb σ H (.tuple es)) (h1 : ds ≠ []) (hl : ds.length + es.length ≤ 100000) : Ve K (tOp (rCatT K) ta tb) σ H (.tuple (ds ++ es)) := fun H1 e1 Q q =>
  ha H1 e1 _ fun v H2 e2 hv => hb H2 (e1.trans e2) _ fun w H3 e3 hw => by
    obtain ⟨a, xs, rfl, hs, hx⟩ := (hv.ex e3).tup_eq
    obtain ⟨b, ys, rfl, ht, hy⟩ := hw.tup_eq
    have lx := hx.length
    have ly := hy.length
    refine ⟨a, b, xs, ys, rfl, rfl, hs, ht, fun z => h1 (by subst z; exact List.eq_nil_of_length_eq_zero lx.symm), sz_of (by rw [lx, ly]; exact hl), fun z => ?_, fun z p hp => ?_⟩
    · have : es = [] := by subst z; exact List.eq_nil_of_length_eq_zero ly.symm
      subst this
      rw [List.append_nil] at q
      exact q _ H3 (e2.trans e3) (hv.ex e3)
    · have hxy := hx.append hy
      exact q _ _ ((e2.trans e3).trans (Ex.new hp)) (.of_tup upd_same (hxy.ex (Ex.new hp)))
/-- a list made longer, its own copy: xs + [..] is vn_catO -/
theorem ve_neg {i : Int} (ha : Ve K ta σ H (.int i)) : Ve K (tUn (rU fun i => .int (-i)) ta) σ H (.int (-i)) := ve_of_int (ev_un ha.int ru_neg)
theorem ve_neI {i j : Int} (ha : Ve K ta σ H (.int i)) (hb : Ve K tb σ H (.int j)) : Ve K (tOp rNe ta tb) σ H (.bool (!decide (i = j))) := by
  have h := ve_of_bl (K := K) (ev_op ha.int hb.int (rv_ne rfl))
  refine h.to ?_
  congr 2
  rw [Bool.eq_iff_iff]; simp
theorem ve_neS {i j : Str} (ha : Ve K ta σ H (.str i)) (hb : Ve K tb σ H (.str j)) : Ve K (tOp rNe ta tb) σ H (.bool (!decide (i = j))) := by
  have h := ve_of_bl (K := K) (ev_op ha.str hb.str (rv_ne rfl))
  refine h.to ?_
  congr 2
  rw [Bool.eq_iff_iff]; simp
theorem ve_lenT {ds : List PyData} (h : Ve K te σ H (.tuple ds)) : Ve K (tCB (rLenS K) (tCons te tNil)) σ H (.int (ds.length : Int)) := fun H1 e Q q =>
  h H1 e _ fun v H2 e2 hv => by
    obtain ⟨p, xs, rfl, hs, ha⟩ := hv.tup_eq
    exact ⟨p, xs, rfl, .inr hs, by rw [ha.length]; exact q _ H2 e2 .int⟩
/-- xs[i:], xs[:j] -/
theorem sub_all {p q : Addr} {xs ys : List V} {lo hi : Nat} (dx : DtAll K H xs ds) (hq : H q = none) : DtAll K (upd H q (.lst ys)) ((xs.take hi).drop lo) ((ds.take hi).drop lo) := by
  have t : ∀ (n : Nat) {us : List V} {es : List PyData}, DtAll K H us es → DtAll K H (us.take n) (es.take n) := by
    intro n
    induction n with
    | zero => intro us es h; rw [List.take_zero, List.take_zero]; exact .nil
    | succ n ih =>
      intro us es h
      cases es with
      | nil => cases h.nil_eq; exact .nil
      | cons d es =>
        obtain ⟨w, r, rfl, h1, h2⟩ := h.uncons
        rw [List.take_succ_cons, List.take_succ_cons]
        exact .cons h1 (ih h2)
  have dr : ∀ (n : Nat) {us : List V} {es : List PyData}, DtAll K H us es → DtAll K H (us.drop n) (es.drop n) := by
    intro n
    induction n with
    | zero => intro us es h; exact h
    | succ n ih =>
      intro us es h
      cases es with
      | nil => cases h.nil_eq; exact .nil
      | cons d es =>
        obtain ⟨w, r, rfl, h1, h2⟩ := h.uncons
        exact ih h2
  exact (dr lo (t hi dx)).ex (Ex.new hq)
theorem vn_slFrom {lo : Nat} (ha : Vl K te σ H ds) (h1 : Ve K ta σ H (.int (lo : Int))) : Vn K (tSl (rSlL K) te (tPart ta) tNoPart) σ H (ds.drop lo) := fun H1 e Q q =>
  ha H1 e _ fun v H2 e2 hv => h1.int H2 (e.trans e2) _ fun H3 e3 => ⟨_, rfl, by
    obtain ⟨p, xs, rfl, hs, dx⟩ := hv.ex e3
    refine ⟨p, xs, rfl, hs, fun p hp => q p _ (fresh_back (e2.trans e3) hp) ((e2.trans e3).trans (Ex.new hp)) ⟨_, upd_same, ?_⟩⟩
    have hl := dx.length
    have cut : cutV xs (some (lo : Int)) none = (xs.take xs.length).drop lo := by
      unfold cutV
      rw [HT.sIx_nat, HT.sIx_none, List.take_length]
      by_cases h : lo ≤ xs.length
      · rw [Nat.min_eq_left h]
        exact List.take_of_length_le (by rw [List.length_drop]; omega)
      · rw [Nat.min_eq_right (by omega), List.drop_length, List.drop_eq_nil_of_le (by omega), List.take_nil]
    rw [cut]
    have := sub_all (p := p) (ys := (xs.take xs.length).drop lo) (lo := lo) (hi := xs.length) dx hp
    rw [hl, List.take_length] at this
    rw [hl]
    exact this⟩
end
end Dx

set_option Elab.async false
set_option linter.all false
set_option maxRecDepth 100000
set_option maxHeartbeats 2000000
/-! Tables (dicts by data) and objects of the program's own classes. -/
namespace Dx
open PySem PySem.Spec PyProof.Rows L2 Evl
/-! ### Tables -/
section
variable {A : Type} [DecidableEq A] {B : Type} [DecidableEq B]
theorem valV_inj {kf : A → B} (inj : ∀ a b, kf a = kf b → a = b) (k : A) : ∀ kvs : List (A × V), valV (kvs.map fun p => (kf p.1, p.2)) (kf k) = valV kvs k
  | [] => rfl
  | p :: r => by
    rw [List.map_cons]
    by_cases e : p.1 = k
    · rw [valV_pos e, valV_pos (p := (kf p.1, p.2)) (by rw [e])]
    · rw [valV_neg e, valV_neg (p := (kf p.1, p.2)) (fun h => e (inj _ _ h))]
      exact valV_inj inj k r
theorem putK_inj {kf : A → B} (inj : ∀ a b, kf a = kf b → a = b) (k : A) (v : V) (kvs : List (A × V)) : putK (kvs.map fun p => (kf p.1, p.2)) (kf k) v = (putK kvs k v).map fun p => (kf p.1, p.2) := by
  unfold putK
  rw [valV_any, valV_any, valV_inj inj]
  split
  · rw [List.map_map, List.map_map]
    apply List.map_congr_left
    intro p _
    show (if kf p.1 = kf k then (kf p.1, v) else (kf p.1, p.2)) = (fun p => (kf p.1, p.2)) (if p.1 = k then (p.1, v) else p)
    by_cases e : p.1 = k
    · rw [if_pos e, if_pos (by rw [e])]
    · rw [if_neg e, if_neg (fun h => e (inj _ _ h))]
  · rw [List.map_append]
    rfl
/-- how a table of such keys lies -/
structure Ke (enc : A → PyData) (obj : List (A × V) → HO) (tnew : TE) : Prop where
  new : ∀ σ H Q, (∀ p, H p = none → Q (.ref p) (upd H p (obj []))) → tnew σ H Q
  soft : ∀ kvs, soft (obj kvs) = true
  nol : ∀ kvs xs, obj kvs ≠ .lst xs
  noi : ∀ kvs C dx fs, obj kvs ≠ .ins C dx fs
  get : ∀ {K : PySem.W.Frag} {H a kvs y k}, H a = some (obj kvs) → Dt K H y (enc k) → DGet H a y (valV kvs k)
  put : ∀ {K : PySem.W.Frag} {H a kvs y k v}, H a = some (obj kvs) → Dt K H y (enc k) → kvs.length < sizeLine → DPut H a y v (upd H a (obj (putK kvs k v)))
end
def objN (kvs : List (Nat × V)) : HO := .dK (kvs.map fun p => (.inl (p.1 : Int), p.2))
def keyI (n : Nat) : Key := .inl (n : Int)
theorem keyI_inj (a b : Nat) (h : keyI a = keyI b) : a = b := by
  unfold keyI at h
  injection h with h
  omega
theorem keN : Ke (fun n : Nat => PyData.int (n : Int)) objN tDNewK where
  new := fun σ H Q h => h
  soft := fun _ => rfl
  nol := fun _ _ h => nomatch h
  noi := fun _ _ _ _ h => nomatch h
  get := fun {K H a kvs y k} h d => by
    have e : y = kV (keyI k) := d.int_eq
    have := DGet.k (H := H) (a := a) (k := keyI k) h
    have ev := valV_inj keyI_inj k kvs
    unfold keyI at ev this
    rw [ev] at this
    rw [e]
    exact this
  put := fun {K H a kvs y k v} h d hl => by
    have e : y = kV (keyI k) := d.int_eq
    have := DPut.k (H := H) (a := a) (k := keyI k) (v := v) h (by rw [List.length_map]; exact hl)
    have ev := putK_inj keyI_inj k v kvs
    unfold keyI at ev this
    rw [ev] at this
    rw [e]
    exact this
/-- keys that are pairs of numbers -/
def objP {A : Type} (kf : A → Nat × Nat) (kvs : List (A × V)) : HO := .dT (kvs.map fun p => ([keyI (kf p.1).1, keyI (kf p.1).2], p.2))
theorem keP {A : Type} [DecidableEq A] {kf : A → Nat × Nat} (inj : ∀ a b, kf a = kf b → a = b) : Ke (fun a : A => PyData.tuple [.int ((kf a).1 : Int), .int ((kf a).2 : Int)]) (objP kf) tDNewT := by
  have inj2 : ∀ a b : A, [keyI (kf a).1, keyI (kf a).2] = [keyI (kf b).1, keyI (kf b).2] → a = b := fun a b h => by
    injection h with h1 h2
    injection h2 with h2 _
    exact inj a b (Prod.ext (keyI_inj _ _ h1) (keyI_inj _ _ h2))
  have at' : ∀ {K : PySem.W.Frag} {H : Hp} {y : V} {k : A}, Dt K H y (PyData.tuple [.int ((kf k).1 : Int), .int ((kf k).2 : Int)]) → ∃ b, y = .ref b ∧ H b = some (.tup ([keyI (kf k).1, keyI (kf k).2].map kV)) := fun {K H y k} d => by
    obtain ⟨b, xs, e, h, hx⟩ := d.tup_at
    have := DtAll.ints (ns := [((kf k).1 : Int), ((kf k).2 : Int)]) hx
    subst this
    exact ⟨b, e, h⟩
  refine ⟨fun σ H Q h => h, fun _ => rfl, (fun _ _ h => nomatch h), (fun _ _ _ _ h => nomatch h), fun {K H a kvs y k} h d => ?_, fun {K H a kvs y k v} h d hl => ?_⟩
  · obtain ⟨b, rfl, hb⟩ := at' d
    have := DGet.t (H := H) (a := a) h hb
    rw [valV_inj (kf := fun a => [keyI (kf a).1, keyI (kf a).2]) inj2] at this
    exact this
  · obtain ⟨b, rfl, hb⟩ := at' d
    have := DPut.t (H := H) (a := a) (v := v) h hb (by rw [List.length_map]; exact hl)
    rw [putK_inj (kf := fun a => [keyI (kf a).1, keyI (kf a).2]) inj2] at this
    exact this
/-- what stands while tables and objects change -/
def Exs (H H' : Hp) : Prop := ∀ a o, H a = some o → soft o = false ∨ (∃ xs, o = .lst xs) → H' a = some o
/-- a property of a value that stands so -/
structure Ph {B : Type} (φ : Hp → V → B → Prop) : Prop where
  ex : ∀ {H H' v b}, Ex H H' → φ H v b → φ H' v b
  up : ∀ {H : Hp} {p : Addr} {o o' : HO} {v b}, H p = some o → soft o = true → (∀ xs, o ≠ .lst xs) → φ H v b → φ (upd H p o') v b
theorem Ls.up {K : PySem.W.Frag} {H : Hp} {p : Addr} {o o' : HO} {v : V} {ds : List PyData} (h : H p = some o) (s : soft o = true) (n : ∀ xs, o ≠ .lst xs) (l : Ls K H v ds) : Ls K (upd H p o') v ds := by
  obtain ⟨q, xs, rfl, hq, hd⟩ := l
  refine ⟨q, xs, rfl, ?_, hd.tx (Tx.upd h s)⟩
  rcases hq with hq | hq
  · refine .inl ?_
    rcases hq with hq | ⟨z, hq⟩
    · refine .inl ?_
      rw [upd_ne]
      · exact hq
      · rintro rfl
        rw [h] at hq
        exact n xs (Option.some.inj hq)
    · refine .inr ⟨z, ?_⟩
      rw [upd_ne]
      · exact hq
      · rintro rfl
        rw [h] at hq
        cases Option.some.inj hq
        cases s
  · exact .inr hq
theorem phL (K : PySem.W.Frag) : Ph (fun H v (ds : List PyData) => Ls K H v ds) := ⟨fun e h => h.ex e, fun h s n l => l.up h s n⟩
theorem phD (K : PySem.W.Frag) : Ph (fun H v (d : PyData) => Dt K H v d) := ⟨fun e h => h.ex e, fun h s n l => l.tx (Tx.upd h s)⟩
theorem phB (K : PySem.W.Frag) : Ph (fun H v (b : Bool) => Dt K H v (.bool b)) := ⟨fun e h => h.ex e, fun h s n l => l.tx (Tx.upd h s)⟩
/-- a table at p: at most n entries, of the key k what f tells | to be read -/
def Ot {A B : Type} [DecidableEq A] (obj : List (A × V) → HO) (φ : Hp → V → B → Prop) (n : Nat) (f : A → Option B) (H : Hp) (p : Addr) : Prop := ∃ kvs, H p = some (obj kvs) ∧ kvs.length ≤ n ∧ ∀ k b, f k = some b → ∃ w, valV kvs k = some w ∧ φ H w b
def Tb {A B : Type} [DecidableEq A] (obj : List (A × V) → HO) (φ : Hp → V → B → Prop) (n : Nat) (f : A → Option B) (H : Hp) (v : V) : Prop := ∃ p, v = .ref p ∧ Ot obj φ n f H p
section
variable {A B : Type} [DecidableEq A] {enc : A → PyData} {obj : List (A × V) → HO} {tnew : TE} {φ : Hp → V → B → Prop} {n m : Nat} {f : A → Option B} {K : PySem.W.Frag} {σ : L2.St} {H H' H1 : Hp} {p : Addr} {ta ty tv td te : TE} {k : A} {b : B} {D : Ends} {tz : TS} {v : V} {ds : List PyData} {i : Nat}
theorem Ot.ex (P : Ph φ) (h : Ot obj φ n f H p) (e : Ex H H') : Ot obj φ n f H' p := by
  obtain ⟨kvs, h1, h2, h3⟩ := h
  exact ⟨kvs, e _ _ h1, h2, fun k b hk => let ⟨w, hw, hb⟩ := h3 k b hk; ⟨w, hw, P.ex e hb⟩⟩
theorem Ot.up (P : Ph φ) (h : Ot obj φ n f H p) {q : Addr} {o o' : HO} (hq : H q = some o) (s : soft o = true) (nl : ∀ xs, o ≠ .lst xs) (ne : p ≠ q) : Ot obj φ n f (upd H q o') p := by
  obtain ⟨kvs, h1, h2, h3⟩ := h
  exact ⟨kvs, by rw [upd_ne ne]; exact h1, h2, fun k b hk => let ⟨w, hw, hb⟩ := h3 k b hk; ⟨w, hw, P.up hq s nl hb⟩⟩
theorem Ot.mono (h : Ot obj φ n f H p) {g : A → Option B} (hg : ∀ k b, g k = some b → f k = some b) (hn : n ≤ m) : Ot obj φ m g H p := by
  obtain ⟨kvs, h1, h2, h3⟩ := h
  exact ⟨kvs, h1, by omega, fun k b hk => h3 k b (hg k b hk)⟩
theorem Ot.tb (h : Ot obj φ n f H p) : Tb obj φ n f H (.ref p) := ⟨p, rfl, h⟩
theorem Tb.ex (P : Ph φ) (h : Tb obj φ n f H v) (e : Ex H H') : Tb obj φ n f H' v := by
  obtain ⟨p, rfl, o⟩ := h
  exact ⟨p, rfl, o.ex P e⟩
theorem Vx.imp {φ ψ : Hp → V → Prop} (h : Vx te σ H φ) (i : ∀ H v, φ H v → ψ H v) : Vx te σ H ψ := fun H1 e Q q => h H1 e Q fun v H2 e2 hv => q v H2 e2 fun H3 e3 => i H3 v (hv H3 e3)
theorem Vx.l (h : Vx te σ H fun H v => Ls K H v ds) : Vl K te σ H ds := fun H1 e Q q => h H1 e Q fun v H2 e2 hv => q v H2 e2 (hv H2 (Ex.refl H2))
theorem Vl.x (h : Vl K te σ H ds) : Vx te σ H fun H v => Ls K H v ds := fun H1 e Q q => h H1 e Q fun v H2 e2 hv => q v H2 e2 fun H3 e3 => hv.ex e3
/-- d[k] -/
theorem vx_dget (E : Ke enc obj tnew) (P : Ph φ) (h : Vx td σ H (Tb obj φ n f)) (hy : Ve K ty σ H (enc k)) (hk : f k = some b) : Vx (tDGet td ty) σ H fun H v => φ H v b := fun H1 e Q q =>
  h H1 e _ fun v H2 e2 hv => hy H2 (e.trans e2) _ fun y H3 e3 dy => by
    obtain ⟨p, rfl, kvs, h1, h2, h3⟩ := hv H3 e3
    obtain ⟨w, hw, hb⟩ := h3 k b hk
    refine ⟨p, w, rfl, ?_, q w H3 (e2.trans e3) fun H4 e4 => P.ex e4 hb⟩
    have := E.get h1 dy
    rw [hw] at this
    exact this
theorem vl_dget {f : A → Option (List PyData)} (E : Ke enc obj tnew) (h : Vx td σ H (Tb obj (fun H v ds => Ls K H v ds) n f)) (hy : Ve K ty σ H (enc k)) (hk : f k = some ds) : Vl K (tDGet td ty) σ H ds := (vx_dget E (phL K) h hy hk).l
theorem ve_dgetB {f : A → Option Bool} {b : Bool} (E : Ke enc obj tnew) (h : Vx td σ H (Tb obj (fun H v b => Dt K H v (.bool b)) n f)) (hy : Ve K ty σ H (enc k)) (hk : f k = some b) : Ve K (tDGet td ty) σ H (.bool b) := fun H1 e Q q =>
  vx_dget E (phB K) h hy hk H1 e Q fun v H2 e2 hv => q v H2 e2 (hv H2 (Ex.refl H2))
/-- d = {} -/
theorem q_dnew (E : Ke enc obj tnew) (kk : ∀ p H1, H p = none → Ex H H1 → Ot obj φ 0 (fun _ => none) H1 p → tz D (σ.set i (some (.ref p))) H1) : tSeq (tAsg tnew (gName i)) tz D σ H :=
  E.new _ _ _ fun p hp => kk p _ hp (Ex.new hp) ⟨[], upd_same, Nat.zero_le _, fun _ _ h => nomatch h⟩
/-- d[k] = v -/
theorem s_dput (E : Ke enc obj tnew) (P : Ph φ) (ha : Ev ta σ H (.ref p)) (o : Ot obj φ n f H p) (hn : n < 100000) (hy : Ve K ty σ H (enc k)) (hv : Vx tv σ H fun H v => φ H v b)
    (kk : ∀ H1 H2 kvs w, Ex H H1 → H2 = upd H1 p (obj (putK kvs k w)) → H1 p = some (obj kvs) → Exb p H H2 → Tx H H2 → Ot obj φ (n + 1) (fun j => if j = k then some b else f j) H2 p → D.nx σ H2) : sDPut ta ty tv D σ H :=
  hv H (Ex.refl H) _ fun w H1 e1 hw => ha H1 e1 _ fun H2 e2 => hy H2 (e1.trans e2) _ fun y H3 e3 dy => by
    have e13 := (e1.trans e2).trans e3
    obtain ⟨kvs, h1, h2, h3⟩ := o.ex P e13
    refine ⟨p, _, rfl, E.put h1 dy (Nat.lt_of_le_of_lt h2 (sz_lt hn)), kk H3 _ kvs w e13 rfl h1 ((Exb.of e13).trans Exb.upd) ((Tx.of e13).trans (Tx.upd h1 (E.soft kvs))) ⟨_, upd_same, Nat.le_trans (length_putK _ _ _) (by omega), fun j b' hj => ?_⟩⟩
    dsimp only at hj
    rw [valV_put]
    by_cases ej : j = k
    · rw [if_pos ej] at hj ⊢
      cases hj
      exact ⟨w, rfl, P.up h1 (E.soft kvs) (E.nol kvs) (hw H3 (e2.trans e3))⟩
    · rw [if_neg ej] at hj ⊢
      obtain ⟨w', hw', hb'⟩ := h3 j b' hj
      exact ⟨w', hw', P.up h1 (E.soft kvs) (E.nol kvs) hb'⟩
theorem q_dput (E : Ke enc obj tnew) (P : Ph φ) (ha : Ev ta σ H (.ref p)) (o : Ot obj φ n f H p) (hn : n < 100000) (hy : Ve K ty σ H (enc k)) (hv : Vx tv σ H fun H v => φ H v b)
    (kk : ∀ H1 H2 kvs w, Ex H H1 → H2 = upd H1 p (obj (putK kvs k w)) → H1 p = some (obj kvs) → Exb p H H2 → Tx H H2 → Ot obj φ (n + 1) (fun j => if j = k then some b else f j) H2 p → tz D σ H2) : tSeq (sDPut ta ty tv) tz D σ H := s_dput (D := { D with nx := tz D }) E P ha o hn hy hv kk
end
/-! ### Objects -/
/-- an object of the class C that has f, of which ψ is so -/
def HasF (C : Addr) (f : Str) (ψ : Hp → V → Prop) (H : Hp) (v : V) : Prop := ∃ a dx fs w, v = .ref a ∧ H a = some (.ins C dx fs) ∧ fs.lookup f = some w ∧ ψ H w
section
variable {K : PySem.W.Frag} {C : Addr} {f : Str} {ψ : Hp → V → Prop} {H H' H1 : Hp} {v : V} {σ : L2.St} {te tv : TE} {p dx : Addr} {fs : List (Str × V)} {i : Nat} {D : Ends} {tz : TS}
theorem HasF.ex (m : ∀ H H' v, Ex H H' → ψ H v → ψ H' v) (h : HasF C f ψ H v) (e : Ex H H') : HasF C f ψ H' v := by
  obtain ⟨a, dx, fs, w, rfl, h1, h2, h3⟩ := h
  exact ⟨a, dx, fs, w, rfl, e _ _ h1, h2, m _ _ _ e h3⟩
theorem vx_fld (c : Cls K C) (na : NoAttr K C f) (h : Vx te σ H (HasF C f ψ)) : Vx (tFld K te f) σ H ψ := fun H1 e Q q => h H1 e _ fun v H2 e2 hv => by
  obtain ⟨a, dx, fs, w, rfl, h1, h2, h3⟩ := hv H2 (Ex.refl H2)
  refine ⟨a, C, dx, fs, w, rfl, h1, c, na, h2, q w H2 e2 fun H3 e3 => ?_⟩
  obtain ⟨a', dx', fs', w', e', h1', h2', h3'⟩ := hv H3 e3
  cases e'
  have := e3 _ _ h1
  rw [this] at h1'
  cases h1'
  rw [h2] at h2'
  cases h2'
  exact h3'
theorem ev_self (hs : σ[i]? = some (some (.ref p))) (ho : H p = some (.ins C dx fs)) (c : Cls K C) (na : NoAttr K C f) {w : V} (hl : fs.lookup f = some w) : Ev (tFld K (tVar i) f) σ H w := ev_fld (ev_var hs) ho c na hl
/-- self.f = value -/
theorem q_fldX (hs : σ[i]? = some (some (.ref p))) (ho : H p = some (.ins C dx fs)) (c : Cls K C) (na : NoAttr K C f) (hl : fs.length < 1000) (hv : Vx tv σ H ψ) (kk : ∀ w H1, Ex H H1 → (∀ H3, Ex H1 H3 → ψ H3 w) → tz D σ (upd H1 p (.ins C dx (putF f w fs)))) : tSeq (sFld K (tVar i) tv f) tz D σ H :=
  hv H (Ex.refl H) _ fun w H1 e1 hw => ⟨_, hs, p, C, dx, fs, rfl, e1 _ _ ho, c, na, hl, kk w H1 e1 hw⟩
theorem s_fldX (hs : σ[i]? = some (some (.ref p))) (ho : H p = some (.ins C dx fs)) (c : Cls K C) (na : NoAttr K C f) (hl : fs.length < 1000) (hv : Vx tv σ H ψ) (kk : ∀ w H1, Ex H H1 → (∀ H3, Ex H1 H3 → ψ H3 w) → D.nx σ (upd H1 p (.ins C dx (putF f w fs)))) : sFld K (tVar i) tv f D σ H :=
  hv H (Ex.refl H) _ fun w H1 e1 hw => ⟨_, hs, p, C, dx, fs, rfl, e1 _ _ ho, c, na, hl, kk w H1 e1 hw⟩
end
theorem Tb.upI {A B : Type} [DecidableEq A] {enc : A → PyData} {obj : List (A × V) → HO} {tnew : TE} {φ : Hp → V → B → Prop} {n : Nat} {f : A → Option B} {H : Hp} {v : V} {p C dx : Addr} {fs : List (Str × V)} {o' : HO} (E : Ke enc obj tnew) (P : Ph φ) (h : Tb obj φ n f H v) (hp : H p = some (.ins C dx fs)) : Tb obj φ n f (upd H p o') v := by
  obtain ⟨q, rfl, o⟩ := h
  refine ⟨q, rfl, o.up P hp rfl (fun _ z => nomatch z) ?_⟩
  rintro rfl
  obtain ⟨kvs, h1, _⟩ := o
  rw [hp] at h1
  exact E.noi _ _ _ _ (Option.some.inj h1).symm
theorem Ls.upI {K : PySem.W.Frag} {H : Hp} {v : V} {ds : List PyData} {p C dx : Addr} {fs : List (Str × V)} {o' : HO} (h : Ls K H v ds) (hp : H p = some (.ins C dx fs)) : Ls K (upd H p o') v ds := h.up hp rfl fun _ z => nomatch z
theorem putF_len (f : Str) (v : V) : ∀ fs : List (Str × V), (putF f v fs).length ≤ fs.length + 1
  | [] => Nat.le_refl _
  | (g, x) :: r => by
    rw [putF]
    split
    · simp
    · have := putF_len f v r
      simp only [List.length_cons]
      omega
/-- what __init__ does: from arguments that stood before the object to an object of which ψ is so -/
def spI (K : PySem.W.Frag) (C : Addr) (R : List Arg → (Hp → V → Prop) → Prop) : Sp := fun vs H Q _ => ∃ p dx vs' as ψ H0, vs = .ref p :: vs' ∧ H p = some (.ins C dx []) ∧ H0 p = none ∧ Ex H0 H ∧ Args K H0 vs' as ∧ R as ψ ∧
  ∀ H', Ex H0 H' → (∀ H3, Ex H' H3 → ψ H3 (.ref p)) → Q .non H'
theorem args_len {K : PySem.W.Frag} {H : Hp} : ∀ {vs : List V} {as : List Arg}, Args K H vs as → vs.length = as.length
  | [], [], _ => rfl
  | v :: vs, a :: as, h => by rw [List.length_cons, List.length_cons, args_len h.2]
  | [], _ :: _, h => h.elim
  | _ :: _, [], h => h.elim
theorem spI_len {K : PySem.W.Frag} {C : Addr} {R : List Arg → (Hp → V → Prop) → Prop} {n : Nat} (hR : ∀ as d, R as d → as.length = n) : ∀ vs H Q E, spI K C R vs H Q E → vs.length = n + 1 := by
  rintro vs H Q E ⟨p, dx, vs', as, ψ, H0, rfl, _, _, _, ha, hr, _⟩
  rw [List.length_cons, args_len ha, hR as ψ hr]
theorem spX_len {K : PySem.W.Frag} {R : List Arg → (Hp → V → Prop) → Prop} {n : Nat} (hR : ∀ as d, R as d → as.length = n) : ∀ vs H Q E, spX K R vs H Q E → vs.length = n := by
  rintro vs H Q E ⟨as, ψ, ha, hr, _⟩
  rw [args_len ha, hR as ψ hr]
theorem vx_make {K : PySem.W.Frag} {C : Addr} {R : List Arg → (Hp → V → Prop) → Prop} {ψ : Hp → V → Prop} {as : List Arg} {t : TA} {σ : L2.St} {H : Hp} {E : XK} (h : Va K t σ H as) (hr : R as ψ) : Vx (tMake C (spI K C R) [] E t) σ H ψ := fun H1 e Q q =>
  h H1 e _ fun vs H2 e2 ha x dx nx nd ne => by
    have ex : Ex H2 (upd (upd H2 dx (.own x)) x (.ins C dx [])) := fun b o hb => by
      rw [upd_ne (ne_of_none hb nx), upd_ne (ne_of_none hb nd)]
      exact hb
    exact ⟨x, dx, vs, as, ψ, H2, by rw [List.append_nil], upd_same, nx, ex, ha, hr, fun H' e' hp => ⟨rfl, q _ H' (e2.trans e') hp⟩⟩
end Dx

set_option Elab.async false
set_option linter.all false
set_option maxRecDepth 100000
set_option maxHeartbeats 2000000
namespace Wp
open PySem PySem.Spec PyProof.Rows L2 Evl Dx
open Gq03 (Basic Rule Fact)
/-! ### The text, by places -/
def top (i : Nat) : Stmt := PySem.Challenge.pw_whatmustbe_s01_answers.main.body.getD i (.Pass ⟨0, 0, 0, 0⟩)
abbrev s_is_node : Stmt := top 14
theorem sc_is_node : FnScope ["x"] ["x"] (defScope s_is_node) := ⟨rfl, rfl, rfl, by decide +kernel, rfl, by decide +kernel, by decide +kernel⟩
abbrev s_is_kind : Stmt := top 15
theorem sc_is_kind : FnScope ["k"] ["k"] (defScope s_is_kind) := ⟨rfl, rfl, rfl, by decide +kernel, rfl, by decide +kernel, by decide +kernel⟩
abbrev s_is_label : Stmt := top 16
theorem sc_is_label : FnScope ["a"] ["a"] (defScope s_is_label) := ⟨rfl, rfl, rfl, by decide +kernel, rfl, by decide +kernel, by decide +kernel⟩
abbrev s_is_direction : Stmt := top 17
theorem sc_is_direction : FnScope ["r"] ["r"] (defScope s_is_direction) := ⟨rfl, rfl, rfl, by decide +kernel, rfl, by decide +kernel, by decide +kernel⟩
abbrev s_is_basic : Stmt := top 18
theorem sc_is_basic : FnScope ["b"] ["b"] (defScope s_is_basic) := ⟨rfl, rfl, rfl, by decide +kernel, rfl, by decide +kernel, by decide +kernel⟩
abbrev s_nodes : Stmt := top 19
theorem sc_nodes : FnScope [] [] (defScope s_nodes) := ⟨rfl, rfl, rfl, by decide +kernel, rfl, by decide +kernel, by decide +kernel⟩
abbrev s_directions : Stmt := top 20
theorem sc_directions : FnScope [] [] (defScope s_directions) := ⟨rfl, rfl, rfl, by decide +kernel, rfl, by decide +kernel, by decide +kernel⟩
abbrev s_basics : Stmt := top 21
theorem sc_basics : FnScope ["k", "r"] [] (defScope s_basics) := ⟨rfl, rfl, rfl, by decide +kernel, rfl, by decide +kernel, by decide +kernel⟩
abbrev s_forward : Stmt := top 22
theorem sc_forward : FnScope ["a"] ["a"] (defScope s_forward) := ⟨rfl, rfl, rfl, by decide +kernel, rfl, by decide +kernel, by decide +kernel⟩
abbrev s_backward : Stmt := top 23
theorem sc_backward : FnScope ["a"] ["a"] (defScope s_backward) := ⟨rfl, rfl, rfl, by decide +kernel, rfl, by decide +kernel, by decide +kernel⟩
abbrev s_label : Stmt := top 24
theorem sc_label : FnScope ["r"] ["r"] (defScope s_label) := ⟨rfl, rfl, rfl, by decide +kernel, rfl, by decide +kernel, by decide +kernel⟩
abbrev s_is_forward : Stmt := top 25
theorem sc_is_forward : FnScope ["r"] ["r"] (defScope s_is_forward) := ⟨rfl, rfl, rfl, by decide +kernel, rfl, by decide +kernel, by decide +kernel⟩
abbrev s_turned : Stmt := top 26
theorem sc_turned : FnScope ["r"] ["r"] (defScope s_turned) := ⟨rfl, rfl, rfl, by decide +kernel, rfl, by decide +kernel, by decide +kernel⟩
/-! ### What the top has written -/
structure Txt (mg : Str → Option Value) : Prop where
  c_LAST_NODE : ∃ t, mg "LAST_NODE" = some (.int 8 t)
  c_LAST_KIND : ∃ t, mg "LAST_KIND" = some (.int 6 t)
  c_LAST_LABEL : ∃ t, mg "LAST_LABEL" = some (.int 4 t)
  c_FIRST_DIRECTION : ∃ t, mg "FIRST_DIRECTION" = some (.int 2 t)
  c_LAST_DIRECTION : ∃ t, mg "LAST_DIRECTION" = some (.int 9 t)
  c_OF_KIND : ∃ t, mg "OF_KIND" = some (.int 0 t)
  c_WITH_EDGE : ∃ t, mg "WITH_EDGE" = some (.int 1 t)
  c_KIND : ∃ t, mg "KIND" = some (.str "kind" t)
  c_EDGE : ∃ t, mg "EDGE" = some (.str "edge" t)
  c_SUB : ∃ t, mg "SUB" = some (.str "sub" t)
  c_ROLE : ∃ t, mg "ROLE" = some (.str "role" t)
  c_NEVER : ∃ t, mg "NEVER" = some (.str "never" t)
  c_NEVERROLE : ∃ t, mg "NEVERROLE" = some (.str "neverrole" t)
  c_NO_SUCH_NUMBER : ∃ t, mg "NO_SUCH_NUMBER" = some (.int (-1) t)
  c_NOT_THERE : ∃ t, mg "NOT_THERE" = some (.int (-2) t)
  c_FROM_NOTHING : ∃ t, mg "FROM_NOTHING" = some (.int (-3) t)
  c_TOLD_ALREADY : ∃ t, mg "TOLD_ALREADY" = some (.int (-4) t)
  c_FULL : ∃ t, mg "FULL" = some (.int (-5) t)
  c_MOST_TOLD : ∃ t, mg "MOST_TOLD" = some (.int 14 t)
  c_MOST_RULES : ∃ t, mg "MOST_RULES" = some (.int 12 t)
  c_MOST_STEPS : ∃ t, mg "MOST_STEPS" = some (.int 4 t)
  b_len : mg "len" = none
  b_all : mg "all" = none
  b_sorted : mg "sorted" = none
  b_enumerate : mg "enumerate" = none
  b_any : mg "any" = none
  b_list : mg "list" = none
  b_range : mg "range" = none
/-! ### Data -/
def eN (n : Nat) : PyData := .int (n : Int)
def eB : Basic → PyData
  | .kind k => .tuple [.int 0, .int (k : Int)]
  | .has r => .tuple [.int 1, .int (r : Int)]
def rIn (lo hi : Int) : List Dx.Arg → PyData → Prop := fun as d => ∃ x : Int, as = [.p (.int x)] ∧ d = .bool (decide (lo ≤ x) && decide (x ≤ hi))
def isB (s n : Int) : Bool := if s = 0 then decide (1 ≤ n) && decide (n ≤ 6) else decide (s = 1) && (decide (2 ≤ n) && decide (n ≤ 9))
def rIsB : List Dx.Arg → PyData → Prop := fun as d => ∃ s n : Int, as = [.p (.tuple [.int s, .int n])] ∧ d = .bool (isB s n)
def rRow (ds : List PyData) : List Dx.Arg → List PyData → Prop := fun as d => as = [] ∧ d = ds
def rNat (f : Nat → Nat) (c : Nat → Prop) : List Dx.Arg → PyData → Prop := fun as d => ∃ a : Nat, as = [.p (eN a)] ∧ c a ∧ d = eN (f a)
abbrev sp_is_node (K : PySem.W.Frag) : Sp := spV K (rIn 1 8)
abbrev sp_is_kind (K : PySem.W.Frag) : Sp := spV K (rIn 1 6)
abbrev sp_is_label (K : PySem.W.Frag) : Sp := spV K (rIn 1 4)
abbrev sp_is_direction (K : PySem.W.Frag) : Sp := spV K (rIn 2 9)
abbrev sp_is_basic (K : PySem.W.Frag) : Sp := spV K rIsB
abbrev sp_nodes (K : PySem.W.Frag) : Sp := spN K (rRow (Gq03.nodes.map eN))
abbrev sp_directions (K : PySem.W.Frag) : Sp := spN K (rRow (Gq03.roles.map eN))
abbrev sp_basics (K : PySem.W.Frag) : Sp := spN K (rRow (Gq03.basics.map eB))
abbrev sp_forward (K : PySem.W.Frag) : Sp := spV K (rNat (fun a => 2 * a) fun _ => True)
abbrev sp_backward (K : PySem.W.Frag) : Sp := spV K (rNat (fun a => 2 * a + 1) fun _ => True)
def rFwd : List Dx.Arg → PyData → Prop := fun as d => ∃ r : Nat, as = [.p (eN r)] ∧ d = .bool (decide (r % 2 = 0))
abbrev sp_label (K : PySem.W.Frag) : Sp := spV K (rNat (fun a => a / 2) fun _ => True)
abbrev sp_is_forward (K : PySem.W.Frag) : Sp := spV K rFwd
abbrev sp_turned (K : PySem.W.Frag) : Sp := spV K (rNat Gq03.turned fun r => 1 ≤ r)
section
variable {P : Program} {w : World} {K : PySem.W.Frag} {mg : Str → Option Value} {base : Heap}
/-! ### numbers -/
theorem rIn_len {lo hi : Int} : ∀ as d, rIn lo hi as d → as.length = 1 := by rintro as d ⟨x, rfl, _⟩; rfl
theorem ok_is_node (T : Txt mg) (F : At K mg "is_node" s_is_node ["x"]) : Def P w K mg base 1 "is_node" ["x"] (sp_is_node K) := by
  refine F.ok sc_is_node (spV_len rIn_len) fun f cdv A outer s H vs Q E hr h => ?_
  obtain ⟨as, d, ha, ⟨x, rfl, rfl⟩, q⟩ := h
  obtain ⟨v, rfl, hv⟩ := args1 ha
  have nd := sc_is_node.nd
  have hu := hu65 hr
  refine ⟨(tRet (tChain (rI0 fun i j => .bl (decide (i ≤ j))) (rI0 fun i j => .bl (decide (i ≤ j))) (tC (.int 1)) (tVar 0) (tC (.int (8))))), (pss_one (ps_ret (pe_chain op_le op_le pe_int (pv 0) (pe_gI T.c_LAST_NODE)))), ?_⟩
  exact s_retV (ve_chain ve_int (ve_var rfl hv) ve_int) q
theorem ok_is_kind (T : Txt mg) (F : At K mg "is_kind" s_is_kind ["k"]) : Def P w K mg base 1 "is_kind" ["k"] (sp_is_kind K) := by
  refine F.ok sc_is_kind (spV_len rIn_len) fun f cdv A outer s H vs Q E hr h => ?_
  obtain ⟨as, d, ha, ⟨x, rfl, rfl⟩, q⟩ := h
  obtain ⟨v, rfl, hv⟩ := args1 ha
  have nd := sc_is_kind.nd
  have hu := hu65 hr
  refine ⟨(tRet (tChain (rI0 fun i j => .bl (decide (i ≤ j))) (rI0 fun i j => .bl (decide (i ≤ j))) (tC (.int 1)) (tVar 0) (tC (.int (6))))), (pss_one (ps_ret (pe_chain op_le op_le pe_int (pv 0) (pe_gI T.c_LAST_KIND)))), ?_⟩
  exact s_retV (ve_chain ve_int (ve_var rfl hv) ve_int) q
theorem ok_is_label (T : Txt mg) (F : At K mg "is_label" s_is_label ["a"]) : Def P w K mg base 1 "is_label" ["a"] (sp_is_label K) := by
  refine F.ok sc_is_label (spV_len rIn_len) fun f cdv A outer s H vs Q E hr h => ?_
  obtain ⟨as, d, ha, ⟨x, rfl, rfl⟩, q⟩ := h
  obtain ⟨v, rfl, hv⟩ := args1 ha
  have nd := sc_is_label.nd
  have hu := hu65 hr
  refine ⟨(tRet (tChain (rI0 fun i j => .bl (decide (i ≤ j))) (rI0 fun i j => .bl (decide (i ≤ j))) (tC (.int 1)) (tVar 0) (tC (.int (4))))), (pss_one (ps_ret (pe_chain op_le op_le pe_int (pv 0) (pe_gI T.c_LAST_LABEL)))), ?_⟩
  exact s_retV (ve_chain ve_int (ve_var rfl hv) ve_int) q
theorem ok_is_direction (T : Txt mg) (F : At K mg "is_direction" s_is_direction ["r"]) : Def P w K mg base 1 "is_direction" ["r"] (sp_is_direction K) := by
  refine F.ok sc_is_direction (spV_len rIn_len) fun f cdv A outer s H vs Q E hr h => ?_
  obtain ⟨as, d, ha, ⟨x, rfl, rfl⟩, q⟩ := h
  obtain ⟨v, rfl, hv⟩ := args1 ha
  have nd := sc_is_direction.nd
  have hu := hu65 hr
  refine ⟨(tRet (tChain (rI0 fun i j => .bl (decide (i ≤ j))) (rI0 fun i j => .bl (decide (i ≤ j))) (tC (.int (2))) (tVar 0) (tC (.int (9))))), (pss_one (ps_ret (pe_chain op_le op_le (pe_gI T.c_FIRST_DIRECTION) (pv 0) (pe_gI T.c_LAST_DIRECTION)))), ?_⟩
  exact s_retV (ve_chain ve_int (ve_var rfl hv) ve_int) q
/-! ### basic ones -/
theorem rIsB_len : ∀ as d, rIsB as d → as.length = 1 := by rintro as d ⟨x, y, rfl, _⟩; rfl
theorem ok_is_basic (T : Txt mg) (D_is_kind : Def P w K mg base 1 "is_kind" ["k"] (sp_is_kind K)) (D_is_direction : Def P w K mg base 1 "is_direction" ["r"] (sp_is_direction K)) (F : At K mg "is_basic" s_is_basic ["b"]) : Def P w K mg base 2 "is_basic" ["b"] (sp_is_basic K) := by
  refine F.ok sc_is_basic (spV_len rIsB_len) fun f cdv A outer s H vs Q E hr h => ?_
  obtain ⟨as, d, ha, ⟨x, n, rfl, rfl⟩, q⟩ := h
  obtain ⟨v, rfl, hv⟩ := args1 ha
  have hv : Dt K H v (.tuple [.int x, .int n]) := hv
  have nd := sc_is_basic.nd
  have nd := sc_is_basic.nd
  have hu := hu65 hr
  refine ⟨(tSeq (tIfS (tTest (tOp rEq (tOp (rIxT K) (tVar 0) (tC (.int 0))) (tC (.int (0)))))
      (tRet (tCall (sp_is_kind K) [] E0 (tCons (tOp (rIxT K) (tVar 0) (tC (.int 1))) tNil)))
      tNext)
    (tRet (tAndV (tOp rEq (tOp (rIxT K) (tVar 0) (tC (.int 0))) (tC (.int (1)))) (tCall (sp_is_direction K) [] E0 (tCons (tOp (rIxT K) (tVar 0) (tC (.int 1))) tNil))))), (pss_cons (ps_if (pt_cmpR op_eq (pe_ix ix_tup (pv 0) pe_int (fun _ _ => rfl)) (pe_gI T.c_OF_KIND) (nomark _))
        (pss_one (ps_ret (pe_def D_is_kind (hr.mono (by decide)) (by rfl) (pa_cons (pe_ix ix_tup (pv 0) pe_int (fun _ _ => rfl)) pa_nil))))
        pss_nil)
      (pss_one (ps_ret (pe_and (pe_cmpR op_eq (pe_ix ix_tup (pv 0) pe_int (fun _ _ => rfl)) (pe_gI T.c_WITH_EDGE) (nomark _)) (pe_one (pe_def D_is_direction (hr.mono (by decide)) (by rfl) (pa_cons (pe_ix ix_tup (pv 0) pe_int (fun _ _ => rfl)) pa_nil))))))), ?_⟩
  refine q_when (vt_test (ve_eqI (i := x) (ve_ixT (i := 0) (ve_var rfl hv) ve_int rfl) ve_int)) (fun c H1 e1 => ?_) (fun c H1 e1 => ?_)
  · have c : x = 0 := of_decide_eq_true c
    refine s_retV (ve_call (va_p (ve_ixT (i := 1) (ve_var rfl (hv.ex e1)) ve_int rfl) va_nil) ⟨n, rfl, rfl⟩) fun v H2 e2 hv2 => q v H2 (e1.trans e2) ?_
    unfold isB
    rw [if_pos c]
    exact hv2
  · have c : ¬ x = 0 := of_decide_eq_false c
    refine s_retV (ve_andV (ve_eqI (i := x) (ve_ixT (i := 0) (ve_var rfl (hv.ex e1)) ve_int rfl) ve_int) fun _ => ve_call (va_p (ve_ixT (i := 1) (ve_var rfl (hv.ex e1)) ve_int rfl) va_nil) ⟨n, rfl, rfl⟩) fun v H2 e2 hv2 => q v H2 (e1.trans e2) ?_
    unfold isB
    rw [if_neg c]
    exact hv2
/-! ### rows of numbers -/
theorem rRow_len {ds : List PyData} : ∀ as d, rRow ds as d → as.length = 0 := by rintro as d ⟨rfl, _⟩; rfl
theorem ok_nodes (T : Txt mg) (F : At K mg "nodes" s_nodes []) : Def P w K mg base 1 "nodes" [] (sp_nodes K) := by
  refine F.ok sc_nodes (spN_len rRow_len) fun f cdv A outer s H vs Q E hr h => ?_
  obtain ⟨as, d, ha, ⟨rfl, rfl⟩, q⟩ := h
  cases args0 ha
  have nd := sc_nodes.nd
  have hu := hu65 hr
  refine ⟨(tRet (tLstRg (tRg2 (tC (.int 1)) (tOp (rI0 fun i j => .int (i + j)) (tC (.int (8))) (tC (.int 1)))))), (pss_one (ps_ret (pe_listRg rfl (by rfl) T.b_list (prg_2 (by rfl) T.b_range pe_int (pe_op op_add (pe_gI T.c_LAST_NODE) pe_int))))), ?_⟩
  exact s_retN (vn_listRg (lo := 1) (hi := 8 + 1) 8 ve_int (ve_I0 (g := (· + ·)) ve_int ve_int) (by decide) (by decide) (by decide)) q
theorem ok_directions (T : Txt mg) (F : At K mg "directions" s_directions []) : Def P w K mg base 1 "directions" [] (sp_directions K) := by
  refine F.ok sc_directions (spN_len rRow_len) fun f cdv A outer s H vs Q E hr h => ?_
  obtain ⟨as, d, ha, ⟨rfl, rfl⟩, q⟩ := h
  cases args0 ha
  have nd := sc_directions.nd
  have hu := hu65 hr
  refine ⟨(tRet (tLstRg (tRg2 (tC (.int (2))) (tOp (rI0 fun i j => .int (i + j)) (tC (.int (9))) (tC (.int 1)))))), (pss_one (ps_ret (pe_listRg rfl (by rfl) T.b_list (prg_2 (by rfl) T.b_range (pe_gI T.c_FIRST_DIRECTION) (pe_op op_add (pe_gI T.c_LAST_DIRECTION) pe_int))))), ?_⟩
  exact s_retN (vn_listRg (lo := 2) (hi := 9 + 1) 8 ve_int (ve_I0 (g := (· + ·)) ve_int ve_int) (by decide) (by decide) (by decide)) q
theorem ok_basics (T : Txt mg) (D_directions : Def P w K mg base 1 "directions" [] (sp_directions K)) (F : At K mg "basics" s_basics []) : Def P w K mg base 2 "basics" [] (sp_basics K) := by
  refine F.ok sc_basics (spN_len rRow_len) fun f cdv A outer s H vs Q E hr h => ?_
  obtain ⟨as, d, ha, ⟨rfl, rfl⟩, q⟩ := h
  cases args0 ha
  have nd := sc_basics.nd
  have nd := sc_basics.nd
  have hu := hu65 hr
  refine ⟨(tRet (tOp rCat (tLc (iRng2 (tCons (tC (.int 1)) (tCons (tOp (rI0 fun i j => .int (i + j)) (tC (.int (6))) (tC (.int 1))) tNil))) (gName 0) tYes (tTup (tCons (tC (.int (0))) (tCons (tVar 0) tNil))) [0]) (tLc (iList K (tCall (sp_directions K) [] E0 tNil)) (gName 1) tYes (tTup (tCons (tC (.int (1))) (tCons (tVar 1) tNil))) [1]))), (pss_one (ps_ret (pe_op op_cat (pe_lc (own := [("k", 0)]) (g := (gName 0)) (tt := tYes) (te := (tTup (tCons (tC (.int (0))) (tCons (tVar 0) tNil)))) rfl nd (pi_range2 (by rfl) T.b_range (pa_cons pe_int (pa_cons (pe_op op_add (pe_gI T.c_LAST_KIND) pe_int) pa_nil))) (blkOk_by (own := [("k", 0)]) (N := ["k", "r"]) (sc := defScope s_basics) (by decide +kernel)) (fun _ _ _ _ _ => by exact (pg_name (i := 0) nd rfl (Or.inl rfl))) (fun _ _ _ _ _ => by exact pts_nil) (fun _ _ _ _ _ => by exact (pe_tup (pa_cons (pe_gI T.c_OF_KIND) (pa_cons (pv 0) pa_nil))))) (pe_lc (own := [("r", 1)]) (g := (gName 1)) (tt := tYes) (te := (tTup (tCons (tC (.int (1))) (tCons (tVar 1) tNil)))) rfl nd (pi_list (pe_def0 D_directions (hr.mono (by decide)) (by rfl))) (blkOk_by (own := [("r", 1)]) (N := ["k", "r"]) (sc := defScope s_basics) (by decide +kernel)) (fun _ _ _ _ _ => by exact (pg_name (i := 1) nd rfl (Or.inl rfl))) (fun _ _ _ _ _ => by exact pts_nil) (fun _ _ _ _ _ => by exact (pe_tup (pa_cons (pe_gI T.c_WITH_EDGE) (pa_cons (pv 1) pa_nil)))))))), ?_⟩
  refine s_retN (vn_cat (vn_lcR (lo := 1) (hi := 6 + 1) 6 (fun _ => true) (fun i => .tuple [.int 0, .int (1 + (i : Int))]) (va_p ve_int (va_p (ve_I0 (g := (· + ·)) ve_int ve_int) va_nil)) (by decide) (by decide) (by decide) ?_)
    (vn_lc Gq03.roles eN (fun _ => true) (fun r => .tuple [.int 1, eN r]) (vn_call va_nil ⟨rfl, rfl⟩).l (by decide) ?_) (by decide)) q
  · intro i hi H1 e1
    exact ⟨[some (.int (1 + (i : Int))), none], fun Q h => h, rfl, fun H2 e2 Q q => q H2 (Ex.refl H2), fun _ => ve_tup [.int 0, .int (1 + (i : Int))] (va_p ve_int (va_p (ve_var rfl .int) va_nil)) (by simp)⟩
  · intro r hr v H1 e1 hv
    exact ⟨[none, some v], fun Q h => h, rfl, fun H2 e2 Q q => q H2 (Ex.refl H2), fun _ => ve_tup [.int 1, eN r] (va_p ve_int (va_p (ve_var rfl hv) va_nil)) (by simp)⟩
/-! ### directions -/
theorem rNat_len {f : Nat → Nat} {c : Nat → Prop} : ∀ as d, rNat f c as d → as.length = 1 := by rintro as d ⟨x, rfl, _⟩; rfl
theorem ok_forward (T : Txt mg) (F : At K mg "forward" s_forward ["a"]) : Def P w K mg base 1 "forward" ["a"] (sp_forward K) := by
  refine F.ok sc_forward (spV_len rNat_len) fun f cdv A outer s H vs Q E hr h => ?_
  obtain ⟨as, d, ha, ⟨a, rfl, _, rfl⟩, q⟩ := h
  obtain ⟨v, rfl, hv⟩ := args1 ha
  have nd := sc_forward.nd
  have hu := hu65 hr
  refine ⟨(tRet (tOp (rI CMul fun i j => .int (i * j)) (tC (.int 2)) (tVar 0))), (pss_one (ps_ret (pe_op op_mul pe_int (pv 0)))), ?_⟩
  exact s_retV ((ve_I (g := (· * ·)) (i := 2) (j := (a : Int)) (.inl ⟨by decide, by decide⟩) ve_int (ve_var rfl hv)).to (by unfold eN; congr 1)) q
theorem ok_backward (T : Txt mg) (F : At K mg "backward" s_backward ["a"]) : Def P w K mg base 1 "backward" ["a"] (sp_backward K) := by
  refine F.ok sc_backward (spV_len rNat_len) fun f cdv A outer s H vs Q E hr h => ?_
  obtain ⟨as, d, ha, ⟨a, rfl, _, rfl⟩, q⟩ := h
  obtain ⟨v, rfl, hv⟩ := args1 ha
  have nd := sc_backward.nd
  have hu := hu65 hr
  refine ⟨(tRet (tOp (rI0 fun i j => .int (i + j)) (tOp (rI CMul fun i j => .int (i * j)) (tC (.int 2)) (tVar 0)) (tC (.int 1)))), (pss_one (ps_ret (pe_op op_add (pe_op op_mul pe_int (pv 0)) pe_int))), ?_⟩
  exact s_retV ((ve_I0 (g := (· + ·)) (ve_I (g := (· * ·)) (i := 2) (j := (a : Int)) (.inl ⟨by decide, by decide⟩) ve_int (ve_var rfl hv)) ve_int).to (by unfold eN; congr 1)) q
theorem ok_label (T : Txt mg) (F : At K mg "label" s_label ["r"]) : Def P w K mg base 1 "label" ["r"] (sp_label K) := by
  refine F.ok sc_label (spV_len rNat_len) fun f cdv A outer s H vs Q E hr h => ?_
  obtain ⟨as, d, ha, ⟨r, rfl, _, rfl⟩, q⟩ := h
  obtain ⟨v, rfl, hv⟩ := args1 ha
  have nd := sc_label.nd
  have hu := hu65 hr
  refine ⟨(tRet (tOp (rI CDiv fun i j => .int (i / j)) (tVar 0) (tC (.int 2)))), (pss_one (ps_ret (pe_op op_fdiv (pv 0) pe_int))), ?_⟩
  exact s_retV ((ve_I (g := (· / ·)) (i := (r : Int)) (j := 2) (by unfold CDiv; omega) (ve_var rfl hv) ve_int).to (by unfold eN; congr 1)) q
theorem rFwd_len : ∀ as d, rFwd as d → as.length = 1 := by rintro as d ⟨x, rfl, _⟩; rfl
theorem ok_is_forward (T : Txt mg) (F : At K mg "is_forward" s_is_forward ["r"]) : Def P w K mg base 1 "is_forward" ["r"] (sp_is_forward K) := by
  refine F.ok sc_is_forward (spV_len rFwd_len) fun f cdv A outer s H vs Q E hr h => ?_
  obtain ⟨as, d, ha, ⟨r, rfl, rfl⟩, q⟩ := h
  obtain ⟨v, rfl, hv⟩ := args1 ha
  have nd := sc_is_forward.nd
  have hu := hu65 hr
  refine ⟨(tRet (tOp rEq (tOp (rI (fun _ j => 0 < j) fun i j => .int (i % j)) (tVar 0) (tC (.int 2))) (tC (.int 0)))), (pss_one (ps_ret (pe_cmpR op_eq (pe_op op_mod (pv 0) pe_int) pe_int (nomark _)))), ?_⟩
  refine s_retV ((ve_eqI (ve_I (g := (· % ·)) (i := (r : Int)) (j := 2) (by decide) (ve_var rfl hv) ve_int) ve_int).to ?_) q
  congr 1
  rw [Bool.eq_iff_iff, decide_eq_true_iff, decide_eq_true_iff]
  omega
theorem ok_turned (T : Txt mg) (D_is_forward : Def P w K mg base 1 "is_forward" ["r"] (sp_is_forward K)) (F : At K mg "turned" s_turned ["r"]) : Def P w K mg base 2 "turned" ["r"] (sp_turned K) := by
  refine F.ok sc_turned (spV_len rNat_len) fun f cdv A outer s H vs Q E hr h => ?_
  obtain ⟨as, d, ha, ⟨r, rfl, c, rfl⟩, q⟩ := h
  obtain ⟨v, rfl, hv⟩ := args1 ha
  have nd := sc_turned.nd
  have hu := hu65 hr
  refine ⟨(tRet (tIf (tB (tCall (sp_is_forward K) [] E0 (tCons (tVar 0) tNil))) (tOp (rI0 fun i j => .int (i + j)) (tVar 0) (tC (.int 1))) (tOp (rI0 fun i j => .int (i - j)) (tVar 0) (tC (.int 1))))), (pss_one (ps_ret (pe_ifExp (pt_val (pe_def D_is_forward (hr.mono (by decide)) (by rfl) (pa_cons (pv 0) pa_nil))) (pe_op op_add (pv 0) pe_int) (pe_op op_sub (pv 0) pe_int)))), ?_⟩
  refine s_retV (ve_if (vt_B (ve_call (va_p (ve_var rfl hv) va_nil) ⟨r, rfl, rfl⟩)) (fun c => ?_) (fun c => ?_)) q
  · have c' : r % 2 = 0 := of_decide_eq_true c
    refine (ve_I0 (g := (· + ·)) (ve_var rfl hv) ve_int).to ?_
    have e : Gq03.turned r = r + 1 := if_pos c'
    rw [e]
    rfl
  · have c' : ¬ r % 2 = 0 := of_decide_eq_false c
    refine (ve_I0 (g := (· - ·)) (ve_var rfl hv) ve_int).to ?_
    have e : Gq03.turned r = r - 1 := if_neg c'
    rw [e]
    unfold eN
    congr 1
    omega
end
end Wp

set_option Elab.async false
set_option linter.all false
set_option maxRecDepth 100000
set_option maxHeartbeats 2000000
namespace Dx
open PySem L2 Evl
/-! ### Data that are told apart -/
structure Enc {A : Type} [DecidableEq A] (enc : A → PyData) : Prop where
  lay : ∀ a, (enc a).canLay0 = true
  dep : ∀ a, (enc a).depth ≤ 10
  eq : ∀ a b, PyData.eqv (enc a) (enc b) = decide (a = b)
theorem layAll {A : Type} {enc : A → PyData} (h : ∀ a, (enc a).canLay0 = true) : ∀ l : List A, PyData.canLayAll0 (l.map enc) = true
  | [] => by simp [PyData.canLayAll0]
  | a :: l => by simp [PyData.canLayAll0, h a, layAll h l]
theorem depAll {A : Type} {enc : A → PyData} (h : ∀ a, (enc a).depth ≤ 10) : ∀ l : List A, PyData.depthAll (l.map enc) ≤ 10
  | [] => by simp [PyData.depthAll]
  | a :: l => by
    have h1 := depAll h l
    have h2 := h a
    simp only [List.map_cons, PyData.depthAll]
    omega
section
variable {A : Type} [DecidableEq A] {enc : A → PyData}
theorem Enc.shaped (E : Enc enc) (a : A) : SeqAt.shaped (enc a) = true := by
  show ((enc a).canLay0 && decide ((enc a).depth ≤ 64)) = true
  rw [Bool.and_eq_true]
  exact ⟨E.lay a, decide_eq_true (by have := E.dep a; omega)⟩
theorem Enc.shapedL (E : Enc enc) (l : List A) : SeqAt.shaped (.list (l.map enc)) = true := by
  have h1 := depAll E.dep l
  have h2 : PyData.depth (.list (l.map enc)) ≤ 64 := by
    simp only [PyData.depth]
    omega
  show (PyData.canLay0 (.list (l.map enc)) && decide (PyData.depth (.list (l.map enc)) ≤ 64)) = true
  rw [Bool.and_eq_true]
  exact ⟨by simp only [PyData.canLay0]; exact layAll E.lay l, decide_eq_true h2⟩
theorem Enc.any (E : Enc enc) (a : A) : ∀ l : List A, ((l.map enc).any fun z => PyData.eqv z (enc a)) = l.contains a
  | [] => rfl
  | b :: l => by
    rw [List.map_cons, List.any_cons, Enc.any E a l, E.eq, List.contains_cons]
    congr 1
    rw [Bool.eq_iff_iff]
    simp
    exact ⟨fun h => h.symm, fun h => h.symm⟩
end
section
variable {A : Type} [DecidableEq A] {enc : A → PyData} {K : PySem.W.Frag} {σ : L2.St} {H : Hp} {ta tb : TE}
theorem ve_inE (E : Enc enc) {a : A} {l : List A} (ha : Ve K ta σ H (enc a)) (hb : Vl K tb σ H (l.map enc)) : Ve K (tOp (rInD K) ta tb) σ H (.bool (l.contains a)) := by
  rw [← E.any]
  exact ve_inD ha hb (E.shaped a) (E.shapedL l)
theorem ve_notInE (E : Enc enc) {a : A} {l : List A} (ha : Ve K ta σ H (enc a)) (hb : Vl K tb σ H (l.map enc)) : Ve K (tOp (rNotInD K) ta tb) σ H (.bool (!l.contains a)) := by
  rw [← E.any]
  exact ve_notInD ha hb (E.shaped a) (E.shapedL l)
theorem ve_eqE (E : Enc enc) {a b : A} (ha : Ve K ta σ H (enc a)) (hb : Ve K tb σ H (enc b)) : Ve K (tOp (rEqD K) ta tb) σ H (.bool (decide (a = b))) := by
  rw [← E.eq]
  exact ve_eqD ha hb (E.shaped a) (E.shaped b)
end
def ePair {A : Type} (enc : A → PyData) (s : A × A) : PyData := .tuple [enc s.1, enc s.2]
section
variable {K : PySem.W.Frag} {H : Hp} {v : V} {d1 d2 d3 : PyData} {i j k : Nat}
theorem g_pair (h : Dt K H v (.tuple [d1, d2])) : ∃ x1 x2, Dt K H x1 d1 ∧ Dt K H x2 d2 ∧ ∀ (σ : L2.St) (Q : L2.St → Hp → Prop), Q ((σ.set i (some x1)).set j (some x2)) H → gTup K 2 (gCons (gName i) (gCons (gName j) gNil)) v σ H Q := by
  obtain ⟨a, xs, rfl, hs, hx⟩ := h.tup_eq
  obtain ⟨x1, r, rfl, h1, hr⟩ := hx.uncons
  obtain ⟨x2, r, rfl, h2, hr⟩ := hr.uncons
  cases hr.nil_eq
  exact ⟨x1, x2, h1, h2, fun σ Q q => ⟨a, [x1, x2], rfl, hs, rfl, x1, [x2], rfl, x2, [], rfl, rfl, q⟩⟩
theorem g_triple (h : Dt K H v (.tuple [d1, d2, d3])) : ∃ x1 x2 x3, Dt K H x1 d1 ∧ Dt K H x2 d2 ∧ Dt K H x3 d3 ∧ ∀ (σ : L2.St) (Q : L2.St → Hp → Prop), Q (((σ.set i (some x1)).set j (some x2)).set k (some x3)) H → gTup K 3 (gCons (gName i) (gCons (gName j) (gCons (gName k) gNil))) v σ H Q := by
  obtain ⟨a, xs, rfl, hs, hx⟩ := h.tup_eq
  obtain ⟨x1, r, rfl, h1, hr⟩ := hx.uncons
  obtain ⟨x2, r, rfl, h2, hr⟩ := hr.uncons
  obtain ⟨x3, r, rfl, h3, hr⟩ := hr.uncons
  cases hr.nil_eq
  exact ⟨x1, x2, x3, h1, h2, h3, fun σ Q q => ⟨a, [x1, x2, x3], rfl, hs, rfl, x1, [x2, x3], rfl, x2, [x3], rfl, x3, [], rfl, rfl, q⟩⟩
theorem Own.ne {p q : Addr} {ds : List PyData} (h : Own K H p ds) (n : H q = none) : p ≠ q := by
  obtain ⟨xs, hx, _⟩ := h
  exact ne_of_none hx n
theorem et_yes {σ : L2.St} : EvT tYes σ H true := fun H1 _ _ q => q H1 (Ex.refl H1)
end
end Dx
namespace Wp
open PySem PySem.Spec PyProof.Rows L2 Evl Dx
open Gq03 (Basic Rule Fact)
open Wm (reachedM reachM fuel mu uni succs)
abbrev s_reached : Stmt := top 29
theorem sc_reached : FnScope ["starts", "steps", "found", "waiting", "one", "before", "after"] ["starts", "steps"] (defScope s_reached) := ⟨rfl, rfl, rfl, by decide +kernel, rfl, by decide +kernel, by decide +kernel⟩
def rReach {A : Type} [DecidableEq A] (enc : A → PyData) : List Dx.Arg → List PyData → Prop := fun as ds => ∃ starts steps, as = [.l (starts.map enc), .l (steps.map (ePair enc))] ∧ starts.length ≤ 300 ∧ steps.length ≤ 1600 ∧ ds = (reachedM starts steps).map enc
theorem rReach_len {A : Type} [DecidableEq A] {enc : A → PyData} : ∀ as d, rReach enc as d → as.length = 2 := by rintro as d ⟨x, y, rfl, _⟩; rfl
section
variable {P : Program} {w : World} {K : PySem.W.Frag} {mg : Str → Option Value} {base : Heap}
theorem ok_reached {A : Type} [DecidableEq A] {enc : A → PyData} (E : Enc enc) (T : Txt mg) (F : At K mg "reached" s_reached ["starts", "steps"]) : Def P w K mg base 1 "reached" ["starts", "steps"] (spN K (rReach enc)) := by
  refine F.ok sc_reached (spN_len rReach_len) fun f cdv AA outer s H vs Q EE hr h => ?_
  obtain ⟨as, d, ha, ⟨starts, steps, rfl, l1, l2, rfl⟩, q⟩ := h
  obtain ⟨v1, v2, rfl, hv1, hv2⟩ := args2 ha
  have hv1 : Ls K H v1 (starts.map enc) := hv1
  have hv2 : Ls K H v2 (steps.map (ePair enc)) := hv2
  have nd := sc_reached.nd
  have hu := hu65 hr
  refine ⟨(tSeq (tAsg (tLst tNil) (gName 2))
    (tSeq (tAsg (tCB (rListS K) (tCons (tVar 0) tNil)) (gName 3))
    (tSeq (tWhile (tTest (tOp (rI0 fun i j => .bl (decide (j < i))) (tCB (rLenS K) (tCons (tVar 3) tNil)) (tC (.int 0))))
      (tSeq (tAsg (tBM0 K "list" rPop (tVar 3)) (gName 4))
    (tIfS (tTest (tOp (rNotInD K) (tVar 4) (tVar 2)))
      (tSeq (tDrop (tBM K "list" rAppend (tVar 2) (tCons (tVar 4) tNil)))
    (tDrop (tBM K "list" rExtend (tVar 3) (tCons (tLc (iList K (tVar 1)) (gTup K 2 (gCons (gName 5) (gCons (gName 6) gNil))) (tTest (tOp (rEqD K) (tVar 5) (tVar 4))) (tVar 6) [5, 6]) tNil))))
      tNext)))
    (tRet (tVar 2))))), (pss_cons (ps_set (i := 2) nd rfl (Or.inl rfl) (pe_lst pa_nil))
      (pss_cons (ps_set (i := 3) nd rfl (Or.inl rfl) (pe_callTy call_list_of (by rfl) T.b_list (by decide +kernel) (pa_cons (pv 0) pa_nil)))
      (pss_cons (ps_while PassesOwn.never (pt_cmpR op_gt (pe_callB call_len_seq (by rfl) T.b_len PySem.boot_len (pa_cons (pv 3) pa_nil)) pe_int (nomark _))
        (pss_cons (ps_set (i := 4) nd rfl (Or.inr rfl) (pe_bm0 PySem.F.plainAttrs_list PySem.F.slot_list_pop PySem.F.type_list_pop mt_pop (pv 3)))
      (pss_one (ps_if (pt_cmpR (op_notInD hu) (pv 4) (pv 2) (by rfl))
        (pss_cons (ps_expr (pe_bm PySem.F.plainAttrs_list PySem.F.slot_list_append PySem.F.type_list_append mt_append (pv 2) (pa_cons (pv 4) pa_nil)))
      (pss_one (ps_expr (pe_bm PySem.F.plainAttrs_list PySem.F.slot_list_extend PySem.F.type_list_extend mt_extend (pv 3) (pa_cons (pe_lc (own := [("before", 5), ("after", 6)]) (g := (gTup K 2 (gCons (gName 5) (gCons (gName 6) gNil)))) (tt := (tTest (tOp (rEqD K) (tVar 5) (tVar 4)))) (te := (tVar 6)) rfl nd (pi_list (pv 1)) (blkOk_by (own := [("before", 5), ("after", 6)]) (N := ["starts", "steps", "found", "waiting", "one", "before", "after"]) (sc := defScope s_reached) (by decide +kernel)) (fun _ _ _ _ _ => by exact (pg_tup rfl (pgs_cons (pg_name (i := 5) nd rfl (Or.inl rfl)) (pgs_cons (pg_name (i := 6) nd rfl (Or.inl rfl)) pgs_nil)))) (fun _ _ _ _ _ => by exact (pts_one (pt_cmpR (op_eqD hr.units) (pv 5) (pv 4) (nomark _)))) (fun _ _ _ _ _ => by exact (pv 6))) pa_nil)))))
        pss_nil))))
      (pss_one (ps_ret (pv 2)))))), ?_⟩
  refine q_setN (vn_lst (K := K) [] va_nil (by simp)) fun fo H1 nf e1 of => ?_
  refine q_setN (vn_list (vl_var rfl (hv1.ex e1))) fun wa H2 nw e2 ow => ?_
  have ne : fo ≠ wa := of.ne nw
  have nw0 : H wa = none := fresh_back e1 nw
  have hU : ∀ x y, (x, y) ∈ steps → y ∈ uni starts steps := Wm.uni_step
  have hfuel : fuel starts steps ≤ 4000000 := by
    unfold fuel
    have h1 : (starts.length + steps.length) * steps.length ≤ 1900 * 1600 := Nat.mul_le_mul (by omega) l2
    omega
  have hul : (uni starts steps).length ≤ 1900 := by
    unfold uni
    rw [List.length_append, List.length_map]
    omega
  refine q_while (fun m σ' H' => ∃ Wl Fl o b a, σ' = [some v1, some v2, some (.ref fo), some (.ref wa), o, b, a] ∧ Ex H H' ∧ Own K H' fo (Fl.map enc) ∧ Own K H' wa (Wl.map enc) ∧ Wm.Walk (uni starts steps) steps Wl Fl ∧ mu (uni starts steps) steps Wl Fl ≤ m ∧ reachM steps m Wl Fl = reachedM starts steps ∧ m ≤ fuel starts steps)
    (fuel starts steps) ⟨starts, [], none, none, none, rfl, e1.trans e2, of.ex e2, ow, Wm.Walk.start _ _, Wm.mu_start _ _, rfl, Nat.le_refl _⟩ ?_
  rintro m σ' H' ⟨Wl, Fl, o, b, a, rfl, ex, of', ow', wk, hm, hR, hmf⟩
  have hwl : Wl.length ≤ mu (uni starts steps) steps Wl Fl := Nat.le_add_right _ _
  refine ⟨_, vt_test (ve_B0 (g := fun i j => decide (j < i)) (ve_len (vo_var rfl ow').l) ve_int), fun hb H3 e3 => ?_, fun hb H3 e3 => ?_⟩
  · have hb : (0 : Int) < ((Wl.map enc).length : Int) := of_decide_eq_true hb
    rw [List.length_map] at hb
    rcases List.eq_nil_or_concat Wl with e | ⟨W', x, e⟩
    · subst e; simp at hb
    rw [List.concat_eq_append] at e
    subst e
    have xU : x ∈ uni starts steps := wk.ws x (List.mem_append.mpr (.inr (List.mem_singleton.mpr rfl)))
    obtain ⟨m, rfl⟩ : ∃ m', m = m' + 1 := ⟨m - 1, by have := Wm.mu_old (U := uni starts steps) (steps := steps) (W := W') (F := Fl) (a := x); omega⟩
    refine ⟨_, fun σ2 H2 h => h, ?_⟩
    have ow3 := ow'.ex e3
    rw [List.map_append] at ow3
    refine q_pop (ds := W'.map enc) (d := enc x) ow3 rfl fun v H4 b4 t4 ow4 hv => ?_
    have ex4 : Ex H H4 := Exb.ex nw0 (ex.trans e3) b4
    have of4 : Own K H4 fo (Fl.map enc) := b4.own ne t4 (of'.ex e3)
    refine s_when (vt_test (ve_notInD (ve_var rfl hv) (vo_var rfl of4).l (E.shaped x) (E.shapedL Fl))) (fun c H5 e5 => ?_) (fun c H5 e5 => ?_)
    · rw [E.any] at c
      have c : x ∉ Fl := fun q => by rw [List.contains_iff_mem.mpr q] at c; cases c
      have fl := wk.len
      refine q_app (of4.ex e5) rfl (ve_var rfl (hv.ex e5)) (by rw [List.length_map]; omega) fun H6 b6 t6 of6 => ?_
      have ex6 : Ex H H6 := Exb.ex nf (ex4.trans e5) b6
      have ow6 : Own K H6 wa (W'.map enc) := b6.own ne.symm t6 (ow4.ex e5)
      have hv6 : Dt K H6 v (enc x) := (hv.ex e5).tx t6
      refine s_ext ow6 rfl (Vn.o (vn_lc steps (ePair enc) (fun s => decide (s.1 = x)) (fun s => enc s.2) (vl_var rfl (hv2.ex ex6)) (by omega) ?_)) ?_ fun H7 b7 t7 ow7 => ?_
      · intro st hst w H8 e8 hw
        obtain ⟨x1, x2, h1, h2, hg⟩ := g_pair (i := 5) (j := 6) hw
        refine ⟨_, hg _, rfl, ?_, fun _ => ve_var rfl h2⟩
        show EvT _ _ H8 (decide (st.1 = x))
        rw [← E.eq]
        exact vt_test (ve_eqD (ve_var rfl h1) (ve_var rfl (hv6.ex e8)) (E.shaped st.1) (E.shaped x))
      · have e := Wm.succs_len (steps := steps) (a := x)
        unfold succs at e
        rw [List.length_map] at e
        rw [List.length_map, List.length_map]
        rw [List.length_append] at hwl
        omega
      · refine ⟨m, Nat.lt_succ_self m, W' ++ succs steps x, Fl ++ [x], some v, b, a, rfl, Exb.ex nw0 ex6 b7, ?_, ?_, wk.new hU c, ?_, ?_, by omega⟩
        · rw [List.map_append]
          exact b7.own ne t7 of6
        · rw [List.map_append]
          have e : (succs steps x).map enc = (steps.filter fun s => decide (s.1 = x)).map fun s => enc s.2 := by
            unfold succs
            rw [List.map_map] <;> rfl
          rw [e]
          exact ow7
        · have := Wm.mu_new (steps := steps) (W := W') xU c; omega
        · rw [← hR, Wm.reachM_new c]
    · rw [E.any] at c
      have c : x ∈ Fl := List.contains_iff_mem.mp (by simpa using c)
      refine ⟨m, Nat.lt_succ_self m, W', Fl, some v, b, a, rfl, ex4.trans e5, of4.ex e5, ow4.ex e5, wk.old, ?_, ?_, by omega⟩
      · have := Wm.mu_old (U := uni starts steps) (steps := steps) (W := W') (F := Fl) (a := x); omega
      · rw [← hR, Wm.reachM_old c]
  · have hb : ¬ (0 : Int) < ((Wl.map enc).length : Int) := of_decide_eq_false hb
    rw [List.length_map] at hb
    have e : Wl = [] := List.eq_nil_of_length_eq_zero (by omega)
    subst e
    rw [Wm.reachM_nil] at hR
    subst hR
    exact s_retO rfl (q fo H3 nf (ex.trans e3) (of'.ex e3))
end
end Wp

set_option Elab.async false
set_option linter.all false
set_option maxRecDepth 100000
set_option maxHeartbeats 2000000
namespace Wp
open PySem PySem.Spec PyProof.Rows L2 Evl Dx
open Gq03 (Basic Rule Fact)
open Wm (reachedM dirSteps subSteps basSteps farSteps forbN clashM badM afterD afterB allM allInto)
/-! ### Data of rules and of what's told -/
def eR : Rule → PyData
  | .sub b c => .tuple [.str "sub", eB b, eB c]
  | .role r s => .tuple [.str "role", eN r, eN s]
  | .never b c => .tuple [.str "never", eB b, eB c]
  | .neverRole r s => .tuple [.str "neverrole", eN r, eN s]
def eF : Fact → PyData
  | .kind x k => .tuple [.str "kind", eN x, eN k]
  | .edge x a y => .tuple [.str "edge", eN x, eN a, eN y]
theorem encN : Enc eN where
  lay := fun _ => rfl
  dep := fun _ => by simp [eN, PyData.depth]
  eq := fun a b => by
    show ((a : Int) == (b : Int)) = decide (a = b)
    rw [Bool.eq_iff_iff, beq_iff_eq, decide_eq_true_iff]
    omega
theorem eB_eqv (b c : Basic) : PyData.eqv (eB b) (eB c) = decide (b = c) := by
  cases b with
  | kind k => cases c with
    | kind l =>
      show (((0 : Int) == 0) && (((k : Int) == (l : Int)) && true)) = _
      rw [Bool.eq_iff_iff]
      simp
      omega
    | has r =>
      show (((0 : Int) == 1) && (((k : Int) == (r : Int)) && true)) = _
      rw [Bool.eq_iff_iff]
      simp
  | has k => cases c with
    | kind l =>
      show (((1 : Int) == 0) && (((k : Int) == (l : Int)) && true)) = _
      rw [Bool.eq_iff_iff]
      simp
    | has r =>
      show (((1 : Int) == 1) && (((k : Int) == (r : Int)) && true)) = _
      rw [Bool.eq_iff_iff]
      simp
      exact ⟨fun h => Int.ofNat.inj h, fun h => by rw [h]⟩
theorem encB : Enc eB where
  lay := fun b => by cases b <;> simp [eB, PyData.canLay0, PyData.canLayAll0]
  dep := fun b => by cases b <;> simp [eB, PyData.depth, PyData.depthAll]
  eq := eB_eqv
abbrev sp_reachedN (K : PySem.W.Frag) : Sp := spN K (rReach eN)
abbrev sp_reachedB (K : PySem.W.Frag) : Sp := spN K (rReach eB)
/-! ### Tables -/
def kB : Basic → Nat × Nat
  | .kind k => (0, k)
  | .has r => (1, r)
theorem kB_inj (a b : Basic) (h : kB a = kB b) : a = b := by
  cases a <;> cases b <;> simp [kB] at h <;> rw [h]
abbrev objB : List (Basic × V) → HO := objP kB
theorem keB : Ke eB objB tDNewT := by
  have := keP kB_inj
  have e : (fun a : Basic => PyData.tuple [.int ((kB a).1 : Int), .int ((kB a).2 : Int)]) = eB := by
    funext a
    cases a <;> rfl
  rw [e] at this
  exact this
theorem keNat : Ke eN objN tDNewK := keN
abbrev LsP (K : PySem.W.Frag) : Hp → V → List PyData → Prop := fun H v ds => Ls K H v ds
abbrev s_reached_from_each : Stmt := top 30
theorem sc_reached_from_each : FnScope ["starts", "steps", "table", "start"] ["starts", "steps"] (defScope s_reached_from_each) := ⟨rfl, rfl, rfl, by decide +kernel, rfl, by decide +kernel, by decide +kernel⟩
abbrev s_reached_from_all : Stmt := top 31
theorem sc_reached_from_all : FnScope ["table", "starts", "found", "start", "one"] ["table", "starts"] (defScope s_reached_from_all) := ⟨rfl, rfl, rfl, by decide +kernel, rfl, by decide +kernel, by decide +kernel⟩
abbrev s_direction_steps : Stmt := top 32
theorem sc_direction_steps : FnScope ["rules", "steps", "word", "r", "s"] ["rules"] (defScope s_direction_steps) := ⟨rfl, rfl, rfl, by decide +kernel, rfl, by decide +kernel, by decide +kernel⟩
abbrev s_basic_steps : Stmt := top 33
theorem sc_basic_steps : FnScope ["rules", "steps", "word", "b", "c", "r", "s"] ["rules"] (defScope s_basic_steps) := ⟨rfl, rfl, rfl, by decide +kernel, rfl, by decide +kernel, by decide +kernel⟩
abbrev s_forbids : Stmt := top 34
theorem sc_forbids : FnScope ["laws", "word", "ones", "rule"] ["laws", "word", "ones"] (defScope s_forbids) := ⟨rfl, rfl, rfl, by decide +kernel, rfl, by decide +kernel, by decide +kernel⟩
abbrev s_clashes : Stmt := top 35
theorem sc_clashes : FnScope ["laws", "b"] ["laws", "b"] (defScope s_clashes) := ⟨rfl, rfl, rfl, by decide +kernel, rfl, by decide +kernel, by decide +kernel⟩
abbrev s_bad_ones : Stmt := top 36
theorem sc_bad_ones : FnScope ["laws", "far_ends", "steps", "clashing", "found", "r", "b", "before", "after"] ["laws"] (defScope s_bad_ones) := ⟨rfl, rfl, rfl, by decide +kernel, rfl, by decide +kernel, by decide +kernel⟩
def rEach (K : PySem.W.Frag) {A : Type} [DecidableEq A] (enc : A → PyData) (obj : List (A × V) → HO) : List Dx.Arg → (Hp → V → Prop) → Prop := fun as ψ => ∃ (starts : List A) (steps : List (A × A)), as = [.l (starts.map enc), .l (steps.map (ePair enc))] ∧ starts.length ≤ 100 ∧ steps.length ≤ 100 ∧
  ψ = Tb obj (LsP K) starts.length (fun a => if starts.contains a = true then some ((reachedM [a] steps).map enc) else none)
theorem rEach_len {K : PySem.W.Frag} {A : Type} [DecidableEq A] {enc : A → PyData} {obj : List (A × V) → HO} : ∀ as d, rEach K enc obj as d → as.length = 2 := by rintro as d ⟨x, y, rfl, _⟩; rfl
def rAll (K : PySem.W.Frag) {A : Type} [DecidableEq A] (enc : A → PyData) (obj : List (A × V) → HO) : List Dx.Arg → List PyData → Prop := fun as ds => ∃ (n : Nat) (f : A → Option (List PyData)) (tab : A → List A) (starts : List A), as = [.x (Tb obj (LsP K) n f), .l (starts.map enc)] ∧
  (∀ s ∈ starts, f s = some ((tab s).map enc) ∧ (tab s).length ≤ 100) ∧ starts.length ≤ 100 ∧ ds = (allM tab starts).map enc
theorem rAll_len {K : PySem.W.Frag} {A : Type} [DecidableEq A] {enc : A → PyData} {obj : List (A × V) → HO} : ∀ as d, rAll K enc obj as d → as.length = 2 := by rintro as d ⟨_, _, _, y, rfl, _⟩; rfl
abbrev sp_reached_from_eachN (K : PySem.W.Frag) : Sp := spX K (rEach K eN objN)
abbrev sp_reached_from_eachB (K : PySem.W.Frag) : Sp := spX K (rEach K eB objB)
abbrev sp_reached_from_allN (K : PySem.W.Frag) : Sp := spN K (rAll K eN objN)
abbrev sp_reached_from_allB (K : PySem.W.Frag) : Sp := spN K (rAll K eB objB)
/-! ### The laws -/
structure ClL (K : PySem.W.Frag) (C : Addr) : Prop where
  cl : Cls K C
  n_rules : NoAttr K C "rules"
  n_after_direction : NoAttr K C "after_direction"
  n_after_basic : NoAttr K C "after_basic"
  n_bad : NoAttr K C "bad"
def tabD (rs : List Rule) (r : Nat) : Option (List PyData) := if Gq03.roles.contains r = true then some ((reachedM [r] (dirSteps rs)).map eN) else none
def tabB (rs : List Rule) (b : Basic) : Option (List PyData) := if Gq03.basics.contains b = true then some ((reachedM [b] (basSteps rs)).map eB) else none
def fRules (K : PySem.W.Frag) (rs : List Rule) : Hp → V → Prop := fun H v => Ls K H v (rs.map eR)
def fDir (K : PySem.W.Frag) (rs : List Rule) : Hp → V → Prop := Tb objN (LsP K) 8 (tabD rs)
def fBas (K : PySem.W.Frag) (rs : List Rule) : Hp → V → Prop := Tb objB (LsP K) 14 (tabB rs)
def fBad (K : PySem.W.Frag) (rs : List Rule) : Hp → V → Prop := fun H v => Ls K H v ((badM rs).map eB)
structure IsLaws (K : PySem.W.Frag) (C : Addr) (rs : List Rule) (H : Hp) (v : V) : Prop where
  rules : HasF C "rules" (fRules K rs) H v
  dir : HasF C "after_direction" (fDir K rs) H v
  bas : HasF C "after_basic" (fBas K rs) H v
structure IsLawsB (K : PySem.W.Frag) (C : Addr) (rs : List Rule) (H : Hp) (v : V) : Prop extends IsLaws K C rs H v where
  bad : HasF C "bad" (fBad K rs) H v
section
variable {K : PySem.W.Frag} {C : Addr} {rs : List Rule} {H H' : Hp} {v : V} {σ : L2.St} {te ty : TE}
theorem fRules_ex (H H' : Hp) (v : V) (e : Ex H H') (h : fRules K rs H v) : fRules K rs H' v := Ls.ex h e
theorem fDir_ex (H H' : Hp) (v : V) (e : Ex H H') (h : fDir K rs H v) : fDir K rs H' v := Tb.ex (phL K) h e
theorem fBas_ex (H H' : Hp) (v : V) (e : Ex H H') (h : fBas K rs H v) : fBas K rs H' v := Tb.ex (phL K) h e
theorem fBad_ex (H H' : Hp) (v : V) (e : Ex H H') (h : fBad K rs H v) : fBad K rs H' v := Ls.ex h e
theorem IsLaws.ex (h : IsLaws K C rs H v) (e : Ex H H') : IsLaws K C rs H' v := ⟨h.rules.ex fRules_ex e, h.dir.ex fDir_ex e, h.bas.ex fBas_ex e⟩
theorem IsLawsB.ex (h : IsLawsB K C rs H v) (e : Ex H H') : IsLawsB K C rs H' v := ⟨h.toIsLaws.ex e, h.bad.ex fBad_ex e⟩
theorem vx_lw {i : Nat} (hs : σ[i]? = some (some v)) (h : ∀ H', Ex H H' → IsLawsB K C rs H' v) : Vx (tVar i) σ H (IsLaws K C rs) := vx_var hs fun H' e' => (h H' e').toIsLaws
theorem vl_rules (X : ClL K C) (h : Vx te σ H (IsLaws K C rs)) : Vl K (tFld K te "rules") σ H (rs.map eR) := (vx_fld X.cl X.n_rules (h.imp fun _ _ h => h.rules)).l
theorem vx_dir (X : ClL K C) (h : Vx te σ H (IsLaws K C rs)) : Vx (tFld K te "after_direction") σ H (fDir K rs) := vx_fld X.cl X.n_after_direction (h.imp fun _ _ h => h.dir)
theorem vx_bas (X : ClL K C) (h : Vx te σ H (IsLaws K C rs)) : Vx (tFld K te "after_basic") σ H (fBas K rs) := vx_fld X.cl X.n_after_basic (h.imp fun _ _ h => h.bas)
theorem vl_bad (X : ClL K C) (h : Vx te σ H (IsLawsB K C rs)) : Vl K (tFld K te "bad") σ H ((badM rs).map eB) := (vx_fld X.cl X.n_bad (h.imp fun _ _ h => h.bad)).l
theorem tabD_at {r : Nat} (hr : r ∈ Gq03.roles) : tabD rs r = some ((afterD rs r).map eN) := by
  unfold tabD
  rw [if_pos (List.contains_iff_mem.mpr hr)]
  rfl
theorem tabB_at {b : Basic} (hb : b ∈ Gq03.basics) : tabB rs b = some ((afterB rs b).map eB) := by
  unfold tabB
  rw [if_pos (List.contains_iff_mem.mpr hb)]
  rfl
theorem vl_after (X : ClL K C) (h : Vx te σ H (IsLaws K C rs)) {r : Nat} (hr : r ∈ Gq03.roles) (hy : Ve K ty σ H (eN r)) : Vl K (tDGet (tFld K te "after_direction") ty) σ H ((afterD rs r).map eN) := vl_dget keNat (vx_dir X h) hy (tabD_at hr)
theorem vl_afterB (X : ClL K C) (h : Vx te σ H (IsLaws K C rs)) {b : Basic} (hb : b ∈ Gq03.basics) (hy : Ve K ty σ H (eB b)) : Vl K (tDGet (tFld K te "after_basic") ty) σ H ((afterB rs b).map eB) := vl_dget keB (vx_bas X h) hy (tabB_at hb)
end
/-- a def of the rules alone: a row -/
def rRules {A : Type} (f : List Rule → List A) (enc : A → PyData) : List Dx.Arg → List PyData → Prop := fun as ds => ∃ rs : List Rule, as = [.l (rs.map eR)] ∧ Wm.OkRules rs ∧ rs.length ≤ 12 ∧ ds = (f rs).map enc
theorem rRules_len {A : Type} {f : List Rule → List A} {enc : A → PyData} : ∀ as d, rRules f enc as d → as.length = 1 := by rintro as d ⟨x, rfl, _⟩; rfl
abbrev sp_direction_steps (K : PySem.W.Frag) : Sp := spN K (rRules dirSteps (ePair eN))
abbrev sp_basic_steps (K : PySem.W.Frag) : Sp := spN K (rRules basSteps (ePair eB))
def rForbN (K : PySem.W.Frag) (CL : Addr) : List Dx.Arg → PyData → Prop := fun as d => ∃ (rs : List Rule) (l : List Nat), as = [.x (IsLaws K CL rs), .p (.str "neverrole"), .l (l.map eN)] ∧ rs.length ≤ 12 ∧ d = .bool (forbN rs l)
theorem rForbN_len {K : PySem.W.Frag} {CL : Addr} : ∀ as d, rForbN K CL as d → as.length = 3 := by rintro as d ⟨x, y, rfl, _⟩; rfl
def rForbB (K : PySem.W.Frag) (CL : Addr) : List Dx.Arg → PyData → Prop := fun as d => ∃ (rs : List Rule) (l : List Basic), as = [.x (IsLaws K CL rs), .p (.str "never"), .l (l.map eB)] ∧ rs.length ≤ 12 ∧ d = .bool (Gq03.neverBoth rs l)
theorem rForbB_len {K : PySem.W.Frag} {CL : Addr} : ∀ as d, rForbB K CL as d → as.length = 3 := by rintro as d ⟨x, y, rfl, _⟩; rfl
abbrev sp_forbidsN (K : PySem.W.Frag) (CL : Addr) : Sp := spV K (rForbN K CL)
abbrev sp_forbidsB (K : PySem.W.Frag) (CL : Addr) : Sp := spV K (rForbB K CL)
def rClash (K : PySem.W.Frag) (CL : Addr) : List Dx.Arg → PyData → Prop := fun as d => ∃ (rs : List Rule) (b : Basic), as = [.x (IsLaws K CL rs), .p (eB b)] ∧ b ∈ Gq03.basics ∧ rs.length ≤ 12 ∧ d = .bool (clashM rs b)
theorem rClash_len {K : PySem.W.Frag} {CL : Addr} : ∀ as d, rClash K CL as d → as.length = 2 := by rintro as d ⟨x, y, rfl, _⟩; rfl
abbrev sp_clashes (K : PySem.W.Frag) (CL : Addr) : Sp := spV K (rClash K CL)
def rBad (K : PySem.W.Frag) (CL : Addr) : List Dx.Arg → List PyData → Prop := fun as ds => ∃ rs : List Rule, as = [.x (IsLaws K CL rs)] ∧ Wm.OkRules rs ∧ rs.length ≤ 12 ∧ ds = (badM rs).map eB
theorem rBad_len {K : PySem.W.Frag} {CL : Addr} : ∀ as d, rBad K CL as d → as.length = 1 := by rintro as d ⟨x, rfl, _⟩; rfl
abbrev sp_bad_ones (K : PySem.W.Frag) (CL : Addr) : Sp := spN K (rBad K CL)
theorem roles_pos {r : Nat} (h : r ∈ Gq03.roles) : 1 ≤ r := by have := Wm.mem_roles.mp h; omega
section
variable {P : Program} {w : World} {K : PySem.W.Frag} {mg : Str → Option Value} {base : Heap} {CL : Addr}
def rWord : Rule → Str
  | .sub _ _ => "sub"
  | .role _ _ => "role"
  | .never _ _ => "never"
  | .neverRole _ _ => "neverrole"
def rOne : Rule → PyData
  | .sub b _ => eB b
  | .role r _ => eN r
  | .never b _ => eB b
  | .neverRole r _ => eN r
def rTwo : Rule → PyData
  | .sub _ b => eB b
  | .role _ r => eN r
  | .never _ b => eB b
  | .neverRole _ r => eN r
theorem eR_three (x : Rule) : eR x = .tuple [.str (rWord x), rOne x, rTwo x] := by cases x <;> rfl
theorem flat_more {A B : Type} {f : A → List B} {l : List A} {i : Nat} {x : A} (h : l[i]? = some x) : (l.take (i + 1)).flatMap f = (l.take i).flatMap f ++ f x := by
  rw [take_more h, List.flatMap_append]
  simp
theorem ok_reached_from_each {A : Type} [DecidableEq A] {enc : A → PyData} {obj : List (A × V) → HO} {tnew : TE} (E : Ke enc obj tnew) (hn : ∀ X pos, PE X (.Dict [] [] pos) tnew) (T : Txt mg) (D_reachedE : Def P w K mg base 1 "reached" ["starts", "steps"] (spN K (rReach enc)))
    (F : At K mg "reached_from_each" s_reached_from_each ["starts", "steps"]) : Def P w K mg base 2 "reached_from_each" ["starts", "steps"] (spX K (rEach K enc obj)) := by
  refine F.ok sc_reached_from_each (spX_len rEach_len) fun f cdv AA outer s H vs Q EE hr h => ?_
  obtain ⟨as, d, ha, ⟨starts, steps, rfl, l1, l2, rfl⟩, q⟩ := h
  obtain ⟨v1, v2, rfl, hv1, hv2⟩ := args2 ha
  have hv1 : Ls K H v1 (starts.map enc) := hv1
  have hv2 : Ls K H v2 (steps.map (ePair enc)) := hv2
  have nd := sc_reached_from_each.nd
  have hu := hu65 hr
  refine ⟨(tSeq (tAsg tnew (gName 2))
    (tSeq (tFor (iList K (tVar 0)) (gName 3)
      (sDPut (tVar 2) (tVar 3) (tCall (spN K (rReach enc)) [] E0 (tCons (tLst (tCons (tVar 3) tNil)) (tCons (tVar 1) tNil)))))
    (tRet (tVar 2)))), (pss_cons (ps_set (i := 2) nd rfl (Or.inl rfl) (hn _ _))
      (pss_cons (ps_for PassesOwn.never rfl (pi_list (pv 0)) (pg_name (i := 3) nd rfl (Or.inl rfl))
        (pss_one (ps_dput (hu1 hr) (pv 2) (pv 3) (pe_def D_reachedE (hr.mono (by decide)) (by rfl) (pa_cons (pe_lst (pa_cons (pv 3) pa_nil)) (pa_cons (pv 1) pa_nil))) (by rfl))))
      (pss_one (ps_ret (pv 2))))), ?_⟩
  refine q_dnew (φ := LsP K) E fun p H1 np e1 ot => ?_
  refine q_forX starts enc (v1 := v1) rfl (fun i σ' H' => ∃ a, σ' = [some v1, some v2, some (.ref p), a] ∧ Ex H H' ∧ Ot obj (LsP K) i (fun a => if (starts.take i).contains a = true then some ((reachedM [a] steps).map enc) else none) H' p) ⟨none, rfl, e1, ot.mono (fun k b h => by simp at h) (Nat.le_refl _)⟩
    (fun i σ' H' hi h => ?_) (fun i x y σ' H' hx hy h => ?_) (fun σ' H' h => ?_)
  · obtain ⟨a, rfl, ex, o⟩ := h
    exact hv1.ex ex
  · obtain ⟨a, rfl, ex, o⟩ := h
    have hi : i < starts.length := (List.getElem?_eq_some_iff.mp hx).1
    refine s_dput E (phL K) (b := (reachedM [x] steps).map enc) (ev_var rfl) o (by omega) (ve_var rfl hy) (vn_call (va_l (vn_lst [enc x] (va_p (ve_var rfl hy) va_nil) (by simp)).l (va_l (vl_var rfl (hv2.ex ex)) va_nil)) ⟨[x], steps, rfl, by simp, by omega, rfl⟩).l.x fun H2 H3 kvs w e2 eq h2 b3 t3 o3 => ?_
    refine ⟨some y, rfl, Exb.ex np ex b3, o3.mono (fun k b h => ?_) (Nat.le_refl _)⟩
    rw [take_more hx] at h
    by_cases ek : k = x
    · rw [if_pos ek]
      rw [if_pos (by rw [ek]; simp)] at h
      rw [← h, ek]
    · rw [if_neg ek]
      by_cases c : (starts.take i).contains k = true
      · rw [if_pos c]
        rw [if_pos (by simp; exact .inl (by simpa using c))] at h
        exact h
      · rw [if_neg (by simp; exact ⟨by simpa using c, fun z => ek z⟩)] at h
        cases h
  · obtain ⟨a, rfl, ex, o⟩ := h
    rw [List.take_length] at o
    exact s_retO rfl (q _ H' ex fun H3 e3 => (o.ex (phL K) e3).tb)
theorem ok_reached_from_all {A : Type} [DecidableEq A] {enc : A → PyData} {obj : List (A × V) → HO} {tnew : TE} (EE : Enc enc) (E : Ke enc obj tnew) (T : Txt mg)
    (F : At K mg "reached_from_all" s_reached_from_all ["table", "starts"]) : Def P w K mg base 1 "reached_from_all" ["table", "starts"] (spN K (rAll K enc obj)) := by
  refine F.ok sc_reached_from_all (spN_len rAll_len) fun f cdv AA outer s H vs Q _ hr h => ?_
  obtain ⟨as, d, ha, ⟨n, g, tab, starts, rfl, ht, l1, rfl⟩, q⟩ := h
  obtain ⟨v1, v2, rfl, hv1, hv2⟩ := args2 ha
  have hv1 : ∀ H', Ex H H' → Tb obj (LsP K) n g H' v1 := hv1
  have hv2 : Ls K H v2 (starts.map enc) := hv2
  have nd := sc_reached_from_all.nd
  have hu := hu65 hr
  refine ⟨(tSeq (tAsg (tLst tNil) (gName 2))
    (tSeq (tFor (iList K (tVar 1)) (gName 3)
      (tDrop (tBM K "list" rExtend (tVar 2) (tCons (tLc (iList K (tDGet (tVar 0) (tVar 3))) (gName 4) (tTest (tOp (rNotInD K) (tVar 4) (tVar 2))) (tVar 4) [4]) tNil))))
    (tRet (tVar 2)))), (pss_cons (ps_set (i := 2) nd rfl (Or.inr rfl) (pe_lst pa_nil))
      (pss_cons (ps_for PassesOwn.never rfl (pi_list (pv 1)) (pg_name (i := 3) nd rfl (Or.inl rfl))
        (pss_one (ps_expr (pe_bm PySem.F.plainAttrs_list PySem.F.slot_list_extend PySem.F.type_list_extend mt_extend (pv 2) (pa_cons (pe_lc (own := [("one", 4)]) (g := (gName 4)) (tt := (tTest (tOp (rNotInD K) (tVar 4) (tVar 2)))) (te := (tVar 4)) rfl nd (pi_list (pe_dget (hu1 hr) (pv 0) (pv 3) (fun _ _ => rfl))) (blkOk_by (own := [("one", 4)]) (N := ["table", "starts", "found", "start", "one"]) (sc := defScope s_reached_from_all) (by decide +kernel)) (fun _ _ _ _ _ => by exact (pg_name (i := 4) nd rfl (Or.inl rfl))) (fun _ _ _ _ _ => by exact (pts_one (pt_cmpR (op_notInD hu) (pv 4) (pv 2) (by rfl)))) (fun _ _ _ _ _ => by exact (pv 4))) pa_nil)))))
      (pss_one (ps_ret (pv 2))))), ?_⟩
  refine q_setN (vn_lst (K := K) [] va_nil (by simp)) fun p H1 np e1 op => ?_
  refine q_forX starts enc (v1 := v2) rfl (fun i σ' H' => ∃ a, σ' = [some v1, some v2, some (.ref p), a, none] ∧ Ex H H' ∧ Own K H' p ((allInto tab [] (starts.take i)).map enc) ∧ (allInto tab [] (starts.take i)).length ≤ 100 * i) ⟨none, rfl, e1, op, Nat.zero_le _⟩
    (fun i σ' H' hi h => ?_) (fun i x y σ' H' hx hy h => ?_) (fun σ' H' h => ?_)
  · obtain ⟨a, rfl, ex, o, _⟩ := h
    exact hv2.ex ex
  · obtain ⟨a, rfl, ex, o, hl⟩ := h
    have hi : i < starts.length := (List.getElem?_eq_some_iff.mp hx).1
    obtain ⟨t1, t2⟩ := ht x (List.mem_of_getElem? hx)
    have fl : ((tab x).filter fun one => !(allInto tab [] (starts.take i)).contains one).length ≤ 100 := Nat.le_trans (List.length_filter_le _ _) t2
    refine s_ext o rfl (Vn.o (vn_lc (tab x) enc (fun one => !(allInto tab [] (starts.take i)).contains one) enc (vl_dget E (vx_var rfl fun H' e' => hv1 H' (ex.trans e')) (ve_var rfl hy) t1) (by omega) ?_)) (by rw [List.length_map, List.length_map]; omega) fun H3 b3 t3 o3 => ?_
    · intro one hone v H3 e3 hv
      exact ⟨[some v1, some v2, some (.ref p), some y, some v], fun Q h => h, rfl, vt_test (ve_notInE EE (ve_var rfl hv) (vo_var rfl (o.ex e3)).l), fun _ => ve_var rfl hv⟩
    · refine ⟨some y, rfl, Exb.ex np ex b3, ?_, ?_⟩
      · rw [take_more hx, Wm.allInto_more, List.map_append]
        exact o3
      · rw [take_more hx, Wm.allInto_more, List.length_append]
        omega
  · obtain ⟨a, rfl, ex, o, _⟩ := h
    rw [List.take_length] at o
    exact s_retO rfl (q p H' np ex o)
theorem ok_direction_steps (T : Txt mg) (D_turned : Def P w K mg base 2 "turned" ["r"] (sp_turned K)) (F : At K mg "direction_steps" s_direction_steps ["rules"]) : Def P w K mg base 3 "direction_steps" ["rules"] (sp_direction_steps K) := by
  refine F.ok sc_direction_steps (spN_len rRules_len) fun f cdv AA outer s H vs Q EE hr h => ?_
  obtain ⟨as, d, ha, ⟨rs, rfl, ok, l12, rfl⟩, q⟩ := h
  obtain ⟨v1, rfl, hv1⟩ := args1 ha
  have hv1 : Ls K H v1 (rs.map eR) := hv1
  have nd := sc_direction_steps.nd
  refine ⟨(tSeq (tAsg (tLst tNil) (gName 1))
    (tSeq (tFor (iList K (tVar 0)) (gTup K 3 (gCons (gName 2) (gCons (gName 3) (gCons (gName 4) gNil))))
      (tIfS (tTest (tOp rEq (tVar 2) (tC (.str "role"))))
      (tSeq (tDrop (tBM K "list" rAppend (tVar 1) (tCons (tTup (tCons (tVar 3) (tCons (tVar 4) tNil))) tNil)))
    (tDrop (tBM K "list" rAppend (tVar 1) (tCons (tTup (tCons (tCall (sp_turned K) [] E0 (tCons (tVar 3) tNil)) (tCons (tCall (sp_turned K) [] E0 (tCons (tVar 4) tNil)) tNil))) tNil))))
      tNext))
    (tRet (tVar 1)))), (pss_cons (ps_set (i := 1) nd rfl (Or.inl rfl) (pe_lst pa_nil))
      (pss_cons (ps_for PassesOwn.never rfl (pi_list (pv 0)) (pg_tup rfl (pgs_cons (pg_name (i := 2) nd rfl (Or.inl rfl)) (pgs_cons (pg_name (i := 3) nd rfl (Or.inl rfl)) (pgs_cons (pg_name (i := 4) nd rfl (Or.inl rfl)) pgs_nil))))
        (pss_one (ps_if (pt_cmpR op_eq (pv 2) (pe_gS T.c_ROLE) (nomark _))
        (pss_cons (ps_expr (pe_bm PySem.F.plainAttrs_list PySem.F.slot_list_append PySem.F.type_list_append mt_append (pv 1) (pa_cons (pe_tup (pa_cons (pv 3) (pa_cons (pv 4) pa_nil))) pa_nil)))
      (pss_one (ps_expr (pe_bm PySem.F.plainAttrs_list PySem.F.slot_list_append PySem.F.type_list_append mt_append (pv 1) (pa_cons (pe_tup (pa_cons (pe_def D_turned (hr.mono (by decide)) (by rfl) (pa_cons (pv 3) pa_nil)) (pa_cons (pe_def D_turned (hr.mono (by decide)) (by rfl) (pa_cons (pv 4) pa_nil)) pa_nil))) pa_nil)))))
        pss_nil)))
      (pss_one (ps_ret (pv 1))))), ?_⟩
  refine q_setN (vn_lst (K := K) [] va_nil (by simp)) fun p H1 np e1 op => ?_
  refine q_forX rs eR (v1 := v1) rfl (fun i σ' H' => ∃ a b c, σ' = [some v1, some (.ref p), a, b, c] ∧ Ex H H' ∧ Own K H' p ((dirSteps (rs.take i)).map (ePair eN))) ⟨none, none, none, rfl, e1, op⟩
    (fun i σ' H' hi h => ?_) (fun i x y σ' H' hx hy h => ?_) (fun σ' H' h => ?_)
  · obtain ⟨a, b, c, rfl, ex, o⟩ := h
    exact hv1.ex ex
  · obtain ⟨a, b, c, rfl, ex, o⟩ := h
    rw [eR_three] at hy
    obtain ⟨x1, x2, x3, h1, h2, h3, hg⟩ := g_triple (i := 2) (j := 3) (k := 4) hy
    refine hg _ _ ?_
    have step : dirSteps (rs.take (i + 1)) = dirSteps (rs.take i) ++ _ := flat_more hx
    refine s_when (vt_test (ve_eqS (ve_var rfl h1) ve_str)) (fun c H2 e2 => ?_) (fun c H2 e2 => ?_)
    · have c : rWord x = "role" := of_decide_eq_true c
      cases x with
      | role r s =>
        have okx := ok _ (List.mem_of_getElem? hx)
        have h2 : Dt K H2 x2 (eN r) := h2.ex e2
        have h3 : Dt K H2 x3 (eN s) := h3.ex e2
        have len := Wm.dirSteps_len (rs.take i)
        have len2 : (rs.take i).length ≤ 12 := by rw [List.length_take]; omega
        refine q_app (o.ex e2) rfl (ve_tup [eN r, eN s] (va_p (ve_var rfl h2) (va_p (ve_var rfl h3) va_nil)) (by simp)) (by rw [List.length_map]; omega) fun H3 b3 t3 o3 => ?_
        have ex3 : Ex H H3 := Exb.ex np (ex.trans e2) b3
        refine s_app o3 rfl (ve_tup [eN (Gq03.turned r), eN (Gq03.turned s)] (va_p (ve_call (va_p (ve_var rfl (h2.tx t3)) va_nil) ⟨r, rfl, roles_pos okx.1, rfl⟩) (va_p (ve_call (va_p (ve_var rfl (h3.tx t3)) va_nil) ⟨s, rfl, roles_pos okx.2, rfl⟩) va_nil)) (by simp))
          (by rw [List.length_append, List.length_map, List.length_singleton]; omega) fun H4 b4 t4 o4 => ?_
        refine ⟨some x1, some x2, some x3, rfl, Exb.ex np ex3 b4, ?_⟩
        rw [step, List.map_append]
        rw [List.append_assoc] at o4
        exact o4
      | sub => exact absurd (show ("sub" : Str) = "role" from c) (by decide)
      | never => exact absurd (show ("never" : Str) = "role" from c) (by decide)
      | neverRole => exact absurd (show ("neverrole" : Str) = "role" from c) (by decide)
    · have c : ¬ rWord x = "role" := of_decide_eq_false c
      refine ⟨some x1, some x2, some x3, rfl, ex.trans e2, ?_⟩
      rw [step, List.map_append]
      cases x with
      | role => exact absurd rfl c
      | sub => rw [List.map_nil, List.append_nil]; exact o.ex e2
      | never => rw [List.map_nil, List.append_nil]; exact o.ex e2
      | neverRole => rw [List.map_nil, List.append_nil]; exact o.ex e2
  · obtain ⟨a, b, c, rfl, ex, o⟩ := h
    rw [List.take_length] at o
    exact s_retO rfl (q p H' np ex o)
theorem ok_basic_steps (T : Txt mg) (D_direction_steps : Def P w K mg base 3 "direction_steps" ["rules"] (sp_direction_steps K)) (F : At K mg "basic_steps" s_basic_steps ["rules"]) : Def P w K mg base 4 "basic_steps" ["rules"] (sp_basic_steps K) := by
  refine F.ok sc_basic_steps (spN_len rRules_len) fun f cdv AA outer s H vs Q EE hr h => ?_
  obtain ⟨as, d, ha, ⟨rs, rfl, ok, l12, rfl⟩, q⟩ := h
  obtain ⟨v1, rfl, hv1⟩ := args1 ha
  have hv1 : Ls K H v1 (rs.map eR) := hv1
  have nd := sc_basic_steps.nd
  refine ⟨(tSeq (tAsg (tLc (iList K (tCall (sp_direction_steps K) [] E0 (tCons (tVar 0) tNil))) (gTup K 2 (gCons (gName 5) (gCons (gName 6) gNil))) tYes (tTup (tCons (tTup (tCons (tC (.int (1))) (tCons (tVar 5) tNil))) (tCons (tTup (tCons (tC (.int (1))) (tCons (tVar 6) tNil))) tNil))) [5, 6]) (gName 1))
    (tSeq (tFor (iList K (tVar 0)) (gTup K 3 (gCons (gName 2) (gCons (gName 3) (gCons (gName 4) gNil))))
      (tIfS (tTest (tOp rEq (tVar 2) (tC (.str "sub"))))
      (tDrop (tBM K "list" rAppend (tVar 1) (tCons (tTup (tCons (tVar 3) (tCons (tVar 4) tNil))) tNil)))
      tNext))
    (tRet (tVar 1)))), (pss_cons (ps_setLc (i := 1) (own := [("r", 5), ("s", 6)]) (g := (gTup K 2 (gCons (gName 5) (gCons (gName 6) gNil)))) (tt := tYes) (te := (tTup (tCons (tTup (tCons (tC (.int (1))) (tCons (tVar 5) tNil))) (tCons (tTup (tCons (tC (.int (1))) (tCons (tVar 6) tNil))) tNil)))) rfl nd rfl rfl (sw_true rfl rfl rfl (by decide +kernel)) (pi_list (pe_def D_direction_steps (hr.mono (by decide)) (by rfl) (pa_cons (pv 0) pa_nil))) (blkOk_by (own := [("r", 5), ("s", 6)]) (N := ["rules", "steps", "word", "b", "c", "r", "s"]) (sc := defScope s_basic_steps) (by decide +kernel)) (fun _ _ _ _ _ => by exact (pg_tup rfl (pgs_cons (pg_name (i := 5) nd rfl (Or.inl rfl)) (pgs_cons (pg_name (i := 6) nd rfl (Or.inl rfl)) pgs_nil)))) (fun _ _ _ _ _ => by exact pts_nil) (fun _ _ _ _ _ => by exact (pe_tup (pa_cons (pe_tup (pa_cons (pe_gI T.c_WITH_EDGE) (pa_cons (pv 5) pa_nil))) (pa_cons (pe_tup (pa_cons (pe_gI T.c_WITH_EDGE) (pa_cons (pv 6) pa_nil))) pa_nil)))))
      (pss_cons (ps_for PassesOwn.never rfl (pi_list (pv 0)) (pg_tup rfl (pgs_cons (pg_name (i := 2) nd rfl (Or.inl rfl)) (pgs_cons (pg_name (i := 3) nd rfl (Or.inl rfl)) (pgs_cons (pg_name (i := 4) nd rfl (Or.inl rfl)) pgs_nil))))
        (pss_one (ps_if (pt_cmpR op_eq (pv 2) (pe_gS T.c_SUB) (nomark _))
        (pss_one (ps_expr (pe_bm PySem.F.plainAttrs_list PySem.F.slot_list_append PySem.F.type_list_append mt_append (pv 1) (pa_cons (pe_tup (pa_cons (pv 3) (pa_cons (pv 4) pa_nil))) pa_nil))))
        pss_nil)))
      (pss_one (ps_ret (pv 1))))), ?_⟩
  have dl := Wm.dirSteps_len rs
  refine q_setN (vn_map (dirSteps rs) (ePair eN) (fun p => ePair eB (Basic.has p.1, Basic.has p.2)) (vn_call (va_l (vl_var rfl hv1) va_nil) ⟨rs, rfl, ok, l12, rfl⟩).l (by omega) ?_) fun p H1 np e1 op => ?_
  · intro st hst v H1 e1 hv
    obtain ⟨x1, x2, h1, h2, hg⟩ := g_pair (i := 5) (j := 6) hv
    exact ⟨_, hg _, rfl, ve_tup [eB (Basic.has st.1), eB (Basic.has st.2)] (va_p (ve_tup [.int 1, eN st.1] (va_p ve_int (va_p (ve_var rfl h1) va_nil)) (by simp)) (va_p (ve_tup [.int 1, eN st.2] (va_p ve_int (va_p (ve_var rfl h2) va_nil)) (by simp)) va_nil)) (by simp)⟩
  have op : Own K H1 p ((((dirSteps rs).map fun p => (Basic.has p.1, Basic.has p.2)) ++ subSteps (rs.take 0)).map (ePair eB)) := by
    have e : subSteps (rs.take 0) = [] := rfl
    rw [e, List.append_nil, List.map_map]
    exact op
  refine q_forX rs eR (v1 := v1) rfl (fun i σ' H' => ∃ a b c, σ' = [some v1, some (.ref p), a, b, c, none, none] ∧ Ex H H' ∧ Own K H' p ((((dirSteps rs).map fun p => (Basic.has p.1, Basic.has p.2)) ++ subSteps (rs.take i)).map (ePair eB))) ⟨none, none, none, rfl, e1, op⟩
    (fun i σ' H' hi h => ?_) (fun i x y σ' H' hx hy h => ?_) (fun σ' H' h => ?_)
  · obtain ⟨a, b, c, rfl, ex, o⟩ := h
    exact hv1.ex ex
  · obtain ⟨a, b, c, rfl, ex, o⟩ := h
    rw [eR_three] at hy
    obtain ⟨x1, x2, x3, h1, h2, h3, hg⟩ := g_triple (i := 2) (j := 3) (k := 4) hy
    refine hg _ _ ?_
    have step : subSteps (rs.take (i + 1)) = subSteps (rs.take i) ++ _ := flat_more hx
    refine s_when (vt_test (ve_eqS (ve_var rfl h1) ve_str)) (fun c H2 e2 => ?_) (fun c H2 e2 => ?_)
    · have c : rWord x = "sub" := of_decide_eq_true c
      cases x with
      | sub r s =>
        have h2 : Dt K H2 x2 (eB r) := h2.ex e2
        have h3 : Dt K H2 x3 (eB s) := h3.ex e2
        have len := Wm.subSteps_len (rs.take i)
        have len2 : (rs.take i).length ≤ 12 := by rw [List.length_take]; omega
        refine s_app (o.ex e2) rfl (ve_tup [eB r, eB s] (va_p (ve_var rfl h2) (va_p (ve_var rfl h3) va_nil)) (by simp)) (by rw [List.length_map, List.length_append, List.length_map]; omega) fun H3 b3 t3 o3 => ?_
        refine ⟨some x1, some x2, some x3, rfl, Exb.ex np (ex.trans e2) b3, ?_⟩
        rw [step, ← List.append_assoc, List.map_append]
        exact o3
      | role => exact absurd (show ("role" : Str) = "sub" from c) (by decide)
      | never => exact absurd (show ("never" : Str) = "sub" from c) (by decide)
      | neverRole => exact absurd (show ("neverrole" : Str) = "sub" from c) (by decide)
    · have c : ¬ rWord x = "sub" := of_decide_eq_false c
      refine ⟨some x1, some x2, some x3, rfl, ex.trans e2, ?_⟩
      rw [step]
      cases x with
      | sub => exact absurd rfl c
      | role => rw [List.append_nil]; exact o.ex e2
      | never => rw [List.append_nil]; exact o.ex e2
      | neverRole => rw [List.append_nil]; exact o.ex e2
  · obtain ⟨a, b, c, rfl, ex, o⟩ := h
    rw [List.take_length] at o
    exact s_retO rfl (q p H' np ex o)
theorem ok_forbidsN (T : Txt mg) (X : ClL K CL) (F : At K mg "forbids" s_forbids ["laws", "word", "ones"]) : Def P w K mg base 1 "forbids" ["laws", "word", "ones"] (sp_forbidsN K CL) := by
  refine F.ok sc_forbids (spV_len rForbN_len) fun f cdv AA outer s H vs Q EE hr h => ?_
  obtain ⟨as, d, ha, ⟨rs, l, rfl, l12, rfl⟩, q⟩ := h
  obtain ⟨v1, v2, v3, rfl, hv1, hv2, hv3⟩ := args3 ha
  have hv1 : ∀ H', Ex H H' → IsLaws K CL rs H' v1 := hv1
  have hv2 : Dt K H v2 (.str "neverrole") := hv2
  have hv3 : Ls K H v3 (l.map eN) := hv3
  have nd := sc_forbids.nd
  have hu := hu65 hr
  refine ⟨(tRet (tCB (rAny K) (tCons (tLc (iList K (tFld K (tVar 0) "rules")) (gName 3) tYes (tAndV (tOp rEq (tOp (rIxT K) (tVar 3) (tC (.int 0))) (tVar 1)) (tAndV (tOp (rInD K) (tOp (rIxT K) (tVar 3) (tC (.int 1))) (tVar 2)) (tOp (rInD K) (tOp (rIxT K) (tVar 3) (tC (.int 2))) (tVar 2)))) [3]) tNil))), (pss_one (ps_ret (pe_callB (cr_any rfl) (by rfl) T.b_any (by decide +kernel) (pa_cons (pe_lc (own := [("rule", 3)]) (g := (gName 3)) (tt := tYes) (te := (tAndV (tOp rEq (tOp (rIxT K) (tVar 3) (tC (.int 0))) (tVar 1)) (tAndV (tOp (rInD K) (tOp (rIxT K) (tVar 3) (tC (.int 1))) (tVar 2)) (tOp (rInD K) (tOp (rIxT K) (tVar 3) (tC (.int 2))) (tVar 2))))) rfl nd (pi_list (pe_fld (pv 0) rfl)) (blkOk_by (own := [("rule", 3)]) (N := ["laws", "word", "ones", "rule"]) (sc := defScope s_forbids) (by decide +kernel)) (fun _ _ _ _ _ => by exact (pg_name (i := 3) nd rfl (Or.inl rfl))) (fun _ _ _ _ _ => by exact pts_nil) (fun _ _ _ _ _ => by exact (pe_and (pe_cmpR op_eq (pe_ix ix_tup (pv 3) pe_int (fun _ _ => rfl)) (pv 1) (nomark _)) (pe_and (pe_cmpR (op_inD hu) (pe_ix ix_tup (pv 3) pe_int (fun _ _ => rfl)) (pv 2) (by rfl)) (pe_one (pe_cmpR (op_inD hu) (pe_ix ix_tup (pv 3) pe_int (fun _ _ => rfl)) (pv 2) (by rfl))))))) pa_nil)))), ?_⟩
  refine s_retV (ve_anyM (l := rs) (h := fun x => match x with | .neverRole r s => l.contains r && l.contains s | _ => false) (vn_map rs eR _ (vl_rules X (vx_var rfl hv1)) (by omega) ?_).l) q
  intro x hx v H1 e1 hv
  refine ⟨[some v1, some v2, some v3, some v], fun Q h => h, rfl, ?_⟩
  rw [eR_three] at hv
  have i0 : Ve K (tOp (rIxT K) (tVar 3) (tC (.int 0))) [some v1, some v2, some v3, some v] H1 (.str (rWord x)) := ve_ixT (i := 0) (ve_var rfl hv) ve_int rfl
  have i1 : Ve K (tOp (rIxT K) (tVar 3) (tC (.int 1))) [some v1, some v2, some v3, some v] H1 (rOne x) := ve_ixT (i := 1) (ve_var rfl hv) ve_int rfl
  have i2 : Ve K (tOp (rIxT K) (tVar 3) (tC (.int 2))) [some v1, some v2, some v3, some v] H1 (rTwo x) := ve_ixT (i := 2) (ve_var rfl hv) ve_int rfl
  cases x with
  | neverRole r s =>
    exact (ve_andV (a := decide (("neverrole" : Str) = "neverrole")) (ve_eqS i0 (ve_var rfl (hv2.ex e1))) fun _ => ve_andV (ve_inE encN (a := r) i1 (vl_var rfl (hv3.ex e1))) fun _ => ve_inE encN (a := s) i2 (vl_var rfl (hv3.ex e1))).to rfl
  | sub b c => exact (ve_andV (a := decide (("sub" : Str) = "neverrole")) (b := false) (ve_eqS i0 (ve_var rfl (hv2.ex e1))) fun h => absurd h (by decide)).to rfl
  | role b c => exact (ve_andV (a := decide (("role" : Str) = "neverrole")) (b := false) (ve_eqS i0 (ve_var rfl (hv2.ex e1))) fun h => absurd h (by decide)).to rfl
  | never b c => exact (ve_andV (a := decide (("never" : Str) = "neverrole")) (b := false) (ve_eqS i0 (ve_var rfl (hv2.ex e1))) fun h => absurd h (by decide)).to rfl
theorem ok_forbidsB (T : Txt mg) (X : ClL K CL) (F : At K mg "forbids" s_forbids ["laws", "word", "ones"]) : Def P w K mg base 1 "forbids" ["laws", "word", "ones"] (sp_forbidsB K CL) := by
  refine F.ok sc_forbids (spV_len rForbB_len) fun f cdv AA outer s H vs Q EE hr h => ?_
  obtain ⟨as, d, ha, ⟨rs, l, rfl, l12, rfl⟩, q⟩ := h
  obtain ⟨v1, v2, v3, rfl, hv1, hv2, hv3⟩ := args3 ha
  have hv1 : ∀ H', Ex H H' → IsLaws K CL rs H' v1 := hv1
  have hv2 : Dt K H v2 (.str "never") := hv2
  have hv3 : Ls K H v3 (l.map eB) := hv3
  have nd := sc_forbids.nd
  have hu := hu65 hr
  refine ⟨(tRet (tCB (rAny K) (tCons (tLc (iList K (tFld K (tVar 0) "rules")) (gName 3) tYes (tAndV (tOp rEq (tOp (rIxT K) (tVar 3) (tC (.int 0))) (tVar 1)) (tAndV (tOp (rInD K) (tOp (rIxT K) (tVar 3) (tC (.int 1))) (tVar 2)) (tOp (rInD K) (tOp (rIxT K) (tVar 3) (tC (.int 2))) (tVar 2)))) [3]) tNil))), (pss_one (ps_ret (pe_callB (cr_any rfl) (by rfl) T.b_any (by decide +kernel) (pa_cons (pe_lc (own := [("rule", 3)]) (g := (gName 3)) (tt := tYes) (te := (tAndV (tOp rEq (tOp (rIxT K) (tVar 3) (tC (.int 0))) (tVar 1)) (tAndV (tOp (rInD K) (tOp (rIxT K) (tVar 3) (tC (.int 1))) (tVar 2)) (tOp (rInD K) (tOp (rIxT K) (tVar 3) (tC (.int 2))) (tVar 2))))) rfl nd (pi_list (pe_fld (pv 0) rfl)) (blkOk_by (own := [("rule", 3)]) (N := ["laws", "word", "ones", "rule"]) (sc := defScope s_forbids) (by decide +kernel)) (fun _ _ _ _ _ => by exact (pg_name (i := 3) nd rfl (Or.inl rfl))) (fun _ _ _ _ _ => by exact pts_nil) (fun _ _ _ _ _ => by exact (pe_and (pe_cmpR op_eq (pe_ix ix_tup (pv 3) pe_int (fun _ _ => rfl)) (pv 1) (nomark _)) (pe_and (pe_cmpR (op_inD hu) (pe_ix ix_tup (pv 3) pe_int (fun _ _ => rfl)) (pv 2) (by rfl)) (pe_one (pe_cmpR (op_inD hu) (pe_ix ix_tup (pv 3) pe_int (fun _ _ => rfl)) (pv 2) (by rfl))))))) pa_nil)))), ?_⟩
  refine s_retV (ve_anyM (l := rs) (h := fun x => match x with | .never b c => l.contains b && l.contains c | _ => false) (vn_map rs eR _ (vl_rules X (vx_var rfl hv1)) (by omega) ?_).l) q
  intro x hx v H1 e1 hv
  refine ⟨[some v1, some v2, some v3, some v], fun Q h => h, rfl, ?_⟩
  rw [eR_three] at hv
  have i0 : Ve K (tOp (rIxT K) (tVar 3) (tC (.int 0))) [some v1, some v2, some v3, some v] H1 (.str (rWord x)) := ve_ixT (i := 0) (ve_var rfl hv) ve_int rfl
  have i1 : Ve K (tOp (rIxT K) (tVar 3) (tC (.int 1))) [some v1, some v2, some v3, some v] H1 (rOne x) := ve_ixT (i := 1) (ve_var rfl hv) ve_int rfl
  have i2 : Ve K (tOp (rIxT K) (tVar 3) (tC (.int 2))) [some v1, some v2, some v3, some v] H1 (rTwo x) := ve_ixT (i := 2) (ve_var rfl hv) ve_int rfl
  cases x with
  | never r s =>
    exact (ve_andV (a := decide (("never" : Str) = "never")) (ve_eqS i0 (ve_var rfl (hv2.ex e1))) fun _ => ve_andV (ve_inE encB (a := r) i1 (vl_var rfl (hv3.ex e1))) fun _ => ve_inE encB (a := s) i2 (vl_var rfl (hv3.ex e1))).to rfl
  | sub b c => exact (ve_andV (a := decide (("sub" : Str) = "never")) (b := false) (ve_eqS i0 (ve_var rfl (hv2.ex e1))) fun h => absurd h (by decide)).to rfl
  | role b c => exact (ve_andV (a := decide (("role" : Str) = "never")) (b := false) (ve_eqS i0 (ve_var rfl (hv2.ex e1))) fun h => absurd h (by decide)).to rfl
  | neverRole b c => exact (ve_andV (a := decide (("neverrole" : Str) = "never")) (b := false) (ve_eqS i0 (ve_var rfl (hv2.ex e1))) fun h => absurd h (by decide)).to rfl
end
end Wp

set_option Elab.async false
set_option linter.all false
set_option maxRecDepth 100000
set_option maxHeartbeats 2000000
namespace Wp
open PySem PySem.Spec PyProof.Rows L2 Evl Dx
open Gq03 (Basic Rule Fact)
open Wm (reachedM dirSteps subSteps basSteps farSteps forbN clashM badM afterD afterB)
section
variable {P : Program} {w : World} {K : PySem.W.Frag} {mg : Str → Option Value} {base : Heap} {CL : Addr}
theorem ok_clashes (T : Txt mg) (X : ClL K CL) (D_forbidsN : Def P w K mg base 1 "forbids" ["laws", "word", "ones"] (sp_forbidsN K CL)) (D_forbidsB : Def P w K mg base 1 "forbids" ["laws", "word", "ones"] (sp_forbidsB K CL)) (F : At K mg "clashes" s_clashes ["laws", "b"]) : Def P w K mg base 2 "clashes" ["laws", "b"] (sp_clashes K CL) := by
  refine F.ok sc_clashes (spV_len rClash_len) fun f cdv AA outer s H vs Q EE hr h => ?_
  obtain ⟨as, d, ha, ⟨rs, b, rfl, hb, l12, rfl⟩, q⟩ := h
  obtain ⟨v1, v2, rfl, hv1, hv2⟩ := args2 ha
  have hv1 : ∀ H', Ex H H' → IsLaws K CL rs H' v1 := hv1
  have hv2 : Dt K H v2 (eB b) := hv2
  have nd := sc_clashes.nd
  have hu := hu65 hr
  refine ⟨(tSeq (tIfS (tB (tCall (sp_forbidsB K CL) [] E0 (tCons (tVar 0) (tCons (tC (.str "never")) (tCons (tDGet (tFld K (tVar 0) "after_basic") (tVar 1)) tNil)))))
      (tRet (tC (.bl true)))
      tNext)
    (tRet (tAndV (tOp rEq (tOp (rIxT K) (tVar 1) (tC (.int 0))) (tC (.int (1)))) (tCall (sp_forbidsN K CL) [] E0 (tCons (tVar 0) (tCons (tC (.str "neverrole")) (tCons (tDGet (tFld K (tVar 0) "after_direction") (tOp (rIxT K) (tVar 1) (tC (.int 1)))) tNil))))))), (pss_cons (ps_if (pt_val (pe_def D_forbidsB (hr.mono (by decide)) (by rfl) (pa_cons (pv 0) (pa_cons (pe_gS T.c_NEVER) (pa_cons (pe_dget (hu1 hr) (pe_fld (pv 0) rfl) (pv 1) (fun _ _ => rfl)) pa_nil)))))
        (pss_one (ps_ret pe_bl))
        pss_nil)
      (pss_one (ps_ret (pe_and (pe_cmpR op_eq (pe_ix ix_tup (pv 1) pe_int (fun _ _ => rfl)) (pe_gI T.c_WITH_EDGE) (nomark _)) (pe_one (pe_def D_forbidsN (hr.mono (by decide)) (by rfl) (pa_cons (pv 0) (pa_cons (pe_gS T.c_NEVERROLE) (pa_cons (pe_dget (hu1 hr) (pe_fld (pv 0) rfl) (pe_ix ix_tup (pv 1) pe_int (fun _ _ => rfl)) (fun _ _ => rfl)) pa_nil))))))))), ?_⟩
  refine q_when (vt_B (ve_call (va_x (vx_var rfl hv1) (va_p ve_str (va_l (vl_afterB X (vx_var rfl hv1) hb (ve_var rfl hv2)) va_nil))) ⟨rs, _, rfl, l12, rfl⟩)) (fun c H1 e1 => ?_) (fun c H1 e1 => ?_)
  · refine s_retV (K := K) ve_bl fun v H2 e2 hv => q v H2 (e1.trans e2) ?_
    unfold clashM
    have c : Gq03.neverBoth rs (reachedM [b] (basSteps rs)) = true := c
    rw [c]
    exact hv
  · have c : Gq03.neverBoth rs (reachedM [b] (basSteps rs)) = false := c
    refine s_retV (K := K) (d := .bool (Wm.sideM rs b)) ?_ fun v H2 e2 hv => q v H2 (e1.trans e2) (by unfold clashM; rw [c]; exact hv)
    have hv1' : ∀ H', Ex H1 H' → IsLaws K CL rs H' v1 := fun H' e' => hv1 H' (e1.trans e')
    cases b with
    | kind k => exact (ve_andV (a := decide ((0 : Int) = 1)) (b := false) (ve_eqI (ve_ixT (i := 0) (ve_var rfl (hv2.ex e1)) ve_int rfl) ve_int) fun h => absurd h (by decide)).to rfl
    | has r => exact (ve_andV (a := decide ((1 : Int) = 1)) (ve_eqI (ve_ixT (i := 0) (ve_var rfl (hv2.ex e1)) ve_int rfl) ve_int) fun _ => ve_call (va_x (vx_var rfl hv1') (va_p ve_str (va_l (vl_after X (vx_var rfl hv1') (Wm.has_basics.mp hb) (ve_ixT (i := 1) (ve_var rfl (hv2.ex e1)) ve_int rfl)) va_nil))) ⟨rs, _, rfl, l12, rfl⟩).to rfl
theorem ok_bad_ones (T : Txt mg) (X : ClL K CL) (D_reachedB : Def P w K mg base 1 "reached" ["starts", "steps"] (sp_reachedB K)) (D_directions : Def P w K mg base 1 "directions" [] (sp_directions K)) (D_turned : Def P w K mg base 2 "turned" ["r"] (sp_turned K)) (D_basic_steps : Def P w K mg base 4 "basic_steps" ["rules"] (sp_basic_steps K)) (D_basics : Def P w K mg base 2 "basics" [] (sp_basics K)) (D_clashes : Def P w K mg base 2 "clashes" ["laws", "b"] (sp_clashes K CL)) (F : At K mg "bad_ones" s_bad_ones ["laws"]) : Def P w K mg base 5 "bad_ones" ["laws"] (sp_bad_ones K CL) := by
  refine F.ok sc_bad_ones (spN_len rBad_len) fun f cdv AA outer s H vs Q EE hr h => ?_
  obtain ⟨as, d, ha, ⟨rs, rfl, ok, l12, rfl⟩, q⟩ := h
  obtain ⟨v1, rfl, hv1⟩ := args1 ha
  have hv1 : ∀ H', Ex H H' → IsLaws K CL rs H' v1 := hv1
  have nd := sc_bad_ones.nd
  have hu := hu65 hr
  refine ⟨(tSeq (tAsg (tLc (iList K (tCall (sp_directions K) [] E0 tNil)) (gName 5) tYes (tTup (tCons (tTup (tCons (tC (.int (1))) (tCons (tVar 5) tNil))) (tCons (tTup (tCons (tC (.int (1))) (tCons (tCall (sp_turned K) [] E0 (tCons (tVar 5) tNil)) tNil))) tNil))) [5]) (gName 1))
    (tSeq (tAsg (tOp rCat (tCall (sp_basic_steps K) [] E0 (tCons (tFld K (tVar 0) "rules") tNil)) (tVar 1)) (gName 2))
    (tSeq (tAsg (tLc (iList K (tCall (sp_basics K) [] E0 tNil)) (gName 6) (tB (tCall (sp_clashes K CL) [] E0 (tCons (tVar 0) (tCons (tVar 6) tNil)))) (tVar 6) [6]) (gName 3))
    (tSeq (tAsg (tCall (sp_reachedB K) [] E0 (tCons (tVar 3) (tCons (tLc (iList K (tVar 2)) (gTup K 2 (gCons (gName 7) (gCons (gName 8) gNil))) tYes (tTup (tCons (tVar 8) (tCons (tVar 7) tNil))) [7, 8]) tNil))) (gName 4))
    (tRet (tLc (iList K (tCall (sp_basics K) [] E0 tNil)) (gName 6) (tTest (tOp (rInD K) (tVar 6) (tVar 4))) (tVar 6) [6])))))), (pss_cons (ps_setLc (i := 1) (own := [("r", 5)]) (g := (gName 5)) (tt := tYes) (te := (tTup (tCons (tTup (tCons (tC (.int (1))) (tCons (tVar 5) tNil))) (tCons (tTup (tCons (tC (.int (1))) (tCons (tCall (sp_turned K) [] E0 (tCons (tVar 5) tNil)) tNil))) tNil)))) rfl nd rfl rfl (sw_true rfl rfl rfl (by decide +kernel)) (pi_list (pe_def0 D_directions (hr.mono (by decide)) (by rfl))) (blkOk_by (own := [("r", 5)]) (N := ["laws", "far_ends", "steps", "clashing", "found", "r", "b", "before", "after"]) (sc := defScope s_bad_ones) (by decide +kernel)) (fun _ _ _ _ _ => by exact (pg_name (i := 5) nd rfl (Or.inl rfl))) (fun _ _ _ _ _ => by exact pts_nil) (fun _ _ _ _ _ => by exact (pe_tup (pa_cons (pe_tup (pa_cons (pe_gI T.c_WITH_EDGE) (pa_cons (pv 5) pa_nil))) (pa_cons (pe_tup (pa_cons (pe_gI T.c_WITH_EDGE) (pa_cons (pe_def D_turned (hr.mono (by decide)) (by rfl) (pa_cons (pv 5) pa_nil)) pa_nil))) pa_nil)))))
      (pss_cons (ps_set (i := 2) nd rfl (Or.inl rfl) (pe_op op_cat (pe_def D_basic_steps (hr.mono (by decide)) (by rfl) (pa_cons (pe_fld (pv 0) rfl) pa_nil)) (pv 1)))
      (pss_cons (ps_setLc (i := 3) (own := [("b", 6)]) (g := (gName 6)) (tt := (tB (tCall (sp_clashes K CL) [] E0 (tCons (tVar 0) (tCons (tVar 6) tNil))))) (te := (tVar 6)) rfl nd rfl rfl (sw_true rfl rfl rfl (by decide +kernel)) (pi_list (pe_def0 D_basics (hr.mono (by decide)) (by rfl))) (blkOk_by (own := [("b", 6)]) (N := ["laws", "far_ends", "steps", "clashing", "found", "r", "b", "before", "after"]) (sc := defScope s_bad_ones) (by decide +kernel)) (fun _ _ _ _ _ => by exact (pg_name (i := 6) nd rfl (Or.inl rfl))) (fun _ _ _ _ _ => by exact (pts_one (pt_val (pe_def D_clashes (hr.mono (by decide)) (by rfl) (pa_cons (pv 0) (pa_cons (pv 6) pa_nil)))))) (fun _ _ _ _ _ => by exact (pv 6)))
      (pss_cons (ps_set (i := 4) nd rfl (Or.inr rfl) (pe_def D_reachedB (hr.mono (by decide)) (by rfl) (pa_cons (pv 3) (pa_cons (pe_lc (own := [("before", 7), ("after", 8)]) (g := (gTup K 2 (gCons (gName 7) (gCons (gName 8) gNil)))) (tt := tYes) (te := (tTup (tCons (tVar 8) (tCons (tVar 7) tNil)))) rfl nd (pi_list (pv 2)) (blkOk_by (own := [("before", 7), ("after", 8)]) (N := ["laws", "far_ends", "steps", "clashing", "found", "r", "b", "before", "after"]) (sc := defScope s_bad_ones) (by decide +kernel)) (fun _ _ _ _ _ => by exact (pg_tup rfl (pgs_cons (pg_name (i := 7) nd rfl (Or.inl rfl)) (pgs_cons (pg_name (i := 8) nd rfl (Or.inl rfl)) pgs_nil)))) (fun _ _ _ _ _ => by exact pts_nil) (fun _ _ _ _ _ => by exact (pe_tup (pa_cons (pv 8) (pa_cons (pv 7) pa_nil))))) pa_nil))))
      (pss_one (ps_ret (pe_lc (own := [("b", 6)]) (g := (gName 6)) (tt := (tTest (tOp (rInD K) (tVar 6) (tVar 4)))) (te := (tVar 6)) rfl nd (pi_list (pe_def0 D_basics (hr.mono (by decide)) (by rfl))) (blkOk_by (own := [("b", 6)]) (N := ["laws", "far_ends", "steps", "clashing", "found", "r", "b", "before", "after"]) (sc := defScope s_bad_ones) (by decide +kernel)) (fun _ _ _ _ _ => by exact (pg_name (i := 6) nd rfl (Or.inl rfl))) (fun _ _ _ _ _ => by exact (pts_one (pt_cmpR (op_inD hu) (pv 6) (pv 4) (by rfl)))) (fun _ _ _ _ _ => by exact (pv 6))))))))), ?_⟩
  have bl := Wm.basSteps_len rs
  have fl : farSteps.length = 8 := rfl
  refine q_setN (vn_map Gq03.roles eN (fun r => ePair eB (Basic.has r, Basic.has (Gq03.turned r))) (vn_call va_nil ⟨rfl, rfl⟩).l (by decide) ?_) fun p1 H1 n1 e1 o1 => ?_
  · intro r hr' v H1 e1 hv
    exact ⟨[some v1, none, none, none, none, some v, none, none, none], fun Q h => h, rfl, ve_tup [eB (Basic.has r), eB (Basic.has (Gq03.turned r))] (va_p (ve_tup [.int 1, eN r] (va_p ve_int (va_p (ve_var rfl hv) va_nil)) (by simp)) (va_p (ve_tup [.int 1, eN (Gq03.turned r)] (va_p ve_int (va_p (ve_call (va_p (ve_var rfl hv) va_nil) ⟨r, rfl, roles_pos hr', rfl⟩) va_nil)) (by simp)) va_nil)) (by simp)⟩
  have o1 : Own K H1 p1 (farSteps.map (ePair eB)) := o1
  refine q_setN (vn_catO (vn_call (va_l (vl_rules X (vx_var rfl fun H' e' => hv1 H' (e1.trans e'))) va_nil) ⟨rs, rfl, ok, l12, rfl⟩).o (vo_var rfl o1) (by rw [List.length_map, List.length_map]; omega)) fun p2 H2 n2 e2 o2 => ?_
  rw [← List.map_append] at o2
  refine q_setN (vn_lc Gq03.basics eB (clashM rs) eB (vn_call va_nil ⟨rfl, rfl⟩).l (by decide) ?_) fun p3 H3 n3 e3 o3 => ?_
  · intro b hb v H3 e3 hv
    exact ⟨[some v1, some (.ref p1), some (.ref p2), none, none, none, some v, none, none], fun Q h => h, rfl, vt_B (ve_call (va_x (vx_var rfl fun H' e' => hv1 H' (((e1.trans e2).trans e3).trans e')) (va_p (ve_var rfl hv) va_nil)) ⟨rs, b, rfl, hb, l12, rfl⟩), fun _ => ve_var rfl hv⟩
  have e13 := (e1.trans e2).trans e3
  have cl : (Gq03.basics.filter (clashM rs)).length ≤ 14 := List.length_filter_le _ _
  refine q_setN (vn_call (va_l (vo_var rfl o3).l (va_l (vn_map (basSteps rs ++ farSteps) (ePair eB) (fun s => ePair eB (s.2, s.1)) (vo_var rfl (o2.ex e3)).l (by rw [List.length_append]; omega) ?_).l va_nil)) ⟨Gq03.basics.filter (clashM rs), (basSteps rs ++ farSteps).map fun s => (s.2, s.1), by rw [List.map_map]; rfl, by omega, by rw [List.length_map, List.length_append]; omega, rfl⟩) fun p4 H4 n4 e4 o4 => ?_
  · intro st hst v H4 e4 hv
    obtain ⟨x1, x2, h1, h2, hg⟩ := g_pair (i := 7) (j := 8) hv
    exact ⟨_, hg _, rfl, ve_tup [eB st.2, eB st.1] (va_p (ve_var rfl h2) (va_p (ve_var rfl h1) va_nil)) (by simp)⟩
  have e14 := e13.trans e4
  refine s_retN (vn_lc Gq03.basics eB (fun b => (reachedM (Gq03.basics.filter (clashM rs)) ((basSteps rs ++ farSteps).map fun (s : Basic × Basic) => (s.2, s.1))).contains b) eB (vn_call va_nil ⟨rfl, rfl⟩).l (by decide) ?_) fun p H5 n5 e5 o5 => q p H5 (fresh_back e14 n5) (e14.trans e5) o5
  intro b hb v H5 e5 hv
  exact ⟨[some v1, some (.ref p1), some (.ref p2), some (.ref p3), some (.ref p4), none, some v, none, none], fun Q h => h, rfl, vt_test (ve_inE encB (ve_var rfl hv) (vo_var rfl (o4.ex e5)).l), fun _ => ve_var rfl hv⟩
/-! ### Laws(rules) -/
abbrev s_Laws : Stmt := inClass (top 28) 0
theorem sc_Laws : FnScope ["self", "rules"] ["self", "rules"] (defScope s_Laws) := ⟨rfl, rfl, rfl, by decide +kernel, rfl, by decide +kernel, by decide +kernel⟩
def rLaws (K : PySem.W.Frag) (CL : Addr) : List Dx.Arg → (Hp → V → Prop) → Prop := fun as ψ => ∃ rs : List Rule, as = [.l (rs.map eR)] ∧ Wm.OkRules rs ∧ rs.length ≤ 12 ∧ ψ = IsLawsB K CL rs
theorem rLaws_len {K : PySem.W.Frag} {CL : Addr} : ∀ as d, rLaws K CL as d → as.length = 1 := by rintro as d ⟨x, rfl, _⟩; rfl
abbrev sp_Laws (K : PySem.W.Frag) (CL : Addr) : Sp := spI K CL (rLaws K CL)
theorem ok_Laws (T : Txt mg) (X : ClL K CL) (D_reached_from_eachN : Def P w K mg base 2 "reached_from_each" ["starts", "steps"] (sp_reached_from_eachN K)) (D_reached_from_eachB : Def P w K mg base 2 "reached_from_each" ["starts", "steps"] (sp_reached_from_eachB K)) (D_directions : Def P w K mg base 1 "directions" [] (sp_directions K)) (D_basics : Def P w K mg base 2 "basics" [] (sp_basics K)) (D_direction_steps : Def P w K mg base 3 "direction_steps" ["rules"] (sp_direction_steps K)) (D_basic_steps : Def P w K mg base 4 "basic_steps" ["rules"] (sp_basic_steps K)) (D_bad_ones : Def P w K mg base 5 "bad_ones" ["laws"] (sp_bad_ones K CL)) {f : Addr} {fd : FuncData} (F : Fun K "__init__" "Laws.__init__" s_Laws f fd) : FnOk P w K mg base CX0 6 f fd ["self", "rules"] (sp_Laws K CL) := by
  refine F.ok sc_Laws (spI_len rLaws_len) fun cdv AA outer s H vs Q EE hr h => ?_
  obtain ⟨p, dx, vs', as, ψ, H0, rfl, hp, np, e0, ha, ⟨rs, rfl, ok, l12, rfl⟩, q⟩ := h
  obtain ⟨v1, rfl, hv1⟩ := args1 ha
  have hv1 : Ls K H0 v1 (rs.map eR) := hv1
  have nd := sc_Laws.nd
  have hu := hu65 hr
  refine ⟨(tSeq (sFld K (tVar 0) (tVar 1) "rules")
    (tSeq (sFld K (tVar 0) (tCall (sp_reached_from_eachN K) [] E0 (tCons (tCall (sp_directions K) [] E0 tNil) (tCons (tCall (sp_direction_steps K) [] E0 (tCons (tVar 1) tNil)) tNil))) "after_direction")
    (tSeq (sFld K (tVar 0) (tCall (sp_reached_from_eachB K) [] E0 (tCons (tCall (sp_basics K) [] E0 tNil) (tCons (tCall (sp_basic_steps K) [] E0 (tCons (tVar 1) tNil)) tNil))) "after_basic")
    (sFld K (tVar 0) (tCall (sp_bad_ones K CL) [] E0 (tCons (tVar 0) tNil)) "bad")))), (pss_cons (ps_fld (pv 0) (pv 1) (by rfl))
      (pss_cons (ps_fld (pv 0) (pe_def D_reached_from_eachN (hr.mono (by decide)) (by rfl) (pa_cons (pe_def0 D_directions (hr.mono (by decide)) (by rfl)) (pa_cons (pe_def D_direction_steps (hr.mono (by decide)) (by rfl) (pa_cons (pv 1) pa_nil)) pa_nil))) (by rfl))
      (pss_cons (ps_fld (pv 0) (pe_def D_reached_from_eachB (hr.mono (by decide)) (by rfl) (pa_cons (pe_def0 D_basics (hr.mono (by decide)) (by rfl)) (pa_cons (pe_def D_basic_steps (hr.mono (by decide)) (by rfl) (pa_cons (pv 1) pa_nil)) pa_nil))) (by rfl))
      (pss_one (ps_fld (pv 0) (pe_def D_bad_ones (hr.mono (by decide)) (by rfl) (pa_cons (pv 0) pa_nil)) (by rfl)))))), ?_⟩
  have bl := Wm.basSteps_len rs
  have dl := Wm.dirSteps_len rs
  refine q_fldX (ψ := fRules K rs) rfl hp X.cl X.n_rules (by decide) (vx_var rfl fun H' e' => hv1.ex (e0.trans e')) fun w1 H1 e1 h1 => ?_
  have p1 := e1 _ _ hp
  have x1 : Ex H0 (upd H1 p (.ins CL dx (putF "rules" w1 []))) := Ex.mut (e0.trans e1) np
  have r1 : Ls K (upd H1 p (.ins CL dx (putF "rules" w1 []))) w1 (rs.map eR) := Ls.upI (h1 H1 (Ex.refl _)) p1
  generalize hG1 : upd H1 p (.ins CL dx (putF "rules" w1 [])) = G1 at x1 r1
  have g1 : G1 p = some (.ins CL dx (putF "rules" w1 [])) := by rw [← hG1]; exact upd_same
  refine q_fldX (ψ := fDir K rs) rfl g1 X.cl X.n_after_direction (by have := putF_len "rules" w1 []; simp only [List.length_nil] at this; omega) (vx_call (va_l (vn_call va_nil ⟨rfl, rfl⟩).l (va_l (vn_call (va_l (vl_var rfl (hv1.ex x1)) va_nil) ⟨rs, rfl, ok, l12, rfl⟩).l va_nil)) ⟨Gq03.roles, dirSteps rs, rfl, by decide, by omega, rfl⟩) fun w2 H2 e2 h2 => ?_
  have p2 := e2 _ _ g1
  have x2 : Ex H0 (upd H2 p (.ins CL dx (putF "after_direction" w2 (putF "rules" w1 [])))) := Ex.mut (x1.trans e2) np
  have r2 : Ls K (upd H2 p (.ins CL dx (putF "after_direction" w2 (putF "rules" w1 [])))) w1 (rs.map eR) := Ls.upI (r1.ex e2) p2
  have d2 : fDir K rs (upd H2 p (.ins CL dx (putF "after_direction" w2 (putF "rules" w1 [])))) w2 := Tb.upI keNat (phL K) (h2 H2 (Ex.refl _)) p2
  generalize hG2 : upd H2 p (.ins CL dx (putF "after_direction" w2 (putF "rules" w1 []))) = G2 at x2 r2 d2
  have g2 : G2 p = some (.ins CL dx (putF "after_direction" w2 (putF "rules" w1 []))) := by rw [← hG2]; exact upd_same
  refine q_fldX (ψ := fBas K rs) rfl g2 X.cl X.n_after_basic (by have := putF_len "rules" w1 []; have := putF_len "after_direction" w2 (putF "rules" w1 []); simp only [List.length_nil] at *; omega) (vx_call (va_l (vn_call va_nil ⟨rfl, rfl⟩).l (va_l (vn_call (va_l (vl_var rfl (hv1.ex x2)) va_nil) ⟨rs, rfl, ok, l12, rfl⟩).l va_nil)) ⟨Gq03.basics, basSteps rs, rfl, by decide, by omega, rfl⟩) fun w3 H3 e3 h3 => ?_
  have p3 := e3 _ _ g2
  have x3 : Ex H0 (upd H3 p (.ins CL dx (putF "after_basic" w3 (putF "after_direction" w2 (putF "rules" w1 []))))) := Ex.mut (x2.trans e3) np
  have r3 : Ls K (upd H3 p (.ins CL dx (putF "after_basic" w3 (putF "after_direction" w2 (putF "rules" w1 []))))) w1 (rs.map eR) := Ls.upI (r2.ex e3) p3
  have d3 : fDir K rs (upd H3 p (.ins CL dx (putF "after_basic" w3 (putF "after_direction" w2 (putF "rules" w1 []))))) w2 := Tb.upI keNat (phL K) (fDir_ex _ _ _ e3 d2) p3
  have b3 : fBas K rs (upd H3 p (.ins CL dx (putF "after_basic" w3 (putF "after_direction" w2 (putF "rules" w1 []))))) w3 := Tb.upI keB (phL K) (h3 H3 (Ex.refl _)) p3
  generalize hG3 : upd H3 p (.ins CL dx (putF "after_basic" w3 (putF "after_direction" w2 (putF "rules" w1 [])))) = G3 at x3 r3 d3 b3
  have g3 : G3 p = some (.ins CL dx (putF "after_basic" w3 (putF "after_direction" w2 (putF "rules" w1 [])))) := by rw [← hG3]; exact upd_same
  have l3 : IsLaws K CL rs G3 (.ref p) := ⟨⟨p, dx, _, w1, rfl, g3, by rw [lookup_putF, if_neg (by decide +kernel), lookup_putF, if_neg (by decide +kernel), lookup_putF, if_pos rfl], r3⟩,
    ⟨p, dx, _, w2, rfl, g3, by rw [lookup_putF, if_neg (by decide +kernel), lookup_putF, if_pos rfl], d3⟩, ⟨p, dx, _, w3, rfl, g3, by rw [lookup_putF, if_pos rfl], b3⟩⟩
  refine s_fldX (ψ := fBad K rs) rfl g3 X.cl X.n_bad (by have := putF_len "rules" w1 []; have := putF_len "after_direction" w2 (putF "rules" w1 []); have := putF_len "after_basic" w3 (putF "after_direction" w2 (putF "rules" w1 [])); simp only [List.length_nil] at *; omega) (vn_call (va_x (vx_var rfl fun H' e' => l3.ex e') va_nil) ⟨rs, rfl, ok, l12, rfl⟩).l.x fun w4 H4 e4 h4 => ?_
  have p4 := e4 _ _ g3
  refine q _ (Ex.mut (x3.trans e4) np) fun H5 e5 => IsLawsB.ex ?_ e5
  have r4 : Ls K (upd H4 p (.ins CL dx (putF "bad" w4 (putF "after_basic" w3 (putF "after_direction" w2 (putF "rules" w1 [])))))) w1 (rs.map eR) := Ls.upI (r3.ex e4) p4
  have d4 : fDir K rs (upd H4 p (.ins CL dx (putF "bad" w4 (putF "after_basic" w3 (putF "after_direction" w2 (putF "rules" w1 [])))))) w2 := Tb.upI keNat (phL K) (fDir_ex _ _ _ e4 d3) p4
  have b4 : fBas K rs (upd H4 p (.ins CL dx (putF "bad" w4 (putF "after_basic" w3 (putF "after_direction" w2 (putF "rules" w1 [])))))) w3 := Tb.upI keB (phL K) (fBas_ex _ _ _ e4 b3) p4
  have a4 : fBad K rs (upd H4 p (.ins CL dx (putF "bad" w4 (putF "after_basic" w3 (putF "after_direction" w2 (putF "rules" w1 [])))))) w4 := Ls.upI (h4 H4 (Ex.refl _)) p4
  exact ⟨⟨⟨p, dx, _, w1, rfl, upd_same, by rw [lookup_putF, if_neg (by decide +kernel), lookup_putF, if_neg (by decide +kernel), lookup_putF, if_neg (by decide +kernel), lookup_putF, if_pos rfl], r4⟩,
    ⟨p, dx, _, w2, rfl, upd_same, by rw [lookup_putF, if_neg (by decide +kernel), lookup_putF, if_neg (by decide +kernel), lookup_putF, if_pos rfl], d4⟩, ⟨p, dx, _, w3, rfl, upd_same, by rw [lookup_putF, if_neg (by decide +kernel), lookup_putF, if_pos rfl], b4⟩⟩,
    ⟨p, dx, _, w4, rfl, upd_same, by rw [lookup_putF, if_pos rfl], a4⟩⟩
end
end Wp

set_option Elab.async false
set_option linter.all false
set_option maxRecDepth 100000
set_option maxHeartbeats 2000000
namespace Wp
open PySem PySem.Spec PyProof.Rows L2 Evl Dx
open Gq03 (Basic Rule Fact Desk)
open Wm (reachedM dirSteps subSteps basSteps farSteps forbN clashM badM toldDirs dirsM profM clashBM wrongM wrongsM certM cdirM OkDesk Fit afterD afterB)
abbrev s_told_directions : Stmt := top 38
theorem sc_told_directions : FnScope ["told", "x", "y", "found", "thing"] ["told", "x", "y"] (defScope s_told_directions) := ⟨rfl, rfl, rfl, by decide +kernel, rfl, by decide +kernel, by decide +kernel⟩
abbrev s_directions_between : Stmt := top 39
theorem sc_directions_between : FnScope ["told", "laws", "x", "y"] ["told", "laws", "x", "y"] (defScope s_directions_between) := ⟨rfl, rfl, rfl, by decide +kernel, rfl, by decide +kernel, by decide +kernel⟩
abbrev s_told_basics : Stmt := top 40
theorem sc_told_basics : FnScope ["told", "x", "found", "thing"] ["told", "x"] (defScope s_told_basics) := ⟨rfl, rfl, rfl, by decide +kernel, rfl, by decide +kernel, by decide +kernel⟩
abbrev s_profile : Stmt := top 41
theorem sc_profile : FnScope ["told", "laws", "x"] ["told", "laws", "x"] (defScope s_profile) := ⟨rfl, rfl, rfl, by decide +kernel, rfl, by decide +kernel, by decide +kernel⟩
abbrev s_clash_between : Stmt := top 42
theorem sc_clash_between : FnScope ["told", "laws", "x", "y", "there", "back", "r"] ["told", "laws", "x", "y"] (defScope s_clash_between) := ⟨rfl, rfl, rfl, by decide +kernel, rfl, by decide +kernel, by decide +kernel⟩
abbrev s_is_wrong : Stmt := top 43
theorem sc_is_wrong : FnScope ["told", "laws", "x", "has", "y", "b"] ["told", "laws", "x"] (defScope s_is_wrong) := ⟨rfl, rfl, rfl, by decide +kernel, rfl, by decide +kernel, by decide +kernel⟩
abbrev s_wrong_nodes : Stmt := top 44
theorem sc_wrong_nodes : FnScope ["told", "laws", "x"] ["told", "laws"] (defScope s_wrong_nodes) := ⟨rfl, rfl, rfl, by decide +kernel, rfl, by decide +kernel, by decide +kernel⟩
abbrev s_can_be : Stmt := top 45
theorem sc_can_be : FnScope ["told", "laws"] ["told", "laws"] (defScope s_can_be) := ⟨rfl, rfl, rfl, by decide +kernel, rfl, by decide +kernel, by decide +kernel⟩
abbrev s_certain_nodes : Stmt := top 46
theorem sc_certain_nodes : FnScope ["told", "laws", "b", "x"] ["told", "laws", "b"] (defScope s_certain_nodes) := ⟨rfl, rfl, rfl, by decide +kernel, rfl, by decide +kernel, by decide +kernel⟩
abbrev s_certain_directions : Stmt := top 47
theorem sc_certain_directions : FnScope ["told", "laws", "x", "y"] ["told", "laws", "x", "y"] (defScope s_certain_directions) := ⟨rfl, rfl, rfl, by decide +kernel, rfl, by decide +kernel, by decide +kernel⟩
abbrev s_sources : Stmt := top 48
theorem sc_sources : FnScope ["told", "laws", "x", "b", "n", "thing"] ["told", "laws", "x", "b"] (defScope s_sources) := ⟨rfl, rfl, rfl, by decide +kernel, rfl, by decide +kernel, by decide +kernel⟩
def rTD : List Dx.Arg → List PyData → Prop := fun as ds => ∃ (fs : List Fact) (x y : Nat), as = [.l (fs.map eF), .p (eN x), .p (eN y)] ∧ fs.length ≤ 14 ∧ ds = (toldDirs fs x y).map eN
theorem rTD_len : ∀ as d, rTD as d → as.length = 3 := by rintro as d ⟨x, y, z, rfl, _⟩; rfl
abbrev sp_told_directions (K : PySem.W.Frag) : Sp := spN K rTD
def rTB : List Dx.Arg → List PyData → Prop := fun as ds => ∃ (fs : List Fact) (x : Nat), as = [.l (fs.map eF), .p (eN x)] ∧ fs.length ≤ 14 ∧ ds = (Gq03.toldOf fs x).map eB
theorem rTB_len : ∀ as d, rTB as d → as.length = 2 := by rintro as d ⟨x, y, rfl, _⟩; rfl
abbrev sp_told_basics (K : PySem.W.Frag) : Sp := spN K rTB
section
variable (K : PySem.W.Frag) (CL : Addr)
def rDB : List Dx.Arg → List PyData → Prop := fun as ds => ∃ (d : Desk) (x y : Nat), as = [.l (d.facts.map eF), .x (IsLaws K CL d.rules), .p (eN x), .p (eN y)] ∧ Fit d ∧ ds = (dirsM d x y).map eN
abbrev sp_directions_between : Sp := spN K (rDB K CL)
def rPf : List Dx.Arg → List PyData → Prop := fun as ds => ∃ (d : Desk) (x : Nat), as = [.l (d.facts.map eF), .x (IsLaws K CL d.rules), .p (eN x)] ∧ Fit d ∧ ds = (profM d x).map eB
abbrev sp_profile : Sp := spN K (rPf K CL)
def rCB : List Dx.Arg → PyData → Prop := fun as ds => ∃ (d : Desk) (x y : Nat), as = [.l (d.facts.map eF), .x (IsLaws K CL d.rules), .p (eN x), .p (eN y)] ∧ Fit d ∧ ds = .bool (clashBM d x y)
abbrev sp_clash_between : Sp := spV K (rCB K CL)
def rIW : List Dx.Arg → PyData → Prop := fun as ds => ∃ (d : Desk) (x : Nat), as = [.l (d.facts.map eF), .x (IsLawsB K CL d.rules), .p (eN x)] ∧ Fit d ∧ ds = .bool (wrongM d (badM d.rules) x)
abbrev sp_is_wrong : Sp := spV K (rIW K CL)
def rWN : List Dx.Arg → List PyData → Prop := fun as ds => ∃ (d : Desk), as = [.l (d.facts.map eF), .x (IsLawsB K CL d.rules)] ∧ Fit d ∧ ds = (wrongsM d).map eN
abbrev sp_wrong_nodes : Sp := spN K (rWN K CL)
def rCan : List Dx.Arg → PyData → Prop := fun as ds => ∃ (d : Desk), as = [.l (d.facts.map eF), .x (IsLawsB K CL d.rules)] ∧ Fit d ∧ ds = .bool (Gq03.sound d)
abbrev sp_can_be : Sp := spV K (rCan K CL)
def rCN : List Dx.Arg → List PyData → Prop := fun as ds => ∃ (d : Desk) (b : Basic), as = [.l (d.facts.map eF), .x (IsLawsB K CL d.rules), .p (eB b)] ∧ Fit d ∧ ds = (Gq03.nodes.filter fun x => Gq03.isCertain d x b).map eN
abbrev sp_certain_nodes : Sp := spN K (rCN K CL)
def rCD : List Dx.Arg → List PyData → Prop := fun as ds => ∃ (d : Desk) (x y : Nat), as = [.l (d.facts.map eF), .x (IsLawsB K CL d.rules), .p (eN x), .p (eN y)] ∧ Fit d ∧ ds = (Gq03.roles.filter fun r => Gq03.edgeCertain d x y r).map eN
abbrev sp_certain_directions : Sp := spN K (rCD K CL)
def srcM (d : Desk) (x : Nat) (b : Basic) : List Nat := (d.facts.zipIdx.filter fun f => (Gq03.typeOf ⟨[f.1], d.rules⟩ x).contains b).map fun f => f.2
def rSrc : List Dx.Arg → List PyData → Prop := fun as ds => ∃ (d : Desk) (x : Nat) (b : Basic), as = [.l (d.facts.map eF), .x (IsLaws K CL d.rules), .p (eN x), .p (eB b)] ∧ Fit d ∧ ds = (srcM d x b).map eN
abbrev sp_sources : Sp := spN K (rSrc K CL)
end
section
variable {K : PySem.W.Frag} {CL : Addr}
theorem rDB_len : ∀ as d, rDB K CL as d → as.length = 4 := by rintro as d ⟨x, y, z, rfl, _⟩; rfl
theorem rPf_len : ∀ as d, rPf K CL as d → as.length = 3 := by rintro as d ⟨x, y, rfl, _⟩; rfl
theorem rCB_len : ∀ as d, rCB K CL as d → as.length = 4 := by rintro as d ⟨x, y, z, rfl, _⟩; rfl
theorem rIW_len : ∀ as d, rIW K CL as d → as.length = 3 := by rintro as d ⟨x, y, rfl, _⟩; rfl
theorem rWN_len : ∀ as d, rWN K CL as d → as.length = 2 := by rintro as d ⟨x, rfl, _⟩; rfl
theorem rCan_len : ∀ as d, rCan K CL as d → as.length = 2 := by rintro as d ⟨x, rfl, _⟩; rfl
theorem rCN_len : ∀ as d, rCN K CL as d → as.length = 3 := by rintro as d ⟨x, y, rfl, _⟩; rfl
theorem rCD_len : ∀ as d, rCD K CL as d → as.length = 4 := by rintro as d ⟨x, y, z, rfl, _⟩; rfl
theorem rSrc_len : ∀ as d, rSrc K CL as d → as.length = 4 := by rintro as d ⟨x, y, z, rfl, _⟩; rfl
end
theorem dec_nat {x y : Nat} : decide ((x : Int) = (y : Int)) = decide (x = y) := by
  rw [Bool.eq_iff_iff, decide_eq_true_iff, decide_eq_true_iff]
  omega
/-- if t: xs.append(d) -/
theorem s_ifapp {K : PySem.W.Frag} {σ : L2.St} {H : Hp} {D : Ends} {l : Addr} {ds : List PyData} {i : Nat} {te : TE} {tt : TT} {d : PyData} {b : Bool} (o : Own K H l ds) (hs : σ[i]? = some (some (.ref l))) (ht : EvT tt σ H b) (h : b = true → Ve K te σ H d) (hz : ds.length < 100000)
    (k : ∀ H1, Exb l H H1 → Tx H H1 → Own K H1 l (ds ++ if b = true then [d] else []) → D.nx σ H1) : tIfS tt (tDrop (tBM K "list" rAppend (tVar i) (tCons te tNil))) tNext D σ H := by
  refine s_when ht (fun c H1 e1 => ?_) (fun c H1 e1 => ?_)
  · rw [if_pos c] at k
    exact s_app (o.ex e1) hs ((h c).mono e1) hz fun H2 b2 t2 o2 => k H2 ((Exb.of e1).trans b2) ((Tx.of e1).trans t2) o2
  · rw [if_neg (by rw [c]; decide), List.append_nil] at k
    exact k H1 (.of e1) (.of e1) (o.ex e1)
theorem q_ifapp {K : PySem.W.Frag} {σ : L2.St} {H : Hp} {D : Ends} {tz : TS} {l : Addr} {ds : List PyData} {i : Nat} {te : TE} {tt : TT} {d : PyData} {b : Bool} (o : Own K H l ds) (hs : σ[i]? = some (some (.ref l))) (ht : EvT tt σ H b) (h : b = true → Ve K te σ H d) (hz : ds.length < 100000)
    (k : ∀ H1, Exb l H H1 → Tx H H1 → Own K H1 l (ds ++ if b = true then [d] else []) → tz D σ H1) : tSeq (tIfS tt (tDrop (tBM K "list" rAppend (tVar i) (tCons te tNil))) tNext) tz D σ H := s_ifapp (D := { D with nx := tz D }) o hs ht h hz k
theorem vn_sortedN {K : PySem.W.Frag} {σ : L2.St} {H : Hp} {te : TE} {l m : List Nat} (h : Vl K te σ H (l.map eN)) (nl : l.Nodup) (nm : m.Nodup) (hm : m.Pairwise (· ≤ ·)) (e : ∀ x, x ∈ l ↔ x ∈ m) : Vn K (tCB (rSortedI K) (tCons te tNil)) σ H (m.map eN) := by
  have h' : Vl K te σ H ((l.map fun n => ((n : Nat) : Int)).map PyData.int) := by rw [List.map_map]; exact h
  have := vn_sorted (ns' := m.map fun n => ((n : Nat) : Int)) h' fun ms hp hs => by
    have pm : (m.map fun n => ((n : Nat) : Int)).Perm (l.map fun n => ((n : Nat) : Int)) := ((List.perm_ext_iff_of_nodup nm nl).mpr fun a => (e a).symm).map _
    refine List.Perm.eq_of_pairwise (fun _ _ _ _ a b => Int.le_antisymm a b) hs ?_ (hp.trans pm.symm)
    rw [List.pairwise_map]
    exact hm.imp fun h => by omega
  rw [List.map_map] at this
  exact this
section
variable {P : Program} {w : World} {K : PySem.W.Frag} {mg : Str → Option Value} {base : Heap} {CL : Addr}
theorem ok_told_directions (T : Txt mg) (D_forward : Def P w K mg base 1 "forward" ["a"] (sp_forward K)) (D_backward : Def P w K mg base 1 "backward" ["a"] (sp_backward K)) (F : At K mg "told_directions" s_told_directions ["told", "x", "y"]) : Def P w K mg base 2 "told_directions" ["told", "x", "y"] (sp_told_directions K) := by
  refine F.ok sc_told_directions (spN_len rTD_len) fun f cdv AA outer s H vs Q EE hr h => ?_
  obtain ⟨as, d, ha, ⟨fs, x, y, rfl, l14, rfl⟩, q⟩ := h
  obtain ⟨v1, v2, v3, rfl, hv1, hv2, hv3⟩ := args3 ha
  have hv1 : Ls K H v1 (fs.map eF) := hv1
  have hv2 : Dt K H v2 (eN x) := hv2
  have hv3 : Dt K H v3 (eN y) := hv3
  have nd := sc_told_directions.nd
  refine ⟨(tSeq (tAsg (tLst tNil) (gName 3))
    (tSeq (tFor (iList K (tVar 0)) (gName 4)
      (tIfS (tTest (tOp rEq (tOp (rIxT K) (tVar 4) (tC (.int 0))) (tC (.str "edge"))))
      (tSeq (tIfS (tAnd (tTest (tOp rEq (tOp (rIxT K) (tVar 4) (tC (.int 1))) (tVar 1))) (tTest (tOp rEq (tOp (rIxT K) (tVar 4) (tC (.int 3))) (tVar 2))))
      (tDrop (tBM K "list" rAppend (tVar 3) (tCons (tCall (sp_forward K) [] E0 (tCons (tOp (rIxT K) (tVar 4) (tC (.int 2))) tNil)) tNil)))
      tNext)
    (tIfS (tAnd (tTest (tOp rEq (tOp (rIxT K) (tVar 4) (tC (.int 1))) (tVar 2))) (tTest (tOp rEq (tOp (rIxT K) (tVar 4) (tC (.int 3))) (tVar 1))))
      (tDrop (tBM K "list" rAppend (tVar 3) (tCons (tCall (sp_backward K) [] E0 (tCons (tOp (rIxT K) (tVar 4) (tC (.int 2))) tNil)) tNil)))
      tNext))
      tNext))
    (tRet (tVar 3)))), (pss_cons (ps_set (i := 3) nd rfl (Or.inl rfl) (pe_lst pa_nil))
      (pss_cons (ps_for PassesOwn.never rfl (pi_list (pv 0)) (pg_name (i := 4) nd rfl (Or.inl rfl))
        (pss_one (ps_if (pt_cmpR op_eq (pe_ix ix_tup (pv 4) pe_int (fun _ _ => rfl)) (pe_gS T.c_EDGE) (nomark _))
        (pss_cons (ps_if (PW.pt (pw_and (pt_cmpR op_eq (pe_ix ix_tup (pv 4) pe_int (fun _ _ => rfl)) (pv 1) (nomark _)) (pw_and1 (pt_cmpR op_eq (pe_ix ix_tup (pv 4) pe_int (fun _ _ => rfl)) (pv 2) (nomark _)))))
        (pss_one (ps_expr (pe_bm PySem.F.plainAttrs_list PySem.F.slot_list_append PySem.F.type_list_append mt_append (pv 3) (pa_cons (pe_def D_forward (hr.mono (by decide)) (by rfl) (pa_cons (pe_ix ix_tup (pv 4) pe_int (fun _ _ => rfl)) pa_nil)) pa_nil))))
        pss_nil)
      (pss_one (ps_if (PW.pt (pw_and (pt_cmpR op_eq (pe_ix ix_tup (pv 4) pe_int (fun _ _ => rfl)) (pv 2) (nomark _)) (pw_and1 (pt_cmpR op_eq (pe_ix ix_tup (pv 4) pe_int (fun _ _ => rfl)) (pv 1) (nomark _)))))
        (pss_one (ps_expr (pe_bm PySem.F.plainAttrs_list PySem.F.slot_list_append PySem.F.type_list_append mt_append (pv 3) (pa_cons (pe_def D_backward (hr.mono (by decide)) (by rfl) (pa_cons (pe_ix ix_tup (pv 4) pe_int (fun _ _ => rfl)) pa_nil)) pa_nil))))
        pss_nil)))
        pss_nil)))
      (pss_one (ps_ret (pv 3))))), ?_⟩
  refine q_setN (vn_lst (K := K) [] va_nil (by simp)) fun p H1 np e1 op => ?_
  refine q_forX fs eF (v1 := v1) rfl (fun i σ' H' => ∃ a, σ' = [some v1, some v2, some v3, some (.ref p), a] ∧ Ex H H' ∧ Own K H' p ((toldDirs (fs.take i) x y).map eN)) ⟨none, rfl, e1, op⟩
    (fun i σ' H' hi h => ?_) (fun i t u σ' H' ht hu h => ?_) (fun σ' H' h => ?_)
  · obtain ⟨a, rfl, ex, o⟩ := h
    exact hv1.ex ex
  · obtain ⟨a, rfl, ex, o⟩ := h
    have step : toldDirs (fs.take (i + 1)) x y = toldDirs (fs.take i) x y ++ _ := flat_more ht
    have len := Wm.toldDirs_len (fs.take i) x y
    have len2 : (fs.take i).length ≤ 14 := by rw [List.length_take]; omega
    cases t with
    | kind z k =>
      refine s_when (b := decide (("kind" : Str) = "edge")) (vt_test (ve_eqS (ve_ixT (i := 0) (ve_var rfl hu) ve_int rfl) ve_str)) (fun c H2 e2 => absurd c (by decide)) (fun c H2 e2 => ?_)
      refine ⟨some u, rfl, ex.trans e2, ?_⟩
      rw [step, List.append_nil]
      exact o.ex e2
    | edge z a w' =>
      refine s_when (b := decide (("edge" : Str) = "edge")) (vt_test (ve_eqS (ve_ixT (i := 0) (ve_var rfl hu) ve_int rfl) ve_str)) (fun c H2 e2 => ?_) (fun c H2 e2 => absurd c (by decide))
      have ex2 := ex.trans e2
      have hu2 := hu.ex e2
      -- the second test, whatever the first has left
      have rest : ∀ H3 ds, Ex H H3 → Dt K H3 u (eF (.edge z a w')) → Own K H3 p (ds.map eN) → ds.length ≤ 30 → toldDirs (fs.take (i + 1)) x y = ds ++ (if z = y ∧ w' = x then [2 * a + 1] else []) →
          (tIfS (tAnd (tTest (tOp rEq (tOp (rIxT K) (tVar 4) (tC (.int 1))) (tVar 2))) (tTest (tOp rEq (tOp (rIxT K) (tVar 4) (tC (.int 3))) (tVar 1))))
            (tDrop (tBM K "list" rAppend (tVar 3) (tCons (tCall (sp_backward K) [] E0 (tCons (tOp (rIxT K) (tVar 4) (tC (.int 2))) tNil)) tNil))) tNext)
            { nx := fun σ' H' => ∃ a, σ' = [some v1, some v2, some v3, some (.ref p), a] ∧ Ex H H' ∧ Own K H' p ((toldDirs (fs.take (i + 1)) x y).map eN),
              ct := fun σ' H' => ∃ a, σ' = [some v1, some v2, some v3, some (.ref p), a] ∧ Ex H H' ∧ Own K H' p ((toldDirs (fs.take (i + 1)) x y).map eN),
              bk := fun σ' H' => tRet (tVar 3) { nx := fun _ H' => Q .non H', rt := Q } σ' H', rt := Q } [some v1, some v2, some v3, some (.ref p), some u] H3 := by
        intro H3 ds ex3 hu3 o3 hl e
        refine s_when (et_and (vt_test (ve_eqI (ve_ixT (i := 1) (ve_var rfl hu3) ve_int rfl) (ve_var rfl (hv3.ex ex3)))) fun _ => vt_test (ve_eqI (ve_ixT (i := 3) (ve_var rfl hu3) ve_int rfl) (ve_var rfl (hv2.ex ex3)))) (fun c H4 e4 => ?_) (fun c H4 e4 => ?_)
        · rw [dec_nat, dec_nat, Bool.and_eq_true, decide_eq_true_iff, decide_eq_true_iff] at c
          refine s_app (o3.ex e4) rfl (ve_call (va_p (ve_ixT (i := 2) (ve_var rfl (hu3.ex e4)) ve_int rfl) va_nil) ⟨a, rfl, trivial, rfl⟩) (by rw [List.length_map]; omega) fun H5 b5 t5 o5 => ?_
          refine ⟨some u, rfl, Exb.ex np (ex3.trans e4) b5, ?_⟩
          rw [e, if_pos c, List.map_append]
          exact o5
        · rw [dec_nat, dec_nat, Bool.and_eq_false_iff, decide_eq_false_iff_not, decide_eq_false_iff_not] at c
          refine ⟨some u, rfl, ex3.trans e4, ?_⟩
          rw [e, if_neg (fun h => c.elim (fun q => q h.1) (fun q => q h.2)), List.append_nil]
          exact o3.ex e4
      refine q_when (et_and (vt_test (ve_eqI (ve_ixT (i := 1) (ve_var rfl hu2) ve_int rfl) (ve_var rfl (hv2.ex ex2)))) fun _ => vt_test (ve_eqI (ve_ixT (i := 3) (ve_var rfl hu2) ve_int rfl) (ve_var rfl (hv3.ex ex2)))) (fun c H3 e3 => ?_) (fun c H3 e3 => ?_)
      · rw [dec_nat, dec_nat, Bool.and_eq_true, decide_eq_true_iff, decide_eq_true_iff] at c
        refine s_app (o.ex (e2.trans e3)) rfl (ve_call (va_p (ve_ixT (i := 2) (ve_var rfl (hu2.ex e3)) ve_int rfl) va_nil) ⟨a, rfl, trivial, rfl⟩) (by rw [List.length_map]; omega) fun H5 b5 t5 o5 => ?_
        refine rest H5 (toldDirs (fs.take i) x y ++ [2 * a]) (Exb.ex np (ex2.trans e3) b5) ((hu2.ex e3).tx t5) (by rw [List.map_append]; exact o5) (by rw [List.length_append, List.length_singleton]; omega) ?_
        rw [step, List.append_assoc]
        show _ ++ ((if z = x ∧ w' = y then [2 * a] else []) ++ _) = _
        rw [if_pos c]
      · rw [dec_nat, dec_nat, Bool.and_eq_false_iff, decide_eq_false_iff_not, decide_eq_false_iff_not] at c
        refine rest H3 (toldDirs (fs.take i) x y) (ex2.trans e3) (hu2.ex e3) (o.ex (e2.trans e3)) (by omega) ?_
        rw [step]
        show _ ++ ((if z = x ∧ w' = y then [2 * a] else []) ++ _) = _
        rw [if_neg (fun h => c.elim (fun q => q h.1) (fun q => q h.2)), List.nil_append]
  · obtain ⟨a, rfl, ex, o⟩ := h
    rw [List.take_length] at o
    exact s_retO rfl (q p H' np ex o)
theorem ok_directions_between (T : Txt mg) (X : ClL K CL) (D_reached_from_allN : Def P w K mg base 1 "reached_from_all" ["table", "starts"] (sp_reached_from_allN K)) (D_told_directions : Def P w K mg base 2 "told_directions" ["told", "x", "y"] (sp_told_directions K)) (F : At K mg "directions_between" s_directions_between ["told", "laws", "x", "y"]) : Def P w K mg base 3 "directions_between" ["told", "laws", "x", "y"] (sp_directions_between K CL) := by
  refine F.ok sc_directions_between (spN_len rDB_len) fun f cdv AA outer s H vs Q EE hr h => ?_
  obtain ⟨as, d, ha, ⟨d, x, y, rfl, fit, rfl⟩, q⟩ := h
  obtain ⟨v1, v2, v3, v4, rfl, hv1, hv2, hv3, hv4⟩ := args4 ha
  have hv2 : ∀ H', Ex H H' → IsLaws K CL d.rules H' v2 := hv2
  have nd := sc_directions_between.nd
  refine ⟨(tRet (tCall (sp_reached_from_allN K) [] E0 (tCons (tFld K (tVar 1) "after_direction") (tCons (tCall (sp_told_directions K) [] E0 (tCons (tVar 0) (tCons (tVar 2) (tCons (tVar 3) tNil)))) tNil)))), (pss_one (ps_ret (pe_def D_reached_from_allN (hr.mono (by decide)) (by rfl) (pa_cons (pe_fld (pv 1) rfl) (pa_cons (pe_def D_told_directions (hr.mono (by decide)) (by rfl) (pa_cons (pv 0) (pa_cons (pv 2) (pa_cons (pv 3) pa_nil)))) pa_nil))))), ?_⟩
  have h1 := Wm.toldDirs_len d.facts x y
  have := fit.fl
  refine s_retN (vn_call (va_x (vx_dir X (vx_var rfl hv2)) (va_l (vn_call (va_l (vl_var rfl hv1) (va_p (ve_var rfl hv3) (va_p (ve_var rfl hv4) va_nil))) ⟨d.facts, x, y, rfl, fit.fl, rfl⟩).l va_nil)) ⟨8, tabD d.rules, afterD d.rules, toldDirs d.facts x y, rfl, fun s hs => ?_, by omega, rfl⟩) q
  have hs' := Wm.toldDirs_roles fit.ok.facts hs
  exact ⟨tabD_at hs', Nat.le_trans (Wm.afterD_len fit.ok.rules hs') (by decide)⟩
theorem ok_told_basics (T : Txt mg) (D_forward : Def P w K mg base 1 "forward" ["a"] (sp_forward K)) (D_backward : Def P w K mg base 1 "backward" ["a"] (sp_backward K)) (F : At K mg "told_basics" s_told_basics ["told", "x"]) : Def P w K mg base 2 "told_basics" ["told", "x"] (sp_told_basics K) := by
  refine F.ok sc_told_basics (spN_len rTB_len) fun f cdv AA outer s H vs Q EE hr h => ?_
  obtain ⟨as, d, ha, ⟨fs, x, rfl, l14, rfl⟩, q⟩ := h
  obtain ⟨v1, v2, rfl, hv1, hv2⟩ := args2 ha
  have hv1 : Ls K H v1 (fs.map eF) := hv1
  have hv2 : Dt K H v2 (eN x) := hv2
  have nd := sc_told_basics.nd
  refine ⟨(tSeq (tAsg (tLst tNil) (gName 2))
    (tSeq (tFor (iList K (tVar 0)) (gName 3)
      (tSeq (tIfS (tAnd (tTest (tOp rEq (tOp (rIxT K) (tVar 3) (tC (.int 0))) (tC (.str "kind")))) (tTest (tOp rEq (tOp (rIxT K) (tVar 3) (tC (.int 1))) (tVar 1))))
      (tDrop (tBM K "list" rAppend (tVar 2) (tCons (tTup (tCons (tC (.int (0))) (tCons (tOp (rIxT K) (tVar 3) (tC (.int 2))) tNil))) tNil)))
      tNext)
    (tSeq (tIfS (tAnd (tTest (tOp rEq (tOp (rIxT K) (tVar 3) (tC (.int 0))) (tC (.str "edge")))) (tTest (tOp rEq (tOp (rIxT K) (tVar 3) (tC (.int 1))) (tVar 1))))
      (tDrop (tBM K "list" rAppend (tVar 2) (tCons (tTup (tCons (tC (.int (1))) (tCons (tCall (sp_forward K) [] E0 (tCons (tOp (rIxT K) (tVar 3) (tC (.int 2))) tNil)) tNil))) tNil)))
      tNext)
    (tIfS (tAnd (tTest (tOp rEq (tOp (rIxT K) (tVar 3) (tC (.int 0))) (tC (.str "edge")))) (tTest (tOp rEq (tOp (rIxT K) (tVar 3) (tC (.int 3))) (tVar 1))))
      (tDrop (tBM K "list" rAppend (tVar 2) (tCons (tTup (tCons (tC (.int (1))) (tCons (tCall (sp_backward K) [] E0 (tCons (tOp (rIxT K) (tVar 3) (tC (.int 2))) tNil)) tNil))) tNil)))
      tNext))))
    (tRet (tVar 2)))), (pss_cons (ps_set (i := 2) nd rfl (Or.inl rfl) (pe_lst pa_nil))
      (pss_cons (ps_for PassesOwn.never rfl (pi_list (pv 0)) (pg_name (i := 3) nd rfl (Or.inl rfl))
        (pss_cons (ps_if (PW.pt (pw_and (pt_cmpR op_eq (pe_ix ix_tup (pv 3) pe_int (fun _ _ => rfl)) (pe_gS T.c_KIND) (nomark _)) (pw_and1 (pt_cmpR op_eq (pe_ix ix_tup (pv 3) pe_int (fun _ _ => rfl)) (pv 1) (nomark _)))))
        (pss_one (ps_expr (pe_bm PySem.F.plainAttrs_list PySem.F.slot_list_append PySem.F.type_list_append mt_append (pv 2) (pa_cons (pe_tup (pa_cons (pe_gI T.c_OF_KIND) (pa_cons (pe_ix ix_tup (pv 3) pe_int (fun _ _ => rfl)) pa_nil))) pa_nil))))
        pss_nil)
      (pss_cons (ps_if (PW.pt (pw_and (pt_cmpR op_eq (pe_ix ix_tup (pv 3) pe_int (fun _ _ => rfl)) (pe_gS T.c_EDGE) (nomark _)) (pw_and1 (pt_cmpR op_eq (pe_ix ix_tup (pv 3) pe_int (fun _ _ => rfl)) (pv 1) (nomark _)))))
        (pss_one (ps_expr (pe_bm PySem.F.plainAttrs_list PySem.F.slot_list_append PySem.F.type_list_append mt_append (pv 2) (pa_cons (pe_tup (pa_cons (pe_gI T.c_WITH_EDGE) (pa_cons (pe_def D_forward (hr.mono (by decide)) (by rfl) (pa_cons (pe_ix ix_tup (pv 3) pe_int (fun _ _ => rfl)) pa_nil)) pa_nil))) pa_nil))))
        pss_nil)
      (pss_one (ps_if (PW.pt (pw_and (pt_cmpR op_eq (pe_ix ix_tup (pv 3) pe_int (fun _ _ => rfl)) (pe_gS T.c_EDGE) (nomark _)) (pw_and1 (pt_cmpR op_eq (pe_ix ix_tup (pv 3) pe_int (fun _ _ => rfl)) (pv 1) (nomark _)))))
        (pss_one (ps_expr (pe_bm PySem.F.plainAttrs_list PySem.F.slot_list_append PySem.F.type_list_append mt_append (pv 2) (pa_cons (pe_tup (pa_cons (pe_gI T.c_WITH_EDGE) (pa_cons (pe_def D_backward (hr.mono (by decide)) (by rfl) (pa_cons (pe_ix ix_tup (pv 3) pe_int (fun _ _ => rfl)) pa_nil)) pa_nil))) pa_nil))))
        pss_nil)))))
      (pss_one (ps_ret (pv 2))))), ?_⟩
  refine q_setN (vn_lst (K := K) [] va_nil (by simp)) fun p H1 np e1 op => ?_
  refine q_forX fs eF (v1 := v1) rfl (fun i σ' H' => ∃ a, σ' = [some v1, some v2, some (.ref p), a] ∧ Ex H H' ∧ Own K H' p ((Gq03.toldOf (fs.take i) x).map eB)) ⟨none, rfl, e1, op⟩
    (fun i σ' H' hi h => ?_) (fun i t u σ' H' ht hu h => ?_) (fun σ' H' h => ?_)
  · obtain ⟨a, rfl, ex, o⟩ := h
    exact hv1.ex ex
  · obtain ⟨a, rfl, ex, o⟩ := h
    have step : Gq03.toldOf (fs.take (i + 1)) x = Gq03.toldOf (fs.take i) x ++ _ := flat_more ht
    have len := Wm.toldOf_len (fs.take i) x
    have len2 : (fs.take i).length ≤ 14 := by rw [List.length_take]; omega
    cases t with
    | kind z k =>
      have t0 : ∀ H3, Tx H' H3 → Ve K (tOp (rIxT K) (tVar 3) (tC (.int 0))) [some v1, some v2, some (.ref p), some u] H3 (.str "kind") := fun H3 t3 => ve_ixT (i := 0) (ve_var rfl (hu.tx t3)) ve_int rfl
      refine q_ifapp (b := decide (("kind" : Str) = "kind") && decide ((z : Int) = (x : Int))) (d := eB (.kind k)) o rfl (et_and (vt_test (ve_eqS (t0 H' (.refl _)) ve_str)) fun _ => vt_test (ve_eqI (ve_ixT (i := 1) (ve_var rfl hu) ve_int rfl) (ve_var rfl (hv2.ex ex)))) (fun _ => ve_tup [.int 0, eN k] (va_p ve_int (va_p (ve_ixT (i := 2) (ve_var rfl hu) ve_int rfl) va_nil)) (by simp)) (by rw [List.length_map]; omega) fun H3 b3 x3 o3 => ?_
      refine q_when (b := decide (("kind" : Str) = "edge") && false) (et_and (vt_test (ve_eqS (t0 H3 x3) ve_str)) fun h => absurd h (by decide)) (fun c => absurd c (by decide)) (fun c H4 e4 => ?_)
      refine s_when (b := decide (("kind" : Str) = "edge") && false) (et_and (vt_test (ve_eqS (t0 H4 (x3.trans (.of e4))) ve_str)) fun h => absurd h (by decide)) (fun c => absurd c (by decide)) (fun c H5 e5 => ?_)
      refine ⟨some u, rfl, (Exb.ex np ex b3).trans (e4.trans e5), ?_⟩
      have o5 := o3.ex (e4.trans e5)
      rw [step, List.map_append]
      rw [dec_nat] at o5
      show Own K H5 p (_ ++ List.map eB (if z = x then [Basic.kind k] else []))
      by_cases c : z = x
      · rw [if_pos c]; rw [if_pos (by simp [c])] at o5; exact o5
      · rw [if_neg c]; rw [if_neg (by simp [c])] at o5; exact o5
    | edge z a' w' =>
      have t0 : ∀ H3, Tx H' H3 → Ve K (tOp (rIxT K) (tVar 3) (tC (.int 0))) [some v1, some v2, some (.ref p), some u] H3 (.str "edge") := fun H3 t3 => ve_ixT (i := 0) (ve_var rfl (hu.tx t3)) ve_int rfl
      refine q_when (b := decide (("edge" : Str) = "kind") && false) (et_and (vt_test (ve_eqS (t0 H' (.refl _)) ve_str)) fun h => absurd h (by decide)) (fun c => absurd c (by decide)) (fun c H3 e3 => ?_)
      have ex3 := ex.trans e3
      refine q_ifapp (b := decide (("edge" : Str) = "edge") && decide ((z : Int) = (x : Int))) (d := eB (.has (2 * a'))) (o.ex e3) rfl (et_and (vt_test (ve_eqS (t0 H3 (.of e3)) ve_str)) fun _ => vt_test (ve_eqI (ve_ixT (i := 1) (ve_var rfl (hu.ex e3)) ve_int rfl) (ve_var rfl (hv2.ex ex3)))) (fun _ => ve_tup [.int 1, eN (2 * a')] (va_p ve_int (va_p (ve_call (va_p (ve_ixT (i := 2) (ve_var rfl (hu.ex e3)) ve_int rfl) va_nil) ⟨a', rfl, trivial, rfl⟩) va_nil)) (by simp)) (by rw [List.length_map]; omega) fun H4 b4 x4 o4 => ?_
      have ex4 : Ex H H4 := Exb.ex np ex3 b4
      have hu4 := (hu.ex e3).tx x4
      refine s_ifapp (b := decide (("edge" : Str) = "edge") && decide ((w' : Int) = (x : Int))) (d := eB (.has (2 * a' + 1))) o4 rfl (et_and (vt_test (ve_eqS (t0 H4 ((Tx.of e3).trans x4)) ve_str)) fun _ => vt_test (ve_eqI (ve_ixT (i := 3) (ve_var rfl hu4) ve_int rfl) (ve_var rfl (hv2.ex ex4)))) (fun _ => ve_tup [.int 1, eN (2 * a' + 1)] (va_p ve_int (va_p (ve_call (va_p (ve_ixT (i := 2) (ve_var rfl hu4) ve_int rfl) va_nil) ⟨a', rfl, trivial, rfl⟩) va_nil)) (by simp)) (by rw [List.length_append, List.length_map]; split <;> simp <;> omega) fun H5 b5 x5 o5 => ?_
      refine ⟨some u, rfl, Exb.ex np ex4 b5, ?_⟩
      rw [step, List.map_append]
      rw [dec_nat, dec_nat, List.append_assoc] at o5
      show Own K H5 p (_ ++ List.map eB ((if z = x then [Basic.has (2 * a')] else []) ++ (if w' = x then [Basic.has (2 * a' + 1)] else [])))
      rw [List.map_append]
      have g : ∀ (m : Nat) (r : Nat), (if (decide (("edge" : Str) = "edge") && decide (m = x)) = true then [eB (.has r)] else []) = List.map eB (if m = x then [Basic.has r] else []) := fun m r => by
        by_cases c : m = x
        · rw [if_pos c, if_pos (by simp [c])]; rfl
        · rw [if_neg c, if_neg (by simp [c])]; rfl
      rw [g, g] at o5
      exact o5
  · obtain ⟨a, rfl, ex, o⟩ := h
    rw [List.take_length] at o
    exact s_retO rfl (q p H' np ex o)
theorem ok_profile (T : Txt mg) (X : ClL K CL) (D_reached_from_allB : Def P w K mg base 1 "reached_from_all" ["table", "starts"] (sp_reached_from_allB K)) (D_told_basics : Def P w K mg base 2 "told_basics" ["told", "x"] (sp_told_basics K)) (F : At K mg "profile" s_profile ["told", "laws", "x"]) : Def P w K mg base 3 "profile" ["told", "laws", "x"] (sp_profile K CL) := by
  refine F.ok sc_profile (spN_len rPf_len) fun f cdv AA outer s H vs Q EE hr h => ?_
  obtain ⟨as, d, ha, ⟨d, x, rfl, fit, rfl⟩, q⟩ := h
  obtain ⟨v1, v2, v3, rfl, hv1, hv2, hv3⟩ := args3 ha
  have hv2 : ∀ H', Ex H H' → IsLaws K CL d.rules H' v2 := hv2
  have nd := sc_profile.nd
  refine ⟨(tRet (tCall (sp_reached_from_allB K) [] E0 (tCons (tFld K (tVar 1) "after_basic") (tCons (tCall (sp_told_basics K) [] E0 (tCons (tVar 0) (tCons (tVar 2) tNil))) tNil)))), (pss_one (ps_ret (pe_def D_reached_from_allB (hr.mono (by decide)) (by rfl) (pa_cons (pe_fld (pv 1) rfl) (pa_cons (pe_def D_told_basics (hr.mono (by decide)) (by rfl) (pa_cons (pv 0) (pa_cons (pv 2) pa_nil))) pa_nil))))), ?_⟩
  have h1 := Wm.toldOf_len d.facts x
  have := fit.fl
  refine s_retN (vn_call (va_x (vx_bas X (vx_var rfl hv2)) (va_l (vn_call (va_l (vl_var rfl hv1) (va_p (ve_var rfl hv3) va_nil)) ⟨d.facts, x, rfl, fit.fl, rfl⟩).l va_nil)) ⟨14, tabB d.rules, afterB d.rules, Gq03.toldOf d.facts x, rfl, fun s hs => ?_, by omega, rfl⟩) q
  have hs' := Wm.toldOf_basics fit.ok.facts hs
  exact ⟨tabB_at hs', Nat.le_trans (Wm.afterB_len fit.ok.rules hs') (by decide)⟩
theorem ok_clash_between (T : Txt mg) (X : ClL K CL) (D_directions_between : Def P w K mg base 3 "directions_between" ["told", "laws", "x", "y"] (sp_directions_between K CL)) (D_turned : Def P w K mg base 2 "turned" ["r"] (sp_turned K)) (D_forbidsN : Def P w K mg base 1 "forbids" ["laws", "word", "ones"] (sp_forbidsN K CL)) (F : At K mg "clash_between" s_clash_between ["told", "laws", "x", "y"]) : Def P w K mg base 4 "clash_between" ["told", "laws", "x", "y"] (sp_clash_between K CL) := by
  refine F.ok sc_clash_between (spV_len rCB_len) fun f cdv AA outer s H vs Q EE hr h => ?_
  obtain ⟨as, d, ha, ⟨d, x, y, rfl, fit, rfl⟩, q⟩ := h
  obtain ⟨v1, v2, v3, v4, rfl, hv1, hv2, hv3, hv4⟩ := args4 ha
  have hv2 : ∀ H', Ex H H' → IsLaws K CL d.rules H' v2 := hv2
  have nd := sc_clash_between.nd
  refine ⟨(tSeq (tAsg (tCall (sp_directions_between K CL) [] E0 (tCons (tVar 0) (tCons (tVar 1) (tCons (tVar 2) (tCons (tVar 3) tNil))))) (gName 4))
    (tSeq (tAsg (tLc (iList K (tVar 4)) (gName 6) tYes (tCall (sp_turned K) [] E0 (tCons (tVar 6) tNil)) [6]) (gName 5))
    (tRet (tOrV (tCall (sp_forbidsN K CL) [] E0 (tCons (tVar 1) (tCons (tC (.str "neverrole")) (tCons (tVar 4) tNil)))) (tCall (sp_forbidsN K CL) [] E0 (tCons (tVar 1) (tCons (tC (.str "neverrole")) (tCons (tVar 5) tNil)))))))), (pss_cons (ps_set (i := 4) nd rfl (Or.inl rfl) (pe_def D_directions_between (hr.mono (by decide)) (by rfl) (pa_cons (pv 0) (pa_cons (pv 1) (pa_cons (pv 2) (pa_cons (pv 3) pa_nil))))))
      (pss_cons (ps_setLc (i := 5) (own := [("r", 6)]) (g := (gName 6)) (tt := tYes) (te := (tCall (sp_turned K) [] E0 (tCons (tVar 6) tNil))) rfl nd rfl rfl (sw_true rfl rfl rfl (by decide +kernel)) (pi_list (pv 4)) (blkOk_by (own := [("r", 6)]) (N := ["told", "laws", "x", "y", "there", "back", "r"]) (sc := defScope s_clash_between) (by decide +kernel)) (fun _ _ _ _ _ => by exact (pg_name (i := 6) nd rfl (Or.inl rfl))) (fun _ _ _ _ _ => by exact pts_nil) (fun _ _ _ _ _ => by exact (pe_def D_turned (hr.mono (by decide)) (by rfl) (pa_cons (pv 6) pa_nil))))
      (pss_one (ps_ret (pe_or (pe_def D_forbidsN (hr.mono (by decide)) (by rfl) (pa_cons (pv 1) (pa_cons (pe_gS T.c_NEVERROLE) (pa_cons (pv 4) pa_nil)))) (pe_one (pe_def D_forbidsN (hr.mono (by decide)) (by rfl) (pa_cons (pv 1) (pa_cons (pe_gS T.c_NEVERROLE) (pa_cons (pv 5) pa_nil)))))))))), ?_⟩
  have h3 := Wm.dirsM_len fit.ok (x := x) (y := y)
  refine q_setN (vn_call (va_l (vl_var rfl hv1) (va_x (vx_var rfl hv2) (va_p (ve_var rfl hv3) (va_p (ve_var rfl hv4) va_nil)))) ⟨d, x, y, rfl, fit, rfl⟩) fun p H1 np e1 o1 => ?_
  refine q_setN (vn_map (dirsM d x y) eN (fun r => eN (Gq03.turned r)) (vo_var rfl o1).l (by omega) ?_) fun p2 H2 n2 e2 o2 => ?_
  · intro r hr' v H2 e2 hv
    exact ⟨[some v1, some v2, some v3, some v4, some (.ref p), none, some v], fun Q h => h, rfl, ve_call (va_p (ve_var rfl hv) va_nil) ⟨r, rfl, roles_pos (Wm.between_roles fit.ok ((Wm.mem_dirsM fit.ok).mp hr')), rfl⟩⟩
  have o2 : Own K H2 p2 (((dirsM d x y).map Gq03.turned).map eN) := by rw [List.map_map]; exact o2
  have e12 := e1.trans e2
  have hv2' : ∀ H', Ex H2 H' → IsLaws K CL d.rules H' v2 := fun H' e' => hv2 H' (e12.trans e')
  exact s_retV (ve_orV (ve_call (va_x (vx_var rfl hv2') (va_p ve_str (va_l (vo_var rfl (o1.ex e2)).l va_nil))) ⟨d.rules, _, rfl, fit.rl, rfl⟩) fun _ => ve_call (va_x (vx_var rfl hv2') (va_p ve_str (va_l (vo_var rfl o2).l va_nil))) ⟨d.rules, _, rfl, fit.rl, rfl⟩) fun v H3 e3 hv => q v H3 (e12.trans e3) hv
theorem ok_is_wrong (T : Txt mg) (X : ClL K CL) (D_profile : Def P w K mg base 3 "profile" ["told", "laws", "x"] (sp_profile K CL)) (D_forbidsB : Def P w K mg base 1 "forbids" ["laws", "word", "ones"] (sp_forbidsB K CL)) (D_nodes : Def P w K mg base 1 "nodes" [] (sp_nodes K)) (D_clash_between : Def P w K mg base 4 "clash_between" ["told", "laws", "x", "y"] (sp_clash_between K CL)) (F : At K mg "is_wrong" s_is_wrong ["told", "laws", "x"]) : Def P w K mg base 5 "is_wrong" ["told", "laws", "x"] (sp_is_wrong K CL) := by
  refine F.ok sc_is_wrong (spV_len rIW_len) fun f cdv AA outer s H vs Q EE hr h => ?_
  obtain ⟨as, d, ha, ⟨d, x, rfl, fit, rfl⟩, q⟩ := h
  obtain ⟨v1, v2, v3, rfl, hv1, hv2, hv3⟩ := args3 ha
  have hv2 : ∀ H', Ex H H' → IsLawsB K CL d.rules H' v2 := hv2
  have nd := sc_is_wrong.nd
  have hu := hu65 hr
  refine ⟨(tSeq (tAsg (tCall (sp_profile K CL) [] E0 (tCons (tVar 0) (tCons (tVar 1) (tCons (tVar 2) tNil)))) (gName 3))
    (tSeq (tIfS (tOr (tB (tCall (sp_forbidsB K CL) [] E0 (tCons (tVar 1) (tCons (tC (.str "never")) (tCons (tVar 3) tNil))))) (tB (tCB (rAny K) (tCons (tLc (iList K (tVar 3)) (gName 5) tYes (tOp (rInD K) (tVar 5) (tFld K (tVar 1) "bad")) [5]) tNil))))
      (tRet (tC (.bl true)))
      tNext)
    (tRet (tCB (rAny K) (tCons (tLc (iList K (tCall (sp_nodes K) [] E0 tNil)) (gName 4) tYes (tCall (sp_clash_between K CL) [] E0 (tCons (tVar 0) (tCons (tVar 1) (tCons (tVar 2) (tCons (tVar 4) tNil))))) [4]) tNil))))), (pss_cons (ps_set (i := 3) nd rfl (Or.inl rfl) (pe_def D_profile (hr.mono (by decide)) (by rfl) (pa_cons (pv 0) (pa_cons (pv 1) (pa_cons (pv 2) pa_nil)))))
      (pss_cons (ps_if (PW.pt (pw_or (pt_val (pe_def D_forbidsB (hr.mono (by decide)) (by rfl) (pa_cons (pv 1) (pa_cons (pe_gS T.c_NEVER) (pa_cons (pv 3) pa_nil))))) (pw_or1 (pt_val (pe_callB (cr_any rfl) (by rfl) T.b_any (by decide +kernel) (pa_cons (pe_lc (own := [("b", 5)]) (g := (gName 5)) (tt := tYes) (te := (tOp (rInD K) (tVar 5) (tFld K (tVar 1) "bad"))) rfl nd (pi_list (pv 3)) (blkOk_by (own := [("b", 5)]) (N := ["told", "laws", "x", "has", "y", "b"]) (sc := defScope s_is_wrong) (by decide +kernel)) (fun _ _ _ _ _ => by exact (pg_name (i := 5) nd rfl (Or.inl rfl))) (fun _ _ _ _ _ => by exact pts_nil) (fun _ _ _ _ _ => by exact (pe_cmpR (op_inD hu) (pv 5) (pe_fld (pv 1) rfl) (by rfl)))) pa_nil))))))
        (pss_one (ps_ret pe_bl))
        pss_nil)
      (pss_one (ps_ret (pe_callB (cr_any rfl) (by rfl) T.b_any (by decide +kernel) (pa_cons (pe_lc (own := [("y", 4)]) (g := (gName 4)) (tt := tYes) (te := (tCall (sp_clash_between K CL) [] E0 (tCons (tVar 0) (tCons (tVar 1) (tCons (tVar 2) (tCons (tVar 4) tNil)))))) rfl nd (pi_list (pe_def0 D_nodes (hr.mono (by decide)) (by rfl))) (blkOk_by (own := [("y", 4)]) (N := ["told", "laws", "x", "has", "y", "b"]) (sc := defScope s_is_wrong) (by decide +kernel)) (fun _ _ _ _ _ => by exact (pg_name (i := 4) nd rfl (Or.inl rfl))) (fun _ _ _ _ _ => by exact pts_nil) (fun _ _ _ _ _ => by exact (pe_def D_clash_between (hr.mono (by decide)) (by rfl) (pa_cons (pv 0) (pa_cons (pv 1) (pa_cons (pv 2) (pa_cons (pv 4) pa_nil))))))) pa_nil)))))), ?_⟩
  have pl := Wm.profM_len fit.ok (x := x)
  have lw : ∀ {H1 H2 : Hp}, Ex H H1 → Ex H1 H2 → IsLawsB K CL d.rules H2 v2 := fun e e' => hv2 _ (e.trans e')
  refine q_setN (vn_call (va_l (vl_var rfl hv1) (va_x (vx_lw rfl hv2) (va_p (ve_var rfl hv3) va_nil))) ⟨d, x, rfl, fit, rfl⟩) fun p H1 np e1 o1 => ?_
  refine q_when (et_or (vt_B (ve_call (va_x (vx_lw rfl fun H' e' => lw e1 e') (va_p ve_str (va_l (vo_var rfl o1).l va_nil))) ⟨d.rules, _, rfl, fit.rl, rfl⟩)) fun _ => vt_B (ve_anyM (l := profM d x) (h := fun b => (badM d.rules).contains b) (vn_map (profM d x) eB _ (vo_var rfl o1).l (by omega) ?_).l)) (fun c H2 e2 => ?_) (fun c H2 e2 => ?_)
  · intro b hb v H2 e2 hv
    exact ⟨[some v1, some v2, some v3, some (.ref p), none, some v], fun Q h => h, rfl, ve_inE encB (ve_var rfl hv) (vl_bad X (vx_var rfl fun H' e' => lw (e1.trans e2) e'))⟩
  · refine s_retV (K := K) ve_bl fun v H3 e3 hv => q v H3 ((e1.trans e2).trans e3) ?_
    unfold wrongM
    rw [c]
    exact hv
  · refine s_retV (ve_anyM (l := Gq03.nodes) (h := fun y => clashBM d x y) (vn_map Gq03.nodes eN _ (vn_call va_nil ⟨rfl, rfl⟩).l (by decide) ?_).l) fun v H3 e3 hv => q v H3 ((e1.trans e2).trans e3) ?_
    · intro y hy v H3 e3 hv
      have e13 := (e1.trans e2).trans e3
      exact ⟨[some v1, some v2, some v3, some (.ref p), some v, none], fun Q h => h, rfl, ve_call (va_l (vl_var rfl (Ls.ex hv1 e13)) (va_x (vx_lw rfl fun H' e' => lw e13 e') (va_p (ve_var rfl (Dt.ex hv3 e13)) (va_p (ve_var rfl hv) va_nil)))) ⟨d, x, y, rfl, fit, rfl⟩⟩
    · unfold wrongM
      rw [c]
      exact hv
theorem ok_wrong_nodes (T : Txt mg) (D_nodes : Def P w K mg base 1 "nodes" [] (sp_nodes K)) (D_is_wrong : Def P w K mg base 5 "is_wrong" ["told", "laws", "x"] (sp_is_wrong K CL)) (F : At K mg "wrong_nodes" s_wrong_nodes ["told", "laws"]) : Def P w K mg base 6 "wrong_nodes" ["told", "laws"] (sp_wrong_nodes K CL) := by
  refine F.ok sc_wrong_nodes (spN_len rWN_len) fun f cdv AA outer s H vs Q EE hr h => ?_
  obtain ⟨as, d, ha, ⟨d, rfl, fit, rfl⟩, q⟩ := h
  obtain ⟨v1, v2, rfl, hv1, hv2⟩ := args2 ha
  have hv2 : ∀ H', Ex H H' → IsLawsB K CL d.rules H' v2 := hv2
  have nd := sc_wrong_nodes.nd
  refine ⟨(tRet (tLc (iList K (tCall (sp_nodes K) [] E0 tNil)) (gName 2) (tB (tCall (sp_is_wrong K CL) [] E0 (tCons (tVar 0) (tCons (tVar 1) (tCons (tVar 2) tNil))))) (tVar 2) [2])), (pss_one (ps_ret (pe_lc (own := [("x", 2)]) (g := (gName 2)) (tt := (tB (tCall (sp_is_wrong K CL) [] E0 (tCons (tVar 0) (tCons (tVar 1) (tCons (tVar 2) tNil)))))) (te := (tVar 2)) rfl nd (pi_list (pe_def0 D_nodes (hr.mono (by decide)) (by rfl))) (blkOk_by (own := [("x", 2)]) (N := ["told", "laws", "x"]) (sc := defScope s_wrong_nodes) (by decide +kernel)) (fun _ _ _ _ _ => by exact (pg_name (i := 2) nd rfl (Or.inl rfl))) (fun _ _ _ _ _ => by exact (pts_one (pt_val (pe_def D_is_wrong (hr.mono (by decide)) (by rfl) (pa_cons (pv 0) (pa_cons (pv 1) (pa_cons (pv 2) pa_nil))))))) (fun _ _ _ _ _ => by exact (pv 2))))), ?_⟩
  refine s_retN (vn_lc Gq03.nodes eN (fun x => wrongM d (badM d.rules) x) eN (vn_call va_nil ⟨rfl, rfl⟩).l (by decide) ?_) q
  intro x hx v H2 e2 hv
  exact ⟨[some v1, some v2, some v], fun Q h => h, rfl, vt_B (ve_call (va_l (vl_var rfl (Ls.ex hv1 e2)) (va_x (vx_var rfl fun H' e' => hv2 H' (e2.trans e')) (va_p (ve_var rfl hv) va_nil))) ⟨d, x, rfl, fit, rfl⟩), fun _ => ve_var rfl hv⟩
theorem ok_can_be (T : Txt mg) (D_wrong_nodes : Def P w K mg base 6 "wrong_nodes" ["told", "laws"] (sp_wrong_nodes K CL)) (F : At K mg "can_be" s_can_be ["told", "laws"]) : Def P w K mg base 7 "can_be" ["told", "laws"] (sp_can_be K CL) := by
  refine F.ok sc_can_be (spV_len rCan_len) fun f cdv AA outer s H vs Q EE hr h => ?_
  obtain ⟨as, d, ha, ⟨d, rfl, fit, rfl⟩, q⟩ := h
  obtain ⟨v1, v2, rfl, hv1, hv2⟩ := args2 ha
  have hv2 : ∀ H', Ex H H' → IsLawsB K CL d.rules H' v2 := hv2
  have nd := sc_can_be.nd
  refine ⟨(tRet (tOp rEq (tCB (rLenS K) (tCons (tCall (sp_wrong_nodes K CL) [] E0 (tCons (tVar 0) (tCons (tVar 1) tNil))) tNil)) (tC (.int 0)))), (pss_one (ps_ret (pe_cmpR op_eq (pe_callB call_len_seq (by rfl) T.b_len PySem.boot_len (pa_cons (pe_def D_wrong_nodes (hr.mono (by decide)) (by rfl) (pa_cons (pv 0) (pa_cons (pv 1) pa_nil))) pa_nil)) pe_int (nomark _)))), ?_⟩
  refine s_retV ((ve_eqI (ve_len (vn_call (va_l (vl_var rfl hv1) (va_x (vx_var rfl hv2) va_nil)) ⟨d, rfl, fit, rfl⟩).l) ve_int).to ?_) q
  rw [List.length_map, Wm.sound_wrongs fit.ok]
  congr 1
  cases wrongsM d with
  | nil => rfl
  | cons a l =>
    rw [List.isEmpty_cons, decide_eq_false_iff_not, List.length_cons]
    omega
theorem sound_len {d : Desk} (fit : Fit d) : (0 < (wrongsM d).length) ↔ Gq03.sound d = false := by
  rw [Wm.sound_wrongs fit.ok]
  cases wrongsM d with
  | nil => simp
  | cons a l => simp
theorem ok_certain_nodes (T : Txt mg) (D_can_be : Def P w K mg base 7 "can_be" ["told", "laws"] (sp_can_be K CL)) (D_nodes : Def P w K mg base 1 "nodes" [] (sp_nodes K)) (D_profile : Def P w K mg base 3 "profile" ["told", "laws", "x"] (sp_profile K CL)) (F : At K mg "certain_nodes" s_certain_nodes ["told", "laws", "b"]) : Def P w K mg base 8 "certain_nodes" ["told", "laws", "b"] (sp_certain_nodes K CL) := by
  refine F.ok sc_certain_nodes (spN_len rCN_len) fun f cdv AA outer s H vs Q EE hr h => ?_
  obtain ⟨as, d, ha, ⟨d, b, rfl, fit, rfl⟩, q⟩ := h
  obtain ⟨v1, v2, v3, rfl, hv1, hv2, hv3⟩ := args3 ha
  have hv2 : ∀ H', Ex H H' → IsLawsB K CL d.rules H' v2 := hv2
  have nd := sc_certain_nodes.nd
  have hu := hu65 hr
  refine ⟨(tSeq (tIfS (tNot (tB (tCall (sp_can_be K CL) [] E0 (tCons (tVar 0) (tCons (tVar 1) tNil)))))
      (tRet (tCall (sp_nodes K) [] E0 tNil))
      tNext)
    (tRet (tLc (iList K (tCall (sp_nodes K) [] E0 tNil)) (gName 3) (tTest (tOp (rInD K) (tVar 2) (tCall (sp_profile K CL) [] E0 (tCons (tVar 0) (tCons (tVar 1) (tCons (tVar 3) tNil)))))) (tVar 3) [3]))), (pss_cons (ps_if (pt_not (pt_val (pe_def D_can_be (hr.mono (by decide)) (by rfl) (pa_cons (pv 0) (pa_cons (pv 1) pa_nil)))))
        (pss_one (ps_ret (pe_def0 D_nodes (hr.mono (by decide)) (by rfl))))
        pss_nil)
      (pss_one (ps_ret (pe_lc (own := [("x", 3)]) (g := (gName 3)) (tt := (tTest (tOp (rInD K) (tVar 2) (tCall (sp_profile K CL) [] E0 (tCons (tVar 0) (tCons (tVar 1) (tCons (tVar 3) tNil))))))) (te := (tVar 3)) rfl nd (pi_list (pe_def0 D_nodes (hr.mono (by decide)) (by rfl))) (blkOk_by (own := [("x", 3)]) (N := ["told", "laws", "b", "x"]) (sc := defScope s_certain_nodes) (by decide +kernel)) (fun _ _ _ _ _ => by exact (pg_name (i := 3) nd rfl (Or.inl rfl))) (fun _ _ _ _ _ => by exact (pts_one (pt_cmpR (op_inD hu) (pv 2) (pe_def D_profile (hr.mono (by decide)) (by rfl) (pa_cons (pv 0) (pa_cons (pv 1) (pa_cons (pv 3) pa_nil)))) (by rfl)))) (fun _ _ _ _ _ => by exact (pv 3)))))), ?_⟩
  rw [← Wm.certM_eq fit.ok] at q
  refine q_when (et_not (vt_B (ve_call (va_l (vl_var rfl hv1) (va_x (vx_var rfl hv2) va_nil)) ⟨d, rfl, fit, rfl⟩))) (fun c H1 e1 => ?_) (fun c H1 e1 => ?_)
  · have c : Gq03.sound d = false := by simpa using c
    refine s_retN (vn_call va_nil ⟨rfl, rfl⟩) fun p H2 n2 e2 o2 => q p H2 (fresh_back e1 n2) (e1.trans e2) ?_
    unfold certM
    rw [if_pos ((sound_len fit).mpr c)]
    exact o2
  · have c : Gq03.sound d = true := by simpa using c
    refine s_retN (vn_lc Gq03.nodes eN (fun x => (profM d x).contains b) eN (vn_call va_nil ⟨rfl, rfl⟩).l (by decide) ?_) fun p H2 n2 e2 o2 => q p H2 (fresh_back e1 n2) (e1.trans e2) ?_
    · intro x hx v H2 e2 hv
      have e12 := e1.trans e2
      exact ⟨[some v1, some v2, some v3, some v], fun Q h => h, rfl, vt_test (ve_inE encB (ve_var rfl (Dt.ex hv3 e12)) (vn_call (va_l (vl_var rfl (Ls.ex hv1 e12)) (va_x (vx_lw rfl fun H' e' => hv2 H' (e12.trans e')) (va_p (ve_var rfl hv) va_nil))) ⟨d, x, rfl, fit, rfl⟩).l), fun _ => ve_var rfl hv⟩
    · unfold certM
      rw [if_neg (fun h => by rw [(sound_len fit).mp h] at c; cases c)]
      exact o2
theorem ok_certain_directions (T : Txt mg) (D_can_be : Def P w K mg base 7 "can_be" ["told", "laws"] (sp_can_be K CL)) (D_directions : Def P w K mg base 1 "directions" [] (sp_directions K)) (D_directions_between : Def P w K mg base 3 "directions_between" ["told", "laws", "x", "y"] (sp_directions_between K CL)) (F : At K mg "certain_directions" s_certain_directions ["told", "laws", "x", "y"]) : Def P w K mg base 8 "certain_directions" ["told", "laws", "x", "y"] (sp_certain_directions K CL) := by
  refine F.ok sc_certain_directions (spN_len rCD_len) fun f cdv AA outer s H vs Q EE hr h => ?_
  obtain ⟨as, d, ha, ⟨d, x, y, rfl, fit, rfl⟩, q⟩ := h
  obtain ⟨v1, v2, v3, v4, rfl, hv1, hv2, hv3, hv4⟩ := args4 ha
  have hv2 : ∀ H', Ex H H' → IsLawsB K CL d.rules H' v2 := hv2
  have nd := sc_certain_directions.nd
  have hu := hu65 hr
  refine ⟨(tSeq (tIfS (tNot (tB (tCall (sp_can_be K CL) [] E0 (tCons (tVar 0) (tCons (tVar 1) tNil)))))
      (tRet (tCall (sp_directions K) [] E0 tNil))
      tNext)
    (tRet (tCB (rSortedI K) (tCons (tCall (sp_directions_between K CL) [] E0 (tCons (tVar 0) (tCons (tVar 1) (tCons (tVar 2) (tCons (tVar 3) tNil))))) tNil)))), (pss_cons (ps_if (pt_not (pt_val (pe_def D_can_be (hr.mono (by decide)) (by rfl) (pa_cons (pv 0) (pa_cons (pv 1) pa_nil)))))
        (pss_one (ps_ret (pe_def0 D_directions (hr.mono (by decide)) (by rfl))))
        pss_nil)
      (pss_one (ps_ret (pe_callB cr_sortedI (by rfl) T.b_sorted (by decide +kernel) (pa_cons (pe_def D_directions_between (hr.mono (by decide)) (by rfl) (pa_cons (pv 0) (pa_cons (pv 1) (pa_cons (pv 2) (pa_cons (pv 3) pa_nil))))) pa_nil))))), ?_⟩
  rw [← Wm.cdirM_eq fit.ok] at q
  refine q_when (et_not (vt_B (ve_call (va_l (vl_var rfl hv1) (va_x (vx_var rfl hv2) va_nil)) ⟨d, rfl, fit, rfl⟩))) (fun c H1 e1 => ?_) (fun c H1 e1 => ?_)
  · have c : Gq03.sound d = false := by simpa using c
    refine s_retN (vn_call va_nil ⟨rfl, rfl⟩) fun p H2 n2 e2 o2 => q p H2 (fresh_back e1 n2) (e1.trans e2) ?_
    unfold cdirM
    rw [if_pos ((sound_len fit).mpr c)]
    exact o2
  · have c : Gq03.sound d = true := by simpa using c
    have rn : Gq03.roles.Nodup := by decide
    refine s_retN (vn_sortedN (l := dirsM d x y) (m := Gq03.roles.filter fun r => (dirsM d x y).contains r) (vn_call (va_l (vl_var rfl (Ls.ex hv1 e1)) (va_x (vx_lw rfl fun H' e' => hv2 H' (e1.trans e')) (va_p (ve_var rfl (Dt.ex hv3 e1)) (va_p (ve_var rfl (Dt.ex hv4 e1)) va_nil)))) ⟨d, x, y, rfl, fit, rfl⟩).l Wm.dirsM_nodup (rn.filter _) (Wm.roles_sorted.filter _) fun r => ?_) fun p H2 n2 e2 o2 => q p H2 (fresh_back e1 n2) (e1.trans e2) ?_
    · rw [List.mem_filter, List.contains_iff_mem]
      exact ⟨fun h => ⟨Wm.between_roles fit.ok ((Wm.mem_dirsM fit.ok).mp h), h⟩, fun h => h.2⟩
    · unfold cdirM
      rw [if_neg (fun h => by rw [(sound_len fit).mp h] at c; cases c)]
      exact o2
theorem ok_sources (T : Txt mg) (D_profile : Def P w K mg base 3 "profile" ["told", "laws", "x"] (sp_profile K CL)) (F : At K mg "sources" s_sources ["told", "laws", "x", "b"]) : Def P w K mg base 4 "sources" ["told", "laws", "x", "b"] (sp_sources K CL) := by
  refine F.ok sc_sources (spN_len rSrc_len) fun f cdv AA outer s H vs Q EE hr h => ?_
  obtain ⟨as, d, ha, ⟨d, x, b, rfl, fit, rfl⟩, q⟩ := h
  obtain ⟨v1, v2, v3, v4, rfl, hv1, hv2, hv3, hv4⟩ := args4 ha
  have hv2 : ∀ H', Ex H H' → IsLaws K CL d.rules H' v2 := hv2
  have nd := sc_sources.nd
  have hu := hu65 hr
  refine ⟨(tRet (tLc (iEnum K (tCons (tVar 0) tNil)) (gTup K 2 (gCons (gName 4) (gCons (gName 5) gNil))) (tTest (tOp (rInD K) (tVar 3) (tCall (sp_profile K CL) [] E0 (tCons (tLst (tCons (tVar 5) tNil)) (tCons (tVar 1) (tCons (tVar 2) tNil)))))) (tVar 4) [4, 5])), (pss_one (ps_ret (pe_lc (own := [("n", 4), ("thing", 5)]) (g := (gTup K 2 (gCons (gName 4) (gCons (gName 5) gNil)))) (tt := (tTest (tOp (rInD K) (tVar 3) (tCall (sp_profile K CL) [] E0 (tCons (tLst (tCons (tVar 5) tNil)) (tCons (tVar 1) (tCons (tVar 2) tNil))))))) (te := (tVar 4)) rfl nd (pi_enum (by rfl) T.b_enumerate (pa_cons (pv 0) pa_nil)) (blkOk_by (own := [("n", 4), ("thing", 5)]) (N := ["told", "laws", "x", "b", "n", "thing"]) (sc := defScope s_sources) (by decide +kernel)) (fun _ _ _ _ _ => by exact (pg_tup rfl (pgs_cons (pg_name (i := 4) nd rfl (Or.inl rfl)) (pgs_cons (pg_name (i := 5) nd rfl (Or.inl rfl)) pgs_nil)))) (fun _ _ _ _ _ => by exact (pts_one (pt_cmpR (op_inD hu) (pv 3) (pe_def D_profile (hr.mono (by decide)) (by rfl) (pa_cons (pe_lst (pa_cons (pv 5) pa_nil)) (pa_cons (pv 1) (pa_cons (pv 2) pa_nil)))) (by rfl)))) (fun _ _ _ _ _ => by exact (pv 4))))), ?_⟩
  have := fit.fl
  refine s_retN (vn_lcE d.facts eF (fun f => (Gq03.typeOf ⟨[f.1], d.rules⟩ x).contains b) (fun f => eN f.2) (va_l (vl_var rfl hv1) va_nil) (by omega) ?_) fun p H2 n2 e2 o2 => q p H2 n2 e2 (by unfold srcM; rw [List.map_map]; exact o2)
  intro i t ht v H1 e1 hv
  obtain ⟨x1, x2, h1, h2, hg⟩ := g_pair (i := 4) (j := 5) hv
  have okt := fit.ok.facts t (List.mem_of_getElem? ht)
  have fit1 : Fit ⟨[t], d.rules⟩ := ⟨⟨fun z hz => by cases List.mem_singleton.mp hz; exact okt, fit.ok.rules⟩, by simp, fit.rl⟩
  refine ⟨_, hg _, rfl, et_is (vt_test (ve_inE encB (ve_var rfl (Dt.ex hv4 e1)) (vn_call (va_l (vn_lst [eF t] (va_p (ve_var rfl h2) va_nil) (by simp)).l (va_x (vx_var rfl fun H' e' => hv2 H' (e1.trans e')) (va_p (ve_var rfl (Dt.ex hv3 e1)) va_nil))) ⟨⟨[t], d.rules⟩, x, rfl, fit1, rfl⟩).l)) ?_, fun _ => ve_var rfl h1⟩
  rw [Bool.eq_iff_iff, List.contains_iff_mem, List.contains_iff_mem]
  exact Wm.mem_profM fit1.ok
end
end Wp

set_option Elab.async false
set_option linter.all false
set_option maxRecDepth 100000
set_option maxHeartbeats 2000000
namespace Wp
open PySem PySem.Spec PyProof.Rows L2 Evl Dx
open Gq03 (Basic Rule Fact Desk)
open Wm (OkDesk Fit OkRules OkRule factE factB pairG aloneG rowM rowOf)
abbrev s_thing_with_edge : Stmt := top 50
theorem sc_thing_with_edge : FnScope ["r", "x", "y"] ["r", "x", "y"] (defScope s_thing_with_edge) := ⟨rfl, rfl, rfl, by decide +kernel, rfl, by decide +kernel, by decide +kernel⟩
abbrev s_thing_with_basic : Stmt := top 51
theorem sc_thing_with_basic : FnScope ["b", "x", "y"] ["b", "x", "y"] (defScope s_thing_with_basic) := ⟨rfl, rfl, rfl, by decide +kernel, rfl, by decide +kernel, by decide +kernel⟩
abbrev s_always_sub : Stmt := top 52
theorem sc_always_sub : FnScope ["laws", "b", "c"] ["laws", "b", "c"] (defScope s_always_sub) := ⟨rfl, rfl, rfl, by decide +kernel, rfl, by decide +kernel, by decide +kernel⟩
abbrev s_always_role : Stmt := top 53
theorem sc_always_role : FnScope ["laws", "r", "s"] ["laws", "r", "s"] (defScope s_always_role) := ⟨rfl, rfl, rfl, by decide +kernel, rfl, by decide +kernel, by decide +kernel⟩
abbrev s_always_never : Stmt := top 54
theorem sc_always_never : FnScope ["laws", "b", "c"] ["laws", "b", "c"] (defScope s_always_never) := ⟨rfl, rfl, rfl, by decide +kernel, rfl, by decide +kernel, by decide +kernel⟩
abbrev s_always_neverrole : Stmt := top 55
theorem sc_always_neverrole : FnScope ["laws", "r", "s"] ["laws", "r", "s"] (defScope s_always_neverrole) := ⟨rfl, rfl, rfl, by decide +kernel, rfl, by decide +kernel, by decide +kernel⟩
abbrev s_always_kept : Stmt := top 56
theorem sc_always_kept : FnScope ["laws", "rule"] ["laws", "rule"] (defScope s_always_kept) := ⟨rfl, rfl, rfl, by decide +kernel, rfl, by decide +kernel, by decide +kernel⟩
abbrev s_impossible_ones : Stmt := top 68
theorem sc_impossible_ones : FnScope ["told", "laws", "n", "thing"] ["told", "laws"] (defScope s_impossible_ones) := ⟨rfl, rfl, rfl, by decide +kernel, rfl, by decide +kernel, by decide +kernel⟩
abbrev s_later_foes : Stmt := top 69
theorem sc_later_foes : FnScope ["told", "laws", "table", "n", "m"] ["told", "laws"] (defScope s_later_foes) := ⟨rfl, rfl, rfl, by decide +kernel, rfl, by decide +kernel, by decide +kernel⟩
abbrev s_first_row : Stmt := top 70
theorem sc_first_row : FnScope ["foes", "left", "rest", "against", "without", "staying", "m"] ["foes", "left"] (defScope s_first_row) := ⟨rfl, rfl, rfl, by decide +kernel, rfl, by decide +kernel, by decide +kernel⟩
abbrev s_fewest_to_drop : Stmt := top 71
theorem sc_fewest_to_drop : FnScope ["told", "laws", "alone", "left", "n"] ["told", "laws"] (defScope s_fewest_to_drop) := ⟨rfl, rfl, rfl, by decide +kernel, rfl, by decide +kernel, by decide +kernel⟩
def rTE : List Dx.Arg → PyData → Prop := fun as d => ∃ r x y : Nat, as = [.p (eN r), .p (eN x), .p (eN y)] ∧ d = eF (factE r x y)
theorem rTE_len : ∀ as d, rTE as d → as.length = 3 := by rintro as d ⟨x, y, z, rfl, _⟩; rfl
abbrev sp_thing_with_edge (K : PySem.W.Frag) : Sp := spV K rTE
def rTBs : List Dx.Arg → PyData → Prop := fun as d => ∃ (b : Basic) (x y : Nat), as = [.p (eB b), .p (eN x), .p (eN y)] ∧ d = eF (factB b x y)
theorem rTBs_len : ∀ as d, rTBs as d → as.length = 3 := by rintro as d ⟨x, y, z, rfl, _⟩; rfl
abbrev sp_thing_with_basic (K : PySem.W.Frag) : Sp := spV K rTBs
def keptM (rs : List Rule) : Rule → Bool
  | .sub b c => Gq03.follows rs b c
  | .role r s => (Gq03.upRole rs r).contains s || Gq03.badRole rs (Gq03.bad rs) r
  | .never b c => (Gq03.bad rs).contains b || ((Gq03.bad rs).contains c || Gq03.neverBoth rs (Gq03.up rs [b, c]))
  | .neverRole r s => Gq03.badRole rs (Gq03.bad rs) r || (Gq03.badRole rs (Gq03.bad rs) s || (Gq03.neverRoles rs (Gq03.upRole rs r ++ Gq03.upRole rs s) ||
    (Gq03.neverBoth rs (Gq03.up rs [.has r, .has s]) || Gq03.neverBoth rs (Gq03.up rs [.has (Gq03.turned r), .has (Gq03.turned s)]))))
theorem idle_kept {rs : List Rule} {n : Nat} {x : Rule} (h : rs[n]? = some x) : Gq03.idle rs n = keptM (Gq03.without n rs) x := by
  unfold Gq03.idle
  rw [h]
  cases x <;> rfl
section
variable (K : PySem.W.Frag) (CL : Addr)
def rAB (g : List Rule → Basic → Basic → Bool) : List Dx.Arg → PyData → Prop := fun as d => ∃ (rs : List Rule) (b c : Basic), as = [.x (IsLawsB K CL rs), .p (eB b), .p (eB c)] ∧ OkRules rs ∧ rs.length ≤ 12 ∧ b ∈ Gq03.basics ∧ c ∈ Gq03.basics ∧ d = .bool (g rs b c)
def rAD (g : List Rule → Nat → Nat → Bool) : List Dx.Arg → PyData → Prop := fun as d => ∃ (rs : List Rule) (b c : Nat), as = [.x (IsLawsB K CL rs), .p (eN b), .p (eN c)] ∧ OkRules rs ∧ rs.length ≤ 12 ∧ b ∈ Gq03.roles ∧ c ∈ Gq03.roles ∧ d = .bool (g rs b c)
abbrev sp_always_sub : Sp := spV K (rAB K CL fun rs b c => keptM rs (.sub b c))
abbrev sp_always_never : Sp := spV K (rAB K CL fun rs b c => keptM rs (.never b c))
abbrev sp_always_role : Sp := spV K (rAD K CL fun rs b c => keptM rs (.role b c))
abbrev sp_always_neverrole : Sp := spV K (rAD K CL fun rs b c => keptM rs (.neverRole b c))
def rKept : List Dx.Arg → PyData → Prop := fun as d => ∃ (rs : List Rule) (x : Rule), as = [.x (IsLawsB K CL rs), .p (eR x)] ∧ OkRules rs ∧ rs.length ≤ 12 ∧ OkRule x ∧ d = .bool (keptM rs x)
abbrev sp_always_kept : Sp := spV K (rKept K CL)
/-! the fewest -/
def rImp : List Dx.Arg → List PyData → Prop := fun as ds => ∃ (d : Desk), as = [.l (d.facts.map eF), .x (IsLawsB K CL d.rules)] ∧ Fit d ∧ ds = ((List.range d.facts.length).filter (aloneG d)).map eN
abbrev sp_impossible_ones : Sp := spN K (rImp K CL)
def foesM (d : Desk) (n : Nat) : List Nat := ((List.range (d.facts.length - (n + 1))).filter fun i => pairG d n (n + 1 + i)).map fun i => n + 1 + i
def foesT (d : Desk) (n : Nat) : Option (List PyData) := if n < d.facts.length then some ((foesM d n).map eN) else none
def rFoes : List Dx.Arg → (Hp → V → Prop) → Prop := fun as ψ => ∃ (d : Desk), as = [.l (d.facts.map eF), .x (IsLawsB K CL d.rules)] ∧ Fit d ∧ ψ = Tb objN (LsP K) 14 (foesT d)
abbrev sp_later_foes : Sp := spX K (rFoes K CL)
def rRowN (n : Nat) : List Dx.Arg → List PyData → Prop := fun as ds => ∃ (N : Nat) (f : Nat → Option (List PyData)) (F : Nat → List Nat) (G : Nat → Nat → Bool) (left : List Nat), as = [.x (Tb objN (LsP K) N f), .l (left.map eN)] ∧ left.Pairwise (· < ·) ∧ left.length ≤ n ∧ n ≤ 14 ∧
  (∀ x ∈ left, f x = some ((F x).map eN)) ∧ (∀ x ∈ left, ∀ m ∈ left, x < m → (F x).contains m = G x m) ∧ ds = (rowM G n left).map eN
def sp_first_row : Nat → Sp
  | 0 => fun _ _ _ _ => False
  | n + 1 => spN K (rRowN K n)
def rFew : List Dx.Arg → List PyData → Prop := fun as ds => ∃ (d : Desk), as = [.l (d.facts.map eF), .x (IsLawsB K CL d.rules)] ∧ Fit d ∧ ds = (Gq03.fewest d).map eN
abbrev sp_fewest_to_drop : Sp := spN K (rFew K CL)
end
section
variable {K : PySem.W.Frag} {CL : Addr}
theorem rAB_len {g : List Rule → Basic → Basic → Bool} : ∀ as d, rAB K CL g as d → as.length = 3 := by rintro as d ⟨x, y, z, rfl, _⟩; rfl
theorem rAD_len {g : List Rule → Nat → Nat → Bool} : ∀ as d, rAD K CL g as d → as.length = 3 := by rintro as d ⟨x, y, z, rfl, _⟩; rfl
theorem rKept_len : ∀ as d, rKept K CL as d → as.length = 2 := by rintro as d ⟨x, y, rfl, _⟩; rfl
theorem rImp_len : ∀ as d, rImp K CL as d → as.length = 2 := by rintro as d ⟨x, rfl, _⟩; rfl
theorem rFoes_len : ∀ as d, rFoes K CL as d → as.length = 2 := by rintro as d ⟨x, rfl, _⟩; rfl
theorem rRowN_len {n : Nat} : ∀ as d, rRowN K n as d → as.length = 2 := by rintro as d ⟨_, _, _, _, x, rfl, _⟩; rfl
theorem rFew_len : ∀ as d, rFew K CL as d → as.length = 2 := by rintro as d ⟨x, rfl, _⟩; rfl
end
theorem fit_of {rs : List Rule} (ok : OkRules rs) (l12 : rs.length ≤ 12) {fs : List Fact} (hf : ∀ f ∈ fs, Wm.OkFact f) (l : fs.length ≤ 14) : Fit ⟨fs, rs⟩ := ⟨⟨hf, ok⟩, l, l12⟩
theorem one_ok {f : Fact} (h : Wm.OkFact f) : ∀ z ∈ [f], Wm.OkFact z := fun z hz => by cases List.mem_singleton.mp hz; exact h
theorem two_ok {f g : Fact} (h : Wm.OkFact f) (k : Wm.OkFact g) : ∀ z ∈ [f, g], Wm.OkFact z := fun z hz => by
  rcases List.mem_cons.mp hz with e | e
  · rw [e]; exact h
  · rw [List.mem_singleton.mp e]; exact k
theorem filter_contains {p : Nat → Bool} {l : List Nat} {x : Nat} (h : x ∈ l) : (l.filter p).contains x = p x := by
  rw [Bool.eq_iff_iff, List.contains_iff_mem, List.mem_filter]
  exact ⟨fun h => h.2, fun k => ⟨h, k⟩⟩
section
variable {P : Program} {w : World} {K : PySem.W.Frag} {mg : Str → Option Value} {base : Heap} {CL : Addr}
theorem ok_thing_with_edge (T : Txt mg) (D_label : Def P w K mg base 1 "label" ["r"] (sp_label K)) (D_is_forward : Def P w K mg base 1 "is_forward" ["r"] (sp_is_forward K)) (F : At K mg "thing_with_edge" s_thing_with_edge ["r", "x", "y"]) : Def P w K mg base 2 "thing_with_edge" ["r", "x", "y"] (sp_thing_with_edge K) := by
  refine F.ok sc_thing_with_edge (spV_len rTE_len) fun f cdv AA outer s H vs Q EE hr h => ?_
  obtain ⟨as, d, ha, ⟨r, x, y, rfl, rfl⟩, q⟩ := h
  obtain ⟨v1, v2, v3, rfl, hv1, hv2, hv3⟩ := args3 ha
  have nd := sc_thing_with_edge.nd
  refine ⟨(tRet (tIf (tB (tCall (sp_is_forward K) [] E0 (tCons (tVar 0) tNil))) (tTup (tCons (tC (.str "edge")) (tCons (tVar 1) (tCons (tCall (sp_label K) [] E0 (tCons (tVar 0) tNil)) (tCons (tVar 2) tNil))))) (tTup (tCons (tC (.str "edge")) (tCons (tVar 2) (tCons (tCall (sp_label K) [] E0 (tCons (tVar 0) tNil)) (tCons (tVar 1) tNil))))))), (pss_one (ps_ret (pe_ifExp (pt_val (pe_def D_is_forward (hr.mono (by decide)) (by rfl) (pa_cons (pv 0) pa_nil))) (pe_tup (pa_cons (pe_gS T.c_EDGE) (pa_cons (pv 1) (pa_cons (pe_def D_label (hr.mono (by decide)) (by rfl) (pa_cons (pv 0) pa_nil)) (pa_cons (pv 2) pa_nil))))) (pe_tup (pa_cons (pe_gS T.c_EDGE) (pa_cons (pv 2) (pa_cons (pe_def D_label (hr.mono (by decide)) (by rfl) (pa_cons (pv 0) pa_nil)) (pa_cons (pv 1) pa_nil)))))))), ?_⟩
  refine s_retV (ve_if (vt_B (ve_call (va_p (ve_var rfl hv1) va_nil) ⟨r, rfl, rfl⟩)) (fun c => ?_) (fun c => ?_)) q
  · have c : r % 2 = 0 := of_decide_eq_true c
    unfold factE
    rw [if_pos c]
    exact ve_tup [.str "edge", eN x, eN (r / 2), eN y] (va_p ve_str (va_p (ve_var rfl hv2) (va_p (ve_call (va_p (ve_var rfl hv1) va_nil) ⟨r, rfl, trivial, rfl⟩) (va_p (ve_var rfl hv3) va_nil)))) (by simp)
  · have c : ¬ r % 2 = 0 := of_decide_eq_false c
    unfold factE
    rw [if_neg c]
    exact ve_tup [.str "edge", eN y, eN (r / 2), eN x] (va_p ve_str (va_p (ve_var rfl hv3) (va_p (ve_call (va_p (ve_var rfl hv1) va_nil) ⟨r, rfl, trivial, rfl⟩) (va_p (ve_var rfl hv2) va_nil)))) (by simp)
theorem ok_thing_with_basic (T : Txt mg) (D_thing_with_edge : Def P w K mg base 2 "thing_with_edge" ["r", "x", "y"] (sp_thing_with_edge K)) (F : At K mg "thing_with_basic" s_thing_with_basic ["b", "x", "y"]) : Def P w K mg base 3 "thing_with_basic" ["b", "x", "y"] (sp_thing_with_basic K) := by
  refine F.ok sc_thing_with_basic (spV_len rTBs_len) fun f cdv AA outer s H vs Q EE hr h => ?_
  obtain ⟨as, d, ha, ⟨b, x, y, rfl, rfl⟩, q⟩ := h
  obtain ⟨v1, v2, v3, rfl, hv1, hv2, hv3⟩ := args3 ha
  have hv1 : Dt K H v1 (eB b) := hv1
  have nd := sc_thing_with_basic.nd
  refine ⟨(tRet (tIf (tTest (tOp rEq (tOp (rIxT K) (tVar 0) (tC (.int 0))) (tC (.int (0))))) (tTup (tCons (tC (.str "kind")) (tCons (tVar 1) (tCons (tOp (rIxT K) (tVar 0) (tC (.int 1))) tNil)))) (tCall (sp_thing_with_edge K) [] E0 (tCons (tOp (rIxT K) (tVar 0) (tC (.int 1))) (tCons (tVar 1) (tCons (tVar 2) tNil)))))), (pss_one (ps_ret (pe_ifExp (pt_cmpR op_eq (pe_ix ix_tup (pv 0) pe_int (fun _ _ => rfl)) (pe_gI T.c_OF_KIND) (nomark _)) (pe_tup (pa_cons (pe_gS T.c_KIND) (pa_cons (pv 1) (pa_cons (pe_ix ix_tup (pv 0) pe_int (fun _ _ => rfl)) pa_nil)))) (pe_def D_thing_with_edge (hr.mono (by decide)) (by rfl) (pa_cons (pe_ix ix_tup (pv 0) pe_int (fun _ _ => rfl)) (pa_cons (pv 1) (pa_cons (pv 2) pa_nil))))))), ?_⟩
  cases b with
  | kind k => exact s_retV (ve_if (b := decide ((0 : Int) = 0)) (vt_test (ve_eqI (ve_ixT (i := 0) (ve_var rfl hv1) ve_int rfl) ve_int)) (fun _ => ve_tup [.str "kind", eN x, eN k] (va_p ve_str (va_p (ve_var rfl hv2) (va_p (ve_ixT (i := 1) (ve_var rfl hv1) ve_int rfl) va_nil))) (by simp)) (fun c => absurd c (by decide))) q
  | has r => exact s_retV (ve_if (b := decide ((1 : Int) = 0)) (vt_test (ve_eqI (ve_ixT (i := 0) (ve_var rfl hv1) ve_int rfl) ve_int)) (fun c => absurd c (by decide)) (fun _ => ve_call (va_p (ve_ixT (i := 1) (ve_var rfl hv1) ve_int rfl) (va_p (ve_var rfl hv2) (va_p (ve_var rfl hv3) va_nil))) ⟨r, x, y, rfl, rfl⟩)) q
theorem ok_always_sub (T : Txt mg) (D_thing_with_basic : Def P w K mg base 3 "thing_with_basic" ["b", "x", "y"] (sp_thing_with_basic K)) (D_certain_nodes : Def P w K mg base 8 "certain_nodes" ["told", "laws", "b"] (sp_certain_nodes K CL)) (F : At K mg "always_sub" s_always_sub ["laws", "b", "c"]) : Def P w K mg base 9 "always_sub" ["laws", "b", "c"] (sp_always_sub K CL) := by
  refine F.ok sc_always_sub (spV_len rAB_len) fun f cdv AA outer s H vs Q EE hr h => ?_
  obtain ⟨as, d, ha, ⟨rs, b, c, rfl, ok, l12, hb, hc, rfl⟩, q⟩ := h
  obtain ⟨v1, v2, v3, rfl, hv1, hv2, hv3⟩ := args3 ha
  have hv1 : ∀ H', Ex H H' → IsLawsB K CL rs H' v1 := hv1
  have nd := sc_always_sub.nd
  have hu := hu65 hr
  refine ⟨(tRet (tOp (rInD K) (tC (.int 1)) (tCall (sp_certain_nodes K CL) [] E0 (tCons (tLst (tCons (tCall (sp_thing_with_basic K) [] E0 (tCons (tVar 1) (tCons (tC (.int 1)) (tCons (tC (.int 2)) tNil)))) tNil)) (tCons (tVar 0) (tCons (tVar 2) tNil)))))), (pss_one (ps_ret (pe_cmpR (op_inD hu) pe_int (pe_def D_certain_nodes (hr.mono (by decide)) (by rfl) (pa_cons (pe_lst (pa_cons (pe_def D_thing_with_basic (hr.mono (by decide)) (by rfl) (pa_cons (pv 1) (pa_cons pe_int (pa_cons pe_int pa_nil)))) pa_nil)) (pa_cons (pv 0) (pa_cons (pv 2) pa_nil)))) (by rfl)))), ?_⟩
  have fit := fit_of ok l12 (one_ok (Wm.factB_ok hb Wm.one_node Wm.two_node)) (by simp)
  refine s_retV ((ve_inE encN (a := 1) ve_int (vn_call (va_l (vn_lst [eF (factB b 1 2)] (va_p (ve_call (va_p (ve_var rfl hv2) (va_p ve_int (va_p ve_int va_nil))) ⟨b, 1, 2, rfl, rfl⟩) va_nil) (by simp)).l (va_x (vx_var rfl hv1) (va_p (ve_var rfl hv3) va_nil))) ⟨⟨[factB b 1 2], rs⟩, c, rfl, fit, rfl⟩).l).to ?_) q
  rw [filter_contains Wm.one_node, Wm.always_sub ok hb]
  rfl
theorem ok_always_role (T : Txt mg) (D_thing_with_edge : Def P w K mg base 2 "thing_with_edge" ["r", "x", "y"] (sp_thing_with_edge K)) (D_certain_directions : Def P w K mg base 8 "certain_directions" ["told", "laws", "x", "y"] (sp_certain_directions K CL)) (F : At K mg "always_role" s_always_role ["laws", "r", "s"]) : Def P w K mg base 9 "always_role" ["laws", "r", "s"] (sp_always_role K CL) := by
  refine F.ok sc_always_role (spV_len rAD_len) fun f cdv AA outer s H vs Q EE hr h => ?_
  obtain ⟨as, d, ha, ⟨rs, b, c, rfl, ok, l12, hb, hc, rfl⟩, q⟩ := h
  obtain ⟨v1, v2, v3, rfl, hv1, hv2, hv3⟩ := args3 ha
  have hv1 : ∀ H', Ex H H' → IsLawsB K CL rs H' v1 := hv1
  have nd := sc_always_role.nd
  have hu := hu65 hr
  refine ⟨(tRet (tOp (rInD K) (tVar 2) (tCall (sp_certain_directions K CL) [] E0 (tCons (tLst (tCons (tCall (sp_thing_with_edge K) [] E0 (tCons (tVar 1) (tCons (tC (.int 1)) (tCons (tC (.int 2)) tNil)))) tNil)) (tCons (tVar 0) (tCons (tC (.int 1)) (tCons (tC (.int 2)) tNil))))))), (pss_one (ps_ret (pe_cmpR (op_inD hu) (pv 2) (pe_def D_certain_directions (hr.mono (by decide)) (by rfl) (pa_cons (pe_lst (pa_cons (pe_def D_thing_with_edge (hr.mono (by decide)) (by rfl) (pa_cons (pv 1) (pa_cons pe_int (pa_cons pe_int pa_nil)))) pa_nil)) (pa_cons (pv 0) (pa_cons pe_int (pa_cons pe_int pa_nil))))) (by rfl)))), ?_⟩
  have fit := fit_of ok l12 (one_ok (Wm.factE_ok hb Wm.one_node Wm.two_node)) (by simp)
  refine s_retV ((ve_inE encN (a := c) (ve_var rfl hv3) (vn_call (va_l (vn_lst [eF (factE b 1 2)] (va_p (ve_call (va_p (ve_var rfl hv2) (va_p ve_int (va_p ve_int va_nil))) ⟨b, 1, 2, rfl, rfl⟩) va_nil) (by simp)).l (va_x (vx_var rfl hv1) (va_p ve_int (va_p ve_int va_nil)))) ⟨⟨[factE b 1 2], rs⟩, 1, 2, rfl, fit, rfl⟩).l).to ?_) q
  rw [filter_contains hc, Wm.always_role ok hb]
  rfl
theorem ok_always_never (T : Txt mg) (D_thing_with_basic : Def P w K mg base 3 "thing_with_basic" ["b", "x", "y"] (sp_thing_with_basic K)) (D_can_be : Def P w K mg base 7 "can_be" ["told", "laws"] (sp_can_be K CL)) (F : At K mg "always_never" s_always_never ["laws", "b", "c"]) : Def P w K mg base 8 "always_never" ["laws", "b", "c"] (sp_always_never K CL) := by
  refine F.ok sc_always_never (spV_len rAB_len) fun f cdv AA outer s H vs Q EE hr h => ?_
  obtain ⟨as, d, ha, ⟨rs, b, c, rfl, ok, l12, hb, hc, rfl⟩, q⟩ := h
  obtain ⟨v1, v2, v3, rfl, hv1, hv2, hv3⟩ := args3 ha
  have hv1 : ∀ H', Ex H H' → IsLawsB K CL rs H' v1 := hv1
  have nd := sc_always_never.nd
  refine ⟨(tRet (tNotV (tCall (sp_can_be K CL) [] E0 (tCons (tLst (tCons (tCall (sp_thing_with_basic K) [] E0 (tCons (tVar 1) (tCons (tC (.int 1)) (tCons (tC (.int 2)) tNil)))) (tCons (tCall (sp_thing_with_basic K) [] E0 (tCons (tVar 2) (tCons (tC (.int 1)) (tCons (tC (.int 3)) tNil)))) tNil))) (tCons (tVar 0) tNil))))), (pss_one (ps_ret (pe_not (pe_def D_can_be (hr.mono (by decide)) (by rfl) (pa_cons (pe_lst (pa_cons (pe_def D_thing_with_basic (hr.mono (by decide)) (by rfl) (pa_cons (pv 1) (pa_cons pe_int (pa_cons pe_int pa_nil)))) (pa_cons (pe_def D_thing_with_basic (hr.mono (by decide)) (by rfl) (pa_cons (pv 2) (pa_cons pe_int (pa_cons pe_int pa_nil)))) pa_nil))) (pa_cons (pv 0) pa_nil)))))), ?_⟩
  have fit := fit_of ok l12 (two_ok (Wm.factB_ok hb Wm.one_node Wm.two_node) (Wm.factB_ok hc Wm.one_node Wm.three_node)) (by simp)
  refine s_retV ((ve_notV (ve_call (va_l (vn_lst [eF (factB b 1 2), eF (factB c 1 3)] (va_p (ve_call (va_p (ve_var rfl hv2) (va_p ve_int (va_p ve_int va_nil))) ⟨b, 1, 2, rfl, rfl⟩) (va_p (ve_call (va_p (ve_var rfl hv3) (va_p ve_int (va_p ve_int va_nil))) ⟨c, 1, 3, rfl, rfl⟩) va_nil)) (by simp)).l (va_x (vx_var rfl hv1) va_nil)) ⟨⟨[factB b 1 2, factB c 1 3], rs⟩, rfl, fit, rfl⟩)).to ?_) q
  rw [Wm.always_never ok hb hc]
  rfl
theorem ok_always_neverrole (T : Txt mg) (D_thing_with_edge : Def P w K mg base 2 "thing_with_edge" ["r", "x", "y"] (sp_thing_with_edge K)) (D_can_be : Def P w K mg base 7 "can_be" ["told", "laws"] (sp_can_be K CL)) (F : At K mg "always_neverrole" s_always_neverrole ["laws", "r", "s"]) : Def P w K mg base 8 "always_neverrole" ["laws", "r", "s"] (sp_always_neverrole K CL) := by
  refine F.ok sc_always_neverrole (spV_len rAD_len) fun f cdv AA outer s H vs Q EE hr h => ?_
  obtain ⟨as, d, ha, ⟨rs, b, c, rfl, ok, l12, hb, hc, rfl⟩, q⟩ := h
  obtain ⟨v1, v2, v3, rfl, hv1, hv2, hv3⟩ := args3 ha
  have hv1 : ∀ H', Ex H H' → IsLawsB K CL rs H' v1 := hv1
  have nd := sc_always_neverrole.nd
  refine ⟨(tRet (tNotV (tCall (sp_can_be K CL) [] E0 (tCons (tLst (tCons (tCall (sp_thing_with_edge K) [] E0 (tCons (tVar 1) (tCons (tC (.int 1)) (tCons (tC (.int 2)) tNil)))) (tCons (tCall (sp_thing_with_edge K) [] E0 (tCons (tVar 2) (tCons (tC (.int 1)) (tCons (tC (.int 2)) tNil)))) tNil))) (tCons (tVar 0) tNil))))), (pss_one (ps_ret (pe_not (pe_def D_can_be (hr.mono (by decide)) (by rfl) (pa_cons (pe_lst (pa_cons (pe_def D_thing_with_edge (hr.mono (by decide)) (by rfl) (pa_cons (pv 1) (pa_cons pe_int (pa_cons pe_int pa_nil)))) (pa_cons (pe_def D_thing_with_edge (hr.mono (by decide)) (by rfl) (pa_cons (pv 2) (pa_cons pe_int (pa_cons pe_int pa_nil)))) pa_nil))) (pa_cons (pv 0) pa_nil)))))), ?_⟩
  have fit := fit_of ok l12 (two_ok (Wm.factE_ok hb Wm.one_node Wm.two_node) (Wm.factE_ok hc Wm.one_node Wm.two_node)) (by simp)
  refine s_retV ((ve_notV (ve_call (va_l (vn_lst [eF (factE b 1 2), eF (factE c 1 2)] (va_p (ve_call (va_p (ve_var rfl hv2) (va_p ve_int (va_p ve_int va_nil))) ⟨b, 1, 2, rfl, rfl⟩) (va_p (ve_call (va_p (ve_var rfl hv3) (va_p ve_int (va_p ve_int va_nil))) ⟨c, 1, 2, rfl, rfl⟩) va_nil)) (by simp)).l (va_x (vx_var rfl hv1) va_nil)) ⟨⟨[factE b 1 2, factE c 1 2], rs⟩, rfl, fit, rfl⟩)).to ?_) q
  rw [Wm.always_neverRole ok hb hc]
  rfl
theorem ok_always_kept (T : Txt mg) (D_always_sub : Def P w K mg base 9 "always_sub" ["laws", "b", "c"] (sp_always_sub K CL)) (D_always_role : Def P w K mg base 9 "always_role" ["laws", "r", "s"] (sp_always_role K CL)) (D_always_never : Def P w K mg base 8 "always_never" ["laws", "b", "c"] (sp_always_never K CL)) (D_always_neverrole : Def P w K mg base 8 "always_neverrole" ["laws", "r", "s"] (sp_always_neverrole K CL)) (F : At K mg "always_kept" s_always_kept ["laws", "rule"]) : Def P w K mg base 10 "always_kept" ["laws", "rule"] (sp_always_kept K CL) := by
  refine F.ok sc_always_kept (spV_len rKept_len) fun f cdv AA outer s H vs Q EE hr h => ?_
  obtain ⟨as, d, ha, ⟨rs, x, rfl, ok, l12, hx, rfl⟩, q⟩ := h
  obtain ⟨v1, v2, rfl, hv1, hv2⟩ := args2 ha
  have hv1 : ∀ H', Ex H H' → IsLawsB K CL rs H' v1 := hv1
  have hv2 : Dt K H v2 (eR x) := hv2
  have nd := sc_always_kept.nd
  refine ⟨(tSeq (tIfS (tTest (tOp rEq (tOp (rIxT K) (tVar 1) (tC (.int 0))) (tC (.str "sub"))))
      (tRet (tCall (sp_always_sub K CL) [] E0 (tCons (tVar 0) (tCons (tOp (rIxT K) (tVar 1) (tC (.int 1))) (tCons (tOp (rIxT K) (tVar 1) (tC (.int 2))) tNil)))))
      tNext)
    (tSeq (tIfS (tTest (tOp rEq (tOp (rIxT K) (tVar 1) (tC (.int 0))) (tC (.str "role"))))
      (tRet (tCall (sp_always_role K CL) [] E0 (tCons (tVar 0) (tCons (tOp (rIxT K) (tVar 1) (tC (.int 1))) (tCons (tOp (rIxT K) (tVar 1) (tC (.int 2))) tNil)))))
      tNext)
    (tSeq (tIfS (tTest (tOp rEq (tOp (rIxT K) (tVar 1) (tC (.int 0))) (tC (.str "never"))))
      (tRet (tCall (sp_always_never K CL) [] E0 (tCons (tVar 0) (tCons (tOp (rIxT K) (tVar 1) (tC (.int 1))) (tCons (tOp (rIxT K) (tVar 1) (tC (.int 2))) tNil)))))
      tNext)
    (tRet (tCall (sp_always_neverrole K CL) [] E0 (tCons (tVar 0) (tCons (tOp (rIxT K) (tVar 1) (tC (.int 1))) (tCons (tOp (rIxT K) (tVar 1) (tC (.int 2))) tNil)))))))), (pss_cons (ps_if (pt_cmpR op_eq (pe_ix ix_tup (pv 1) pe_int (fun _ _ => rfl)) (pe_gS T.c_SUB) (nomark _))
        (pss_one (ps_ret (pe_def D_always_sub (hr.mono (by decide)) (by rfl) (pa_cons (pv 0) (pa_cons (pe_ix ix_tup (pv 1) pe_int (fun _ _ => rfl)) (pa_cons (pe_ix ix_tup (pv 1) pe_int (fun _ _ => rfl)) pa_nil))))))
        pss_nil)
      (pss_cons (ps_if (pt_cmpR op_eq (pe_ix ix_tup (pv 1) pe_int (fun _ _ => rfl)) (pe_gS T.c_ROLE) (nomark _))
        (pss_one (ps_ret (pe_def D_always_role (hr.mono (by decide)) (by rfl) (pa_cons (pv 0) (pa_cons (pe_ix ix_tup (pv 1) pe_int (fun _ _ => rfl)) (pa_cons (pe_ix ix_tup (pv 1) pe_int (fun _ _ => rfl)) pa_nil))))))
        pss_nil)
      (pss_cons (ps_if (pt_cmpR op_eq (pe_ix ix_tup (pv 1) pe_int (fun _ _ => rfl)) (pe_gS T.c_NEVER) (nomark _))
        (pss_one (ps_ret (pe_def D_always_never (hr.mono (by decide)) (by rfl) (pa_cons (pv 0) (pa_cons (pe_ix ix_tup (pv 1) pe_int (fun _ _ => rfl)) (pa_cons (pe_ix ix_tup (pv 1) pe_int (fun _ _ => rfl)) pa_nil))))))
        pss_nil)
      (pss_one (ps_ret (pe_def D_always_neverrole (hr.mono (by decide)) (by rfl) (pa_cons (pv 0) (pa_cons (pe_ix ix_tup (pv 1) pe_int (fun _ _ => rfl)) (pa_cons (pe_ix ix_tup (pv 1) pe_int (fun _ _ => rfl)) pa_nil))))))))), ?_⟩
  have lw : ∀ {H1 H2 : Hp}, Ex H H1 → Ex H1 H2 → IsLawsB K CL rs H2 v1 := fun e e' => hv1 _ (e.trans e')
  rw [eR_three] at hv2
  have i0 : ∀ H1, Ex H H1 → Ve K (tOp (rIxT K) (tVar 1) (tC (.int 0))) [some v1, some v2] H1 (.str (rWord x)) := fun H1 e => ve_ixT (i := 0) (ve_var rfl (hv2.ex e)) ve_int rfl
  have i1 : ∀ H1, Ex H H1 → Ve K (tOp (rIxT K) (tVar 1) (tC (.int 1))) [some v1, some v2] H1 (rOne x) := fun H1 e => ve_ixT (i := 1) (ve_var rfl (hv2.ex e)) ve_int rfl
  have i2 : ∀ H1, Ex H H1 → Ve K (tOp (rIxT K) (tVar 1) (tC (.int 2))) [some v1, some v2] H1 (rTwo x) := fun H1 e => ve_ixT (i := 2) (ve_var rfl (hv2.ex e)) ve_int rfl
  refine q_when (vt_test (ve_eqS (i0 H (Ex.refl _)) ve_str)) (fun c H1 e1 => ?_) (fun c H1 e1 => ?_)
  · have c : rWord x = "sub" := of_decide_eq_true c
    cases x with
    | sub b c' => exact s_retV (ve_call (va_x (vx_var rfl fun H' e' => lw e1 e') (va_p (i1 H1 e1) (va_p (i2 H1 e1) va_nil))) ⟨rs, b, c', rfl, ok, l12, hx.1, hx.2, rfl⟩) fun v H2 e2 hv => q v H2 (e1.trans e2) hv
    | role => exact absurd (show ("role" : Str) = "sub" from c) (by decide)
    | never => exact absurd (show ("never" : Str) = "sub" from c) (by decide)
    | neverRole => exact absurd (show ("neverrole" : Str) = "sub" from c) (by decide)
  · have n1 : ¬ rWord x = "sub" := of_decide_eq_false c
    refine q_when (vt_test (ve_eqS (i0 H1 e1) ve_str)) (fun c H2 e2 => ?_) (fun c H2 e2 => ?_)
    · have c : rWord x = "role" := of_decide_eq_true c
      have e12 := e1.trans e2
      cases x with
      | role b c' => exact s_retV (ve_call (va_x (vx_var rfl fun H' e' => lw e12 e') (va_p (i1 H2 e12) (va_p (i2 H2 e12) va_nil))) ⟨rs, b, c', rfl, ok, l12, hx.1, hx.2, rfl⟩) fun v H3 e3 hv => q v H3 (e12.trans e3) hv
      | sub => exact absurd (show ("sub" : Str) = "role" from c) (by decide)
      | never => exact absurd (show ("never" : Str) = "role" from c) (by decide)
      | neverRole => exact absurd (show ("neverrole" : Str) = "role" from c) (by decide)
    · have n2 : ¬ rWord x = "role" := of_decide_eq_false c
      have e12 := e1.trans e2
      refine q_when (vt_test (ve_eqS (i0 H2 e12) ve_str)) (fun c H3 e3 => ?_) (fun c H3 e3 => ?_)
      · have c : rWord x = "never" := of_decide_eq_true c
        have e13 := e12.trans e3
        cases x with
        | never b c' => exact s_retV (ve_call (va_x (vx_var rfl fun H' e' => lw e13 e') (va_p (i1 H3 e13) (va_p (i2 H3 e13) va_nil))) ⟨rs, b, c', rfl, ok, l12, hx.1, hx.2, rfl⟩) fun v H4 e4 hv => q v H4 (e13.trans e4) hv
        | sub => exact absurd (show ("sub" : Str) = "never" from c) (by decide)
        | role => exact absurd (show ("role" : Str) = "never" from c) (by decide)
        | neverRole => exact absurd (show ("neverrole" : Str) = "never" from c) (by decide)
      · have n3 : ¬ rWord x = "never" := of_decide_eq_false c
        have e13 := e12.trans e3
        cases x with
        | neverRole b c' => exact s_retV (ve_call (va_x (vx_var rfl fun H' e' => lw e13 e') (va_p (i1 H3 e13) (va_p (i2 H3 e13) va_nil))) ⟨rs, b, c', rfl, ok, l12, hx.1, hx.2, rfl⟩) fun v H4 e4 hv => q v H4 (e13.trans e4) hv
        | sub => exact absurd rfl n1
        | role => exact absurd rfl n2
        | never => exact absurd rfl n3
/-! ### the fewest -/
theorem zip_range {A : Type} {l : List A} {p : A → Bool} {g : Nat → Bool} (h : ∀ i a, l[i]? = some a → g i = p a) : (l.zipIdx.filter fun f => p f.1).map (fun f => f.2) = (List.range l.length).filter g := by
  have e : (l.zipIdx.filter fun f => p f.1) = l.zipIdx.filter (g ∘ fun f => f.2) := List.filter_congr fun f hf => (h f.2 f.1 (List.mem_zipIdx_iff_getElem?.mp hf)).symm
  rw [e, ← List.filter_map]
  congr 1
  rw [List.range_eq_range']
  exact List.zipIdx_map_snd 0 l
theorem ok_impossible_ones (T : Txt mg) (D_can_be : Def P w K mg base 7 "can_be" ["told", "laws"] (sp_can_be K CL)) (F : At K mg "impossible_ones" s_impossible_ones ["told", "laws"]) : Def P w K mg base 8 "impossible_ones" ["told", "laws"] (sp_impossible_ones K CL) := by
  refine F.ok sc_impossible_ones (spN_len rImp_len) fun f cdv AA outer s H vs Q EE hr h => ?_
  obtain ⟨as, d, ha, ⟨d, rfl, fit, rfl⟩, q⟩ := h
  obtain ⟨v1, v2, rfl, hv1, hv2⟩ := args2 ha
  have hv2 : ∀ H', Ex H H' → IsLawsB K CL d.rules H' v2 := hv2
  have nd := sc_impossible_ones.nd
  refine ⟨(tRet (tLc (iEnum K (tCons (tVar 0) tNil)) (gTup K 2 (gCons (gName 2) (gCons (gName 3) gNil))) (tNot (tB (tCall (sp_can_be K CL) [] E0 (tCons (tLst (tCons (tVar 3) tNil)) (tCons (tVar 1) tNil))))) (tVar 2) [2, 3])), (pss_one (ps_ret (pe_lc (own := [("n", 2), ("thing", 3)]) (g := (gTup K 2 (gCons (gName 2) (gCons (gName 3) gNil)))) (tt := (tNot (tB (tCall (sp_can_be K CL) [] E0 (tCons (tLst (tCons (tVar 3) tNil)) (tCons (tVar 1) tNil)))))) (te := (tVar 2)) rfl nd (pi_enum (by rfl) T.b_enumerate (pa_cons (pv 0) pa_nil)) (blkOk_by (own := [("n", 2), ("thing", 3)]) (N := ["told", "laws", "n", "thing"]) (sc := defScope s_impossible_ones) (by decide +kernel)) (fun _ _ _ _ _ => by exact (pg_tup rfl (pgs_cons (pg_name (i := 2) nd rfl (Or.inl rfl)) (pgs_cons (pg_name (i := 3) nd rfl (Or.inl rfl)) pgs_nil)))) (fun _ _ _ _ _ => by exact (pts_one (pt_not (pt_val (pe_def D_can_be (hr.mono (by decide)) (by rfl) (pa_cons (pe_lst (pa_cons (pv 3) pa_nil)) (pa_cons (pv 1) pa_nil))))))) (fun _ _ _ _ _ => by exact (pv 2))))), ?_⟩
  have := fit.fl
  refine s_retN (vn_lcE d.facts eF (fun f => !Gq03.sound ⟨[f.1], d.rules⟩) (fun f => eN f.2) (va_l (vl_var rfl hv1) va_nil) (by omega) ?_) fun p H2 n2 e2 o2 => q p H2 n2 e2 ?_
  · intro i t ht v H1 e1 hv
    obtain ⟨x1, x2, h1, h2, hg⟩ := g_pair (i := 2) (j := 3) hv
    have okt := fit.ok.facts t (List.mem_of_getElem? ht)
    exact ⟨_, hg _, rfl, et_not (vt_B (ve_call (va_l (vn_lst [eF t] (va_p (ve_var rfl h2) va_nil) (by simp)).l (va_x (vx_var rfl fun H' e' => hv2 H' (e1.trans e')) va_nil)) ⟨⟨[t], d.rules⟩, rfl, fit_of fit.ok.rules fit.rl (one_ok okt) (by simp), rfl⟩)), fun _ => ve_var rfl h1⟩
  · have e := zip_range (l := d.facts) (p := fun f => !Gq03.sound ⟨[f], d.rules⟩) (g := aloneG d) fun i a h => by
      unfold aloneG
      rw [h]
    rw [← e, List.map_map]
    exact o2
theorem ok_later_foes (T : Txt mg) (D_can_be : Def P w K mg base 7 "can_be" ["told", "laws"] (sp_can_be K CL)) (F : At K mg "later_foes" s_later_foes ["told", "laws"]) : Def P w K mg base 8 "later_foes" ["told", "laws"] (sp_later_foes K CL) := by
  refine F.ok sc_later_foes (spX_len rFoes_len) fun f cdv AA outer s H vs Q EE hr h => ?_
  obtain ⟨as, d, ha, ⟨d, rfl, fit, rfl⟩, q⟩ := h
  obtain ⟨v1, v2, rfl, hv1, hv2⟩ := args2 ha
  have hv1 : Ls K H v1 (d.facts.map eF) := hv1
  have hv2 : ∀ H', Ex H H' → IsLawsB K CL d.rules H' v2 := hv2
  have nd := sc_later_foes.nd
  have hu := hu65 hr
  refine ⟨(tSeq (tAsg tDNewK (gName 2))
    (tSeq (tFor (iRng1 (tCons (tCB (rLenS K) (tCons (tVar 0) tNil)) tNil)) (gName 3)
      (sDPut (tVar 2) (tVar 3) (tLc (iRng2 (tCons (tOp (rI0 fun i j => .int (i + j)) (tVar 3) (tC (.int 1))) (tCons (tCB (rLenS K) (tCons (tVar 0) tNil)) tNil))) (gName 4) (tNot (tB (tCall (sp_can_be K CL) [] E0 (tCons (tLst (tCons (tOp (rIxL K) (tVar 0) (tVar 3)) (tCons (tOp (rIxL K) (tVar 0) (tVar 4)) tNil))) (tCons (tVar 1) tNil))))) (tVar 4) [4])))
    (tRet (tVar 2)))), (pss_cons (ps_set (i := 2) nd rfl (Or.inl rfl) pe_dnewK)
      (pss_cons (ps_for PassesOwn.never rfl (pi_range1 (by rfl) T.b_range (pa_cons (pe_callB call_len_seq (by rfl) T.b_len PySem.boot_len (pa_cons (pv 0) pa_nil)) pa_nil)) (pg_name (i := 3) nd rfl (Or.inr rfl))
        (pss_one (ps_dput (hu1 hr) (pv 2) (pv 3) (pe_lc (own := [("m", 4)]) (g := (gName 4)) (tt := (tNot (tB (tCall (sp_can_be K CL) [] E0 (tCons (tLst (tCons (tOp (rIxL K) (tVar 0) (tVar 3)) (tCons (tOp (rIxL K) (tVar 0) (tVar 4)) tNil))) (tCons (tVar 1) tNil)))))) (te := (tVar 4)) rfl nd (pi_range2 (by rfl) T.b_range (pa_cons (pe_op op_add (pv 3) pe_int) (pa_cons (pe_callB call_len_seq (by rfl) T.b_len PySem.boot_len (pa_cons (pv 0) pa_nil)) pa_nil))) (blkOk_by (own := [("m", 4)]) (N := ["told", "laws", "table", "n", "m"]) (sc := defScope s_later_foes) (by decide +kernel)) (fun _ _ _ _ _ => by exact (pg_name (i := 4) nd rfl (Or.inl rfl))) (fun _ _ _ _ _ => by exact (pts_one (pt_not (pt_val (pe_def D_can_be (hr.mono (by decide)) (by rfl) (pa_cons (pe_lst (pa_cons (pe_ix ix_list (pv 0) (pv 3) (fun _ _ => rfl)) (pa_cons (pe_ix ix_list (pv 0) (pv 4) (fun _ _ => rfl)) pa_nil))) (pa_cons (pv 1) pa_nil))))))) (fun _ _ _ _ _ => by exact (pv 4))) (by rfl))))
      (pss_one (ps_ret (pv 2))))), ?_⟩
  have := fit.fl
  refine q_dnew (φ := LsP K) keNat fun p H1 np e1 ot => ?_
  have ln : ∀ {H' : Hp} {σ : L2.St}, Ex H H' → σ[0]? = some (some v1) → Ve K (tCB (rLenS K) (tCons (tVar 0) tNil)) σ H' (.int ((d.facts.length : Nat) : Int)) := fun e hs => (ve_len (vl_var hs (hv1.ex e))).to (by rw [List.length_map])
  refine q_forR1 (K := K) (n := d.facts.length) (va_p (ln e1 rfl) va_nil) (by omega) (fun i σ' H' => ∃ a, σ' = [some v1, some v2, some (.ref p), a, none] ∧ Ex H H' ∧ Ot objN (LsP K) i (fun n => if n < i then some ((foesM d n).map eN) else none) H' p)
    (fun H2 e2 => ⟨none, rfl, e1.trans e2, (ot.ex (phL K) e2).mono (fun k b h => by simp at h) (Nat.le_refl _)⟩) (fun i σ' H' hi h => ?_) (fun σ' H' h => ?_)
  · obtain ⟨a, rfl, ex, o⟩ := h
    obtain ⟨t, ht⟩ : ∃ t, d.facts[i]? = some t := ⟨d.facts[i], List.getElem?_eq_getElem hi⟩
    have okt := fit.ok.facts t (List.mem_of_getElem? ht)
    have fe : ((List.range (d.facts.length - (i + 1))).filter fun j => pairG d i (i + 1 + j)).map (fun j => eN (i + 1 + j)) = (foesM d i).map eN := by
      unfold foesM
      rw [List.map_map]
      rfl
    refine s_dput (K := K) keNat (phL K) (k := i) (b := ((List.range (d.facts.length - (i + 1))).filter fun j => pairG d i (i + 1 + j)).map fun j => eN (i + 1 + j)) (ev_var rfl) o (by omega) (ve_var rfl .int)
      (vn_lcR (lo := ((i + 1 : Nat) : Int)) (hi := ((d.facts.length : Nat) : Int)) (d.facts.length - (i + 1)) (fun j => pairG d i (i + 1 + j)) (fun j => eN (i + 1 + j)) (va_p ((ve_I0 (g := (· + ·)) (ve_var rfl .int) ve_int).to (by congr 1)) (va_p (ln ex rfl) va_nil)) (by omega) (by omega) (by omega) ?_).l.x fun H2 H3 kvs w e2 eq h2 b3 t3 o3 => ?_
    · intro j hj H4 e4
      obtain ⟨t2, ht2⟩ : ∃ t2, d.facts[i + 1 + j]? = some t2 := ⟨d.facts[i + 1 + j]'(by omega), List.getElem?_eq_getElem (by omega)⟩
      have okt2 := fit.ok.facts t2 (List.mem_of_getElem? ht2)
      have ej : ((i + 1 : Nat) : Int) + (j : Int) = ((i + 1 + j : Nat) : Int) := by omega
      rw [ej]
      refine ⟨[some v1, some v2, some (.ref p), some (.int (i : Int)), some (.int ((i + 1 + j : Nat) : Int))], fun Q h => h, rfl, et_is (et_not (vt_B (ve_call (va_l (vn_lst [eF t, eF t2] (va_p (ve_ixL (i := i) (vl_var rfl (hv1.ex (ex.trans e4))) (ve_var rfl .int) (by rw [List.getElem?_map, ht]; rfl)) (va_p (ve_ixL (i := i + 1 + j) (vl_var rfl (hv1.ex (ex.trans e4))) (ve_var rfl .int) (by rw [List.getElem?_map, ht2]; rfl)) va_nil)) (by simp)).l (va_x (vx_var rfl fun H' e' => hv2 H' ((ex.trans e4).trans e')) va_nil)) ⟨⟨[t, t2], d.rules⟩, rfl, fit_of fit.ok.rules fit.rl (two_ok okt okt2) (by simp), rfl⟩))) ?_, fun _ => ve_var rfl .int⟩
      unfold pairG
      rw [ht, ht2]
    · refine ⟨some (.int (i : Int)), rfl, Exb.ex np ex b3, o3.mono (fun k b h => ?_) (Nat.le_refl _)⟩
      by_cases ek : k = i
      · rw [if_pos ek]
        rw [if_pos (by omega)] at h
        rw [← h, ek, fe]
      · rw [if_neg ek]
        by_cases c : k < i
        · rw [if_pos c]
          rw [if_pos (by omega)] at h
          exact h
        · rw [if_neg (by omega)] at h
          cases h
  · obtain ⟨a, rfl, ex, o⟩ := h
    exact s_retO rfl (q _ H' ex fun H3 e3 => ((o.mono (g := foesT d) (fun k b h => h) (by omega)).ex (phL K) e3).tb)
theorem vn_if {σ : L2.St} {H : Hp} {t : TT} {ta tb : TE} {ds : List PyData} {b : Bool} (h : EvT t σ H b) (h1 : b = true → Vn K ta σ H ds) (h2 : b = false → Vn K tb σ H ds) : Vn K (tIf t ta tb) σ H ds := fun H1 e Q q => h H1 e _ fun H2 e2 => by
  cases b with
  | true =>
    show ta σ H2 Q
    exact h1 rfl H2 (e.trans e2) Q fun p H3 n3 e3 o3 => q p H3 (fresh_back e2 n3) (e2.trans e3) o3
  | false =>
    show tb σ H2 Q
    exact h2 rfl H2 (e.trans e2) Q fun p H3 n3 e3 o3 => q p H3 (fresh_back e2 n3) (e2.trans e3) o3
/-- return xs if t else ys, lists of one's own -/
theorem s_retIf {σ : L2.St} {H : Hp} {t : TT} {b : Bool} {D : Ends} {i j : Nat} {u v : V} (h : EvT t σ H b) (hi : σ[i]? = some (some u)) (hj : σ[j]? = some (some v)) (k : ∀ H1, Ex H H1 → D.rt (if b = true then u else v) H1) : tRet (tIf t (tVar i) (tVar j)) D σ H := h H (Ex.refl _) _ fun H2 e2 => by
  have k := k H2 e2
  cases b with
  | true => exact ⟨u, hi, k⟩
  | false => exact ⟨v, hj, k⟩
theorem ok_first_row (T : Txt mg) (F : At K mg "first_row" s_first_row ["foes", "left"]) : ∀ n, Def P w K mg base (n + 1) "first_row" ["foes", "left"] (sp_first_row K n)
  | 0 => F.ok sc_first_row (fun _ _ _ _ h => h.elim) fun _ _ _ _ _ _ _ _ _ _ h => h.elim
  | n + 1 => by
    have D_first_row := ok_first_row T F n
    refine F.ok sc_first_row (spN_len rRowN_len) fun f cdv AA outer s H vs Q EE hr h => ?_
    obtain ⟨as, d, ha, ⟨N, g, FF, G, left, rfl, lp, ll, n14, hf, hG, rfl⟩, q⟩ := h
    obtain ⟨v1, v2, rfl, hv1, hv2⟩ := args2 ha
    have hv1 : ∀ H', Ex H H' → Tb objN (LsP K) N g H' v1 := hv1
    have hv2 : Ls K H v2 (left.map eN) := hv2
    have nd := sc_first_row.nd
    have hu := hu65 hr
    refine ⟨(tSeq (tIfS (tTest (tOp rEq (tCB (rLenS K) (tCons (tVar 1) tNil)) (tC (.int 0))))
      (tRet (tLst tNil))
      tNext)
    (tSeq (tAsg (tSl (rSlL K) (tVar 1) (tPart (tC (.int 1))) tNoPart) (gName 2))
    (tSeq (tAsg (tLc (iList K (tVar 2)) (gName 6) (tTest (tOp (rInD K) (tVar 6) (tDGet (tVar 0) (tOp (rIxL K) (tVar 1) (tC (.int 0)))))) (tVar 6) [6]) (gName 3))
    (tSeq (tIfS (tTest (tOp rEq (tCB (rLenS K) (tCons (tVar 3) tNil)) (tC (.int 0))))
      (tRet (tCall (sp_first_row K n) [] E0 (tCons (tVar 0) (tCons (tVar 2) tNil))))
      tNext)
    (tSeq (tAsg (tOp rCat (tLst (tCons (tOp (rIxL K) (tVar 1) (tC (.int 0))) tNil)) (tCall (sp_first_row K n) [] E0 (tCons (tVar 0) (tCons (tVar 2) tNil)))) (gName 4))
    (tSeq (tAsg (tOp rCat (tVar 3) (tCall (sp_first_row K n) [] E0 (tCons (tVar 0) (tCons (tLc (iList K (tVar 2)) (gName 6) (tTest (tOp (rNotInD K) (tVar 6) (tVar 3))) (tVar 6) [6]) tNil)))) (gName 5))
    (tRet (tIf (tTest (tOp (rI0 fun i j => .bl (decide (i ≤ j))) (tCB (rLenS K) (tCons (tVar 4) tNil)) (tCB (rLenS K) (tCons (tVar 5) tNil)))) (tVar 4) (tVar 5))))))))), (pss_cons (ps_if (pt_cmpR op_eq (pe_callB call_len_seq (by rfl) T.b_len PySem.boot_len (pa_cons (pv 1) pa_nil)) pe_int (nomark _))
        (pss_one (ps_ret (pe_lst pa_nil)))
        pss_nil)
      (pss_cons (ps_set (i := 2) nd rfl (Or.inl rfl) (pe_slice sl_list (pv 1) (po_some pe_int) po_none))
      (pss_cons (ps_set (i := 3) nd rfl (Or.inr rfl) (pe_lc (own := [("m", 6)]) (g := (gName 6)) (tt := (tTest (tOp (rInD K) (tVar 6) (tDGet (tVar 0) (tOp (rIxL K) (tVar 1) (tC (.int 0))))))) (te := (tVar 6)) rfl nd (pi_list (pv 2)) (blkOk_by (own := [("m", 6)]) (N := ["foes", "left", "rest", "against", "without", "staying", "m"]) (sc := defScope s_first_row) (by decide +kernel)) (fun _ _ _ _ _ => by exact (pg_name (i := 6) nd rfl (Or.inl rfl))) (fun _ _ _ _ _ => by exact (pts_one (pt_cmpR (op_inD hu) (pv 6) (pe_dget (hu1 hr) (pv 0) (pe_ix ix_list (pv 1) pe_int (fun _ _ => rfl)) (fun _ _ => rfl)) (by rfl)))) (fun _ _ _ _ _ => by exact (pv 6))))
      (pss_cons (ps_if (pt_cmpR op_eq (pe_callB call_len_seq (by rfl) T.b_len PySem.boot_len (pa_cons (pv 3) pa_nil)) pe_int (nomark _))
        (pss_one (ps_ret (pe_def D_first_row hr (by rfl) (pa_cons (pv 0) (pa_cons (pv 2) pa_nil)))))
        pss_nil)
      (pss_cons (ps_set (i := 4) nd rfl (Or.inl rfl) (pe_op op_cat (pe_lst (pa_cons (pe_ix ix_list (pv 1) pe_int (fun _ _ => rfl)) pa_nil)) (pe_def D_first_row hr (by rfl) (pa_cons (pv 0) (pa_cons (pv 2) pa_nil)))))
      (pss_cons (ps_set (i := 5) nd rfl (Or.inl rfl) (pe_op op_cat (pv 3) (pe_def D_first_row hr (by rfl) (pa_cons (pv 0) (pa_cons (pe_lc (own := [("m", 6)]) (g := (gName 6)) (tt := (tTest (tOp (rNotInD K) (tVar 6) (tVar 3)))) (te := (tVar 6)) rfl nd (pi_list (pv 2)) (blkOk_by (own := [("m", 6)]) (N := ["foes", "left", "rest", "against", "without", "staying", "m"]) (sc := defScope s_first_row) (by decide +kernel)) (fun _ _ _ _ _ => by exact (pg_name (i := 6) nd rfl (Or.inl rfl))) (fun _ _ _ _ _ => by exact (pts_one (pt_cmpR (op_notInD hu) (pv 6) (pv 3) (by rfl)))) (fun _ _ _ _ _ => by exact (pv 6))) pa_nil)))))
      (pss_one (ps_ret (pe_ifExp (pt_cmpR op_le (pe_callB call_len_seq (by rfl) T.b_len PySem.boot_len (pa_cons (pv 4) pa_nil)) (pe_callB call_len_seq (by rfl) T.b_len PySem.boot_len (pa_cons (pv 5) pa_nil)) (nomark _)) (pv 4) (pv 5)))))))))), ?_⟩
    have fz : n + 1 ≤ n + 1 := Nat.le_refl _
    refine q_when (vt_test (ve_eqI (ve_len (vl_var rfl hv2)) ve_int)) (fun c H1 e1 => ?_) (fun c H1 e1 => ?_)
    · have c := of_decide_eq_true c
      rw [List.length_map] at c
      have e : left = [] := List.eq_nil_of_length_eq_zero (by omega)
      subst e
      refine s_retN (vn_lst (K := K) [] va_nil (by simp)) fun p H2 n2 e2 o2 => q p H2 (fresh_back e1 n2) (e1.trans e2) ?_
      have : rowM G n [] = [] := by cases n <;> rfl
      rw [this]
      exact o2
    · have c := of_decide_eq_false c
      rw [List.length_map] at c
      obtain ⟨x, rest, rfl⟩ : ∃ x rest, left = x :: rest := by
        cases left with
        | nil => simp at c
        | cons x rest => exact ⟨x, rest, rfl⟩
      rw [List.length_cons] at ll
      obtain ⟨n, rfl⟩ : ∃ m, n = m + 1 := ⟨n - 1, by omega⟩
      have lp' := List.pairwise_cons.mp lp
      have hfx := hf x (List.mem_cons_self ..)
      refine q_setN ((vn_slFrom (lo := 1) (vl_var rfl (hv2.ex e1)) ve_int).to (es := rest.map eN) rfl) fun p1 H2 n1 e2 o1 => ?_
      have e12 := e1.trans e2
      have n1' := fresh_back e1 n1
      refine q_setN (vn_lc rest eN (fun m => (FF x).contains m) eN (vo_var rfl o1).l (by omega) ?_) fun p2 H3 n2 e3 o2 => ?_
      · intro m hm v H3 e3 hv
        exact ⟨[some v1, some v2, some (.ref p1), none, none, none, some v], fun Q h => h, rfl, vt_test (ve_inE encN (ve_var rfl hv) (vl_dget keNat (vx_var rfl fun H' e' => hv1 H' ((e12.trans e3).trans e')) (ve_ixL (i := 0) (vl_var rfl (hv2.ex (e12.trans e3))) ve_int rfl) hfx)), fun _ => ve_var rfl hv⟩
      have ea : rest.filter (fun m => (FF x).contains m) = rest.filter (G x) := List.filter_congr fun m hm => hG x (List.mem_cons_self ..) m (List.mem_cons_of_mem _ hm) (lp'.1 m hm)
      rw [ea] at o2
      have e13 := e12.trans e3
      have n2' := fresh_back e12 n2
      have fl : (rest.filter (G x)).length ≤ rest.length := List.length_filter_le _ _
      have rowR : Wm.Row G rest (rowM G n rest) := Wm.rowM_row G n rest (lp'.2.imp fun h => Nat.ne_of_lt h) (by omega)
      have rl : (rowM G n rest).length ≤ rest.length := Wm.nodup_len _ _ rowR.nd rowR.sub
      have call : ∀ (l : List Nat), (∀ z ∈ l, z ∈ rest) → l.Pairwise (· < ·) → l.length ≤ n → ∀ as, as = [Dx.Arg.x (Tb objN (LsP K) N g), .l (l.map eN)] → rRowN K n as ((rowM G n l).map eN) := fun l hl lq lz as e => ⟨N, g, FF, G, l, e, lq, lz, by omega, fun y hy => hf y (List.mem_cons_of_mem _ (hl y hy)), fun y hy m hm lt => hG y (List.mem_cons_of_mem _ (hl y hy)) m (List.mem_cons_of_mem _ (hl m hm)) lt, rfl⟩
      refine q_when (vt_test (ve_eqI (ve_len (vo_var rfl o2).l) ve_int)) (fun c2 H4 e4 => ?_) (fun c2 H4 e4 => ?_)
      · have c2 := of_decide_eq_true c2
        rw [List.length_map] at c2
        have e14 := e13.trans e4
        refine s_retN (vn_call (K := K) (va_x (vx_var rfl fun H' e' => hv1 H' (e14.trans e')) (va_l (vo_var rfl (o1.ex (e3.trans e4))).l va_nil)) (call rest (fun _ h => h) lp'.2 (by omega) _ rfl)) fun p H5 n5 e5 o5 => q p H5 (fresh_back e14 n5) (e14.trans e5) ?_
        rw [rowM, if_pos (by omega)]
        exact o5
      · have c2 := of_decide_eq_false c2
        rw [List.length_map] at c2
        have e14 := e13.trans e4
        refine q_setN (vn_catO (vn_lst [eN x] (va_p (ve_ixL (i := 0) (vl_var rfl (hv2.ex e14)) ve_int rfl) va_nil) (by simp)).o (vn_call (K := K) (va_x (vx_var rfl fun H' e' => hv1 H' (e14.trans e')) (va_l (vo_var rfl (o1.ex (e3.trans e4))).l va_nil)) (call rest (fun _ h => h) lp'.2 (by omega) _ rfl)).o (by rw [List.length_map, List.length_singleton]; omega)) fun p3 H5 n3 e5 o3 => ?_
        have o3 : Own K H5 p3 ((x :: rowM G n rest).map eN) := o3
        have e15 := e14.trans e5
        have n3' := fresh_back e14 n3
        have rowS : Wm.Row G (rest.filter fun m => !(rest.filter (G x)).contains m) (rowM G n (rest.filter fun m => !(rest.filter (G x)).contains m)) := Wm.rowM_row G n _ ((lp'.2.imp fun h => Nat.ne_of_lt h).filter _) (Nat.le_trans (List.length_filter_le _ _) (by omega))
        have sl : (rowM G n (rest.filter fun m => !(rest.filter (G x)).contains m)).length ≤ rest.length := Nat.le_trans (Wm.nodup_len _ _ rowS.nd rowS.sub) (List.length_filter_le _ _)
        refine q_setN (vn_catO (vo_var rfl (o2.ex (e4.trans e5))) (vn_call (K := K) (va_x (vx_var rfl fun H' e' => hv1 H' (e15.trans e')) (va_l (vn_lc rest eN (fun m => !(rest.filter (G x)).contains m) eN (vo_var rfl (o1.ex ((e3.trans e4).trans e5))).l (by omega) ?_).l va_nil)) (call (rest.filter fun m => !(rest.filter (G x)).contains m) (fun z h => (List.mem_filter.mp h).1) (lp'.2.filter _) (Nat.le_trans (List.length_filter_le _ _) (by omega)) _ rfl)).o (by rw [List.length_map, List.length_map]; omega)) fun p4 H6 n4 e6 o4 => ?_
        · intro m hm v H6 e6 hv
          exact ⟨[some v1, some v2, some (.ref p1), some (.ref p2), some (.ref p3), none, some v], fun Q h => h, rfl, vt_test (ve_notInE encN (ve_var rfl hv) (vo_var rfl (o2.ex ((e4.trans e5).trans e6))).l), fun _ => ve_var rfl hv⟩
        rw [← List.map_append] at o4
        have e16 := e15.trans e6
        have o3' := o3.ex e6
        refine s_retIf (vt_test (ve_B0 (g := fun i j => decide (i ≤ j)) (ve_len (vo_var rfl o3').l) (ve_len (vo_var rfl o4).l))) rfl rfl fun H7 e7 => ?_
        rw [List.length_map, List.length_map]
        have rw1 : rowM G (n + 1) (x :: rest) = if (x :: rowM G n rest).length ≤ (rest.filter (G x) ++ rowM G n (rest.filter fun m => !(rest.filter (G x)).contains m)).length then x :: rowM G n rest
            else rest.filter (G x) ++ rowM G n (rest.filter fun m => !(rest.filter (G x)).contains m) := by
          rw [rowM, if_neg (by omega)]
        rw [rw1] at q
        by_cases cc : (x :: rowM G n rest).length ≤ (rest.filter (G x) ++ rowM G n (rest.filter fun m => !(rest.filter (G x)).contains m)).length
        · rw [if_pos cc] at q
          rw [if_pos (decide_eq_true (by omega))]
          exact q p3 H7 n3' (e16.trans e7) (o3'.ex e7)
        · rw [if_neg cc] at q
          rw [if_neg (fun h => cc (by have := of_decide_eq_true h; omega))]
          exact q p4 H7 (fresh_back e15 n4) (e16.trans e7) (o4.ex e7)
theorem ok_fewest_to_drop (T : Txt mg) (D_impossible_ones : Def P w K mg base 8 "impossible_ones" ["told", "laws"] (sp_impossible_ones K CL)) (D_later_foes : Def P w K mg base 8 "later_foes" ["told", "laws"] (sp_later_foes K CL)) (D_first_row : Def P w K mg base 16 "first_row" ["foes", "left"] (sp_first_row K 15)) (F : At K mg "fewest_to_drop" s_fewest_to_drop ["told", "laws"]) : Def P w K mg base 17 "fewest_to_drop" ["told", "laws"] (sp_fewest_to_drop K CL) := by
  refine F.ok sc_fewest_to_drop (spN_len rFew_len) fun f cdv AA outer s H vs Q EE hr h => ?_
  obtain ⟨as, d, ha, ⟨d, rfl, fit, rfl⟩, q⟩ := h
  obtain ⟨v1, v2, rfl, hv1, hv2⟩ := args2 ha
  have hv1 : Ls K H v1 (d.facts.map eF) := hv1
  have hv2 : ∀ H', Ex H H' → IsLawsB K CL d.rules H' v2 := hv2
  have nd := sc_fewest_to_drop.nd
  have hu := hu65 hr
  refine ⟨(tSeq (tAsg (tCall (sp_impossible_ones K CL) [] E0 (tCons (tVar 0) (tCons (tVar 1) tNil))) (gName 2))
    (tSeq (tAsg (tLc (iRng1 (tCons (tCB (rLenS K) (tCons (tVar 0) tNil)) tNil)) (gName 4) (tTest (tOp (rNotInD K) (tVar 4) (tVar 2))) (tVar 4) [4]) (gName 3))
    (tRet (tCB (rSortedI K) (tCons (tOp rCat (tVar 2) (tCall (sp_first_row K 15) [] E0 (tCons (tCall (sp_later_foes K CL) [] E0 (tCons (tVar 0) (tCons (tVar 1) tNil))) (tCons (tVar 3) tNil)))) tNil))))), (pss_cons (ps_set (i := 2) nd rfl (Or.inr rfl) (pe_def D_impossible_ones (hr.mono (by decide)) (by rfl) (pa_cons (pv 0) (pa_cons (pv 1) pa_nil))))
      (pss_cons (ps_setLc (i := 3) (own := [("n", 4)]) (g := (gName 4)) (tt := (tTest (tOp (rNotInD K) (tVar 4) (tVar 2)))) (te := (tVar 4)) rfl nd rfl rfl (sw_true rfl rfl rfl (by decide +kernel)) (pi_range1 (by rfl) T.b_range (pa_cons (pe_callB call_len_seq (by rfl) T.b_len PySem.boot_len (pa_cons (pv 0) pa_nil)) pa_nil)) (blkOk_by (own := [("n", 4)]) (N := ["told", "laws", "alone", "left", "n"]) (sc := defScope s_fewest_to_drop) (by decide +kernel)) (fun _ _ _ _ _ => by exact (pg_name (i := 4) nd rfl (Or.inl rfl))) (fun _ _ _ _ _ => by exact (pts_one (pt_cmpR (op_notInD hu) (pv 4) (pv 2) (by rfl)))) (fun _ _ _ _ _ => by exact (pv 4)))
      (pss_one (ps_ret (pe_callB cr_sortedI (by rfl) T.b_sorted (by decide +kernel) (pa_cons (pe_op op_cat (pv 2) (pe_def D_first_row (hr.mono (by decide)) (by rfl) (pa_cons (pe_def D_later_foes (hr.mono (by decide)) (by rfl) (pa_cons (pv 0) (pa_cons (pv 1) pa_nil))) (pa_cons (pv 3) pa_nil)))) pa_nil)))))), ?_⟩
  have f14 := fit.fl
  have rl : (List.range d.facts.length).length = d.facts.length := List.length_range
  have al : ((List.range d.facts.length).filter (aloneG d)).length ≤ 14 := Nat.le_trans (List.length_filter_le _ _) (by omega)
  refine q_setN (vn_call (va_l (vl_var rfl hv1) (va_x (vx_var rfl hv2) va_nil)) ⟨d, rfl, fit, rfl⟩) fun p1 H1 n1 e1 o1 => ?_
  refine q_setN (vn_lcR1 d.facts.length (fun n => !((List.range d.facts.length).filter (aloneG d)).contains n) (fun n => eN n) (va_p ((ve_len (vl_var rfl (hv1.ex e1))).to (by rw [List.length_map])) va_nil) (by omega) ?_) fun p2 H2 n2 e2 o2 => ?_
  · intro n hn H2 e2
    exact ⟨[some v1, some v2, some (.ref p1), none, some (.int (n : Int))], fun Q h => h, rfl, vt_test (ve_notInE encN (a := n) (ve_var rfl .int) (vo_var rfl (o1.ex e2)).l), fun _ => ve_var rfl .int⟩
  have e12 := e1.trans e2
  obtain ⟨rn, rlt, re⟩ := Wm.rowOf_facts fit.ok f14
  rw [re] at q
  have fm : ∀ n m, m ∈ foesM d n ↔ n < m ∧ pairG d n m = true := fun n m => by
    unfold foesM
    rw [List.mem_map]
    constructor
    · rintro ⟨i, hi, rfl⟩
      exact ⟨by omega, (List.mem_filter.mp hi).2⟩
    · rintro ⟨h1, h2⟩
      have := (Wm.pair_lt h2).2
      have e : n + 1 + (m - (n + 1)) = m := by omega
      exact ⟨m - (n + 1), List.mem_filter.mpr ⟨List.mem_range.mpr (by omega), by rw [e]; exact h2⟩, e⟩
  have row : rRowN K 14 [Dx.Arg.x (Tb objN (LsP K) 14 (foesT d)), .l (((List.range d.facts.length).filter fun n => !((List.range d.facts.length).filter (aloneG d)).contains n).map eN)] ((rowM (pairG d) 14 ((List.range d.facts.length).filter fun n => !((List.range d.facts.length).filter (aloneG d)).contains n)).map eN) := by
    refine ⟨14, foesT d, foesM d, pairG d, _, rfl, (Wm.range_pair _).filter _, Nat.le_trans (List.length_filter_le _ _) (by omega), Nat.le_refl _, fun x hx => ?_, fun x hx m hm lt => ?_, rfl⟩
    · have := List.mem_range.mp (List.mem_filter.mp hx).1
      unfold foesT
      rw [if_pos this]
    · rw [Bool.eq_iff_iff, List.contains_iff_mem, fm]
      exact ⟨fun h => h.2, fun h => ⟨lt, h⟩⟩
  have rol : (rowOf d).length ≤ 14 := by
    have := Wm.nodup_len _ (List.range d.facts.length) rn fun z hz => List.mem_range.mpr (rlt z hz)
    omega
  have rol2 := rol
  unfold rowOf at rol2
  rw [List.length_append] at rol2
  have cat : Vl K (tOp rCat (tVar 2) (tCall (sp_first_row K 15) [] E0 (tCons (tCall (sp_later_foes K CL) [] E0 (tCons (tVar 0) (tCons (tVar 1) tNil))) (tCons (tVar 3) tNil)))) [some v1, some v2, some (.ref p1), some (.ref p2), none] H2 ((rowOf d).map eN) := by
    refine Vl.to (vn_catO (vo_var rfl (o1.ex e2)) (vn_call (K := K) (va_x (vx_call (K := K) (va_l (vl_var rfl (hv1.ex e12)) (va_x (vx_var rfl fun H' e' => hv2 H' (e12.trans e')) va_nil)) ⟨d, rfl, fit, rfl⟩) (va_l (vo_var rfl o2).l va_nil)) row).o (by rw [List.length_map, List.length_map]; omega)).l ?_
    rw [← List.map_append]
    rfl
  refine s_retN (vn_sortedN cat rn (List.nodup_range.filter _) ((Wm.range_pair _).imp (fun h => Nat.le_of_lt h) |>.filter _) fun x => ?_) fun p H3 n3 e3 o3 => q p H3 (fresh_back e12 n3) (e12.trans e3) o3
  rw [List.mem_filter, List.contains_iff_mem, List.mem_range]
  exact ⟨fun h => ⟨rlt x h, h⟩, fun h => h.2⟩
end
end Wp

set_option Elab.async false
set_option linter.all false
set_option maxRecDepth 100000
set_option maxHeartbeats 2000000
namespace Dx
open PySem PySem.Spec PyProof.Rows L2 Evl
section
variable {K : PySem.W.Frag} {σ : L2.St} {H : Hp} {te : TE} {D : Ends} {tz : TS} {i : Nat} {φ : Hp → V → Prop}
theorem q_setX (h : Vx te σ H φ) (k : ∀ v H1, Ex H H1 → (∀ H3, Ex H1 H3 → φ H3 v) → tz D (σ.set i (some v)) H1) : tSeq (tAsg te (gName i)) tz D σ H := h H (Ex.refl H) _ fun v H1 e hv => k v H1 e hv
theorem s_retX (h : Vx te σ H φ) (k : ∀ v H1, Ex H H1 → (∀ H3, Ex H1 H3 → φ H3 v) → D.rt v H1) : tRet te D σ H := h H (Ex.refl H) _ k
theorem vx_ve {d : PyData} (h : Ve K te σ H d) : Vx te σ H fun H v => Dt K H v d := fun H1 e Q q => h H1 e Q fun v H2 e2 hv => q v H2 e2 fun H3 e3 => hv.ex e3
end
end Dx
namespace Wp
open PySem PySem.Spec PyProof.Rows L2 Evl Dx
open Gq03 (Basic Rule Fact Desk Ask)
open Wm (reachedM OkDesk Fit OkRules afterD afterB ownP fitsM ownN overM tripsM tripAt cameM kindAt TT Bnd profM dirsM standM leaveM outM)
abbrev s_own_profile : Stmt := top 59
theorem sc_own_profile : FnScope ["laws", "r"] ["laws", "r"] (defScope s_own_profile) := ⟨rfl, rfl, rfl, by decide +kernel, rfl, by decide +kernel, by decide +kernel⟩
abbrev s_fits : Stmt := top 60
theorem sc_fits : FnScope ["has", "k"] ["has", "k"] (defScope s_fits) := ⟨rfl, rfl, rfl, by decide +kernel, rfl, by decide +kernel, by decide +kernel⟩
abbrev s_own_nodes : Stmt := top 61
theorem sc_own_nodes : FnScope ["walk", "has", "done", "step", "leading", "r"] ["walk", "has", "done"] (defScope s_own_nodes) := ⟨rfl, rfl, rfl, by decide +kernel, rfl, by decide +kernel, by decide +kernel⟩
abbrev s_is_over : Stmt := top 62
theorem sc_is_over : FnScope ["walk", "has", "done", "r"] ["walk", "has", "done"] (defScope s_is_over) := ⟨rfl, rfl, rfl, by decide +kernel, rfl, by decide +kernel, by decide +kernel⟩
abbrev s_round_trips : Stmt := top 63
theorem sc_round_trips : FnScope ["walk", "has", "first", "pairs", "done", "r", "came", "back"] ["walk", "has", "first"] (defScope s_round_trips) := ⟨rfl, rfl, rfl, by decide +kernel, rfl, by decide +kernel, by decide +kernel⟩
abbrev s_look_out : Stmt := top 64
theorem sc_look_out : FnScope ["walk", "r", "done", "has", "homeward", "standing", "leaving", "at"] ["walk", "r", "done"] (defScope s_look_out) := ⟨rfl, rfl, rfl, by decide +kernel, rfl, by decide +kernel, by decide +kernel⟩
abbrev s_told_moves : Stmt := top 65
theorem sc_told_moves : FnScope ["walk", "told", "profiles", "moves", "x", "y", "there", "done", "step", "back"] ["walk", "told", "profiles"] (defScope s_told_moves) := ⟨rfl, rfl, rfl, by decide +kernel, rfl, by decide +kernel, by decide +kernel⟩
abbrev s_certain_starts : Stmt := top 66
theorem sc_certain_starts : FnScope ["told", "laws", "steps", "walk", "profiles", "x", "places", "done", "found", "before", "after"] ["told", "laws", "steps"] (defScope s_certain_starts) := ⟨rfl, rfl, rfl, by decide +kernel, rfl, by decide +kernel, by decide +kernel⟩
def eP (p : Nat × Nat) : PyData := .tuple [.int (p.1 : Int), .int (p.2 : Int)]
theorem encP : Enc eP where
  lay := fun b => by simp [eP, PyData.canLay0, PyData.canLayAll0]
  dep := fun b => by simp [eP, PyData.depth, PyData.depthAll]
  eq := fun a b => by
    show (((a.1 : Int) == (b.1 : Int)) && (((a.2 : Int) == (b.2 : Int)) && true)) = _
    rw [Bool.eq_iff_iff]
    simp
    constructor
    · rintro ⟨h1, h2⟩; exact Prod.ext (by omega) (by omega)
    · rintro rfl; exact ⟨rfl, rfl⟩
abbrev objNN : List ((Nat × Nat) × V) → HO := objP fun p => p
theorem keNN : Ke eP objNN tDNewT := keP fun _ _ h => h
abbrev sp_reachedP (K : PySem.W.Frag) : Sp := spN K (rReach eP)
abbrev BlP (K : PySem.W.Frag) : Hp → V → Bool → Prop := fun H v b => Dt K H v (.bool b)
/-! ### A walk -/
structure ClW (K : PySem.W.Frag) (C : Addr) : Prop where
  cl : Cls K C
  n_laws : NoAttr K C "laws"
  n_steps : NoAttr K C "steps"
  n_backs : NoAttr K C "backs"
  n_ends : NoAttr K C "ends"
def fBk (rs : List Rule) (steps : Ask) (kn : Nat → Nat → Bool) (k : Nat × Nat) : Option (List PyData) := if kn k.1 k.2 = true then some ((TT rs steps k.1 k.2).1.map eN) else none
def fEn (rs : List Rule) (steps : Ask) (kn : Nat → Nat → Bool) (k : Nat × Nat) : Option Bool := if kn k.1 k.2 = true then some (TT rs steps k.1 k.2).2 else none
def above (steps : Ask) (m : Nat) (r d : Nat) : Bool := Gq03.roles.contains r && (decide (m < d) && decide (d ≤ steps.length))
structure IsWalk (K : PySem.W.Frag) (CL CW : Addr) (rs : List Rule) (steps : Ask) (m : Nat) (H : Hp) (v : V) : Prop where
  laws : HasF CW "laws" (IsLaws K CL rs) H v
  stp : HasF CW "steps" (fun H v => Ls K H v (steps.map eP)) H v
  backs : HasF CW "backs" (Tb objNN (LsP K) 1000 (fBk rs steps (above steps m))) H v
  ends : HasF CW "ends" (Tb objNN (BlP K) 1000 (fEn rs steps (above steps m))) H v
section
variable {K : PySem.W.Frag} {CL CW : Addr} {rs : List Rule} {steps : Ask} {m : Nat} {H H' : Hp} {v : V} {σ : L2.St} {te ty : TE}
theorem IsWalk.ex (h : IsWalk K CL CW rs steps m H v) (e : Ex H H') : IsWalk K CL CW rs steps m H' v :=
  ⟨h.laws.ex (fun _ _ _ e h => h.ex e) e, h.stp.ex (fun _ _ _ e h => Ls.ex h e) e, h.backs.ex (fun _ _ _ e h => Tb.ex (phL K) h e) e, h.ends.ex (fun _ _ _ e h => Tb.ex (phB K) h e) e⟩
theorem vx_wlaws (Y : ClW K CW) (h : Vx te σ H (IsWalk K CL CW rs steps m)) : Vx (tFld K te "laws") σ H (IsLaws K CL rs) := vx_fld Y.cl Y.n_laws (h.imp fun _ _ h => h.laws)
theorem vl_steps (Y : ClW K CW) (h : Vx te σ H (IsWalk K CL CW rs steps m)) : Vl K (tFld K te "steps") σ H (steps.map eP) := (vx_fld Y.cl Y.n_steps (h.imp fun _ _ h => h.stp)).l
theorem ve_nsteps (Y : ClW K CW) (h : Vx te σ H (IsWalk K CL CW rs steps m)) : Ve K (tCB (rLenS K) (tCons (tFld K te "steps") tNil)) σ H (.int ((steps.length : Nat) : Int)) := (ve_len (vl_steps Y h)).to (by rw [List.length_map])
theorem above_iff {r d : Nat} (hr : r ∈ Gq03.roles) (h1 : m < d) (h2 : d ≤ steps.length) : above steps m r d = true := by
  unfold above
  rw [List.contains_iff_mem.mpr hr, decide_eq_true h1, decide_eq_true h2]
  rfl
theorem vl_backs (Y : ClW K CW) (h : Vx te σ H (IsWalk K CL CW rs steps m)) {r d : Nat} (hr : r ∈ Gq03.roles) (h1 : m < d) (h2 : d ≤ steps.length) (hy : Ve K ty σ H (eP (r, d))) : Vl K (tDGet (tFld K te "backs") ty) σ H ((TT rs steps r d).1.map eN) :=
  vl_dget keNN (vx_fld Y.cl Y.n_backs (h.imp fun _ _ h => h.backs)) hy (by unfold fBk; rw [if_pos (above_iff hr h1 h2)])
theorem ve_ends (Y : ClW K CW) (h : Vx te σ H (IsWalk K CL CW rs steps m)) {r d : Nat} (hr : r ∈ Gq03.roles) (h1 : m < d) (h2 : d ≤ steps.length) (hy : Ve K ty σ H (eP (r, d))) : Ve K (tDGet (tFld K te "ends") ty) σ H (.bool (TT rs steps r d).2) :=
  ve_dgetB keNN (vx_fld Y.cl Y.n_ends (h.imp fun _ _ h => h.ends)) hy (by unfold fEn; rw [if_pos (above_iff hr h1 h2)])
end
section
variable (K : PySem.W.Frag) (CL CW : Addr)
def rOwnP : List Dx.Arg → (Hp → V → Prop) → Prop := fun as ψ => ∃ (rs : List Rule) (r : Nat), as = [.x (IsLaws K CL rs), .p (eN r)] ∧ r ∈ Gq03.roles ∧ ψ = fun H v => Ls K H v ((ownP rs r).map eB)
abbrev sp_own_profile : Sp := spX K (rOwnP K CL)
def rFits : List Dx.Arg → PyData → Prop := fun as d => ∃ (has : List Basic) (k : Nat), as = [.l (has.map eB), .p (eN k)] ∧ d = .bool (fitsM has k)
abbrev sp_fits : Sp := spV K rFits
structure WOk (rs : List Rule) (steps : Ask) : Prop where
  ok : OkRules rs
  l12 : rs.length ≤ 12
  l4 : steps.length ≤ 4
def rOwnN : List Dx.Arg → List PyData → Prop := fun as ds => ∃ (rs : List Rule) (steps : Ask) (m : Nat) (has : List Basic) (done : Nat), as = [.x (IsWalk K CL CW rs steps m), .l (has.map eB), .p (eN done)] ∧ WOk rs steps ∧ done ≤ steps.length ∧ ds = (ownN rs steps has done).map eN
abbrev sp_own_nodes : Sp := spN K (rOwnN K CL CW)
def rOver : List Dx.Arg → PyData → Prop := fun as d => ∃ (rs : List Rule) (steps : Ask) (m : Nat) (has : List Basic) (done : Nat), as = [.x (IsWalk K CL CW rs steps m), .l (has.map eB), .p (eN done)] ∧ WOk rs steps ∧ m ≤ done ∧ done ≤ steps.length ∧ d = .bool (overM rs steps (TT rs steps) has done)
abbrev sp_is_over : Sp := spV K (rOver K CL CW)
def rTrips : List Dx.Arg → List PyData → Prop := fun as ds => ∃ (rs : List Rule) (steps : Ask) (m : Nat) (has : List Basic) (first : Nat), as = [.x (IsWalk K CL CW rs steps m), .l (has.map eB), .p (eN first)] ∧ WOk rs steps ∧ m ≤ first ∧ first ≤ steps.length ∧ ds = (tripsM rs steps (TT rs steps) has first).map eP
abbrev sp_round_trips : Sp := spN K (rTrips K CL CW)
end
section
variable {K : PySem.W.Frag} {CL CW : Addr}
theorem rOwnP_len : ∀ as d, rOwnP K CL as d → as.length = 2 := by rintro as d ⟨x, y, rfl, _⟩; rfl
theorem rFits_len : ∀ as d, rFits as d → as.length = 2 := by rintro as d ⟨x, y, rfl, _⟩; rfl
theorem rOwnN_len : ∀ as d, rOwnN K CL CW as d → as.length = 3 := by rintro as d ⟨_, _, _, x, y, rfl, _⟩; rfl
theorem rOver_len : ∀ as d, rOver K CL CW as d → as.length = 3 := by rintro as d ⟨_, _, _, x, y, rfl, _⟩; rfl
theorem rTrips_len : ∀ as d, rTrips K CL CW as d → as.length = 3 := by rintro as d ⟨_, _, _, x, y, rfl, _⟩; rfl
end
section
variable {P : Program} {w : World} {K : PySem.W.Frag} {mg : Str → Option Value} {base : Heap} {CL CW : Addr}
theorem ok_own_profile (T : Txt mg) (X : ClL K CL) (D_turned : Def P w K mg base 2 "turned" ["r"] (sp_turned K)) (F : At K mg "own_profile" s_own_profile ["laws", "r"]) : Def P w K mg base 3 "own_profile" ["laws", "r"] (sp_own_profile K CL) := by
  refine F.ok sc_own_profile (spX_len rOwnP_len) fun f cdv AA outer s H vs Q EE hr h => ?_
  obtain ⟨as, d, ha, ⟨rs, r, rfl, hr', rfl⟩, q⟩ := h
  obtain ⟨v1, v2, rfl, hv1, hv2⟩ := args2 ha
  have hv1 : ∀ H', Ex H H' → IsLaws K CL rs H' v1 := hv1
  have nd := sc_own_profile.nd
  have hu := hu65 hr
  refine ⟨(tRet (tDGet (tFld K (tVar 0) "after_basic") (tTup (tCons (tC (.int (1))) (tCons (tCall (sp_turned K) [] E0 (tCons (tVar 1) tNil)) tNil))))), (pss_one (ps_ret (pe_dget (hu1 hr) (pe_fld (pv 0) rfl) (pe_tup (pa_cons (pe_gI T.c_WITH_EDGE) (pa_cons (pe_def D_turned (hr.mono (by decide)) (by rfl) (pa_cons (pv 1) pa_nil)) pa_nil))) (fun _ _ => rfl)))), ?_⟩
  exact s_retX (vl_afterB X (vx_var rfl hv1) (b := .has (Gq03.turned r)) (Wm.has_basics.mpr (Wm.turned_roles hr')) (ve_tup [.int 1, eN (Gq03.turned r)] (va_p ve_int (va_p (ve_call (va_p (ve_var rfl hv2) va_nil) ⟨r, rfl, roles_pos hr', rfl⟩) va_nil)) (by simp))).x q
theorem ok_fits (T : Txt mg) (F : At K mg "fits" s_fits ["has", "k"]) : Def P w K mg base 1 "fits" ["has", "k"] (sp_fits K) := by
  refine F.ok sc_fits (spV_len rFits_len) fun f cdv AA outer s H vs Q EE hr h => ?_
  obtain ⟨as, d, ha, ⟨has, k, rfl, rfl⟩, q⟩ := h
  obtain ⟨v1, v2, rfl, hv1, hv2⟩ := args2 ha
  have hv1 : Ls K H v1 (has.map eB) := hv1
  have hv2 : Dt K H v2 (eN k) := hv2
  have nd := sc_fits.nd
  have hu := hu65 hr
  refine ⟨(tRet (tOrV (tOp rEq (tVar 1) (tC (.int 0))) (tOp (rInD K) (tTup (tCons (tC (.int (0))) (tCons (tVar 1) tNil))) (tVar 0)))), (pss_one (ps_ret (pe_or (pe_cmpR op_eq (pv 1) pe_int (nomark _)) (pe_one (pe_cmpR (op_inD hu) (pe_tup (pa_cons (pe_gI T.c_OF_KIND) (pa_cons (pv 1) pa_nil))) (pv 0) (by rfl)))))), ?_⟩
  refine s_retV ((ve_orV (ve_eqI (ve_var rfl hv2) ve_int) fun _ => ve_inE encB (a := .kind k) (ve_tup [.int 0, eN k] (va_p ve_int (va_p (ve_var rfl hv2) va_nil)) (by simp)) (vl_var rfl hv1)).to ?_) q
  unfold fitsM
  have e : decide ((k : Int) = 0) = decide (k = 0) := by
    rw [Bool.eq_iff_iff, decide_eq_true_iff, decide_eq_true_iff]
    omega
  rw [e]
theorem ok_own_nodes (T : Txt mg) (X : ClL K CL) (Y : ClW K CW) (D_directions : Def P w K mg base 1 "directions" [] (sp_directions K)) (D_fits : Def P w K mg base 1 "fits" ["has", "k"] (sp_fits K)) (D_own_profile : Def P w K mg base 3 "own_profile" ["laws", "r"] (sp_own_profile K CL)) (F : At K mg "own_nodes" s_own_nodes ["walk", "has", "done"]) : Def P w K mg base 4 "own_nodes" ["walk", "has", "done"] (sp_own_nodes K CL CW) := by
  refine F.ok sc_own_nodes (spN_len rOwnN_len) fun f cdv AA outer s H vs Q EE hr h => ?_
  obtain ⟨as, d, ha, ⟨rs, steps, m, has, done, rfl, wo, hd, rfl⟩, q⟩ := h
  obtain ⟨v1, v2, v3, rfl, hv1, hv2, hv3⟩ := args3 ha
  have hv1 : ∀ H', Ex H H' → IsWalk K CL CW rs steps m H' v1 := hv1
  have hv2 : Ls K H v2 (has.map eB) := hv2
  have hv3 : Dt K H v3 (eN done) := hv3
  have nd := sc_own_nodes.nd
  have hu := hu65 hr
  refine ⟨(tSeq (tIfS (tTest (tOp rEq (tVar 2) (tCB (rLenS K) (tCons (tFld K (tVar 0) "steps") tNil))))
      (tRet (tLst tNil))
      tNext)
    (tSeq (tAsg (tOp (rIxL K) (tFld K (tVar 0) "steps") (tVar 2)) (gName 3))
    (tSeq (tAsg (tLc (iList K (tCall (sp_directions K) [] E0 tNil)) (gName 5) (tAnd (tTest (tOp (rInD K) (tTup (tCons (tC (.int (1))) (tCons (tVar 5) tNil))) (tVar 1))) (tTest (tOp (rInD K) (tOp (rIxT K) (tVar 3) (tC (.int 0))) (tDGet (tFld K (tFld K (tVar 0) "laws") "after_direction") (tVar 5))))) (tVar 5) [5]) (gName 4))
    (tRet (tLc (iList K (tVar 4)) (gName 5) (tB (tCall (sp_fits K) [] E0 (tCons (tCall (sp_own_profile K CL) [] E0 (tCons (tFld K (tVar 0) "laws") (tCons (tVar 5) tNil))) (tCons (tOp (rIxT K) (tVar 3) (tC (.int 1))) tNil)))) (tVar 5) [5]))))), (pss_cons (ps_if (pt_cmpR op_eq (pv 2) (pe_callB call_len_seq (by rfl) T.b_len PySem.boot_len (pa_cons (pe_fld (pv 0) rfl) pa_nil)) (nomark _))
        (pss_one (ps_ret (pe_lst pa_nil)))
        pss_nil)
      (pss_cons (ps_set (i := 3) nd rfl (Or.inr rfl) (pe_ix ix_list (pe_fld (pv 0) rfl) (pv 2) (fun _ _ => rfl)))
      (pss_cons (ps_setLc (i := 4) (own := [("r", 5)]) (g := (gName 5)) (tt := (tAnd (tTest (tOp (rInD K) (tTup (tCons (tC (.int (1))) (tCons (tVar 5) tNil))) (tVar 1))) (tTest (tOp (rInD K) (tOp (rIxT K) (tVar 3) (tC (.int 0))) (tDGet (tFld K (tFld K (tVar 0) "laws") "after_direction") (tVar 5)))))) (te := (tVar 5)) rfl nd rfl rfl (sw_true rfl rfl rfl (by decide +kernel)) (pi_list (pe_def0 D_directions (hr.mono (by decide)) (by rfl))) (blkOk_by (own := [("r", 5)]) (N := ["walk", "has", "done", "step", "leading", "r"]) (sc := defScope s_own_nodes) (by decide +kernel)) (fun _ _ _ _ _ => by exact (pg_name (i := 5) nd rfl (Or.inl rfl))) (fun _ _ _ _ _ => by exact (pts_one (PW.pt (pw_and (pt_cmpR (op_inD hu) (pe_tup (pa_cons (pe_gI T.c_WITH_EDGE) (pa_cons (pv 5) pa_nil))) (pv 1) (by rfl)) (pw_and1 (pt_cmpR (op_inD hu) (pe_ix ix_tup (pv 3) pe_int (fun _ _ => rfl)) (pe_dget (hu1 hr) (pe_fld (pe_fld (pv 0) rfl) rfl) (pv 5) (fun _ _ => rfl)) (by rfl))))))) (fun _ _ _ _ _ => by exact (pv 5)))
      (pss_one (ps_ret (pe_lc (own := [("r", 5)]) (g := (gName 5)) (tt := (tB (tCall (sp_fits K) [] E0 (tCons (tCall (sp_own_profile K CL) [] E0 (tCons (tFld K (tVar 0) "laws") (tCons (tVar 5) tNil))) (tCons (tOp (rIxT K) (tVar 3) (tC (.int 1))) tNil))))) (te := (tVar 5)) rfl nd (pi_list (pv 4)) (blkOk_by (own := [("r", 5)]) (N := ["walk", "has", "done", "step", "leading", "r"]) (sc := defScope s_own_nodes) (by decide +kernel)) (fun _ _ _ _ _ => by exact (pg_name (i := 5) nd rfl (Or.inl rfl))) (fun _ _ _ _ _ => by exact (pts_one (pt_val (pe_def D_fits (hr.mono (by decide)) (by rfl) (pa_cons (pe_def D_own_profile (hr.mono (by decide)) (by rfl) (pa_cons (pe_fld (pv 0) rfl) (pa_cons (pv 5) pa_nil))) (pa_cons (pe_ix ix_tup (pv 3) pe_int (fun _ _ => rfl)) pa_nil)))))) (fun _ _ _ _ _ => by exact (pv 5)))))))), ?_⟩
  have wk : ∀ {H1 H2 : Hp}, Ex H H1 → Ex H1 H2 → IsWalk K CL CW rs steps m H2 v1 := fun e e' => hv1 _ (e.trans e')
  refine q_when (vt_test (ve_eqI (ve_var rfl hv3) (ve_nsteps Y (vx_var rfl hv1)))) (fun c H1 e1 => ?_) (fun c H1 e1 => ?_)
  · have c := of_decide_eq_true c
    refine s_retN (vn_lst (K := K) [] va_nil (by simp)) fun p H2 n2 e2 o2 => q p H2 (fresh_back e1 n2) (e1.trans e2) ?_
    have : ownN rs steps has done = [] := by
      unfold ownN
      rw [List.getElem?_eq_none (by omega)]
    rw [this]
    exact o2
  · have c := of_decide_eq_false c
    obtain ⟨st, hst⟩ : ∃ st, steps[done]? = some st := ⟨steps[done]'(by omega), List.getElem?_eq_getElem (by omega)⟩
    refine q_setV (K := K) (ve_ixL (i := done) (d := eP st) (vl_steps Y (vx_var rfl fun H' e' => wk e1 e')) (ve_var rfl (hv3.ex e1)) (by rw [List.getElem?_map, hst]; rfl)) fun v4 H2 e2 h4 => ?_
    have e12 := e1.trans e2
    refine q_setN (vn_lc Gq03.roles eN (fun r => has.contains (.has r) && (afterD rs r).contains st.1) eN (vn_call va_nil ⟨rfl, rfl⟩).l (by decide) ?_) fun p H3 n3 e3 o3 => ?_
    · intro r hr' v H3 e3 hv
      have e13 := e12.trans e3
      exact ⟨[some v1, some v2, some v3, some v4, none, some v], fun Q h => h, rfl, et_and (vt_test (ve_inE encB (a := .has r) (ve_tup [.int 1, eN r] (va_p ve_int (va_p (ve_var rfl hv) va_nil)) (by simp)) (vl_var rfl (hv2.ex e13)))) fun _ => vt_test (ve_inE encN (a := st.1) (ve_ixT (i := 0) (ve_var rfl (h4.ex e3)) ve_int rfl) (vl_after X (vx_wlaws Y (vx_var rfl fun H' e' => wk e13 e')) hr' (ve_var rfl hv))), fun _ => ve_var rfl hv⟩
    have e13 := e12.trans e3
    have fl : (Gq03.roles.filter fun r => has.contains (.has r) && (afterD rs r).contains st.1).length ≤ 8 := List.length_filter_le _ _
    refine s_retN (vn_lc (Gq03.roles.filter fun r => has.contains (.has r) && (afterD rs r).contains st.1) eN (fun r => fitsM (ownP rs r) st.2) eN (vo_var rfl o3).l (by omega) ?_) fun p2 H4 n4 e4 o4 => q p2 H4 (fresh_back e13 n4) (e13.trans e4) ?_
    · intro r hr' v H4 e4 hv
      have e14 := e13.trans e4
      have hr'' := (List.mem_filter.mp hr').1
      exact ⟨[some v1, some v2, some v3, some v4, some (.ref p), some v], fun Q h => h, rfl, vt_B (ve_call (va_l (vx_call (va_x (vx_wlaws Y (vx_var rfl fun H' e' => wk e14 e')) (va_p (ve_var rfl hv) va_nil)) ⟨rs, r, rfl, hr'', rfl⟩).l (va_p (ve_ixT (i := 1) (ve_var rfl (h4.ex (e3.trans e4))) ve_int rfl) va_nil)) ⟨ownP rs r, st.2, rfl, rfl⟩), fun _ => ve_var rfl hv⟩
    · unfold ownN
      rw [hst]
      exact o4
theorem ok_is_over (T : Txt mg) (X : ClL K CL) (Y : ClW K CW) (D_own_nodes : Def P w K mg base 4 "own_nodes" ["walk", "has", "done"] (sp_own_nodes K CL CW)) (F : At K mg "is_over" s_is_over ["walk", "has", "done"]) : Def P w K mg base 5 "is_over" ["walk", "has", "done"] (sp_is_over K CL CW) := by
  refine F.ok sc_is_over (spV_len rOver_len) fun f cdv AA outer s H vs Q EE hr h => ?_
  obtain ⟨as, d, ha, ⟨rs, steps, m, has, done, rfl, wo, hm, hd, rfl⟩, q⟩ := h
  obtain ⟨v1, v2, v3, rfl, hv1, hv2, hv3⟩ := args3 ha
  have hv1 : ∀ H', Ex H H' → IsWalk K CL CW rs steps m H' v1 := hv1
  have hv2 : Ls K H v2 (has.map eB) := hv2
  have hv3 : Dt K H v3 (eN done) := hv3
  have nd := sc_is_over.nd
  have hu := hu65 hr
  refine ⟨(tSeq (tIfS (tTest (tOp rEq (tVar 2) (tCB (rLenS K) (tCons (tFld K (tVar 0) "steps") tNil))))
      (tRet (tC (.bl true)))
      tNext)
    (tRet (tCB (rAny K) (tCons (tLc (iList K (tCall (sp_own_nodes K CL CW) [] E0 (tCons (tVar 0) (tCons (tVar 1) (tCons (tVar 2) tNil))))) (gName 3) tYes (tDGet (tFld K (tVar 0) "ends") (tTup (tCons (tVar 3) (tCons (tOp (rI0 fun i j => .int (i + j)) (tVar 2) (tC (.int 1))) tNil)))) [3]) tNil)))), (pss_cons (ps_if (pt_cmpR op_eq (pv 2) (pe_callB call_len_seq (by rfl) T.b_len PySem.boot_len (pa_cons (pe_fld (pv 0) rfl) pa_nil)) (nomark _))
        (pss_one (ps_ret pe_bl))
        pss_nil)
      (pss_one (ps_ret (pe_callB (cr_any rfl) (by rfl) T.b_any (by decide +kernel) (pa_cons (pe_lc (own := [("r", 3)]) (g := (gName 3)) (tt := tYes) (te := (tDGet (tFld K (tVar 0) "ends") (tTup (tCons (tVar 3) (tCons (tOp (rI0 fun i j => .int (i + j)) (tVar 2) (tC (.int 1))) tNil))))) rfl nd (pi_list (pe_def D_own_nodes (hr.mono (by decide)) (by rfl) (pa_cons (pv 0) (pa_cons (pv 1) (pa_cons (pv 2) pa_nil))))) (blkOk_by (own := [("r", 3)]) (N := ["walk", "has", "done", "r"]) (sc := defScope s_is_over) (by decide +kernel)) (fun _ _ _ _ _ => by exact (pg_name (i := 3) nd rfl (Or.inl rfl))) (fun _ _ _ _ _ => by exact pts_nil) (fun _ _ _ _ _ => by exact (pe_dget (hu1 hr) (pe_fld (pv 0) rfl) (pe_tup (pa_cons (pv 3) (pa_cons (pe_op op_add (pv 2) pe_int) pa_nil))) (fun _ _ => rfl)))) pa_nil))))), ?_⟩
  have wk : ∀ {H1 H2 : Hp}, Ex H H1 → Ex H1 H2 → IsWalk K CL CW rs steps m H2 v1 := fun e e' => hv1 _ (e.trans e')
  refine q_when (vt_test (ve_eqI (ve_var rfl hv3) (ve_nsteps Y (vx_var rfl hv1)))) (fun c H1 e1 => ?_) (fun c H1 e1 => ?_)
  · have c := of_decide_eq_true c
    refine s_retV (K := K) ve_bl fun v H2 e2 hv => q v H2 (e1.trans e2) ?_
    unfold overM
    rw [if_pos (by omega)]
    exact hv
  · have c := of_decide_eq_false c
    have ol := Wm.ownN_len (rs := rs) (steps := steps) (has := has) (done := done)
    refine s_retV (ve_anyM (l := ownN rs steps has done) (h := fun r => (TT rs steps r (done + 1)).2) (vn_map (ownN rs steps has done) eN _ (vn_call (va_x (vx_var rfl fun H' e' => wk e1 e') (va_l (vl_var rfl (hv2.ex e1)) (va_p (ve_var rfl (hv3.ex e1)) va_nil))) ⟨rs, steps, m, has, done, rfl, wo, hd, rfl⟩).l (by omega) ?_).l) fun v H2 e2 hv => q v H2 (e1.trans e2) ?_
    · intro r hr' v H2 e2 hv
      obtain ⟨_, _, hrr, _⟩ := Wm.ownN_mem.mp hr'
      have e12 := e1.trans e2
      exact ⟨[some v1, some v2, some v3, some v], fun Q h => h, rfl, ve_ends Y (vx_var rfl fun H' e' => wk e12 e') hrr (by omega) (by omega) (ve_tup [.int (r : Int), .int ((done + 1 : Nat) : Int)] (va_p (ve_var rfl hv) (va_p ((ve_I0 (g := (· + ·)) (ve_var rfl (hv3.ex e12)) ve_int).to (by congr 1)) va_nil)) (by simp))⟩
    · unfold overM
      rw [if_neg (by omega)]
      exact hv
theorem trips_more {rs : List Rule} {steps : Ask} {T : Wm.Tabs} {has : List Basic} {first i : Nat} : (List.range (i + 1)).flatMap (fun j => tripAt rs steps T has (first + j)) = (List.range i).flatMap (fun j => tripAt rs steps T has (first + j)) ++ tripAt rs steps T has (first + i) := by
  rw [List.range_succ, List.flatMap_append]
  simp
theorem ok_round_trips (T : Txt mg) (X : ClL K CL) (Y : ClW K CW) (D_own_nodes : Def P w K mg base 4 "own_nodes" ["walk", "has", "done"] (sp_own_nodes K CL CW)) (D_fits : Def P w K mg base 1 "fits" ["has", "k"] (sp_fits K)) (F : At K mg "round_trips" s_round_trips ["walk", "has", "first"]) : Def P w K mg base 5 "round_trips" ["walk", "has", "first"] (sp_round_trips K CL CW) := by
  refine F.ok sc_round_trips (spN_len rTrips_len) fun f cdv AA outer s H vs Q EE hr h => ?_
  obtain ⟨as, d, ha, ⟨rs, steps, m, has, first, rfl, wo, hm, hd, rfl⟩, q⟩ := h
  obtain ⟨v1, v2, v3, rfl, hv1, hv2, hv3⟩ := args3 ha
  have hv1 : ∀ H', Ex H H' → IsWalk K CL CW rs steps m H' v1 := hv1
  have hv2 : Ls K H v2 (has.map eB) := hv2
  have hv3 : Dt K H v3 (eN first) := hv3
  have nd := sc_round_trips.nd
  have hu := hu65 hr
  refine ⟨(tSeq (tAsg (tLst tNil) (gName 3))
    (tSeq (tFor (iRng2 (tCons (tVar 2) (tCons (tCB (rLenS K) (tCons (tFld K (tVar 0) "steps") tNil)) tNil))) (gName 4)
      (tFor (iList K (tCall (sp_own_nodes K CL CW) [] E0 (tCons (tVar 0) (tCons (tVar 1) (tCons (tVar 4) tNil))))) (gName 5)
      (tSeq (tAsg (tLc (iList K (tDGet (tFld K (tVar 0) "backs") (tTup (tCons (tVar 5) (tCons (tOp (rI0 fun i j => .int (i + j)) (tVar 4) (tC (.int 1))) tNil))))) (gName 7) (tB (tCall (sp_fits K) [] E0 (tCons (tVar 1) (tCons (tOp (rIxT K) (tOp (rIxL K) (tFld K (tVar 0) "steps") (tOp (rI0 fun i j => .int (i - j)) (tVar 7) (tC (.int 1)))) (tC (.int 1))) tNil)))) (tVar 7) [7]) (gName 6))
    (tDrop (tBM K "list" rExtend (tVar 3) (tCons (tLc (iList K (tVar 6)) (gName 7) tYes (tTup (tCons (tVar 4) (tCons (tVar 7) tNil))) [7]) tNil))))))
    (tRet (tVar 3)))), (pss_cons (ps_set (i := 3) nd rfl (Or.inl rfl) (pe_lst pa_nil))
      (pss_cons (ps_for PassesOwn.never rfl (pi_range2 (by rfl) T.b_range (pa_cons (pv 2) (pa_cons (pe_callB call_len_seq (by rfl) T.b_len PySem.boot_len (pa_cons (pe_fld (pv 0) rfl) pa_nil)) pa_nil))) (pg_name (i := 4) nd rfl (Or.inr rfl))
        (pss_one (ps_for PassesOwn.never rfl (pi_list (pe_def D_own_nodes (hr.mono (by decide)) (by rfl) (pa_cons (pv 0) (pa_cons (pv 1) (pa_cons (pv 4) pa_nil))))) (pg_name (i := 5) nd rfl (Or.inl rfl))
        (pss_cons (ps_setLc (i := 6) (own := [("back", 7)]) (g := (gName 7)) (tt := (tB (tCall (sp_fits K) [] E0 (tCons (tVar 1) (tCons (tOp (rIxT K) (tOp (rIxL K) (tFld K (tVar 0) "steps") (tOp (rI0 fun i j => .int (i - j)) (tVar 7) (tC (.int 1)))) (tC (.int 1))) tNil))))) (te := (tVar 7)) rfl nd rfl rfl (sw_true rfl rfl rfl (by decide +kernel)) (pi_list (pe_dget (hu1 hr) (pe_fld (pv 0) rfl) (pe_tup (pa_cons (pv 5) (pa_cons (pe_op op_add (pv 4) pe_int) pa_nil))) (fun _ _ => rfl))) (blkOk_by (own := [("back", 7)]) (N := ["walk", "has", "first", "pairs", "done", "r", "came", "back"]) (sc := defScope s_round_trips) (by decide +kernel)) (fun _ _ _ _ _ => by exact (pg_name (i := 7) nd rfl (Or.inl rfl))) (fun _ _ _ _ _ => by exact (pts_one (pt_val (pe_def D_fits (hr.mono (by decide)) (by rfl) (pa_cons (pv 1) (pa_cons (pe_ix ix_tup (pe_ix ix_list (pe_fld (pv 0) rfl) (pe_op op_sub (pv 7) pe_int) (fun _ _ => rfl)) pe_int (fun _ _ => rfl)) pa_nil)))))) (fun _ _ _ _ _ => by exact (pv 7)))
      (pss_one (ps_expr (pe_bm PySem.F.plainAttrs_list PySem.F.slot_list_extend PySem.F.type_list_extend mt_extend (pv 3) (pa_cons (pe_lc (own := [("back", 7)]) (g := (gName 7)) (tt := tYes) (te := (tTup (tCons (tVar 4) (tCons (tVar 7) tNil)))) rfl nd (pi_list (pv 6)) (blkOk_by (own := [("back", 7)]) (N := ["walk", "has", "first", "pairs", "done", "r", "came", "back"]) (sc := defScope s_round_trips) (by decide +kernel)) (fun _ _ _ _ _ => by exact (pg_name (i := 7) nd rfl (Or.inl rfl))) (fun _ _ _ _ _ => by exact pts_nil) (fun _ _ _ _ _ => by exact (pe_tup (pa_cons (pv 4) (pa_cons (pv 7) pa_nil))))) pa_nil))))))))
      (pss_one (ps_ret (pv 3))))), ?_⟩
  have wk : ∀ {H1 H2 : Hp}, Ex H H1 → Ex H1 H2 → IsWalk K CL CW rs steps m H2 v1 := fun e e' => hv1 _ (e.trans e')
  have B := Wm.TT_bnd rs steps
  have l4 := wo.l4
  have tl : ∀ k, (tripAt rs steps (TT rs steps) has k).length ≤ 40 := fun k => Nat.le_trans (Wm.tripAt_len B has k) (by omega)
  refine q_setN (vn_lst (K := K) [] va_nil (by simp)) fun p H1 np e1 op => ?_
  refine q_forR2 (K := K) (lo := first) (hi := steps.length) (va_p (ve_var rfl (hv3.ex e1)) (va_p (ve_nsteps Y (vx_var rfl fun H' e' => wk e1 e')) va_nil)) (by omega) (by omega) (fun i σ' H' => ∃ a b c, σ' = [some v1, some v2, some v3, some (.ref p), a, b, c, none] ∧ Ex H H' ∧ i ≤ 4 ∧ Own K H' p (((List.range i).flatMap fun j => tripAt rs steps (TT rs steps) has (first + j)).map eP))
    (fun H2 e2 => ⟨none, none, none, rfl, e1.trans e2, by omega, op.ex e2⟩) (fun i σ' H' hi h => ?_) (fun σ' H' h => ?_)
  · obtain ⟨a, b, c, rfl, ex, i4, o⟩ := h
    have ll : ((List.range i).flatMap fun j => tripAt rs steps (TT rs steps) has (first + j)).length ≤ 40 * (List.range i).length := Wm.flatMap_len (fun j => tl (first + j)) _
    rw [List.length_range] at ll
    have ol := Wm.ownN_len (rs := rs) (steps := steps) (has := has) (done := first + i)
    -- the directions
    refine s_forN (ownN rs steps has (first + i)) eN (vn_call (va_x (vx_var rfl fun H' e' => wk ex e') (va_l (vl_var rfl (hv2.ex ex)) (va_p (ve_var rfl .int) va_nil))) ⟨rs, steps, m, has, first + i, rfl, wo, by omega, rfl⟩)
      (fun p2 k σ2 H2 => p2 ≠ p ∧ ∃ b c, σ2 = [some v1, some v2, some v3, some (.ref p), some (.int ((first + i : Nat) : Int)), b, c, none] ∧ Ex H H2 ∧ Own K H2 p2 ((ownN rs steps has (first + i)).map eN) ∧ k ≤ 8 ∧ (((ownN rs steps has (first + i)).take k).flatMap fun r => (cameM steps (TT rs steps) has (first + i) r).map fun back => (first + i, back)).length ≤ 5 * k ∧
        Own K H2 p ((((List.range i).flatMap fun j => tripAt rs steps (TT rs steps) has (first + j)) ++ ((ownN rs steps has (first + i)).take k).flatMap fun r => (cameM steps (TT rs steps) has (first + i) r).map fun back => (first + i, back)).map eP))
      (fun p2 H2 n2 e2 o2 => ?_) (fun p2 k σ2 H2 hk h => ?_) (fun p2 k r u σ2 H2 hr' hu' h => ?_) (fun p2 σ2 H2 h => ?_)
    · refine ⟨(o.ne n2).symm, b, c, rfl, ex.trans e2, o2, by omega, by simp, ?_⟩
      rw [List.take_zero, List.flatMap_nil, List.append_nil]
      exact o.ex e2
    · obtain ⟨_, b, c, rfl, ex2, o2, _, _, o3⟩ := h
      exact o2.ls
    · obtain ⟨ne, b, c, rfl, ex2, o2, k8, kl, o3⟩ := h
      have rm := List.mem_of_getElem? hr'
      have klt : k < (ownN rs steps has (first + i)).length := (List.getElem?_eq_some_iff.mp hr').1
      obtain ⟨_, _, hrr, _⟩ := Wm.ownN_mem.mp rm
      have bl : (TT rs steps r (first + i + 1)).1.length ≤ 5 := by
        have := Wm.nodup_len _ (List.range (steps.length + 1)) (B r (first + i + 1)).1 fun z hz => List.mem_range.mpr (by have := (B r (first + i + 1)).2 z hz; omega)
        rw [List.length_range] at this
        omega
      have cl := Wm.came_len B has (first + i) r
      refine q_setN (vn_lc (TT rs steps r (first + i + 1)).1 eN (fun back => fitsM has (kindAt steps (back - 1))) eN (vl_backs Y (vx_var rfl fun H' e' => wk ex2 e') hrr (by omega) (by omega) (ve_tup [.int (r : Int), .int ((first + i + 1 : Nat) : Int)] (va_p (ve_var rfl hu') (va_p ((ve_I0 (g := (· + ·)) (ve_var rfl .int) ve_int).to (by congr 1)) va_nil)) (by simp))) (by omega) ?_) fun p3 H3 n3 e3 o4 => ?_
      · intro back hb v H3 e3 hv
        have ex3 := ex2.trans e3
        have bb := (B r (first + i + 1)).2 back hb
        obtain ⟨st, hst⟩ : ∃ st, steps[back - 1]? = some st := ⟨steps[back - 1]'(by omega), List.getElem?_eq_getElem (by omega)⟩
        have ek : kindAt steps (back - 1) = st.2 := by
          unfold kindAt
          rw [hst]
          rfl
        rw [ek]
        exact ⟨[some v1, some v2, some v3, some (.ref p), some (.int ((first + i : Nat) : Int)), some u, c, some v], fun Q h => h, rfl, vt_B (ve_call (va_l (vl_var rfl (hv2.ex ex3)) (va_p (ve_ixT (i := 1) (ds := [.int (st.1 : Int), .int (st.2 : Int)]) (ve_ixL (i := back - 1) (d := eP st) (vl_steps Y (vx_var rfl fun H' e' => wk ex3 e')) ((ve_I0 (g := (· - ·)) (ve_var rfl hv) ve_int).to (by congr 1; omega)) (by rw [List.getElem?_map, hst]; rfl)) ve_int rfl) va_nil)) ⟨has, st.2, rfl, rfl⟩), fun _ => ve_var rfl hv⟩
      have o4 : Own K H3 p3 ((cameM steps (TT rs steps) has (first + i) r).map eN) := o4
      refine s_ext (o3.ex e3) rfl (Vn.o (vn_map (cameM steps (TT rs steps) has (first + i) r) eN (fun back => eP (first + i, back)) (vo_var rfl o4).l (by omega) ?_)) ?_ fun H4 b4 t4 o5 => ?_
      · intro back hb v H4 e4 hv
        exact ⟨[some v1, some v2, some v3, some (.ref p), some (.int ((first + i : Nat) : Int)), some u, some (.ref p3), some v], fun Q h => h, rfl, ve_tup [.int ((first + i : Nat) : Int), .int (back : Int)] (va_p (ve_var rfl .int) (va_p (ve_var rfl hv) va_nil)) (by simp)⟩
      · rw [List.length_map, List.length_map, List.length_append]
        omega
      · refine ⟨ne, some u, some (.ref p3), rfl, Exb.ex np (ex2.trans e3) b4, b4.own ne t4 (o2.ex e3), by omega, ?_, ?_⟩
        · rw [flat_more hr', List.length_append, List.length_map]
          omega
        · rw [flat_more hr', ← List.append_assoc, List.map_append, List.map_map]
          exact o5
    · obtain ⟨ne, b, c, rfl, ex2, o2, _, _, o3⟩ := h
      rw [List.take_length] at o3
      refine ⟨_, b, c, rfl, ex2, by omega, ?_⟩
      rw [trips_more]
      exact o3
  · obtain ⟨a, b, c, rfl, ex, _, o⟩ := h
    exact s_retO rfl (q p H' np ex o)
end
end Wp

set_option Elab.async false
set_option linter.all false
set_option maxRecDepth 100000
set_option maxHeartbeats 2000000
namespace Dx
open PySem PySem.Spec PyProof.Rows L2 Evl
theorem args_int3 {K : PySem.W.Frag} {H : Hp} {vs : List V} {a b c : Int} (h : Args K H vs [.p (.int a), .p (.int b), .p (.int c)]) : vs = [.int a, .int b, .int c] := by
  obtain ⟨v, w, x, rfl, hv, hw, hx⟩ := args3 h
  rw [Dt.int_eq hv, Dt.int_eq hw, Dt.int_eq hx]
/-- for i in range(n, 0, -1) -/
theorem s_forDown {K : PySem.W.Frag} {σ : L2.St} {H : Hp} {r : TA} {g : TG} {tu : TS} {D : Ends} {n : Nat} (h : Va K r σ H [.p (.int (n : Int)), .p (.int 0), .p (.int (-1))]) (hn : n ≤ 100000) (Pv : Nat → L2.St → Hp → Prop) (h0 : ∀ H1, Ex H H1 → Pv 0 σ H1)
    (hs : ∀ i σ' H', i < n → Pv i σ' H' → g (.int ((n - i : Nat) : Int)) σ' H' fun σ2 H2 => tu { D with nx := Pv (i + 1), ct := Pv (i + 1), bk := D.nx } σ2 H2) (hd : ∀ σ' H', Pv n σ' H' → D.nx σ' H') : tFor (iRng3 r) g tu D σ H :=
  h H (Ex.refl H) _ fun vs H1 e hv => ⟨(n : Int), 0, -1, n, args_int3 hv, by
      have := RgC.neg (i := (n : Int)) (j := 0) (by omega) (by omega) (by omega) (by omega)
      have e1 : ((n : Int) - 0).toNat = n := by omega
      rw [e1] at this
      exact this, for_rangeC (lo := (n : Int)) (c := -1) (n := n) Pv (h0 H1 e) (fun i σ' H' h1 p => by
      have e0 : (n : Int) + ((i : Nat) : Int) * (-1) = ((n - i : Nat) : Int) := by omega
      rw [e0]
      exact hs i σ' H' h1 p) hd⟩
theorem q_fldD {K : PySem.W.Frag} {σ : L2.St} {H : Hp} {D : Ends} {tz : TS} {i : Nat} {p C dx : Addr} {fs : List (Str × V)} {f : Str} {A : Type} [DecidableEq A] {enc : A → PyData} {obj : List (A × V) → HO} {tnew : TE} (E : Ke enc obj tnew) (hs : σ[i]? = some (some (.ref p))) (ho : H p = some (.ins C dx fs)) (c : Cls K C) (na : NoAttr K C f) (hl : fs.length < 1000)
    (kk : ∀ q, H q = none → tz D σ (upd (upd H q (obj [])) p (.ins C dx (putF f (.ref q) fs)))) : tSeq (sFld K (tVar i) tnew f) tz D σ H :=
  E.new _ _ _ fun q hq => ⟨_, hs, p, C, dx, fs, rfl, by rw [upd_ne (ne_of_none ho hq)]; exact ho, c, na, hl, kk q hq⟩
end Dx
namespace Wp
open PySem PySem.Spec PyProof.Rows L2 Evl Dx
open Gq03 (Basic Rule Fact Desk Ask)
open Wm (reachedM OkDesk Fit OkRules afterD afterB ownP fitsM ownN overM tripsM tripAt cameM kindAt TT Bnd profM dirsM standM leaveM outM)
/-! ### A walk while it is made -/
/-- what stands -/
structure Wk (K : PySem.W.Frag) (CL : Addr) (rs : List Rule) (steps : Ask) (H0 : Hp) (p pb pe : Addr) (fs : List (Str × V)) : Prop where
  np : H0 p = none
  npb : H0 pb = none
  npe : H0 pe = none
  ne : pb ≠ pe
  laws : ∃ vl, fs.lookup ("laws" : Str) = some vl ∧ ∀ H', Ex H0 H' → IsLaws K CL rs H' vl
  stp : ∃ vs, fs.lookup ("steps" : Str) = some vs ∧ Ls K H0 vs (steps.map eP)
  backs : fs.lookup ("backs" : Str) = some (.ref pb)
  ends : fs.lookup ("ends" : Str) = some (.ref pe)
/-- what has been found out -/
structure Ws (K : PySem.W.Frag) (CW : Addr) (rs : List Rule) (steps : Ask) (H0 : Hp) (p dx pb pe : Addr) (fs : List (Str × V)) (n : Nat) (kn : Nat → Nat → Bool) (H : Hp) : Prop where
  ex : Ex H0 H
  ins : H p = some (.ins CW dx fs)
  bk : Ot objNN (LsP K) n (fBk rs steps kn) H pb
  en : Ot objNN (BlP K) n (fEn rs steps kn) H pe
def Exw (pb pe : Addr) (H H' : Hp) : Prop := ∀ a o, a ≠ pb → a ≠ pe → H a = some o → H' a = some o
section
variable {K : PySem.W.Frag} {CL CW : Addr} {rs : List Rule} {steps : Ask} {H0 H H' : Hp} {p dx pb pe : Addr} {fs : List (Str × V)} {n m : Nat} {kn kn' : Nat → Nat → Bool}
theorem Ot.ne_ins {A B : Type} [DecidableEq A] {enc : A → PyData} {obj : List (A × V) → HO} {tnew : TE} {φ : Hp → V → B → Prop} {f : A → Option B} {q C dx : Addr} {fs : List (Str × V)} (E : Ke enc obj tnew) (o : Ot obj φ n f H q) (h : H p = some (.ins C dx fs)) : p ≠ q := by
  rintro rfl
  obtain ⟨kvs, h1, _⟩ := o
  rw [h] at h1
  exact E.noi _ _ _ _ (Option.some.inj h1).symm
theorem Ot.ne_own {A B : Type} [DecidableEq A] {enc : A → PyData} {obj : List (A × V) → HO} {tnew : TE} {φ : Hp → V → B → Prop} {f : A → Option B} {q : Addr} {ds : List PyData} (E : Ke enc obj tnew) (o : Ot obj φ n f H q) (h : Own K H p ds) : p ≠ q := by
  rintro rfl
  obtain ⟨kvs, h1, _⟩ := o
  obtain ⟨xs, h2, _⟩ := h
  rw [h2] at h1
  exact E.nol _ _ (Option.some.inj h1).symm
theorem Ws.of_ex (w : Ws K CW rs steps H0 p dx pb pe fs n kn H) (e : Ex H H') : Ws K CW rs steps H0 p dx pb pe fs n kn H' := ⟨w.ex.trans e, e _ _ w.ins, w.bk.ex (phL K) e, w.en.ex (phB K) e⟩
theorem fBk_le (h : ∀ r d, kn' r d = true → kn r d = true) (k : Nat × Nat) (b : List PyData) (e : fBk rs steps kn' k = some b) : fBk rs steps kn k = some b := by
  unfold fBk at e ⊢
  by_cases c : kn' k.1 k.2 = true
  · rw [if_pos c] at e
    rw [if_pos (h _ _ c)]
    exact e
  · rw [if_neg c] at e; cases e
theorem fEn_le (h : ∀ r d, kn' r d = true → kn r d = true) (k : Nat × Nat) (b : Bool) (e : fEn rs steps kn' k = some b) : fEn rs steps kn k = some b := by
  unfold fEn at e ⊢
  by_cases c : kn' k.1 k.2 = true
  · rw [if_pos c] at e
    rw [if_pos (h _ _ c)]
    exact e
  · rw [if_neg c] at e; cases e
theorem Ws.mono (w : Ws K CW rs steps H0 p dx pb pe fs n kn H) (h : ∀ r d, kn' r d = true → kn r d = true) (hn : n ≤ m) : Ws K CW rs steps H0 p dx pb pe fs m kn' H := ⟨w.ex, w.ins, w.bk.mono (fBk_le h) hn, w.en.mono (fEn_le h) hn⟩
theorem Ws.walk (k : Wk K CL rs steps H0 p pb pe fs) (w : Ws K CW rs steps H0 p dx pb pe fs n kn H) (h : ∀ r d, above steps m r d = true → kn r d = true) (hn : n ≤ 1000) : IsWalk K CL CW rs steps m H (.ref p) := by
  obtain ⟨vl, l1, hl⟩ := k.laws
  obtain ⟨vs, l2, hs⟩ := k.stp
  exact ⟨⟨p, dx, fs, vl, rfl, w.ins, l1, hl H w.ex⟩, ⟨p, dx, fs, vs, rfl, w.ins, l2, hs.ex w.ex⟩, ⟨p, dx, fs, _, rfl, w.ins, k.backs, (w.bk.mono (fBk_le h) hn).tb⟩, ⟨p, dx, fs, _, rfl, w.ins, k.ends, (w.en.mono (fEn_le h) hn).tb⟩⟩
end
def sp_look_out (K : PySem.W.Frag) (CL CW : Addr) : Sp := fun vs H Q _ => ∃ p dx pb pe fs H0 rs steps n kn, ∃ r done : Nat, vs = [.ref p, .int (r : Int), .int (done : Int)] ∧ Wk K CL rs steps H0 p pb pe fs ∧ Ws K CW rs steps H0 p dx pb pe fs n kn H ∧ WOk rs steps ∧ r ∈ Gq03.roles ∧ 1 ≤ done ∧ done ≤ steps.length ∧
  (∀ r d, above steps done r d = true → kn r d = true) ∧ n ≤ 900 ∧
  ∀ v H', Exw pb pe H H' → Ws K CW rs steps H0 p dx pb pe fs (n + 1) (fun r' d => kn r' d || (decide (r' = r) && decide (d = done))) H' → Q v H'
section
variable {P : Program} {w : World} {K : PySem.W.Frag} {mg : Str → Option Value} {base : Heap} {CL CW : Addr}
theorem ok_look_out (T : Txt mg) (X : ClL K CL) (Y : ClW K CW) (D_own_profile : Def P w K mg base 3 "own_profile" ["laws", "r"] (sp_own_profile K CL)) (D_turned : Def P w K mg base 2 "turned" ["r"] (sp_turned K)) (D_reachedN : Def P w K mg base 1 "reached" ["starts", "steps"] (sp_reachedN K)) (D_round_trips : Def P w K mg base 5 "round_trips" ["walk", "has", "first"] (sp_round_trips K CL CW)) (D_is_over : Def P w K mg base 5 "is_over" ["walk", "has", "done"] (sp_is_over K CL CW)) (F : At K mg "look_out" s_look_out ["walk", "r", "done"]) : Def P w K mg base 6 "look_out" ["walk", "r", "done"] (sp_look_out K CL CW) := by
  refine F.ok sc_look_out (by rintro vs H Q E ⟨_, _, _, _, _, _, _, _, _, _, _, _, rfl, _⟩; rfl) fun f cdv AA outer s H vs Q EE hr h => ?_
  obtain ⟨p, dx, pb, pe, fs, H0, rs, steps, n, kn, r, done, rfl, wk, ws, wo, hrr, d1, d2, hkn, n900, q⟩ := h
  have nd := sc_look_out.nd
  have hu := hu65 hr
  refine ⟨(tSeq (tAsg (tCall (sp_own_profile K CL) [] E0 (tCons (tFld K (tVar 0) "laws") (tCons (tVar 1) tNil))) (gName 3))
    (tSeq (tAsg (tDGet (tFld K (tFld K (tVar 0) "laws") "after_direction") (tCall (sp_turned K) [] E0 (tCons (tVar 1) tNil))) (gName 4))
    (tSeq (tAsg (tCall (sp_reachedN K) [] E0 (tCons (tLst (tCons (tVar 2) tNil)) (tCons (tCall (sp_round_trips K CL CW) [] E0 (tCons (tVar 0) (tCons (tVar 3) (tCons (tVar 2) tNil)))) tNil))) (gName 5))
    (tSeq (tAsg (tLc (iList K (tVar 5)) (gName 7) (tAnd (tTest (tOp (rI0 fun i j => .bl (decide (i < j))) (tVar 7) (tCB (rLenS K) (tCons (tFld K (tVar 0) "steps") tNil)))) (tTest (tOp (rInD K) (tOp (rIxT K) (tOp (rIxL K) (tFld K (tVar 0) "steps") (tVar 7)) (tC (.int 0))) (tVar 4)))) (tVar 7) [7]) (gName 6))
    (tSeq (sDPut (tFld K (tVar 0) "backs") (tTup (tCons (tVar 1) (tCons (tVar 2) tNil))) (tLc (iList K (tVar 6)) (gName 7) tYes (tOp (rI0 fun i j => .int (i + j)) (tVar 7) (tC (.int 1))) [7]))
    (sDPut (tFld K (tVar 0) "ends") (tTup (tCons (tVar 1) (tCons (tVar 2) tNil))) (tCB (rAny K) (tCons (tLc (iList K (tVar 5)) (gName 7) tYes (tCall (sp_is_over K CL CW) [] E0 (tCons (tVar 0) (tCons (tVar 3) (tCons (tVar 7) tNil)))) [7]) tNil)))))))), (pss_cons (ps_set (i := 3) nd rfl (Or.inr rfl) (pe_def D_own_profile (hr.mono (by decide)) (by rfl) (pa_cons (pe_fld (pv 0) rfl) (pa_cons (pv 1) pa_nil))))
      (pss_cons (ps_set (i := 4) nd rfl (Or.inr rfl) (pe_dget (hu1 hr) (pe_fld (pe_fld (pv 0) rfl) rfl) (pe_def D_turned (hr.mono (by decide)) (by rfl) (pa_cons (pv 1) pa_nil)) (fun _ _ => rfl)))
      (pss_cons (ps_set (i := 5) nd rfl (Or.inl rfl) (pe_def D_reachedN (hr.mono (by decide)) (by rfl) (pa_cons (pe_lst (pa_cons (pv 2) pa_nil)) (pa_cons (pe_def D_round_trips (hr.mono (by decide)) (by rfl) (pa_cons (pv 0) (pa_cons (pv 3) (pa_cons (pv 2) pa_nil)))) pa_nil))))
      (pss_cons (ps_setLc (i := 6) (own := [("at", 7)]) (g := (gName 7)) (tt := (tAnd (tTest (tOp (rI0 fun i j => .bl (decide (i < j))) (tVar 7) (tCB (rLenS K) (tCons (tFld K (tVar 0) "steps") tNil)))) (tTest (tOp (rInD K) (tOp (rIxT K) (tOp (rIxL K) (tFld K (tVar 0) "steps") (tVar 7)) (tC (.int 0))) (tVar 4))))) (te := (tVar 7)) rfl nd rfl rfl (sw_true rfl rfl rfl (by decide +kernel)) (pi_list (pv 5)) (blkOk_by (own := [("at", 7)]) (N := ["walk", "r", "done", "has", "homeward", "standing", "leaving", "at"]) (sc := defScope s_look_out) (by decide +kernel)) (fun _ _ _ _ _ => by exact (pg_name (i := 7) nd rfl (Or.inl rfl))) (fun _ _ _ _ _ => by exact (pts_one (PW.pt (pw_and (pt_cmpR op_lt (pv 7) (pe_callB call_len_seq (by rfl) T.b_len PySem.boot_len (pa_cons (pe_fld (pv 0) rfl) pa_nil)) (nomark _)) (pw_and1 (pt_cmpR (op_inD hu) (pe_ix ix_tup (pe_ix ix_list (pe_fld (pv 0) rfl) (pv 7) (fun _ _ => rfl)) pe_int (fun _ _ => rfl)) (pv 4) (by rfl))))))) (fun _ _ _ _ _ => by exact (pv 7)))
      (pss_cons (ps_dput (hu1 hr) (pe_fld (pv 0) rfl) (pe_tup (pa_cons (pv 1) (pa_cons (pv 2) pa_nil))) (pe_lc (own := [("at", 7)]) (g := (gName 7)) (tt := tYes) (te := (tOp (rI0 fun i j => .int (i + j)) (tVar 7) (tC (.int 1)))) rfl nd (pi_list (pv 6)) (blkOk_by (own := [("at", 7)]) (N := ["walk", "r", "done", "has", "homeward", "standing", "leaving", "at"]) (sc := defScope s_look_out) (by decide +kernel)) (fun _ _ _ _ _ => by exact (pg_name (i := 7) nd rfl (Or.inl rfl))) (fun _ _ _ _ _ => by exact pts_nil) (fun _ _ _ _ _ => by exact (pe_op op_add (pv 7) pe_int))) (by rfl))
      (pss_one (ps_dput (hu1 hr) (pe_fld (pv 0) rfl) (pe_tup (pa_cons (pv 1) (pa_cons (pv 2) pa_nil))) (pe_callB (cr_any rfl) (by rfl) T.b_any (by decide +kernel) (pa_cons (pe_lc (own := [("at", 7)]) (g := (gName 7)) (tt := tYes) (te := (tCall (sp_is_over K CL CW) [] E0 (tCons (tVar 0) (tCons (tVar 3) (tCons (tVar 7) tNil))))) rfl nd (pi_list (pv 5)) (blkOk_by (own := [("at", 7)]) (N := ["walk", "r", "done", "has", "homeward", "standing", "leaving", "at"]) (sc := defScope s_look_out) (by decide +kernel)) (fun _ _ _ _ _ => by exact (pg_name (i := 7) nd rfl (Or.inl rfl))) (fun _ _ _ _ _ => by exact pts_nil) (fun _ _ _ _ _ => by exact (pe_def D_is_over (hr.mono (by decide)) (by rfl) (pa_cons (pv 0) (pa_cons (pv 3) (pa_cons (pv 7) pa_nil)))))) pa_nil)) (by rfl)))))))), ?_⟩
  have B := Wm.TT_bnd rs steps
  have l4 := wo.l4
  have iw : ∀ {H1 H2 : Hp}, Ex H H1 → Ex H1 H2 → IsWalk K CL CW rs steps done H2 (.ref p) := fun e e' => (ws.walk wk hkn (by omega)).ex (e.trans e')
  refine q_setX (vx_call (va_x (vx_wlaws Y (vx_var rfl fun H' e' => iw (Ex.refl _) e')) (va_p (ve_var rfl .int) va_nil)) ⟨rs, r, rfl, hrr, rfl⟩) fun v3 H1 e1 h3 => ?_
  refine q_setX (vl_after X (vx_wlaws Y (vx_var rfl fun H' e' => iw e1 e')) (r := Gq03.turned r) (Wm.turned_roles hrr) (ve_call (va_p (ve_var rfl .int) va_nil) ⟨r, rfl, roles_pos hrr, rfl⟩)).x fun v4 H2 e2 h4 => ?_
  have e12 := e1.trans e2
  have tl := Wm.trips_small (rs := rs) B l4 (ownP rs r) done
  have h3' : ∀ {H1' : Hp}, Ex H1 H1' → Ls K H1' v3 ((ownP rs r).map eB) := fun e => h3 _ e
  refine q_setN (vn_call (va_l (vn_lst [eN done] (va_p (ve_var rfl .int) va_nil) (by simp)).l (va_l (vn_call (va_x (vx_var rfl fun H' e' => iw e12 e') (va_l (vl_var rfl (h3' e2)) (va_p (ve_var rfl .int) va_nil))) ⟨rs, steps, done, ownP rs r, done, rfl, wo, Nat.le_refl _, d2, rfl⟩).l va_nil)) ⟨[done], tripsM rs steps (TT rs steps) (ownP rs r) done, rfl, by simp, by omega, rfl⟩) fun p5 H3 n5 e3 o5 => ?_
  have o5 : Own K H3 p5 ((standM rs steps (TT rs steps) r done).map eN) := o5
  have e13 := e12.trans e3
  have sl : (standM rs steps (TT rs steps) r done).length ≤ 200 := by
    have := Wm.reachedM_len (starts := [done]) (steps := tripsM rs steps (TT rs steps) (ownP rs r) done)
    unfold standM
    rw [List.length_singleton] at this
    omega
  refine q_setN (vn_lc (standM rs steps (TT rs steps) r done) eN (fun i => match steps[i]? with | none => false | some st => (afterD rs (Gq03.turned r)).contains st.1) eN (vo_var rfl o5).l (by omega) ?_) fun p6 H4 n6 e4 o6 => ?_
  · intro i hi v H4 e4 hv
    have e14 := e13.trans e4
    refine ⟨[some (.ref p), some (.int (r : Int)), some (.int (done : Int)), some v3, some v4, some (.ref p5), none, some v], fun Q h => h, rfl, ?_, fun _ => ve_var rfl hv⟩
    cases hst : steps[i]? with
    | none =>
      have := List.getElem?_eq_none_iff.mp hst
      refine et_is (et_and (a := decide ((i : Int) < ((steps.length : Nat) : Int))) (b := false) (vt_test (ve_B0 (g := fun i j => decide (i < j)) (ve_var rfl hv) (ve_nsteps Y (vx_var rfl fun H' e' => iw e14 e')))) fun h => absurd (of_decide_eq_true h) (by omega)) ?_
      rw [Bool.and_false]
    | some st =>
      have := (List.getElem?_eq_some_iff.mp hst).1
      refine et_is (et_and (a := decide ((i : Int) < ((steps.length : Nat) : Int))) (vt_test (ve_B0 (g := fun i j => decide (i < j)) (ve_var rfl hv) (ve_nsteps Y (vx_var rfl fun H' e' => iw e14 e')))) fun h => vt_test (ve_inE encN (a := st.1) (ve_ixT (i := 0) (ds := [.int (st.1 : Int), .int (st.2 : Int)]) (ve_ixL (i := i) (d := eP st) (vl_steps Y (vx_var rfl fun H' e' => iw e14 e')) (ve_var rfl hv) (by rw [List.getElem?_map, hst]; rfl)) ve_int rfl) (vl_var rfl (h4 _ (e3.trans e4))))) ?_
      rw [decide_eq_true (by omega), Bool.true_and]
  have o6 : Own K H4 p6 ((leaveM rs steps (TT rs steps) r done).map eN) := o6
  have e14 := e13.trans e4
  have ws4 := ws.of_ex e14
  have ll : (leaveM rs steps (TT rs steps) r done).length ≤ 200 := Nat.le_trans (List.length_filter_le _ _) sl
  have fix := Wm.TT_fix (rs := rs) (r := r) d1 d2
  have b1 : ((leaveM rs steps (TT rs steps) r done).map fun i => eN (i + 1)) = (TT rs steps r done).1.map eN := by
    rw [fix]
    show _ = ((leaveM rs steps (TT rs steps) r done).map fun i => i + 1).map eN
    rw [List.map_map]
    rfl
  have key : ∀ {H' : Hp} {σ : L2.St}, σ[1]? = some (some (.int (r : Int))) → σ[2]? = some (some (.int (done : Int))) → Ve K (tTup (tCons (tVar 1) (tCons (tVar 2) tNil))) σ H' (eP (r, done)) := fun h1 h2 => ve_tup [.int (r : Int), .int (done : Int)] (va_p (ve_var h1 .int) (va_p (ve_var h2 .int) va_nil)) (by simp)
  refine q_dput keNN (phL K) (k := (r, done)) (b := (leaveM rs steps (TT rs steps) r done).map fun i => eN (i + 1)) (ev_self rfl ws4.ins Y.cl Y.n_backs wk.backs) ws4.bk (by omega) (key rfl rfl) (vn_map (leaveM rs steps (TT rs steps) r done) eN (fun i => eN (i + 1)) (vo_var rfl o6).l (by omega) ?_).l.x fun H5 H6 kvs w5 e5 eq6 h5 b6 t6 ot6 => ?_
  · intro i hi v H5 e5 hv
    exact ⟨[some (.ref p), some (.int (r : Int)), some (.int (done : Int)), some v3, some v4, some (.ref p5), some (.ref p6), some v], fun Q h => h, rfl, (ve_I0 (g := (· + ·)) (ve_var rfl hv) ve_int).to (by unfold eN; congr 1)⟩
  -- the heap behind backs
  have pnb : p ≠ pb := Ot.ne_ins keNN ws4.bk ws4.ins
  have soft5 : soft (objNN kvs) = true := rfl
  have kneq : ∀ k : Nat × Nat, (decide (k.1 = r) && decide (k.2 = done)) = true ↔ k = (r, done) := fun k => by
    rw [Bool.and_eq_true, decide_eq_true_iff, decide_eq_true_iff]
    exact ⟨fun h => Prod.ext h.1 h.2, fun h => by rw [h]; exact ⟨rfl, rfl⟩⟩
  have bk6 : Ot objNN (LsP K) (n + 1) (fBk rs steps fun r' d => kn r' d || (decide (r' = r) && decide (d = done))) H6 pb := by
    refine ot6.mono (fun k b h => ?_) (Nat.le_refl _)
    unfold fBk at h
    dsimp only at h
    by_cases ek : k = (r, done)
    · rw [if_pos ek]
      rw [if_pos (by rw [(kneq k).mpr ek, Bool.or_true])] at h
      rw [b1, ← h, ek]
    · rw [if_neg ek]
      have c : (decide (k.1 = r) && decide (k.2 = done)) = false := by
        rw [Bool.eq_false_iff]
        exact fun z => ek ((kneq k).mp z)
      by_cases ck : kn k.1 k.2 = true
      · rw [if_pos (by rw [ck, Bool.true_or])] at h
        first | unfold fBk | unfold fEn
        rw [if_pos ck]
        exact h
      · rw [if_neg (by rw [c, Bool.or_false]; exact ck)] at h
        cases h
  have en6 : Ot objNN (BlP K) n (fEn rs steps kn) H6 pe := by
    rw [eq6]
    exact (ws4.en.ex (phB K) e5).up (phB K) h5 rfl (fun _ z => nomatch z) wk.ne.symm
  have ex6 : Ex H0 H6 := Exb.ex wk.npb ws4.ex b6
  have in6 : H6 p = some (.ins CW dx fs) := b6 _ _ pnb ws4.ins
  have ws6 : Ws K CW rs steps H0 p dx pb pe fs (n + 1) kn H6 := ⟨ex6, in6, bk6.mono (fBk_le fun r' d h => by rw [h, Bool.true_or]) (Nat.le_refl _), en6.mono (fun _ _ h => h) (by omega)⟩
  have iw6 : ∀ {H1 H2 : Hp}, Ex H6 H1 → Ex H1 H2 → IsWalk K CL CW rs steps done H2 (.ref p) := fun e e' => (ws6.walk wk hkn (by omega)).ex (e.trans e')
  have has6 : Ls K H6 v3 ((ownP rs r).map eB) := by
    rw [eq6]
    exact Ls.up h5 rfl (fun _ z => nomatch z) (h3' (((e2.trans e3).trans e4).trans e5))
  have st6 : Own K H6 p5 ((standM rs steps (TT rs steps) r done).map eN) := b6.own (Ot.ne_own keNN ws4.bk (o5.ex e4)) t6 (o5.ex e4)
  have b2 : ((standM rs steps (TT rs steps) r done).any fun i => overM rs steps (TT rs steps) (ownP rs r) i) = (TT rs steps r done).2 := by
    rw [fix]
    rfl
  have pne : p ≠ pe := Ot.ne_ins keNN en6 in6
  refine s_dput keNN (phB K) (k := (r, done)) (b := (standM rs steps (TT rs steps) r done).any fun i => overM rs steps (TT rs steps) (ownP rs r) i) (ev_self rfl in6 Y.cl Y.n_ends wk.ends) en6 (by omega) (key rfl rfl) (vx_ve (ve_anyM (vn_map (standM rs steps (TT rs steps) r done) eN (fun i => .bool (overM rs steps (TT rs steps) (ownP rs r) i)) (vo_var rfl st6).l (by omega) ?_).l)) fun H7 H8 kvs8 w8 e7 eq8 h7 b8 t8 ot8 => ?_
  · intro i hi v H7 e7 hv
    have ib := Wm.stand_bnd B hi
    exact ⟨[some (.ref p), some (.int (r : Int)), some (.int (done : Int)), some v3, some v4, some (.ref p5), some (.ref p6), some v], fun Q h => h, rfl, ve_call (va_x (vx_var rfl fun H' e' => iw6 e7 e') (va_l (vl_var rfl (has6.ex e7)) (va_p (ve_var rfl hv) va_nil))) ⟨rs, steps, done, ownP rs r, i, rfl, wo, ib.1, ib.2 d2, rfl⟩⟩
  refine q .non H8 (fun a o na ne' ha => b8 a o ne' (b6 a o na (e14 a o ha))) ⟨Exb.ex wk.npe ex6 b8, b8 _ _ pne in6, ?_, ?_⟩
  · rw [eq8]
    exact (bk6.ex (phL K) e7).up (phL K) h7 rfl (fun _ z => nomatch z) wk.ne
  · refine ot8.mono (fun k b h => ?_) (Nat.le_refl _)
    unfold fEn at h
    dsimp only at h
    by_cases ek : k = (r, done)
    · rw [if_pos ek]
      rw [if_pos (by rw [(kneq k).mpr ek, Bool.or_true])] at h
      rw [b2, ← h, ek]
    · rw [if_neg ek]
      have c : (decide (k.1 = r) && decide (k.2 = done)) = false := by
        rw [Bool.eq_false_iff]
        exact fun z => ek ((kneq k).mp z)
      by_cases ck : kn k.1 k.2 = true
      · rw [if_pos (by rw [ck, Bool.true_or])] at h
        first | unfold fBk | unfold fEn
        rw [if_pos ck]
        exact h
      · rw [if_neg (by rw [c, Bool.or_false]; exact ck)] at h
        cases h
/-! ### Walk(laws, steps) -/
abbrev s_Walk : Stmt := inClass (top 58) 0
theorem sc_Walk : FnScope ["self", "laws", "steps", "done", "r"] ["self", "laws", "steps"] (defScope s_Walk) := ⟨rfl, rfl, rfl, by decide +kernel, rfl, by decide +kernel, by decide +kernel⟩
def rWalk (K : PySem.W.Frag) (CL CW : Addr) : List Dx.Arg → (Hp → V → Prop) → Prop := fun as ψ => ∃ (rs : List Rule) (steps : Ask), as = [.x (IsLaws K CL rs), .l (steps.map eP)] ∧ WOk rs steps ∧ ψ = IsWalk K CL CW rs steps 0
theorem rWalk_len {K : PySem.W.Frag} {CL CW : Addr} : ∀ as d, rWalk K CL CW as d → as.length = 2 := by rintro as d ⟨x, y, rfl, _⟩; rfl
abbrev sp_Walk (K : PySem.W.Frag) (CL CW : Addr) : Sp := spI K CW (rWalk K CL CW)
theorem ok_Walk (T : Txt mg) (X : ClL K CL) (Y : ClW K CW) (D_directions : Def P w K mg base 1 "directions" [] (sp_directions K)) (D_look_out : Def P w K mg base 6 "look_out" ["walk", "r", "done"] (sp_look_out K CL CW)) {f : Addr} {fd : FuncData} (F : Fun K "__init__" "Walk.__init__" s_Walk f fd) : FnOk P w K mg base CX0 7 f fd ["self", "laws", "steps"] (sp_Walk K CL CW) := by
  refine F.ok sc_Walk (spI_len rWalk_len) fun cdv AA outer s H vs Q EE hr h => ?_
  obtain ⟨p, dx, vs', as, ψ, H0, rfl, hp, np, e0, ha, ⟨rs, steps, rfl, wo, rfl⟩, q⟩ := h
  obtain ⟨v1, v2, rfl, hv1, hv2⟩ := args2 ha
  have hv1 : ∀ H', Ex H0 H' → IsLaws K CL rs H' v1 := hv1
  have hv2 : Ls K H0 v2 (steps.map eP) := hv2
  have nd := sc_Walk.nd
  have hu := hu65 hr
  refine ⟨(tSeq (sFld K (tVar 0) (tVar 1) "laws")
    (tSeq (sFld K (tVar 0) (tVar 2) "steps")
    (tSeq (sFld K (tVar 0) tDNewT "backs")
    (tSeq (sFld K (tVar 0) tDNewT "ends")
    (tFor (iRng3 (tCons (tCB (rLenS K) (tCons (tVar 2) tNil)) (tCons (tC (.int 0)) (tCons (tUn (rU fun i => .int (-i)) (tC (.int 1))) tNil)))) (gName 3)
      (tFor (iList K (tCall (sp_directions K) [] E0 tNil)) (gName 4)
      (tDrop (tCall (sp_look_out K CL CW) [] E0 (tCons (tVar 0) (tCons (tVar 4) (tCons (tVar 3) tNil))))))))))), (pss_cons (ps_fld (pv 0) (pv 1) (by rfl))
      (pss_cons (ps_fld (pv 0) (pv 2) (by rfl))
      (pss_cons (ps_fld (pv 0) pe_dnewT (by rfl))
      (pss_cons (ps_fld (pv 0) pe_dnewT (by rfl))
      (pss_one (ps_for PassesOwn.never rfl (pi_range3 (by rfl) T.b_range (pa_cons (pe_callB call_len_seq (by rfl) T.b_len PySem.boot_len (pa_cons (pv 2) pa_nil)) (pa_cons pe_int (pa_cons (pe_un un_neg pe_int) pa_nil)))) (pg_name (i := 3) nd rfl (Or.inl rfl))
        (pss_one (ps_for PassesOwn.never rfl (pi_list (pe_def0 D_directions (hr.mono (by decide)) (by rfl))) (pg_name (i := 4) nd rfl (Or.inl rfl))
        (pss_one (ps_expr (pe_def D_look_out (hr.mono (by decide)) (by rfl) (pa_cons (pv 0) (pa_cons (pv 4) (pa_cons (pv 3) pa_nil)))))))))))))), ?_⟩
  have l4 := wo.l4
  -- self.laws, self.steps
  refine q_fldX (ψ := fun H v => v = v1) rfl hp Y.cl Y.n_laws (by decide) (vx_var rfl fun H' e' => rfl) fun w1 H1 e1 h1 => ?_
  cases h1 H1 (Ex.refl _)
  have x1 : Ex H0 (upd H1 p (.ins CW dx (putF "laws" v1 []))) := Ex.mut (e0.trans e1) np
  generalize hG1 : upd H1 p (.ins CW dx (putF "laws" v1 [])) = G1 at x1
  have g1 : G1 p = some (.ins CW dx (putF "laws" v1 [])) := by rw [← hG1]; exact upd_same
  have len1 := putF_len "laws" v1 []
  simp only [List.length_nil] at len1
  refine q_fldX (ψ := fun H v => v = v2) rfl g1 Y.cl Y.n_steps (by omega) (vx_var rfl fun H' e' => rfl) fun w2 H2 e2 h2 => ?_
  cases h2 H2 (Ex.refl _)
  have x2 : Ex H0 (upd H2 p (.ins CW dx (putF "steps" v2 (putF "laws" v1 [])))) := Ex.mut (x1.trans e2) np
  generalize hG2 : upd H2 p (.ins CW dx (putF "steps" v2 (putF "laws" v1 []))) = G2 at x2
  have g2 : G2 p = some (.ins CW dx (putF "steps" v2 (putF "laws" v1 []))) := by rw [← hG2]; exact upd_same
  have len2 := putF_len "steps" v2 (putF "laws" v1 [])
  -- the tables
  refine q_fldD keNN rfl g2 Y.cl Y.n_backs (by omega) fun pb nb => ?_
  have pnb : p ≠ pb := ne_of_none g2 nb
  have x3 : Ex H0 (upd (upd G2 pb (objNN [])) p (.ins CW dx (putF "backs" (.ref pb) (putF "steps" v2 (putF "laws" v1 []))))) := Ex.mut (x2.trans (Ex.new nb)) np
  have g3b : (upd (upd G2 pb (objNN [])) p (.ins CW dx (putF "backs" (.ref pb) (putF "steps" v2 (putF "laws" v1 []))))) pb = some (objNN []) := by rw [upd_ne pnb.symm, upd_same]
  generalize hG3 : upd (upd G2 pb (objNN [])) p (.ins CW dx (putF "backs" (.ref pb) (putF "steps" v2 (putF "laws" v1 [])))) = G3 at x3 g3b
  have g3 : G3 p = some (.ins CW dx (putF "backs" (.ref pb) (putF "steps" v2 (putF "laws" v1 [])))) := by rw [← hG3]; exact upd_same
  have len3 := putF_len "backs" (.ref pb) (putF "steps" v2 (putF "laws" v1 []))
  refine q_fldD keNN rfl g3 Y.cl Y.n_ends (by omega) fun pe ne => ?_
  have pne : p ≠ pe := ne_of_none g3 ne
  have bne : pb ≠ pe := ne_of_none g3b ne
  have x4 : Ex H0 (upd (upd G3 pe (objNN [])) p (.ins CW dx (putF "ends" (.ref pe) (putF "backs" (.ref pb) (putF "steps" v2 (putF "laws" v1 [])))))) := Ex.mut (x3.trans (Ex.new ne)) np
  have g4b : (upd (upd G3 pe (objNN [])) p (.ins CW dx (putF "ends" (.ref pe) (putF "backs" (.ref pb) (putF "steps" v2 (putF "laws" v1 [])))))) pb = some (objNN []) := by rw [upd_ne pnb.symm, upd_ne bne]; exact g3b
  have g4e : (upd (upd G3 pe (objNN [])) p (.ins CW dx (putF "ends" (.ref pe) (putF "backs" (.ref pb) (putF "steps" v2 (putF "laws" v1 [])))))) pe = some (objNN []) := by rw [upd_ne pne.symm, upd_same]
  generalize hG4 : upd (upd G3 pe (objNN [])) p (.ins CW dx (putF "ends" (.ref pe) (putF "backs" (.ref pb) (putF "steps" v2 (putF "laws" v1 []))))) = G4 at x4 g4b g4e
  have g4 : G4 p = some (.ins CW dx (putF "ends" (.ref pe) (putF "backs" (.ref pb) (putF "steps" v2 (putF "laws" v1 []))))) := by rw [← hG4]; exact upd_same
  have wk : Wk K CL rs steps H0 p pb pe (putF "ends" (.ref pe) (putF "backs" (.ref pb) (putF "steps" v2 (putF "laws" v1 [])))) :=
    ⟨np, fresh_back x2 nb, fresh_back x3 ne, bne, ⟨v1, by rw [lookup_putF, if_neg (by decide +kernel), lookup_putF, if_neg (by decide +kernel), lookup_putF, if_neg (by decide +kernel), lookup_putF, if_pos rfl], hv1⟩,
      ⟨v2, by rw [lookup_putF, if_neg (by decide +kernel), lookup_putF, if_neg (by decide +kernel), lookup_putF, if_pos rfl], hv2⟩, by rw [lookup_putF, if_neg (by decide +kernel), lookup_putF, if_pos rfl], by rw [lookup_putF, if_pos rfl]⟩
  generalize putF "ends" (.ref pe) (putF "backs" (.ref pb) (putF "steps" v2 (putF "laws" v1 []))) = fs at g4 wk
  have ws0 : Ws K CW rs steps H0 p dx pb pe fs 0 (fun _ _ => false) G4 := ⟨x4, g4, ⟨[], g4b, Nat.le_refl _, fun k b h => by simp [fBk] at h⟩, ⟨[], g4e, Nat.le_refl _, fun k b h => by simp [fEn] at h⟩⟩
  refine s_forDown (K := K) (n := steps.length) (va_p ((ve_len (vl_var rfl (hv2.ex x4))).to (by rw [List.length_map])) (va_p ve_int (va_p (ve_neg ve_int) va_nil))) (by omega) (fun i σ' H' => ∃ a b, σ' = [some (.ref p), some v1, some v2, a, b] ∧ Ws K CW rs steps H0 p dx pb pe fs (8 * i) (above steps (steps.length - i)) H')
    (fun H5 e5 => ⟨none, none, rfl, (ws0.of_ex e5).mono (fun r d h => ?_) (by omega)⟩) (fun i σ' H' hi h => ?_) (fun σ' H' h => ?_)
  · unfold above at h
    simp only [Bool.and_eq_true, decide_eq_true_iff] at h
    omega
  · obtain ⟨a, b, rfl, ws⟩ := h
    refine s_forN Gq03.roles eN (vn_call va_nil ⟨rfl, rfl⟩) (fun p2 k σ2 H2 => p2 ≠ pb ∧ p2 ≠ pe ∧ ∃ b, σ2 = [some (.ref p), some v1, some v2, some (.int ((steps.length - i : Nat) : Int)), b] ∧ k ≤ 8 ∧ Own K H2 p2 (Gq03.roles.map eN) ∧ Ws K CW rs steps H0 p dx pb pe fs (8 * i + k) (fun r d => above steps (steps.length - i) r d || (decide (d = steps.length - i) && (Gq03.roles.take k).contains r)) H2)
      (fun p2 H2 n2 e2 o2 => ?_) (fun p2 k σ2 H2 hk h => ?_) (fun p2 k r u σ2 H2 hr' hu' h => ?_) (fun p2 σ2 H2 h => ?_)
    · obtain ⟨k1, a1, _⟩ := ws.bk
      obtain ⟨k2, a2, _⟩ := ws.en
      exact ⟨(ne_of_none a1 n2).symm, (ne_of_none a2 n2).symm, b, rfl, by omega, o2, (ws.of_ex e2).mono (fun r d h => by simpa using h) (Nat.le_refl _)⟩
    · obtain ⟨_, _, b, rfl, _, o2, _⟩ := h
      exact o2.ls
    · obtain ⟨n1, n2, b, rfl, k8, o2, ws2⟩ := h
      have klt : k < Gq03.roles.length := (List.getElem?_eq_some_iff.mp hr').1
      have klt : k < 8 := klt
      cases Dt.int_eq hu'
      refine ⟨_, rfl, _, rfl, _, rfl, p, dx, pb, pe, fs, H0, rs, steps, 8 * i + k, _, r, steps.length - i, rfl, wk, ws2, wo, List.mem_of_getElem? hr', by omega, by omega, fun r d h => by rw [h, Bool.true_or], by omega, fun v H3 xw ws3 => ?_⟩
      obtain ⟨k1, a1, _⟩ := ws2.bk
      obtain ⟨k2, a2, _⟩ := ws2.en
      have t3 : Tx H2 H3 := fun a xs ha => xw a _ (ne_of ha a1 fun z => nomatch z) (ne_of ha a2 fun z => nomatch z) ha
      refine ⟨n1, n2, _, rfl, by omega, ?_, ws3.mono (fun r' d h => ?_) (by omega)⟩
      · obtain ⟨xs, h1, h2⟩ := o2
        exact ⟨xs, xw _ _ n1 n2 h1, h2.tx t3⟩
      · rw [take_more hr'] at h
        simp only [Bool.or_eq_true, Bool.and_eq_true, decide_eq_true_iff, List.contains_iff_mem, List.mem_append, List.mem_singleton] at h ⊢
        rcases h with h | ⟨h1, h2 | h2⟩
        · exact .inl (.inl h)
        · exact .inl (.inr ⟨h1, h2⟩)
        · exact .inr ⟨h2, h1⟩
    · obtain ⟨n1, n2, b, rfl, _, o2, ws2⟩ := h
      refine ⟨_, b, rfl, ws2.mono (fun r d h => ?_) (by have : Gq03.roles.length = 8 := rfl; omega)⟩
      rw [List.take_length]
      unfold above at h ⊢
      simp only [Bool.or_eq_true, Bool.and_eq_true, decide_eq_true_iff] at h ⊢
      obtain ⟨h1, h2, h3⟩ := h
      by_cases c : d = steps.length - i
      · exact .inr ⟨c, h1⟩
      · exact .inl ⟨h1, by omega, h3⟩
  · obtain ⟨a, b, rfl, ws⟩ := h
    refine q H' ws.ex fun H3 e3 => (ws.walk wk (fun r d h => ?_) (by omega)).ex e3
    rw [Nat.sub_self]
    exact h
end
end Wp

set_option Elab.async false
set_option linter.all false
set_option maxRecDepth 100000
set_option maxHeartbeats 2000000
namespace Dx
open PySem PySem.Spec PyProof.Rows L2 Evl
/-- for i, x in enumerate(e), e a list that stays -/
theorem s_forEv {K : PySem.W.Frag} {σ : L2.St} {H : Hp} {te : TE} {g : TG} {tu : TS} {D : Ends} {A : Type} {v1 : V} (lst : List A) (enc : A → PyData) (hv : Ev te σ H v1) (Pv : Nat → L2.St → Hp → Prop) (h0 : ∀ H1, Ex H H1 → Pv 0 σ H1) (hl : ∀ i σ' H', i ≤ lst.length → Pv i σ' H' → Ls K H' v1 (lst.map enc)) (hn : ∀ i σ' H' T o, Pv i σ' H' → H' T = none → Pv i σ' (upd H' T o))
    (hs : ∀ (i : Nat) b x σ' H', lst[i]? = some b → Dt K H' x (.tuple [.int (i : Int), enc b]) → Pv i σ' H' → g x σ' H' fun σ2 H2 => tu { D with nx := Pv (i + 1), ct := Pv (i + 1), bk := D.nx } σ2 H2) (hd : ∀ σ' H', Pv lst.length σ' H' → D.nx σ' H') : tFor (iEnum K (tCons te tNil)) g tu D σ H :=
  hv H (Ex.refl H) _ fun H1 e1 => by
    have p0 := h0 H1 e1
    obtain ⟨a, xs, rfl, hx, dx⟩ := hl 0 σ H1 (Nat.zero_le _) p0
    refine ⟨a, xs, rfl, hx, fun i m σ' H' => m = lst.length - i ∧ i ≤ lst.length ∧ Pv i σ' H', ⟨lst.length, by simp, Nat.zero_le _, p0⟩, ?_⟩
    rintro i m σ' H' ⟨rfl, hi, p⟩
    obtain ⟨a', ys, ea, hy, dy⟩ := hl i σ' H' hi p
    cases ea
    have hlen : ys.length = lst.length := by rw [dy.length, List.length_map]
    by_cases hlt : i < lst.length
    · refine .inr ⟨⟨ys, ys[i]'(by omega), hy, by simp [hlen, hlt]⟩, Pv (i + 1), fun σ2 H2 p' => ⟨lst.length - (i + 1), by omega, rfl, hlt, p'⟩, fun x H2 yv => ?_⟩
      obtain ⟨T, y, rfl, nT, rfl, h2⟩ := yv
      obtain ⟨dd, hdd, hdt⟩ := dy.get (h2 ys hy)
      obtain ⟨b, hb, rfl⟩ := map_at hdd
      exact hs i b (.ref T) σ' _ hb (pair_dt nT .int hdt) (hn i σ' H' T _ p nT)
    · have e : i = lst.length := by omega
      subst e
      exact .inl ⟨⟨ys, hy, by omega⟩, hd σ' H' p⟩
end Dx
namespace Wp
open PySem PySem.Spec PyProof.Rows L2 Evl Dx
open Gq03 (Basic Rule Fact Desk Ask)
open Wm (reachedM OkDesk Fit OkRules afterD afterB ownP fitsM ownN overM tripsM kindAt TT Bnd profM dirsM movesM nodeMoves edgeMoves placesM placesAt startsM)
theorem contains_two {A : Type} {i1 i2 : BEq A} [l1 : @LawfulBEq A i1] [l2 : @LawfulBEq A i2] (l : List A) (a : A) : @List.contains A i1 l a = @List.contains A i2 l a := by
  have h1 : @List.contains A i1 l a = true ↔ a ∈ l := @List.contains_iff_mem A i1 l1 a l
  have h2 : @List.contains A i2 l a = true ↔ a ∈ l := @List.contains_iff_mem A i2 l2 a l
  rw [Bool.eq_iff_iff, h1, h2]
def fPr (d : Desk) (x : Nat) : Option (List PyData) := if Gq03.nodes.contains x = true then some ((profM d x).map eB) else none
theorem fPr_at {d : Desk} {x : Nat} (h : x ∈ Gq03.nodes) : fPr d x = some ((profM d x).map eB) := by
  unfold fPr
  rw [if_pos (List.contains_iff_mem.mpr h)]
def rTM (K : PySem.W.Frag) (CL CW : Addr) : List Dx.Arg → List PyData → Prop := fun as ds => ∃ (d : Desk) (steps : Ask), as = [.x (IsWalk K CL CW d.rules steps 0), .l (d.facts.map eF), .x (Tb objN (LsP K) 8 (fPr d))] ∧ Fit d ∧ steps.length ≤ 4 ∧ ds = (movesM d steps (TT d.rules steps)).map (ePair eP)
theorem rTM_len {K : PySem.W.Frag} {CL CW : Addr} : ∀ as d, rTM K CL CW as d → as.length = 3 := by rintro as d ⟨x, y, rfl, _⟩; rfl
abbrev sp_told_moves (K : PySem.W.Frag) (CL CW : Addr) : Sp := spN K (rTM K CL CW)
def rCS (K : PySem.W.Frag) (CL : Addr) : List Dx.Arg → List PyData → Prop := fun as ds => ∃ (d : Desk) (steps : Ask), as = [.l (d.facts.map eF), .x (IsLawsB K CL d.rules), .l (steps.map eP)] ∧ Fit d ∧ steps.length ≤ 4 ∧ ds = (Gq03.allCertain d steps).map eN
theorem rCS_len {K : PySem.W.Frag} {CL : Addr} : ∀ as d, rCS K CL as d → as.length = 3 := by rintro as d ⟨x, y, rfl, _⟩; rfl
abbrev sp_certain_starts (K : PySem.W.Frag) (CL : Addr) : Sp := spN K (rCS K CL)
section
variable {P : Program} {w : World} {K : PySem.W.Frag} {mg : Str → Option Value} {base : Heap} {CL CW : Addr}
theorem ok_told_moves (T : Txt mg) (X : ClL K CL) (Y : ClW K CW) (D_nodes : Def P w K mg base 1 "nodes" [] (sp_nodes K)) (D_round_trips : Def P w K mg base 5 "round_trips" ["walk", "has", "first"] (sp_round_trips K CL CW)) (D_directions_between : Def P w K mg base 3 "directions_between" ["told", "laws", "x", "y"] (sp_directions_between K CL)) (D_fits : Def P w K mg base 1 "fits" ["has", "k"] (sp_fits K)) (F : At K mg "told_moves" s_told_moves ["walk", "told", "profiles"]) : Def P w K mg base 6 "told_moves" ["walk", "told", "profiles"] (sp_told_moves K CL CW) := by
  refine F.ok sc_told_moves (spN_len rTM_len) fun f cdv AA outer s H vs Q EE hr h => ?_
  obtain ⟨as, d, ha, ⟨d, steps, rfl, fit, l4, rfl⟩, q⟩ := h
  obtain ⟨v1, v2, v3, rfl, hv1, hv2, hv3⟩ := args3 ha
  have hv1 : ∀ H', Ex H H' → IsWalk K CL CW d.rules steps 0 H' v1 := hv1
  have hv2 : Ls K H v2 (d.facts.map eF) := hv2
  have hv3 : ∀ H', Ex H H' → Tb objN (LsP K) 8 (fPr d) H' v3 := hv3
  have nd := sc_told_moves.nd
  have hu := hu65 hr
  refine ⟨(tSeq (tAsg (tLst tNil) (gName 3))
    (tSeq (tFor (iList K (tCall (sp_nodes K) [] E0 tNil)) (gName 4)
      (tSeq (tDrop (tBM K "list" rExtend (tVar 3) (tCons (tLc (iList K (tCall (sp_round_trips K CL CW) [] E0 (tCons (tVar 0) (tCons (tDGet (tVar 2) (tVar 4)) (tCons (tC (.int 0)) tNil))))) (gTup K 2 (gCons (gName 7) (gCons (gName 9) gNil))) tYes (tTup (tCons (tTup (tCons (tVar 4) (tCons (tVar 7) tNil))) (tCons (tTup (tCons (tVar 4) (tCons (tVar 9) tNil))) tNil))) [7, 9]) tNil)))
    (tFor (iList K (tCall (sp_nodes K) [] E0 tNil)) (gName 5)
      (tSeq (tAsg (tCall (sp_directions_between K CL) [] E0 (tCons (tVar 1) (tCons (tFld K (tVar 0) "laws") (tCons (tVar 4) (tCons (tVar 5) tNil))))) (gName 6))
    (tFor (iEnum K (tCons (tFld K (tVar 0) "steps") tNil)) (gTup K 2 (gCons (gName 7) (gCons (gName 8) gNil)))
      (tIfS (tAnd (tTest (tOp (rInD K) (tOp (rIxT K) (tVar 8) (tC (.int 0))) (tVar 6))) (tB (tCall (sp_fits K) [] E0 (tCons (tDGet (tVar 2) (tVar 5)) (tCons (tOp (rIxT K) (tVar 8) (tC (.int 1))) tNil)))))
      (tDrop (tBM K "list" rAppend (tVar 3) (tCons (tTup (tCons (tTup (tCons (tVar 4) (tCons (tVar 7) tNil))) (tCons (tTup (tCons (tVar 5) (tCons (tOp (rI0 fun i j => .int (i + j)) (tVar 7) (tC (.int 1))) tNil))) tNil))) tNil)))
      tNext))))))
    (tRet (tVar 3)))), (pss_cons (ps_set (i := 3) nd rfl (Or.inl rfl) (pe_lst pa_nil))
      (pss_cons (ps_for PassesOwn.never rfl (pi_list (pe_def0 D_nodes (hr.mono (by decide)) (by rfl))) (pg_name (i := 4) nd rfl (Or.inr rfl))
        (pss_cons (ps_expr (pe_bm PySem.F.plainAttrs_list PySem.F.slot_list_extend PySem.F.type_list_extend mt_extend (pv 3) (pa_cons (pe_lc (own := [("done", 7), ("back", 9)]) (g := (gTup K 2 (gCons (gName 7) (gCons (gName 9) gNil)))) (tt := tYes) (te := (tTup (tCons (tTup (tCons (tVar 4) (tCons (tVar 7) tNil))) (tCons (tTup (tCons (tVar 4) (tCons (tVar 9) tNil))) tNil)))) rfl nd (pi_list (pe_def D_round_trips (hr.mono (by decide)) (by rfl) (pa_cons (pv 0) (pa_cons (pe_dget (hu1 hr) (pv 2) (pv 4) (fun _ _ => rfl)) (pa_cons pe_int pa_nil))))) (blkOk_by (own := [("done", 7), ("back", 9)]) (N := ["walk", "told", "profiles", "moves", "x", "y", "there", "done", "step", "back"]) (sc := defScope s_told_moves) (by decide +kernel)) (fun _ _ _ _ _ => by exact (pg_tup rfl (pgs_cons (pg_name (i := 7) nd rfl (Or.inl rfl)) (pgs_cons (pg_name (i := 9) nd rfl (Or.inl rfl)) pgs_nil)))) (fun _ _ _ _ _ => by exact pts_nil) (fun _ _ _ _ _ => by exact (pe_tup (pa_cons (pe_tup (pa_cons (pv 4) (pa_cons (pv 7) pa_nil))) (pa_cons (pe_tup (pa_cons (pv 4) (pa_cons (pv 9) pa_nil))) pa_nil))))) pa_nil)))
      (pss_one (ps_for PassesOwn.never rfl (pi_list (pe_def0 D_nodes (hr.mono (by decide)) (by rfl))) (pg_name (i := 5) nd rfl (Or.inl rfl))
        (pss_cons (ps_set (i := 6) nd rfl (Or.inl rfl) (pe_def D_directions_between (hr.mono (by decide)) (by rfl) (pa_cons (pv 1) (pa_cons (pe_fld (pv 0) rfl) (pa_cons (pv 4) (pa_cons (pv 5) pa_nil))))))
      (pss_one (ps_for PassesOwn.never rfl (pi_enum (by rfl) T.b_enumerate (pa_cons (pe_fld (pv 0) rfl) pa_nil)) (pg_tup rfl (pgs_cons (pg_name (i := 7) nd rfl (Or.inl rfl)) (pgs_cons (pg_name (i := 8) nd rfl (Or.inl rfl)) pgs_nil)))
        (pss_one (ps_if (PW.pt (pw_and (pt_cmpR (op_inD hu) (pe_ix ix_tup (pv 8) pe_int (fun _ _ => rfl)) (pv 6) (by rfl)) (pw_and1 (pt_val (pe_def D_fits (hr.mono (by decide)) (by rfl) (pa_cons (pe_dget (hu1 hr) (pv 2) (pv 5) (fun _ _ => rfl)) (pa_cons (pe_ix ix_tup (pv 8) pe_int (fun _ _ => rfl)) pa_nil)))))))
        (pss_one (ps_expr (pe_bm PySem.F.plainAttrs_list PySem.F.slot_list_append PySem.F.type_list_append mt_append (pv 3) (pa_cons (pe_tup (pa_cons (pe_tup (pa_cons (pv 4) (pa_cons (pv 7) pa_nil))) (pa_cons (pe_tup (pa_cons (pv 5) (pa_cons (pe_op op_add (pv 7) pe_int) pa_nil))) pa_nil))) pa_nil))))
        pss_nil)))))))))
      (pss_one (ps_ret (pv 3))))), ?_⟩
  have wo : WOk d.rules steps := ⟨fit.ok.rules, fit.rl, l4⟩
  have wk : ∀ {H1 H2 : Hp}, Ex H H1 → Ex H1 H2 → IsWalk K CL CW d.rules steps 0 H2 v1 := fun e e' => hv1 _ (e.trans e')
  have pr : ∀ {H1 H2 : Hp}, Ex H H1 → Ex H1 H2 → Tb objN (LsP K) 8 (fPr d) H2 v3 := fun e e' => hv3 _ (e.trans e')
  have B := Wm.TT_bnd d.rules steps
  have nl : ∀ x, (nodeMoves d steps (TT d.rules steps) x).length ≤ 192 := fun x => Wm.nodeMoves_len B l4 x
  obtain ⟨aw, dxw, fsw, vst, rfl, insw, lkw, hst⟩ := (hv1 H (Ex.refl _)).stp
  have evs : ∀ {H' : Hp} {σ : L2.St}, Ex H H' → σ[0]? = some (some (.ref aw)) → Ev (tFld K (tVar 0) "steps") σ H' vst := fun e hs => ev_fld (ev_var hs) (e _ _ insw) Y.cl Y.n_steps lkw
  have hst : Ls K H vst (steps.map eP) := hst
  refine q_setN (vn_lst (K := K) [] va_nil (by simp)) fun p H1 np e1 op => ?_
  refine q_forN Gq03.nodes eN (vn_call va_nil ⟨rfl, rfl⟩) (fun p2 i σ' H' => p2 ≠ p ∧ ∃ a b c e g, σ' = [some (.ref aw), some v2, some v3, some (.ref p), a, b, c, e, g, none] ∧ i ≤ 8 ∧ Ex H H' ∧ Own K H' p2 (Gq03.nodes.map eN) ∧ Own K H' p (((Gq03.nodes.take i).flatMap fun x => nodeMoves d steps (TT d.rules steps) x).map (ePair eP)))
    (fun p2 H2 n2 e2 o2 => ⟨(op.ne n2).symm, none, none, none, none, none, rfl, by omega, e1.trans e2, o2, op.ex e2⟩) (fun p2 i σ' H' hi h => ?_) (fun p2 i x u σ' H' hx hu' h => ?_) (fun p2 σ' H' h => ?_)
  · obtain ⟨_, a, b, c, e, g, rfl, _, ex, o2, o⟩ := h
    exact o2.ls
  · obtain ⟨ne, a, b, c, e, g, rfl, i8, ex, o2, o⟩ := h
    have xm := List.mem_of_getElem? hx
    have ilt : i < 8 := (List.getElem?_eq_some_iff.mp hx).1
    have ll : ((Gq03.nodes.take i).flatMap fun x => nodeMoves d steps (TT d.rules steps) x).length ≤ 192 * (Gq03.nodes.take i).length := Wm.flatMap_len nl _
    have tl : (Gq03.nodes.take i).length ≤ 8 := by rw [List.length_take]; exact Nat.min_le_right _ _
    have ts := Wm.trips_small (rs := d.rules) B l4 (profM d x) 0
    refine q_ext o rfl (Vn.o (vn_map (tripsM d.rules steps (TT d.rules steps) (profM d x) 0) eP (fun p => ePair eP ((x, p.1), (x, p.2))) (vn_call (va_x (vx_var rfl fun H' e' => wk ex e') (va_l (vl_dget keNat (vx_var rfl fun H' e' => pr ex e') (ve_var rfl hu') (fPr_at xm)) (va_p ve_int va_nil))) ⟨d.rules, steps, 0, profM d x, 0, rfl, wo, Nat.le_refl _, Nat.zero_le _, rfl⟩).l (by omega) ?_)) (by rw [List.length_map, List.length_map]; omega) fun H3 b3 t3 o3 => ?_
    · intro st hst' v H3 e3 hv
      obtain ⟨x1, x2, h1, h2, hg⟩ := g_pair (i := 7) (j := 9) hv
      exact ⟨_, hg _, rfl, ve_tup [eP (x, st.1), eP (x, st.2)] (va_p (ve_tup [.int (x : Int), .int (st.1 : Int)] (va_p (ve_var rfl (hu'.ex e3)) (va_p (ve_var rfl h1) va_nil)) (by simp)) (va_p (ve_tup [.int (x : Int), .int (st.2 : Int)] (va_p (ve_var rfl (hu'.ex e3)) (va_p (ve_var rfl h2) va_nil)) (by simp)) va_nil)) (by simp)⟩
    have ex3 : Ex H H3 := Exb.ex np ex b3
    have hu3 : Dt K H3 u (eN x) := hu'.tx t3
    cases Dt.int_eq hu3
    have o23 : Own K H3 p2 (Gq03.nodes.map eN) := b3.own ne t3 o2
    have o3 : Own K H3 p ((((Gq03.nodes.take i).flatMap fun x => nodeMoves d steps (TT d.rules steps) x) ++ ((tripsM d.rules steps (TT d.rules steps) (profM d x) 0).map fun p => ((x, p.1), (x, p.2))) ++ (Gq03.nodes.take 0).flatMap fun y => edgeMoves d steps x y).map (ePair eP)) := by
      rw [List.take_zero, List.flatMap_nil, List.append_nil, List.map_append, List.map_map]
      exact o3
    generalize hpre : ((Gq03.nodes.take i).flatMap fun x => nodeMoves d steps (TT d.rules steps) x) ++ ((tripsM d.rules steps (TT d.rules steps) (profM d x) 0).map fun p => ((x, p.1), (x, p.2))) = pre at o3
    have prel : pre.length ≤ 2000 := by
      rw [← hpre, List.length_append, List.length_map]
      omega
    -- the other nodes
    refine s_forN Gq03.nodes eN (vn_call va_nil ⟨rfl, rfl⟩) (fun p3 k σ2 H2 => p3 ≠ p ∧ ∃ b c e g, σ2 = [some (.ref aw), some v2, some v3, some (.ref p), some (.int (x : Int)), b, c, e, g, none] ∧ k ≤ 8 ∧ Ex H H2 ∧ Own K H2 p2 (Gq03.nodes.map eN) ∧ Own K H2 p3 (Gq03.nodes.map eN) ∧ Own K H2 p ((pre ++ (Gq03.nodes.take k).flatMap fun y => edgeMoves d steps x y).map (ePair eP)))
      (fun p3 H4 n4 e4 o4 => ⟨(o3.ne n4).symm, b, c, e, g, rfl, by omega, ex3.trans e4, o23.ex e4, o4, o3.ex e4⟩) (fun p3 k σ2 H4 hk h => ?_) (fun p3 k y u2 σ2 H4 hy hu2 h => ?_) (fun p3 σ2 H4 h => ?_)
    · obtain ⟨_, b, c, e, g, rfl, _, ex4, _, o4, _⟩ := h
      exact o4.ls
    · obtain ⟨ne3, b, c, e, g, rfl, k8, ex4, o24, o34, o4⟩ := h
      have ym := List.mem_of_getElem? hy
      have klt : k < 8 := (List.getElem?_eq_some_iff.mp hy).1
      have yl : ((Gq03.nodes.take k).flatMap fun y => edgeMoves d steps x y).length ≤ (1 * steps.length) * (Gq03.nodes.take k).length := Wm.flatMap_len (fun y => Wm.edgeMoves_len) _
      have tk : (Gq03.nodes.take k).length ≤ 8 := by rw [List.length_take]; exact Nat.min_le_right _ _
      have yl2 : (1 * steps.length) * (Gq03.nodes.take k).length ≤ 4 * 8 := Nat.mul_le_mul (by omega) tk
      refine q_setN (vn_call (va_l (vl_var rfl (hv2.ex ex4)) (va_x (vx_wlaws Y (vx_var rfl fun H' e' => wk ex4 e')) (va_p (ve_var rfl .int) (va_p (ve_var rfl hu2) va_nil)))) ⟨d, x, y, rfl, fit, rfl⟩) fun p4 H5 n5 e5 o5 => ?_
      have ex5 := ex4.trans e5
      cases Dt.int_eq (hu2.ex e5)
      have p4p : p4 ≠ p := ((o4.ne n5)).symm
      refine s_forEv steps eP (evs ex5 rfl) (fun j σ3 H6 => ∃ e g, σ3 = [some (.ref aw), some v2, some v3, some (.ref p), some (.int (x : Int)), some (.int (y : Int)), some (.ref p4), e, g, none] ∧ j ≤ 4 ∧ Ex H H6 ∧ Own K H6 p2 (Gq03.nodes.map eN) ∧ Own K H6 p3 (Gq03.nodes.map eN) ∧ Own K H6 p4 ((dirsM d x y).map eN) ∧
          Own K H6 p ((pre ++ (Gq03.nodes.take k).flatMap fun y => edgeMoves d steps x y).map (ePair eP) ++ ((steps.zipIdx.take j).filter fun s => (dirsM d x y).contains s.1.1 && fitsM (profM d y) s.1.2).map fun s => ePair eP ((x, s.2), (y, s.2 + 1))))
        (fun H6 e6 => ⟨e, g, rfl, by omega, ex5.trans e6, o24.ex (e5.trans e6), o34.ex (e5.trans e6), o5.ex e6, by rw [List.take_zero, List.filter_nil, List.map_nil, List.append_nil]; exact o4.ex (e5.trans e6)⟩)
        (fun j σ3 H6 hj h => ?_) (fun j σ3 H6 Tt o' h nT => ?_) (fun j st u3 σ3 H6 hs hu3 h => ?_) (fun σ3 H6 h => ?_)
      · obtain ⟨e, g, rfl, _, ex6, _⟩ := h
        exact hst.ex ex6
      · obtain ⟨e, g, rfl, j4, ex6, a1, a2, a3, a4⟩ := h
        have en := Ex.new (o := o') nT
        exact ⟨e, g, rfl, j4, ex6.trans en, a1.ex en, a2.ex en, a3.ex en, a4.ex en⟩
      · obtain ⟨e, g, rfl, j4, ex6, a1, a2, a3, a4⟩ := h
        have jlt : j < steps.length := (List.getElem?_eq_some_iff.mp hs).1
        obtain ⟨x1, x2, h1, h2, hg⟩ := g_pair (i := 7) (j := 8) hu3
        refine hg _ _ ?_
        cases Dt.int_eq h1
        have h2 : Dt K H6 x2 (.tuple [.int (st.1 : Int), .int (st.2 : Int)]) := h2
        refine s_ifapp (b := (dirsM d x y).contains st.1 && fitsM (profM d y) st.2) (d := ePair eP ((x, j), (y, j + 1))) a4 rfl (et_and (vt_test (ve_inE encN (a := st.1) (ve_ixT (i := 0) (ve_var rfl h2) ve_int rfl) (vo_var rfl a3).l)) fun _ => vt_B (ve_call (va_l (vl_dget keNat (vx_var rfl fun H' e' => pr ex6 e') (k := y) (ve_var rfl .int) (fPr_at ym)) (va_p (ve_ixT (i := 1) (ve_var rfl h2) ve_int rfl) va_nil)) ⟨profM d y, st.2, rfl, rfl⟩))
          (fun _ => ve_tup [eP (x, j), eP (y, j + 1)] (va_p (ve_tup [.int (x : Int), .int (j : Int)] (va_p (ve_var rfl .int) (va_p (ve_var rfl .int) va_nil)) (by simp)) (va_p (ve_tup [.int (y : Int), .int ((j + 1 : Nat) : Int)] (va_p (ve_var rfl .int) (va_p ((ve_I0 (g := (· + ·)) (ve_var rfl .int) ve_int).to (by congr 1)) va_nil)) (by simp)) va_nil)) (by simp)) ?_ fun H7 b7 t7 o7 => ?_
        · rw [List.length_append, List.length_map, List.length_append]
          have := fm_len (l := steps.zipIdx) (i := j) (p := fun s => (dirsM d x y).contains s.1.1 && fitsM (profM d y) s.1.2) (f := fun s => ePair eP ((x, s.2), (y, s.2 + 1)))
          rw [List.length_zipIdx] at this
          omega
        · refine ⟨_, _, rfl, by omega, Exb.ex np ex6 b7, b7.own ne t7 a1, b7.own ne3 t7 a2, b7.own p4p t7 a3, ?_⟩
          rw [fm_more (zip_at hs), ← List.append_assoc]
          exact o7
      · obtain ⟨e, g, rfl, _, ex6, a1, a2, a3, a4⟩ := h
        refine ⟨ne3, some (.int (y : Int)), some (.ref p4), e, g, rfl, by omega, ex6, a1, a2, ?_⟩
        have tz : steps.zipIdx.take steps.length = steps.zipIdx := List.take_of_length_le (by rw [List.length_zipIdx]; exact Nat.le_refl _)
        rw [tz] at a4
        rw [flat_more hy, ← List.append_assoc, List.map_append]
        have : (edgeMoves d steps x y).map (ePair eP) = (steps.zipIdx.filter fun s => (dirsM d x y).contains s.1.1 && fitsM (profM d y) s.1.2).map fun s => ePair eP ((x, s.2), (y, s.2 + 1)) := by
          unfold edgeMoves
          rw [List.map_map]
          rfl
        rw [this]
        exact a4
    · obtain ⟨_, b, c, e, g, rfl, _, ex4, o24, o34, o4⟩ := h
      refine ⟨ne, _, b, c, e, g, rfl, by omega, ex4, o24, ?_⟩
      rw [List.take_length, ← hpre, List.append_assoc] at o4
      rw [flat_more hx]
      exact o4
  · obtain ⟨_, a, b, c, e, g, rfl, _, ex, o2, o⟩ := h
    rw [List.take_length] at o
    exact s_retO rfl (q p H' np ex o)
theorem ok_certain_starts (T : Txt mg) (X : ClL K CL) (Y : ClW K CW) (D_can_be : Def P w K mg base 7 "can_be" ["told", "laws"] (sp_can_be K CL)) (D_nodes : Def P w K mg base 1 "nodes" [] (sp_nodes K)) (D_profile : Def P w K mg base 3 "profile" ["told", "laws", "x"] (sp_profile K CL)) (D_is_over : Def P w K mg base 5 "is_over" ["walk", "has", "done"] (sp_is_over K CL CW)) (D_reachedP : Def P w K mg base 1 "reached" ["starts", "steps"] (sp_reachedP K)) (D_told_moves : Def P w K mg base 6 "told_moves" ["walk", "told", "profiles"] (sp_told_moves K CL CW)) {fW : Addr} {fdW : FuncData} (M_Walk : Mk K CW fW) (G_Walk : FnOk P w K mg base CX0 7 fW fdW ["self", "laws", "steps"] (sp_Walk K CL CW)) (b_Walk : Binds K fdW ["self", "laws", "steps"] []) (mg_Walk : mg "Walk" = some (.ref CW)) (F : At K mg "certain_starts" s_certain_starts ["told", "laws", "steps"]) : Def P w K mg base 9 "certain_starts" ["told", "laws", "steps"] (sp_certain_starts K CL) := by
  refine F.ok sc_certain_starts (spN_len rCS_len) fun f cdv AA outer s H vs Q EE hr h => ?_
  obtain ⟨as, d, ha, ⟨d, steps, rfl, fit, l4, rfl⟩, q⟩ := h
  obtain ⟨v1, v2, v3, rfl, hv1, hv2, hv3⟩ := args3 ha
  have hv1 : Ls K H v1 (d.facts.map eF) := hv1
  have hv2 : ∀ H', Ex H H' → IsLawsB K CL d.rules H' v2 := hv2
  have hv3 : Ls K H v3 (steps.map eP) := hv3
  have nd := sc_certain_starts.nd
  have hu := hu65 hr
  refine ⟨(tSeq (tIfS (tNot (tB (tCall (sp_can_be K CL) [] E0 (tCons (tVar 0) (tCons (tVar 1) tNil)))))
      (tRet (tCall (sp_nodes K) [] E0 tNil))
      tNext)
    (tSeq (tAsg (tMake CW (sp_Walk K CL CW) [] E0 (tCons (tVar 1) (tCons (tVar 2) tNil))) (gName 3))
    (tSeq (tAsg tDNewK (gName 4))
    (tSeq (tFor (iList K (tCall (sp_nodes K) [] E0 tNil)) (gName 5)
      (sDPut (tVar 4) (tVar 5) (tCall (sp_profile K CL) [] E0 (tCons (tVar 0) (tCons (tVar 1) (tCons (tVar 5) tNil))))))
    (tSeq (tAsg (tLst tNil) (gName 6))
    (tSeq (tFor (iRng1 (tCons (tOp (rI0 fun i j => .int (i + j)) (tCB (rLenS K) (tCons (tVar 2) tNil)) (tC (.int 1))) tNil)) (gName 7)
      (tDrop (tBM K "list" rExtend (tVar 6) (tCons (tLc (iList K (tCall (sp_nodes K) [] E0 tNil)) (gName 5) (tB (tCall (sp_is_over K CL CW) [] E0 (tCons (tVar 3) (tCons (tDGet (tVar 4) (tVar 5)) (tCons (tVar 7) tNil))))) (tTup (tCons (tVar 5) (tCons (tVar 7) tNil))) [5]) tNil))))
    (tSeq (tAsg (tCall (sp_reachedP K) [] E0 (tCons (tVar 6) (tCons (tLc (iList K (tCall (sp_told_moves K CL CW) [] E0 (tCons (tVar 3) (tCons (tVar 0) (tCons (tVar 4) tNil))))) (gTup K 2 (gCons (gName 9) (gCons (gName 10) gNil))) tYes (tTup (tCons (tVar 10) (tCons (tVar 9) tNil))) [9, 10]) tNil))) (gName 8))
    (tRet (tLc (iList K (tCall (sp_nodes K) [] E0 tNil)) (gName 5) (tTest (tOp (rInD K) (tTup (tCons (tVar 5) (tCons (tC (.int 0)) tNil))) (tVar 8))) (tVar 5) [5]))))))))), (pss_cons (ps_if (pt_not (pt_val (pe_def D_can_be (hr.mono (by decide)) (by rfl) (pa_cons (pv 0) (pa_cons (pv 1) pa_nil)))))
        (pss_one (ps_ret (pe_def0 D_nodes (hr.mono (by decide)) (by rfl))))
        pss_nil)
      (pss_cons (ps_set (i := 3) nd rfl (Or.inr rfl) (pe_make M_Walk G_Walk (hr.mono (by decide)) (by rfl) mg_Walk b_Walk .nil pass0 (pa_cons (pv 1) (pa_cons (pv 2) pa_nil))))
      (pss_cons (ps_set (i := 4) nd rfl (Or.inr rfl) pe_dnewK)
      (pss_cons (ps_for PassesOwn.never rfl (pi_list (pe_def0 D_nodes (hr.mono (by decide)) (by rfl))) (pg_name (i := 5) nd rfl (Or.inl rfl))
        (pss_one (ps_dput (hu1 hr) (pv 4) (pv 5) (pe_def D_profile (hr.mono (by decide)) (by rfl) (pa_cons (pv 0) (pa_cons (pv 1) (pa_cons (pv 5) pa_nil)))) (by rfl))))
      (pss_cons (ps_set (i := 6) nd rfl (Or.inl rfl) (pe_lst pa_nil))
      (pss_cons (ps_for PassesOwn.never rfl (pi_range1 (by rfl) T.b_range (pa_cons (pe_op op_add (pe_callB call_len_seq (by rfl) T.b_len PySem.boot_len (pa_cons (pv 2) pa_nil)) pe_int) pa_nil)) (pg_name (i := 7) nd rfl (Or.inr rfl))
        (pss_one (ps_expr (pe_bm PySem.F.plainAttrs_list PySem.F.slot_list_extend PySem.F.type_list_extend mt_extend (pv 6) (pa_cons (pe_lc (own := [("x", 5)]) (g := (gName 5)) (tt := (tB (tCall (sp_is_over K CL CW) [] E0 (tCons (tVar 3) (tCons (tDGet (tVar 4) (tVar 5)) (tCons (tVar 7) tNil)))))) (te := (tTup (tCons (tVar 5) (tCons (tVar 7) tNil)))) rfl nd (pi_list (pe_def0 D_nodes (hr.mono (by decide)) (by rfl))) (blkOk_by (own := [("x", 5)]) (N := ["told", "laws", "steps", "walk", "profiles", "x", "places", "done", "found", "before", "after"]) (sc := defScope s_certain_starts) (by decide +kernel)) (fun _ _ _ _ _ => by exact (pg_name (i := 5) nd rfl (Or.inl rfl))) (fun _ _ _ _ _ => by exact (pts_one (pt_val (pe_def D_is_over (hr.mono (by decide)) (by rfl) (pa_cons (pv 3) (pa_cons (pe_dget (hu1 hr) (pv 4) (pv 5) (fun _ _ => rfl)) (pa_cons (pv 7) pa_nil))))))) (fun _ _ _ _ _ => by exact (pe_tup (pa_cons (pv 5) (pa_cons (pv 7) pa_nil))))) pa_nil)))))
      (pss_cons (ps_set (i := 8) nd rfl (Or.inr rfl) (pe_def D_reachedP (hr.mono (by decide)) (by rfl) (pa_cons (pv 6) (pa_cons (pe_lc (own := [("before", 9), ("after", 10)]) (g := (gTup K 2 (gCons (gName 9) (gCons (gName 10) gNil)))) (tt := tYes) (te := (tTup (tCons (tVar 10) (tCons (tVar 9) tNil)))) rfl nd (pi_list (pe_def D_told_moves (hr.mono (by decide)) (by rfl) (pa_cons (pv 3) (pa_cons (pv 0) (pa_cons (pv 4) pa_nil))))) (blkOk_by (own := [("before", 9), ("after", 10)]) (N := ["told", "laws", "steps", "walk", "profiles", "x", "places", "done", "found", "before", "after"]) (sc := defScope s_certain_starts) (by decide +kernel)) (fun _ _ _ _ _ => by exact (pg_tup rfl (pgs_cons (pg_name (i := 9) nd rfl (Or.inl rfl)) (pgs_cons (pg_name (i := 10) nd rfl (Or.inl rfl)) pgs_nil)))) (fun _ _ _ _ _ => by exact pts_nil) (fun _ _ _ _ _ => by exact (pe_tup (pa_cons (pv 10) (pa_cons (pv 9) pa_nil))))) pa_nil))))
      (pss_one (ps_ret (pe_lc (own := [("x", 5)]) (g := (gName 5)) (tt := (tTest (tOp (rInD K) (tTup (tCons (tVar 5) (tCons (tC (.int 0)) tNil))) (tVar 8)))) (te := (tVar 5)) rfl nd (pi_list (pe_def0 D_nodes (hr.mono (by decide)) (by rfl))) (blkOk_by (own := [("x", 5)]) (N := ["told", "laws", "steps", "walk", "profiles", "x", "places", "done", "found", "before", "after"]) (sc := defScope s_certain_starts) (by decide +kernel)) (fun _ _ _ _ _ => by exact (pg_name (i := 5) nd rfl (Or.inl rfl))) (fun _ _ _ _ _ => by exact (pts_one (pt_cmpR (op_inD hu) (pe_tup (pa_cons (pv 5) (pa_cons pe_int pa_nil))) (pv 8) (by rfl)))) (fun _ _ _ _ _ => by exact (pv 5)))))))))))), ?_⟩
  have wo : WOk d.rules steps := ⟨fit.ok.rules, fit.rl, l4⟩
  have lw : ∀ {H1 H2 : Hp}, Ex H H1 → Ex H1 H2 → IsLawsB K CL d.rules H2 v2 := fun e e' => hv2 _ (e.trans e')
  rw [← Wm.startsM_eq fit.ok] at q
  refine q_when (et_not (vt_B (ve_call (va_l (vl_var rfl hv1) (va_x (vx_var rfl hv2) va_nil)) ⟨d, rfl, fit, rfl⟩))) (fun c H1 e1 => ?_) (fun c H1 e1 => ?_)
  · have c : Gq03.sound d = false := by simpa using c
    refine s_retN (vn_call va_nil ⟨rfl, rfl⟩) fun p H2 n2 e2 o2 => q p H2 (fresh_back e1 n2) (e1.trans e2) ?_
    unfold startsM
    rw [if_pos ((sound_len fit).mpr c)]
    exact o2
  · have c : Gq03.sound d = true := by simpa using c
    refine q_setX (vx_make (va_x (vx_lw rfl fun H' e' => lw e1 e') (va_l (vl_var rfl (hv3.ex e1)) va_nil)) ⟨d.rules, steps, rfl, wo, rfl⟩) fun v4 H2 e2 h4 => ?_
    have e12 := e1.trans e2
    -- the profiles
    refine q_dnew (φ := LsP K) keNat fun p5 H3 n5 e3 ot => ?_
    have n5' : H p5 = none := fresh_back e12 n5
    have n52 : H2 p5 = none := n5
    refine q_forN Gq03.nodes eN (vn_call va_nil ⟨rfl, rfl⟩) (fun p2 i σ' H' => p2 ≠ p5 ∧ ∃ a, σ' = [some v1, some v2, some v3, some v4, some (.ref p5), a, none, none, none, none, none] ∧ i ≤ 8 ∧ Ex H2 H' ∧ Own K H' p2 (Gq03.nodes.map eN) ∧ Ot objN (LsP K) i (fun x => if (Gq03.nodes.take i).contains x = true then some ((profM d x).map eB) else none) H' p5)
      (fun p2 H4 n4 e4 o4 => ?_) (fun p2 i σ' H' hi h => ?_) (fun p2 i x u σ' H' hx hu' h => ?_) (fun p2 σ' H' h => ?_)
    · obtain ⟨kvs, a1, _⟩ := id ot
      exact ⟨(ne_of_none a1 n4).symm, none, rfl, by omega, e3.trans e4, o4, (ot.ex (phL K) e4).mono (fun k b h => by simp at h) (Nat.le_refl _)⟩
    · obtain ⟨_, a, rfl, _, _, o2, _⟩ := h
      exact o2.ls
    · obtain ⟨ne, a, rfl, i8, ex, o2, o⟩ := h
      have ilt : i < 8 := (List.getElem?_eq_some_iff.mp hx).1
      refine s_dput keNat (phL K) (k := x) (b := (profM d x).map eB) (ev_var rfl) o (by omega) (ve_var rfl hu') (vn_call (va_l (vl_var rfl (hv1.ex (e12.trans ex))) (va_x (vx_lw rfl fun H' e' => lw (e12.trans ex) e') (va_p (ve_var rfl hu') va_nil))) ⟨d, x, rfl, fit, rfl⟩).l.x fun H5 H6 kvs w5 e5 eq6 h5 b6 t6 o6 => ?_
      refine ⟨ne, some u, rfl, by omega, Exb.ex n52 ex b6, b6.own ne t6 o2, o6.mono (fun k b h => ?_) (Nat.le_refl _)⟩
      rw [take_more hx] at h
      by_cases ek : k = x
      · rw [if_pos ek]
        rw [if_pos (by rw [ek]; simp)] at h
        rw [← h, ek]
      · rw [if_neg ek]
        by_cases c : (Gq03.nodes.take i).contains k = true
        · rw [if_pos c]
          rw [if_pos (by simp; exact .inl (by simpa using c))] at h
          exact h
        · rw [if_neg (by simp; exact ⟨by simpa using c, fun z => ek z⟩)] at h
          cases h
    · obtain ⟨_, a, rfl, _, ex, _, o⟩ := h
      rw [List.take_length] at o
      have o : Ot objN (LsP K) 8 (fPr d) H' p5 := o
      have exH := e12.trans ex
      have wk : ∀ {H1' : Hp}, Ex H' H1' → IsWalk K CL CW d.rules steps 0 H1' v4 := fun e => h4 _ (ex.trans e)
      have pr : ∀ {H1' : Hp}, Ex H' H1' → Tb objN (LsP K) 8 (fPr d) H1' (.ref p5) := fun e => (o.ex (phL K) e).tb
      -- the places
      refine q_setN (vn_lst (K := K) [] va_nil (by simp)) fun p6 H4 n6 e4 o6 => ?_
      refine q_forR1 (K := K) (n := steps.length + 1) (va_p ((ve_I0 (g := (· + ·)) ((ve_len (vl_var rfl (hv3.ex (exH.trans e4)))).to (by rw [List.length_map])) ve_int).to (by congr 1)) va_nil) (by omega) (fun i σ' H5 => ∃ b, σ' = [some v1, some v2, some v3, some v4, some (.ref p5), a, some (.ref p6), b, none, none, none] ∧ i ≤ 5 ∧ Ex H' H5 ∧ Own K H5 p6 (((List.range i).flatMap fun done => placesAt d steps (TT d.rules steps) done).map eP))
        (fun H5 e5 => ⟨none, rfl, by omega, e4.trans e5, o6.ex e5⟩) (fun i σ' H5 hi h => ?_) (fun σ' H5 h => ?_)
      · obtain ⟨b, rfl, i5, ex5, o5⟩ := h
        have pl : ((List.range i).flatMap fun done => placesAt d steps (TT d.rules steps) done).length ≤ 8 * (List.range i).length := Wm.flatMap_len (fun done => by
          unfold placesAt
          rw [List.length_map]
          exact List.length_filter_le _ _) _
        rw [List.length_range] at pl
        have fl : (Gq03.nodes.filter fun x => overM d.rules steps (TT d.rules steps) (profM d x) i).length ≤ 8 := List.length_filter_le _ _
        refine s_ext o5 rfl (Vn.o (vn_lc Gq03.nodes eN (fun x => overM d.rules steps (TT d.rules steps) (profM d x) i) (fun x => eP (x, i)) (vn_call va_nil ⟨rfl, rfl⟩).l (by decide) ?_)) (by rw [List.length_map, List.length_map]; omega) fun H6 b6 t6 o7 => ?_
        · intro x hx v H6 e6 hv
          exact ⟨[some v1, some v2, some v3, some v4, some (.ref p5), some v, some (.ref p6), some (.int (i : Int)), none, none, none], fun Q h => h, rfl, vt_B (ve_call (va_x (vx_var rfl fun H'' e' => wk ((ex5.trans e6).trans e')) (va_l (vl_dget keNat (vx_var rfl fun H'' e' => pr ((ex5.trans e6).trans e')) (ve_var rfl hv) (fPr_at hx)) (va_p (ve_var rfl .int) va_nil))) ⟨d.rules, steps, 0, profM d x, i, rfl, wo, Nat.zero_le _, by omega, rfl⟩), fun _ => ve_tup [.int (x : Int), .int (i : Int)] (va_p (ve_var rfl hv) (va_p (ve_var rfl .int) va_nil)) (by simp)⟩
        · refine ⟨some (.int (i : Int)), rfl, by omega, Exb.ex n6 ex5 b6, ?_⟩
          rw [List.range_succ, List.flatMap_append, List.map_append]
          have : ([i].flatMap fun done => placesAt d steps (TT d.rules steps) done).map eP = (Gq03.nodes.filter fun x => overM d.rules steps (TT d.rules steps) (profM d x) i).map fun x => eP (x, i) := by
            unfold placesAt
            rw [List.flatMap_cons, List.flatMap_nil, List.append_nil, List.map_map]
            rfl
          rw [this]
          exact o7
      · obtain ⟨b, rfl, _, ex5, o5⟩ := h
        have o5 : Own K H5 p6 ((placesM d steps (TT d.rules steps)).map eP) := o5
        have pl := Wm.placesM_len (d := d) (T := TT d.rules steps) l4
        have ml := Wm.movesM_len (d := d) (Wm.TT_bnd d.rules steps) l4
        refine q_setN (vn_call (va_l (vo_var rfl o5).l (va_l (vn_map (movesM d steps (TT d.rules steps)) (ePair eP) (fun s => ePair eP (s.2, s.1)) (vn_call (va_x (vx_var rfl fun H'' e' => wk (ex5.trans e')) (va_l (vl_var rfl (hv1.ex (exH.trans ex5))) (va_x (vx_var rfl fun H'' e' => pr (ex5.trans e')) va_nil))) ⟨d, steps, rfl, fit, l4, rfl⟩).l (by omega) ?_).l va_nil)) ⟨placesM d steps (TT d.rules steps), (movesM d steps (TT d.rules steps)).map fun (s : (Nat × Nat) × (Nat × Nat)) => (s.2, s.1), by rw [List.map_map]; rfl, by omega, by rw [List.length_map]; omega, rfl⟩) fun p8 H6 n8 e6 o8 => ?_
        · intro st hst v H6 e6 hv
          obtain ⟨x1, x2, h1, h2, hg⟩ := g_pair (i := 9) (j := 10) hv
          exact ⟨_, hg _, rfl, ve_tup [eP st.2, eP st.1] (va_p (ve_var rfl h2) (va_p (ve_var rfl h1) va_nil)) (by simp)⟩
        have e16 := (exH.trans ex5).trans e6
        refine s_retN (vn_lc Gq03.nodes eN (fun x => (reachedM (placesM d steps (TT d.rules steps)) ((movesM d steps (TT d.rules steps)).map fun (s : (Nat × Nat) × (Nat × Nat)) => (s.2, s.1))).contains (x, 0)) eN (vn_call va_nil ⟨rfl, rfl⟩).l (by decide) ?_) fun p9 H7 n9 e7 o9 => q p9 H7 (fresh_back e16 n9) (e16.trans e7) ?_
        · intro x hx v H7 e7 hv
          exact ⟨[some v1, some v2, some v3, some v4, some (.ref p5), some v, some (.ref p6), b, some (.ref p8), none, none], fun Q h => h, rfl, et_is (vt_test (ve_inE encP (a := (x, 0)) (ve_tup [.int (x : Int), .int 0] (va_p (ve_var rfl hv) (va_p ve_int va_nil)) (by simp)) (vo_var rfl (o8.ex e7)).l)) (contains_two _ _), fun _ => ve_var rfl hv⟩
        · unfold startsM
          rw [if_neg (fun h => by rw [(sound_len fit).mp h] at c; cases c)]
          exact o9
end
end Wp

set_option Elab.async false
set_option linter.all false
set_option maxRecDepth 100000
set_option maxHeartbeats 2000000
namespace Wp
open PySem PySem.Spec PyProof.Rows L2 Evl Dx
open Gq03 (Basic Rule Fact Desk)
open Wm (OkDesk Fit)
abbrev s_tell : Stmt := top 82
theorem sc_tell : FnScope ["desk", "thing"] ["desk", "thing"] (defScope s_tell) := ⟨rfl, rfl, rfl, by decide +kernel, rfl, by decide +kernel, by decide +kernel⟩
abbrev s_add_rule : Stmt := top 83
theorem sc_add_rule : FnScope ["desk", "rule"] ["desk", "rule"] (defScope s_add_rule) := ⟨rfl, rfl, rfl, by decide +kernel, rfl, by decide +kernel, by decide +kernel⟩
abbrev s_add_basic_rule : Stmt := top 84
theorem sc_add_basic_rule : FnScope ["desk", "word", "numbers", "b", "c"] ["desk", "word", "numbers"] (defScope s_add_basic_rule) := ⟨rfl, rfl, rfl, by decide +kernel, rfl, by decide +kernel, by decide +kernel⟩
abbrev s_add_direction_rule : Stmt := top 85
theorem sc_add_direction_rule : FnScope ["desk", "word", "numbers", "r", "s"] ["desk", "word", "numbers"] (defScope s_add_direction_rule) := ⟨rfl, rfl, rfl, by decide +kernel, rfl, by decide +kernel, by decide +kernel⟩
abbrev s_take_out : Stmt := top 86
theorem sc_take_out : FnScope ["row", "n"] ["row", "n"] (defScope s_take_out) := ⟨rfl, rfl, rfl, by decide +kernel, rfl, by decide +kernel, by decide +kernel⟩
abbrev s_kind : Stmt := top 87
theorem sc_kind : FnScope ["desk", "numbers", "x", "k"] ["desk", "numbers"] (defScope s_kind) := ⟨rfl, rfl, rfl, by decide +kernel, rfl, by decide +kernel, by decide +kernel⟩
abbrev s_edge : Stmt := top 88
theorem sc_edge : FnScope ["desk", "numbers", "x", "a", "y"] ["desk", "numbers"] (defScope s_edge) := ⟨rfl, rfl, rfl, by decide +kernel, rfl, by decide +kernel, by decide +kernel⟩
abbrev s_drop : Stmt := top 89
theorem sc_drop : FnScope ["desk", "numbers"] ["desk", "numbers"] (defScope s_drop) := ⟨rfl, rfl, rfl, by decide +kernel, rfl, by decide +kernel, by decide +kernel⟩
abbrev s_sub : Stmt := top 90
theorem sc_sub : FnScope ["desk", "numbers"] ["desk", "numbers"] (defScope s_sub) := ⟨rfl, rfl, rfl, by decide +kernel, rfl, by decide +kernel, by decide +kernel⟩
abbrev s_role : Stmt := top 91
theorem sc_role : FnScope ["desk", "numbers"] ["desk", "numbers"] (defScope s_role) := ⟨rfl, rfl, rfl, by decide +kernel, rfl, by decide +kernel, by decide +kernel⟩
abbrev s_never : Stmt := top 92
theorem sc_never : FnScope ["desk", "numbers"] ["desk", "numbers"] (defScope s_never) := ⟨rfl, rfl, rfl, by decide +kernel, rfl, by decide +kernel, by decide +kernel⟩
abbrev s_neverrole : Stmt := top 93
theorem sc_neverrole : FnScope ["desk", "numbers"] ["desk", "numbers"] (defScope s_neverrole) := ⟨rfl, rfl, rfl, by decide +kernel, rfl, by decide +kernel, by decide +kernel⟩
abbrev s_strike : Stmt := top 94
theorem sc_strike : FnScope ["desk", "numbers"] ["desk", "numbers"] (defScope s_strike) := ⟨rfl, rfl, rfl, by decide +kernel, rfl, by decide +kernel, by decide +kernel⟩
/-! ### The desk in the heap -/
structure Cl (K : PySem.W.Frag) (C : Addr) : Prop where
  cl : Cls K C
  nT : NoAttr K C "told"
  nR : NoAttr K C "rules"
def dF (pt pr : Addr) : List (Str × V) := [("told", .ref pt), ("rules", .ref pr)]
/-- where a desk lies: itself, its dict, its two rows -/
structure Pl where
  a : Addr
  dx : Addr
  pt : Addr
  pr : Addr
structure Dk (K : PySem.W.Frag) (C : Addr) (H : Hp) (l : Pl) (d : Desk) : Prop where
  ins : H l.a = some (.ins C l.dx (dF l.pt l.pr))
  told : Own K H l.pt (d.facts.map eF)
  rules : Own K H l.pr (d.rules.map eR)
  ne : l.pt ≠ l.pr
/-- all but the desk's rows is as it was -/
def Exd (l : Pl) (H H' : Hp) : Prop := ∀ b o, b ≠ l.pt → b ≠ l.pr → H b = some o → H' b = some o
theorem dF_told {pt pr : Addr} : (dF pt pr).lookup ("told" : Str) = some (.ref pt) := by
  unfold dF
  simp [List.lookup]
theorem dF_rules {pt pr : Addr} : (dF pt pr).lookup ("rules" : Str) = some (.ref pr) := by
  unfold dF
  have h : (("rules" : Str) == ("told" : Str)) = false := by decide +kernel
  simp [List.lookup, h]
theorem Exd.of {l : Pl} {H H' : Hp} (e : Ex H H') : Exd l H H' := fun b o _ _ h => e b o h
theorem Exd.trans {l : Pl} {H H1 H2 : Hp} (a : Exd l H H1) (b : Exd l H1 H2) : Exd l H H2 := fun x o n m h => b x o n m (a x o n m h)
theorem Exd.told {l : Pl} {H H' : Hp} (b : Exb l.pt H H') : Exd l H H' := fun x o n _ h => b x o n h
theorem Exd.rules {l : Pl} {H H' : Hp} (b : Exb l.pr H H') : Exd l H H' := fun x o _ m h => b x o m h
section
variable {K : PySem.W.Frag} {C : Addr} {H H' : Hp} {l : Pl} {d : Desk}
theorem Dk.ex (h : Dk K C H l d) (e : Ex H H') : Dk K C H' l d := ⟨e _ _ h.ins, h.told.ex e, h.rules.ex e, h.ne⟩
theorem Own.at {p : Addr} {ds : List PyData} (h : Own K H p ds) : ∃ xs, H p = some (.lst xs) := let ⟨xs, a, _⟩ := h; ⟨xs, a⟩
theorem Dk.nea (h : Dk K C H l d) : l.a ≠ l.pt ∧ l.a ≠ l.pr := by
  obtain ⟨xs, hx⟩ := Own.at h.told
  obtain ⟨ys, hy⟩ := Own.at h.rules
  exact ⟨ne_of h.ins hx (fun q => nomatch q), ne_of h.ins hy (fun q => nomatch q)⟩
theorem Dk.putT (h : Dk K C H l d) {fs : List Fact} (b : Exb l.pt H H') (t : Tx H H') (o : Own K H' l.pt (fs.map eF)) : Dk K C H' l { d with facts := fs } :=
  ⟨b _ _ h.nea.1 h.ins, o, b.own h.ne.symm t h.rules, h.ne⟩
theorem Dk.putR (h : Dk K C H l d) {rs : List Rule} (b : Exb l.pr H H') (t : Tx H H') (o : Own K H' l.pr (rs.map eR)) : Dk K C H' l { d with rules := rs } :=
  ⟨b _ _ h.nea.2 h.ins, b.own h.ne t h.told, o, h.ne⟩
theorem Dk.back {p : Addr} {d' : Desk} (h : Dk K C H' l d') (x : Exd l H H') (n : H' p = none) : H p = none := by
  cases hp : H p with
  | none => rfl
  | some o =>
    exfalso
    by_cases h1 : p = l.pt
    · subst h1; obtain ⟨xs, hx⟩ := Own.at h.told; rw [hx] at n; cases n
    · by_cases h2 : p = l.pr
      · subst h2; obtain ⟨xs, hx⟩ := Own.at h.rules; rw [hx] at n; cases n
      · rw [x p o h1 h2 hp] at n; cases n
theorem ev_told {i : Nat} {σ : L2.St} (X : Cl K C) (h : Dk K C H l d) (hs : σ[i]? = some (some (.ref l.a))) : Ev (tFld K (tVar i) "told") σ H (.ref l.pt) := ev_fld (ev_var hs) h.ins X.cl X.nT dF_told
theorem ev_rules {i : Nat} {σ : L2.St} (X : Cl K C) (h : Dk K C H l d) (hs : σ[i]? = some (some (.ref l.a))) : Ev (tFld K (tVar i) "rules") σ H (.ref l.pr) := ev_fld (ev_var hs) h.ins X.cl X.nR dF_rules
end
/-- what a call does: from the desk and its numbers to the desk and the answer -/
def spC (K : PySem.W.Frag) (C : Addr) (R : Desk → List Int → Desk → List Int → Prop) : Sp := fun vs H Q _ => ∃ l d n ns d' ans, vs = [.ref l.a, n] ∧ Dk K C H l d ∧ Fit d ∧ Ls K H n (ns.map PyData.int) ∧ R d ns d' ans ∧
  ∀ p H', Exd l H H' → Dk K C H' l d' → H p = none → Own K H' p (ans.map PyData.int) → Q (.ref p) H'
theorem spC_len {K : PySem.W.Frag} {C : Addr} {R : Desk → List Int → Desk → List Int → Prop} : ∀ vs H Q E, spC K C R vs H Q E → vs.length = 2 := by
  rintro vs H Q E ⟨l, d, n, ns, d', ans, rfl, _⟩
  rfl
/-- tell, add_rule: a datum more -/
def sp_tell (K : PySem.W.Frag) (C : Addr) : Sp := fun vs H Q _ => ∃ l d v f, vs = [.ref l.a, v] ∧ Dk K C H l d ∧ Fit d ∧ Dt K H v (eF f) ∧
  ∀ p H', Exd l H H' → Dk K C H' l (Gq03.addFact d f).1 → H p = none → Own K H' p ((Gq03.addFact d f).2.map PyData.int) → Q (.ref p) H'
def sp_add_rule (K : PySem.W.Frag) (C : Addr) : Sp := fun vs H Q _ => ∃ l d v r, vs = [.ref l.a, v] ∧ Dk K C H l d ∧ Fit d ∧ Dt K H v (eR r) ∧
  ∀ p H', Exd l H H' → Dk K C H' l (Gq03.addRule d r).1 → H p = none → Own K H' p ((Gq03.addRule d r).2.map PyData.int) → Q (.ref p) H'
theorem eF_eqv (f g : Fact) : PyData.eqv (eF f) (eF g) = decide (f = g) := by
  cases f with
  | kind x k => cases g with
    | kind y l =>
      show ((("kind" : Str) == "kind") && (((x : Int) == (y : Int)) && (((k : Int) == (l : Int)) && true))) = _
      rw [Bool.eq_iff_iff]
      simp
      omega
    | edge y a z =>
      show ((("kind" : Str) == "edge") && PyData.eqvAll [eN x, eN k] [eN y, eN a, eN z]) = _
      have h : (("kind" : Str) == "edge") = false := by decide +kernel
      rw [h, Bool.false_and]
      simp
  | edge x a y => cases g with
    | kind z l =>
      show ((("edge" : Str) == "kind") && PyData.eqvAll [eN x, eN a, eN y] [eN z, eN l]) = _
      have h : (("edge" : Str) == "kind") = false := by decide +kernel
      rw [h, Bool.false_and]
      simp
    | edge z b w =>
      show ((("edge" : Str) == "edge") && (((x : Int) == (z : Int)) && (((a : Int) == (b : Int)) && (((y : Int) == (w : Int)) && true)))) = _
      rw [Bool.eq_iff_iff]
      simp
      omega
theorem encF : Enc eF where
  lay := fun b => by cases b <;> simp [eF, eN, PyData.canLay0, PyData.canLayAll0] <;> decide +kernel
  dep := fun b => by cases b <;> simp [eF, eN, PyData.depth, PyData.depthAll]
  eq := eF_eqv
section
variable {P : Program} {w : World} {K : PySem.W.Frag} {mg : Str → Option Value} {base : Heap} {C : Addr}
theorem ok_tell (T : Txt mg) (X : Cl K C) (F : At K mg "tell" s_tell ["desk", "thing"]) : Def P w K mg base 1 "tell" ["desk", "thing"] (sp_tell K C) := by
  refine F.ok sc_tell (by rintro vs H Q E ⟨l, d, v, f, rfl, _⟩; rfl) fun f cdv AA outer s H vs Q EE hr h => ?_
  obtain ⟨l, d, v, g, rfl, dk, fit, hv, q⟩ := h
  have nd := sc_tell.nd
  have hu := hu65 hr
  refine ⟨(tSeq (tIfS (tTest (tOp (rInD K) (tVar 1) (tFld K (tVar 0) "told")))
      (tRet (tLst (tCons (tC (.int (-4))) tNil)))
      tNext)
    (tSeq (tIfS (tTest (tOp rEq (tCB (rLenS K) (tCons (tFld K (tVar 0) "told") tNil)) (tC (.int (14)))))
      (tRet (tLst (tCons (tC (.int (-5))) tNil)))
      tNext)
    (tSeq (tDrop (tBM K "list" rAppend (tFld K (tVar 0) "told") (tCons (tVar 1) tNil)))
    (tRet (tLst (tCons (tOp (rI0 fun i j => .int (i - j)) (tCB (rLenS K) (tCons (tFld K (tVar 0) "told") tNil)) (tC (.int 1))) tNil)))))), (pss_cons (ps_if (pt_cmpR (op_inD hu) (pv 1) (pe_fld (pv 0) rfl) (by rfl))
        (pss_one (ps_ret (pe_lst (pa_cons (pe_gI T.c_TOLD_ALREADY) pa_nil))))
        pss_nil)
      (pss_cons (ps_if (pt_cmpR op_eq (pe_callB call_len_seq (by rfl) T.b_len PySem.boot_len (pa_cons (pe_fld (pv 0) rfl) pa_nil)) (pe_gI T.c_MOST_TOLD) (nomark _))
        (pss_one (ps_ret (pe_lst (pa_cons (pe_gI T.c_FULL) pa_nil))))
        pss_nil)
      (pss_cons (ps_expr (pe_bm PySem.F.plainAttrs_list PySem.F.slot_list_append PySem.F.type_list_append mt_append (pe_fld (pv 0) rfl) (pa_cons (pv 1) pa_nil)))
      (pss_one (ps_ret (pe_lst (pa_cons (pe_op op_sub (pe_callB call_len_seq (by rfl) T.b_len PySem.boot_len (pa_cons (pe_fld (pv 0) rfl) pa_nil)) pe_int) pa_nil))))))), ?_⟩
  have := fit.fl
  refine q_when (vt_test (ve_inE encF (ve_var rfl hv) (vo_ev (ev_told X dk rfl) dk.told).l)) (fun c H1 e1 => ?_) (fun c H1 e1 => ?_)
  · have e : Gq03.addFact d g = (d, [-4]) := if_pos c
    rw [e] at q
    exact s_retN (vn_lst (K := K) [.int (-4)] (va_p ve_int va_nil) (by simp)) fun p H2 n2 e2 o2 => q p H2 (.of (e1.trans e2)) (dk.ex (e1.trans e2)) (fresh_back e1 n2) o2
  · have e : Gq03.addFact d g = if 14 ≤ d.facts.length then (d, [-5]) else ({ d with facts := d.facts ++ [g] }, Gq03.ints [d.facts.length]) := if_neg (by rw [c]; decide)
    have dk1 := dk.ex e1
    refine q_when (vt_test (ve_eqI (ve_len (vo_ev (ev_told X dk1 rfl) dk1.told).l) ve_int)) (fun c2 H2 e2 => ?_) (fun c2 H2 e2 => ?_)
    · have c2 := of_decide_eq_true c2
      rw [List.length_map] at c2
      rw [e, if_pos (by omega)] at q
      exact s_retN (vn_lst (K := K) [.int (-5)] (va_p ve_int va_nil) (by simp)) fun p H3 n3 e3 o3 => q p H3 (.of ((e1.trans e2).trans e3)) (dk.ex ((e1.trans e2).trans e3)) (fresh_back (e1.trans e2) n3) o3
    · have c2 := of_decide_eq_false c2
      rw [List.length_map] at c2
      rw [e, if_neg (by omega)] at q
      have dk2 := dk1.ex e2
      refine q_appE dk2.told (ev_told X dk2 rfl) (ve_var rfl (hv.ex (e1.trans e2))) (by rw [List.length_map]; omega) fun H3 b3 t3 o3 => ?_
      have o3 : Own K H3 l.pt ((d.facts ++ [g]).map eF) := by rw [List.map_append]; exact o3
      have dk3 := dk2.putT b3 t3 o3
      have xd : Exd l H H3 := (Exd.of (e1.trans e2)).trans (.told b3)
      refine s_retN (vn_lst [.int ((d.facts.length : Nat) : Int)] (va_p ((ve_I0 (g := (· - ·)) (ve_len (vo_ev (ev_told X dk3 rfl) dk3.told).l) ve_int).to ?_) va_nil) (by simp)) fun p H4 n4 e4 o4 => q p H4 (xd.trans (.of e4)) (dk3.ex e4) ?_ o4
      · rw [List.length_map, List.length_append, List.length_singleton]
        congr 1
        omega
      · exact dk3.back xd n4
theorem ok_add_rule (T : Txt mg) (X : Cl K C) (F : At K mg "add_rule" s_add_rule ["desk", "rule"]) : Def P w K mg base 1 "add_rule" ["desk", "rule"] (sp_add_rule K C) := by
  refine F.ok sc_add_rule (by rintro vs H Q E ⟨l, d, v, f, rfl, _⟩; rfl) fun f cdv AA outer s H vs Q EE hr h => ?_
  obtain ⟨l, d, v, g, rfl, dk, fit, hv, q⟩ := h
  have nd := sc_add_rule.nd
  refine ⟨(tSeq (tIfS (tTest (tOp rEq (tCB (rLenS K) (tCons (tFld K (tVar 0) "rules") tNil)) (tC (.int (12)))))
      (tRet (tLst (tCons (tC (.int (-5))) tNil)))
      tNext)
    (tSeq (tDrop (tBM K "list" rAppend (tFld K (tVar 0) "rules") (tCons (tVar 1) tNil)))
    (tRet (tLst (tCons (tOp (rI0 fun i j => .int (i - j)) (tCB (rLenS K) (tCons (tFld K (tVar 0) "rules") tNil)) (tC (.int 1))) tNil))))), (pss_cons (ps_if (pt_cmpR op_eq (pe_callB call_len_seq (by rfl) T.b_len PySem.boot_len (pa_cons (pe_fld (pv 0) rfl) pa_nil)) (pe_gI T.c_MOST_RULES) (nomark _))
        (pss_one (ps_ret (pe_lst (pa_cons (pe_gI T.c_FULL) pa_nil))))
        pss_nil)
      (pss_cons (ps_expr (pe_bm PySem.F.plainAttrs_list PySem.F.slot_list_append PySem.F.type_list_append mt_append (pe_fld (pv 0) rfl) (pa_cons (pv 1) pa_nil)))
      (pss_one (ps_ret (pe_lst (pa_cons (pe_op op_sub (pe_callB call_len_seq (by rfl) T.b_len PySem.boot_len (pa_cons (pe_fld (pv 0) rfl) pa_nil)) pe_int) pa_nil)))))), ?_⟩
  have := fit.rl
  have e : Gq03.addRule d g = if 12 ≤ d.rules.length then (d, [-5]) else ({ d with rules := d.rules ++ [g] }, Gq03.ints [d.rules.length]) := rfl
  refine q_when (vt_test (ve_eqI (ve_len (vo_ev (ev_rules X dk rfl) dk.rules).l) ve_int)) (fun c2 H2 e2 => ?_) (fun c2 H2 e2 => ?_)
  · have c2 := of_decide_eq_true c2
    rw [List.length_map] at c2
    rw [e, if_pos (by omega)] at q
    exact s_retN (vn_lst (K := K) [.int (-5)] (va_p ve_int va_nil) (by simp)) fun p H3 n3 e3 o3 => q p H3 (.of (e2.trans e3)) (dk.ex (e2.trans e3)) (fresh_back e2 n3) o3
  · have c2 := of_decide_eq_false c2
    rw [List.length_map] at c2
    rw [e, if_neg (by omega)] at q
    have dk2 := dk.ex e2
    refine q_appE dk2.rules (ev_rules X dk2 rfl) (ve_var rfl (hv.ex e2)) (by rw [List.length_map]; omega) fun H3 b3 t3 o3 => ?_
    have o3 : Own K H3 l.pr ((d.rules ++ [g]).map eR) := by rw [List.map_append]; exact o3
    have dk3 := dk2.putR b3 t3 o3
    have xd : Exd l H H3 := (Exd.of e2).trans (.rules b3)
    refine s_retN (vn_lst [.int ((d.rules.length : Nat) : Int)] (va_p ((ve_I0 (g := (· - ·)) (ve_len (vo_ev (ev_rules X dk3 rfl) dk3.rules).l) ve_int).to ?_) va_nil) (by simp)) fun p H4 n4 e4 o4 => q p H4 (xd.trans (.of e4)) (dk3.ex e4) (dk3.back xd n4) o4
    rw [List.length_map, List.length_append, List.length_singleton]
    congr 1
    omega
/-! ### the calls that tell and rule -/
theorem isB_iff (s n : Nat) : isB (s : Int) (n : Int) = Gq03.isBasic (Gq03Neutral.basic s n) := by
  unfold isB Gq03.isBasic Gq03Neutral.basic
  rw [Bool.eq_iff_iff, List.contains_iff_mem]
  by_cases h0 : s = 0
  · rw [if_pos (by omega), if_pos h0, Wm.kind_basics]
    simp
    omega
  · rw [if_neg (by omega), if_neg h0]
    by_cases h1 : s = 1
    · rw [if_pos h1, Wm.has_basics, Wm.mem_roles]
      simp
      omega
    · rw [if_neg h1, Wm.kind_basics]
      simp
      omega
theorem eB_of {s n : Nat} (h : isB (s : Int) (n : Int) = true) : PyData.tuple [.int (s : Int), .int (n : Int)] = eB (Gq03Neutral.basic s n) := by
  unfold isB at h
  unfold Gq03Neutral.basic
  by_cases h0 : s = 0
  · rw [if_pos h0, h0]; rfl
  · rw [if_neg (by omega)] at h
    rw [if_neg h0]
    have h1 : s = 1 := by
      simp at h
      omega
    rw [if_pos h1, h1]; rfl
def rSub (mk : Basic → Basic → Gq03.Call) (d : Desk) (ns : List Int) (d' : Desk) (ans : List Int) : Prop := ∃ s a t b : Nat, ns = [(s : Int), (a : Int), (t : Int), (b : Int)] ∧ (d', ans) = Gq03.step d (mk (Gq03Neutral.basic s a) (Gq03Neutral.basic t b))
def rRole (mk : Nat → Nat → Gq03.Call) (d : Desk) (ns : List Int) (d' : Desk) (ans : List Int) : Prop := ∃ r s : Nat, ns = [(r : Int), (s : Int)] ∧ (d', ans) = Gq03.step d (mk r s)
theorem isN_iff (x : Nat) : (decide ((1 : Int) ≤ (x : Int)) && decide ((x : Int) ≤ 8)) = Gq03.isNode x := by
  unfold Gq03.isNode
  rw [Bool.eq_iff_iff, List.contains_iff_mem, Wm.mem_nodes]
  simp
  omega
theorem isR_iff (x : Nat) : (decide ((2 : Int) ≤ (x : Int)) && decide ((x : Int) ≤ 9)) = Gq03.isRole x := by
  unfold Gq03.isRole
  rw [Bool.eq_iff_iff, List.contains_iff_mem, Wm.mem_roles]
  simp
  omega
theorem ok_kind (T : Txt mg) (X : Cl K C) (D_is_node : Def P w K mg base 1 "is_node" ["x"] (sp_is_node K)) (D_is_kind : Def P w K mg base 1 "is_kind" ["k"] (sp_is_kind K)) (D_tell : Def P w K mg base 1 "tell" ["desk", "thing"] (sp_tell K C))
    (F : At K mg "kind" s_kind ["desk", "numbers"]) : Def P w K mg base 2 "kind" ["desk", "numbers"] (spC K C (rRole fun x k => .kind x k)) := by
  refine F.ok sc_kind spC_len fun f cdv AA outer s H vs Q EE hr h => ?_
  obtain ⟨l, d, n, ns, d', ans, rfl, dk, fit, hn, ⟨x, k, rfl, e⟩, q⟩ := h
  have nd := sc_kind.nd
  refine ⟨(tSeq (tAsg (tOp (rIxL K) (tVar 1) (tC (.int 0))) (gName 2))
    (tSeq (tAsg (tOp (rIxL K) (tVar 1) (tC (.int 1))) (gName 3))
    (tSeq (tIfS (tNot (tAnd (tB (tCall (sp_is_node K) [] E0 (tCons (tVar 2) tNil))) (tB (tCall (sp_is_kind K) [] E0 (tCons (tVar 3) tNil)))))
      (tRet (tLst (tCons (tC (.int (-1))) tNil)))
      tNext)
    (tRet (tCall (sp_tell K C) [] E0 (tCons (tVar 0) (tCons (tTup (tCons (tC (.str "kind")) (tCons (tVar 2) (tCons (tVar 3) tNil)))) tNil))))))), (pss_cons (ps_set (i := 2) nd rfl (Or.inl rfl) (pe_ix ix_list (pv 1) pe_int (fun _ _ => rfl)))
      (pss_cons (ps_set (i := 3) nd rfl (Or.inl rfl) (pe_ix ix_list (pv 1) pe_int (fun _ _ => rfl)))
      (pss_cons (ps_if (pt_not (PW.pt (pw_and (pt_val (pe_def D_is_node (hr.mono (by decide)) (by rfl) (pa_cons (pv 2) pa_nil))) (pw_and1 (pt_val (pe_def D_is_kind (hr.mono (by decide)) (by rfl) (pa_cons (pv 3) pa_nil)))))))
        (pss_one (ps_ret (pe_lst (pa_cons (pe_gI T.c_NO_SUCH_NUMBER) pa_nil))))
        pss_nil)
      (pss_one (ps_ret (pe_def D_tell (hr.mono (by decide)) (by rfl) (pa_cons (pv 0) (pa_cons (pe_tup (pa_cons (pe_gS T.c_KIND) (pa_cons (pv 2) (pa_cons (pv 3) pa_nil)))) pa_nil)))))))), ?_⟩
  refine q_setV (ve_ixL (i := 0) (vl_var rfl hn) ve_int rfl) fun v1 H1 e1 h1 => ?_
  refine q_setV (ve_ixL (i := 1) (vl_var rfl (hn.ex e1)) ve_int rfl) fun v2 H2 e2 h2 => ?_
  have h1 := h1.ex e2
  refine q_when (et_not (et_and (vt_B (ve_call (va_p (ve_var rfl h1) va_nil) ⟨_, rfl, rfl⟩)) fun _ => vt_B (ve_call (va_p (ve_var rfl h2) va_nil) ⟨_, rfl, rfl⟩))) (fun c H3 e3 => ?_) (fun c H3 e3 => ?_)
  · rw [isN_iff] at c
    have e' : Gq03.step d (.kind x k) = (d, [-1]) := if_pos (by
      simp at c
      exact c.imp id fun h => by omega)
    rw [e'] at e
    cases e
    exact s_retN (vn_lst (K := K) [.int (-1)] (va_p ve_int va_nil) (by simp)) fun p H4 n4 e4 o4 => q p H4 (.of (((e1.trans e2).trans e3).trans e4)) (dk.ex (((e1.trans e2).trans e3).trans e4)) (fresh_back ((e1.trans e2).trans e3) n4) o4
  · rw [isN_iff] at c
    have e' : Gq03.step d (.kind x k) = Gq03.addFact d (.kind x k) := if_neg (by
      simp at c
      rintro (h | h | h)
      · rw [c.1] at h; cases h
      · omega
      · omega)
    rw [e'] at e
    have e13 := (e1.trans e2).trans e3
    have hd : d' = (Gq03.addFact d (.kind x k)).1 := (congrArg Prod.fst e)
    have ha : ans = (Gq03.addFact d (.kind x k)).2 := (congrArg Prod.snd e)
    subst hd ha
    refine c_two (K := K) (ev_var rfl) (ve_tup [.str "kind", eN x, eN k] (va_p ve_str (va_p (ve_var rfl (h1.ex e3)) (va_p (ve_var rfl (h2.ex e3)) va_nil))) (by simp)) fun v H4 e4 hv => ?_
    exact ⟨l, d, v, .kind x k, rfl, dk.ex (e13.trans e4), fit, hv, fun p H5 xd dk5 n5 o5 => q p H5 ((Exd.of (e13.trans e4)).trans xd) dk5 (fresh_back (e13.trans e4) n5) o5⟩
def rEdge (d : Desk) (ns : List Int) (d' : Desk) (ans : List Int) : Prop := ∃ x a y : Nat, ns = [(x : Int), (a : Int), (y : Int)] ∧ (d', ans) = Gq03.step d (.edge x a y)
theorem ok_edge (T : Txt mg) (X : Cl K C) (D_is_node : Def P w K mg base 1 "is_node" ["x"] (sp_is_node K)) (D_is_label : Def P w K mg base 1 "is_label" ["a"] (sp_is_label K)) (D_tell : Def P w K mg base 1 "tell" ["desk", "thing"] (sp_tell K C))
    (F : At K mg "edge" s_edge ["desk", "numbers"]) : Def P w K mg base 2 "edge" ["desk", "numbers"] (spC K C rEdge) := by
  refine F.ok sc_edge spC_len fun f cdv AA outer s H vs Q EE hr h => ?_
  obtain ⟨l, d, n, ns, d', ans, rfl, dk, fit, hn, ⟨x, a, y, rfl, e⟩, q⟩ := h
  have nd := sc_edge.nd
  refine ⟨(tSeq (tAsg (tOp (rIxL K) (tVar 1) (tC (.int 0))) (gName 2))
    (tSeq (tAsg (tOp (rIxL K) (tVar 1) (tC (.int 1))) (gName 3))
    (tSeq (tAsg (tOp (rIxL K) (tVar 1) (tC (.int 2))) (gName 4))
    (tSeq (tIfS (tNot (tAnd (tB (tCall (sp_is_node K) [] E0 (tCons (tVar 2) tNil))) (tAnd (tB (tCall (sp_is_label K) [] E0 (tCons (tVar 3) tNil))) (tB (tCall (sp_is_node K) [] E0 (tCons (tVar 4) tNil))))))
      (tRet (tLst (tCons (tC (.int (-1))) tNil)))
      tNext)
    (tRet (tCall (sp_tell K C) [] E0 (tCons (tVar 0) (tCons (tTup (tCons (tC (.str "edge")) (tCons (tVar 2) (tCons (tVar 3) (tCons (tVar 4) tNil))))) tNil)))))))), (pss_cons (ps_set (i := 2) nd rfl (Or.inl rfl) (pe_ix ix_list (pv 1) pe_int (fun _ _ => rfl)))
      (pss_cons (ps_set (i := 3) nd rfl (Or.inl rfl) (pe_ix ix_list (pv 1) pe_int (fun _ _ => rfl)))
      (pss_cons (ps_set (i := 4) nd rfl (Or.inl rfl) (pe_ix ix_list (pv 1) pe_int (fun _ _ => rfl)))
      (pss_cons (ps_if (pt_not (PW.pt (pw_and (pt_val (pe_def D_is_node (hr.mono (by decide)) (by rfl) (pa_cons (pv 2) pa_nil))) (pw_and (pt_val (pe_def D_is_label (hr.mono (by decide)) (by rfl) (pa_cons (pv 3) pa_nil))) (pw_and1 (pt_val (pe_def D_is_node (hr.mono (by decide)) (by rfl) (pa_cons (pv 4) pa_nil))))))))
        (pss_one (ps_ret (pe_lst (pa_cons (pe_gI T.c_NO_SUCH_NUMBER) pa_nil))))
        pss_nil)
      (pss_one (ps_ret (pe_def D_tell (hr.mono (by decide)) (by rfl) (pa_cons (pv 0) (pa_cons (pe_tup (pa_cons (pe_gS T.c_EDGE) (pa_cons (pv 2) (pa_cons (pv 3) (pa_cons (pv 4) pa_nil))))) pa_nil))))))))), ?_⟩
  refine q_setV (ve_ixL (i := 0) (vl_var rfl hn) ve_int rfl) fun v1 H1 e1 h1 => ?_
  refine q_setV (ve_ixL (i := 1) (vl_var rfl (hn.ex e1)) ve_int rfl) fun v2 H2 e2 h2 => ?_
  refine q_setV (ve_ixL (i := 2) (vl_var rfl (hn.ex (e1.trans e2))) ve_int rfl) fun v3 H3 e3 h3 => ?_
  have h1 := h1.ex (e2.trans e3)
  have h2 := h2.ex e3
  have e13 := (e1.trans e2).trans e3
  refine q_when (et_not (et_and (vt_B (ve_call (va_p (ve_var rfl h1) va_nil) ⟨_, rfl, rfl⟩)) fun _ => et_and (vt_B (ve_call (va_p (ve_var rfl h2) va_nil) ⟨_, rfl, rfl⟩)) fun _ => vt_B (ve_call (va_p (ve_var rfl h3) va_nil) ⟨_, rfl, rfl⟩))) (fun c H4 e4 => ?_) (fun c H4 e4 => ?_)
  · rw [isN_iff, isN_iff] at c
    have e' : Gq03.step d (.edge x a y) = (d, [-1]) := if_pos (by
      simp at c
      rcases c with c | c | c
      · exact .inl c
      · right; right; omega
      · exact .inr (.inl c))
    rw [e'] at e
    cases e
    exact s_retN (vn_lst (K := K) [.int (-1)] (va_p ve_int va_nil) (by simp)) fun p H5 n5 e5 o5 => q p H5 (.of ((e13.trans e4).trans e5)) (dk.ex ((e13.trans e4).trans e5)) (fresh_back (e13.trans e4) n5) o5
  · rw [isN_iff, isN_iff] at c
    have e' : Gq03.step d (.edge x a y) = Gq03.addFact d (.edge x a y) := if_neg (by
      simp at c
      rintro (h | h | h | h)
      · rw [c.1] at h; cases h
      · rw [c.2.2] at h; cases h
      · omega
      · omega)
    rw [e'] at e
    have hd : d' = (Gq03.addFact d (.edge x a y)).1 := (congrArg Prod.fst e)
    have ha : ans = (Gq03.addFact d (.edge x a y)).2 := (congrArg Prod.snd e)
    subst hd ha
    have e14 := e13.trans e4
    refine c_two (K := K) (ev_var rfl) (ve_tup [.str "edge", eN x, eN a, eN y] (va_p ve_str (va_p (ve_var rfl (h1.ex e4)) (va_p (ve_var rfl (h2.ex e4)) (va_p (ve_var rfl (h3.ex e4)) va_nil)))) (by simp)) fun v H5 e5 hv => ?_
    exact ⟨l, d, v, .edge x a y, rfl, dk.ex (e14.trans e5), fit, hv, fun p H6 xd dk6 n6 o6 => q p H6 ((Exd.of (e14.trans e5)).trans xd) dk6 (fresh_back (e14.trans e5) n6) o6⟩
/-! ### what is taken out -/
def sp_take_out (K : PySem.W.Frag) (C : Addr) : Sp := fun vs H Q _ => ∃ p v ds, ∃ n : Nat, vs = [.ref p, v] ∧ Own K H p ds ∧ ds.length ≤ 100 ∧ Dt K H v (eN n) ∧ n ≤ 4294967295 ∧
  (ds.length ≤ n → ∀ r H', Ex H H' → H r = none → Own K H' r [.int (-2)] → Q (.ref r) H') ∧
  (n < ds.length → ∀ r H', Exb p H H' → Tx H H' → Own K H' p (ds.eraseIdx n) → H r = none → Own K H' r [eN (ds.length - 1)] → Q (.ref r) H')
theorem ok_take_out (T : Txt mg) (F : At K mg "take_out" s_take_out ["row", "n"]) : Def P w K mg base 1 "take_out" ["row", "n"] (sp_take_out K C) := by
  refine F.ok sc_take_out (by rintro vs H Q E ⟨l, d, v, f, rfl, _⟩; rfl) fun f cdv AA outer s H vs Q EE hr h => ?_
  obtain ⟨p, v, ds, n, rfl, o, l100, hv, hn, q1, q2⟩ := h
  have nd := sc_take_out.nd
  refine ⟨(tSeq (tIfS (tTest (tOp (rI0 fun i j => .bl (decide (j ≤ i))) (tVar 1) (tCB (rLenS K) (tCons (tVar 0) tNil))))
      (tRet (tLst (tCons (tC (.int (-2))) tNil)))
      tNext)
    (tSeq (tDrop (tBM K "list" rPopAt (tVar 0) (tCons (tVar 1) tNil)))
    (tRet (tLst (tCons (tCB (rLenS K) (tCons (tVar 0) tNil)) tNil))))), (pss_cons (ps_if (pt_cmpR op_ge (pv 1) (pe_callB call_len_seq (by rfl) T.b_len PySem.boot_len (pa_cons (pv 0) pa_nil)) (nomark _))
        (pss_one (ps_ret (pe_lst (pa_cons (pe_gI T.c_NOT_THERE) pa_nil))))
        pss_nil)
      (pss_cons (ps_expr (pe_bm PySem.F.plainAttrs_list PySem.F.slot_list_pop PySem.F.type_list_pop mt_popAt (pv 0) (pa_cons (pv 1) pa_nil)))
      (pss_one (ps_ret (pe_lst (pa_cons (pe_callB call_len_seq (by rfl) T.b_len PySem.boot_len (pa_cons (pv 0) pa_nil)) pa_nil)))))), ?_⟩
  refine q_when (vt_test (ve_B0 (g := fun i j => decide (j ≤ i)) (ve_var rfl hv) (ve_len (vo_var rfl o).l))) (fun c H1 e1 => ?_) (fun c H1 e1 => ?_)
  · have c : (ds.length : Int) ≤ (n : Int) := of_decide_eq_true c
    exact s_retN (vn_lst (K := K) [.int (-2)] (va_p ve_int va_nil) (by simp)) fun r H2 n2 e2 o2 => q1 (by omega) r H2 (e1.trans e2) (fresh_back e1 n2) o2
  · have c : ¬ (ds.length : Int) ≤ (n : Int) := of_decide_eq_false c
    have o1 := o.ex e1
    refine q_popAt o1 (ev_var rfl) (ve_var rfl (hv.ex e1)) (by omega) (by omega) fun H2 b2 t2 o2 => ?_
    refine s_retN (vn_lst [eN (ds.length - 1)] (va_p ((ve_len (vo_var rfl o2).l).to ?_) va_nil) (by simp)) fun r H3 n3 e3 o3 => q2 (by omega) r H3 (((Exb.of e1).trans b2).trans (.of e3)) (((Tx.of e1).trans t2).trans (.of e3)) (o2.ex e3) ?_ o3
    · rw [List.length_eraseIdx, if_pos (by omega)]
      rfl
    · cases hp : H r with
      | none => rfl
      | some u =>
        exfalso
        by_cases h1 : r = p
        · subst h1; obtain ⟨xs, hx⟩ := Own.at o2; rw [hx] at n3; cases n3
        · rw [b2 r u h1 (e1 r u hp)] at n3; cases n3
theorem without_eq {A : Type} (n : Nat) (l : List A) : Gq03.without n l = l.eraseIdx n := (List.eraseIdx_eq_take_drop_succ l n).symm
def rOne1 (mk : Nat → Gq03.Call) (d : Desk) (ns : List Int) (d' : Desk) (ans : List Int) : Prop := ∃ n : Nat, ns = [(n : Int)] ∧ n ≤ 4294967295 ∧ (d', ans) = Gq03.step d (mk n)
theorem map_erase {A B : Type} (f : A → B) (l : List A) (n : Nat) : (l.map f).eraseIdx n = (l.eraseIdx n).map f := by
  rw [List.eraseIdx_eq_take_drop_succ, List.eraseIdx_eq_take_drop_succ, List.map_append, List.map_take, List.map_drop]
theorem ok_drop (T : Txt mg) (X : Cl K C) (D_take_out : Def P w K mg base 1 "take_out" ["row", "n"] (sp_take_out K C)) (F : At K mg "drop" s_drop ["desk", "numbers"]) : Def P w K mg base 2 "drop" ["desk", "numbers"] (spC K C (rOne1 fun n => .drop n)) := by
  refine F.ok sc_drop spC_len fun f cdv AA outer s H vs Q EE hr h => ?_
  obtain ⟨l, d, n, ns, d', ans, rfl, dk, fit, hn, ⟨m, rfl, hm, e⟩, q⟩ := h
  have nd := sc_drop.nd
  refine ⟨(tRet (tCall (sp_take_out K C) [] E0 (tCons (tFld K (tVar 0) "told") (tCons (tOp (rIxL K) (tVar 1) (tC (.int 0))) tNil)))), (pss_one (ps_ret (pe_def D_take_out (hr.mono (by decide)) (by rfl) (pa_cons (pe_fld (pv 0) rfl) (pa_cons (pe_ix ix_list (pv 1) pe_int (fun _ _ => rfl)) pa_nil))))), ?_⟩
  have := fit.fl
  refine c_two (K := K) (ev_told X dk rfl) (ve_ixL (i := 0) (vl_var rfl hn) ve_int rfl) fun v H1 e1 hv => ?_
  have dk1 := dk.ex e1
  refine ⟨l.pt, v, _, m, rfl, dk1.told, by rw [List.length_map]; omega, hv, hm, fun c r H2 e2 n2 o2 => ?_, fun c r H2 b2 t2 o2 n2 o3 => ?_⟩
  · rw [List.length_map] at c
    have e' : Gq03.step d (.drop m) = (d, [-2]) := if_pos c
    rw [e'] at e
    cases e
    exact q r H2 (.of (e1.trans e2)) (dk.ex (e1.trans e2)) (fresh_back e1 n2) o2
  · rw [List.length_map] at c
    have e' : Gq03.step d (.drop m) = ({ d with facts := Gq03.without m d.facts }, Gq03.ints [d.facts.length - 1]) := if_neg (by omega)
    rw [e'] at e
    cases e
    rw [map_erase] at o2
    have dk2 := dk1.putT b2 t2 o2
    rw [without_eq] at q
    rw [List.length_map] at o3
    exact q r H2 ((Exd.of e1).trans (.told b2)) dk2 (fresh_back e1 n2) o3
theorem ok_strike (T : Txt mg) (X : Cl K C) (D_take_out : Def P w K mg base 1 "take_out" ["row", "n"] (sp_take_out K C)) (F : At K mg "strike" s_strike ["desk", "numbers"]) : Def P w K mg base 2 "strike" ["desk", "numbers"] (spC K C (rOne1 fun n => .strike n)) := by
  refine F.ok sc_strike spC_len fun f cdv AA outer s H vs Q EE hr h => ?_
  obtain ⟨l, d, n, ns, d', ans, rfl, dk, fit, hn, ⟨m, rfl, hm, e⟩, q⟩ := h
  have nd := sc_strike.nd
  refine ⟨(tRet (tCall (sp_take_out K C) [] E0 (tCons (tFld K (tVar 0) "rules") (tCons (tOp (rIxL K) (tVar 1) (tC (.int 0))) tNil)))), (pss_one (ps_ret (pe_def D_take_out (hr.mono (by decide)) (by rfl) (pa_cons (pe_fld (pv 0) rfl) (pa_cons (pe_ix ix_list (pv 1) pe_int (fun _ _ => rfl)) pa_nil))))), ?_⟩
  have := fit.rl
  refine c_two (K := K) (ev_rules X dk rfl) (ve_ixL (i := 0) (vl_var rfl hn) ve_int rfl) fun v H1 e1 hv => ?_
  have dk1 := dk.ex e1
  refine ⟨l.pr, v, _, m, rfl, dk1.rules, by rw [List.length_map]; omega, hv, hm, fun c r H2 e2 n2 o2 => ?_, fun c r H2 b2 t2 o2 n2 o3 => ?_⟩
  · rw [List.length_map] at c
    have e' : Gq03.step d (.strike m) = (d, [-2]) := if_pos c
    rw [e'] at e
    cases e
    exact q r H2 (.of (e1.trans e2)) (dk.ex (e1.trans e2)) (fresh_back e1 n2) o2
  · rw [List.length_map] at c
    have e' : Gq03.step d (.strike m) = ({ d with rules := Gq03.without m d.rules }, Gq03.ints [d.rules.length - 1]) := if_neg (by omega)
    rw [e'] at e
    cases e
    rw [map_erase] at o2
    have dk2 := dk1.putR b2 t2 o2
    rw [without_eq] at q
    rw [List.length_map] at o3
    exact q r H2 ((Exd.of e1).trans (.rules b2)) dk2 (fresh_back e1 n2) o3
/-! ### rules -/
def sp_add_basic_rule (K : PySem.W.Frag) (C : Addr) : Sp := fun vs H Q _ => ∃ l d v n wd, ∃ (mk : Basic → Basic → Rule) (s a t b : Nat), vs = [.ref l.a, v, n] ∧ Dk K C H l d ∧ Fit d ∧ Dt K H v (.str wd) ∧ (∀ x y, eR (mk x y) = .tuple [.str wd, eB x, eB y]) ∧
  Ls K H n ([(s : Int), (a : Int), (t : Int), (b : Int)].map PyData.int) ∧
  ∀ r : Desk × List Int, r = (if Gq03.isBasic (Gq03Neutral.basic s a) = false ∨ Gq03.isBasic (Gq03Neutral.basic t b) = false then (d, [-1]) else Gq03.addRule d (mk (Gq03Neutral.basic s a) (Gq03Neutral.basic t b))) →
  ∀ p H', Exd l H H' → Dk K C H' l r.1 → H p = none → Own K H' p (r.2.map PyData.int) → Q (.ref p) H'
def sp_add_direction_rule (K : PySem.W.Frag) (C : Addr) : Sp := fun vs H Q _ => ∃ l d v n wd, ∃ (mk : Nat → Nat → Rule) (a b : Nat), vs = [.ref l.a, v, n] ∧ Dk K C H l d ∧ Fit d ∧ Dt K H v (.str wd) ∧ (∀ x y, eR (mk x y) = .tuple [.str wd, eN x, eN y]) ∧
  Ls K H n ([(a : Int), (b : Int)].map PyData.int) ∧
  ∀ r : Desk × List Int, r = (if Gq03.isRole a = false ∨ Gq03.isRole b = false then (d, [-1]) else Gq03.addRule d (mk a b)) →
  ∀ p H', Exd l H H' → Dk K C H' l r.1 → H p = none → Own K H' p (r.2.map PyData.int) → Q (.ref p) H'
theorem ok_add_basic_rule (T : Txt mg) (X : Cl K C) (D_is_basic : Def P w K mg base 2 "is_basic" ["b"] (sp_is_basic K)) (D_add_rule : Def P w K mg base 1 "add_rule" ["desk", "rule"] (sp_add_rule K C))
    (F : At K mg "add_basic_rule" s_add_basic_rule ["desk", "word", "numbers"]) : Def P w K mg base 3 "add_basic_rule" ["desk", "word", "numbers"] (sp_add_basic_rule K C) := by
  refine F.ok sc_add_basic_rule (by rintro vs H Q E ⟨l, d, v, n, wd, mk, s, a, t, b, rfl, _⟩; rfl) fun f cdv AA outer s H vs Q EE hr h => ?_
  obtain ⟨l, d, v, n, wd, mk, s1, a1, s2, a2, rfl, dk, fit, hv, hmk, hn, q⟩ := h
  have nd := sc_add_basic_rule.nd
  refine ⟨(tSeq (tAsg (tTup (tCons (tOp (rIxL K) (tVar 2) (tC (.int 0))) (tCons (tOp (rIxL K) (tVar 2) (tC (.int 1))) tNil))) (gName 3))
    (tSeq (tAsg (tTup (tCons (tOp (rIxL K) (tVar 2) (tC (.int 2))) (tCons (tOp (rIxL K) (tVar 2) (tC (.int 3))) tNil))) (gName 4))
    (tSeq (tIfS (tNot (tAnd (tB (tCall (sp_is_basic K) [] E0 (tCons (tVar 3) tNil))) (tB (tCall (sp_is_basic K) [] E0 (tCons (tVar 4) tNil)))))
      (tRet (tLst (tCons (tC (.int (-1))) tNil)))
      tNext)
    (tRet (tCall (sp_add_rule K C) [] E0 (tCons (tVar 0) (tCons (tTup (tCons (tVar 1) (tCons (tVar 3) (tCons (tVar 4) tNil)))) tNil))))))), (pss_cons (ps_set (i := 3) nd rfl (Or.inl rfl) (pe_tup (pa_cons (pe_ix ix_list (pv 2) pe_int (fun _ _ => rfl)) (pa_cons (pe_ix ix_list (pv 2) pe_int (fun _ _ => rfl)) pa_nil))))
      (pss_cons (ps_set (i := 4) nd rfl (Or.inl rfl) (pe_tup (pa_cons (pe_ix ix_list (pv 2) pe_int (fun _ _ => rfl)) (pa_cons (pe_ix ix_list (pv 2) pe_int (fun _ _ => rfl)) pa_nil))))
      (pss_cons (ps_if (pt_not (PW.pt (pw_and (pt_val (pe_def D_is_basic (hr.mono (by decide)) (by rfl) (pa_cons (pv 3) pa_nil))) (pw_and1 (pt_val (pe_def D_is_basic (hr.mono (by decide)) (by rfl) (pa_cons (pv 4) pa_nil)))))))
        (pss_one (ps_ret (pe_lst (pa_cons (pe_gI T.c_NO_SUCH_NUMBER) pa_nil))))
        pss_nil)
      (pss_one (ps_ret (pe_def D_add_rule (hr.mono (by decide)) (by rfl) (pa_cons (pv 0) (pa_cons (pe_tup (pa_cons (pv 1) (pa_cons (pv 3) (pa_cons (pv 4) pa_nil)))) pa_nil)))))))), ?_⟩
  refine q_setV (ve_tup [.int (s1 : Int), .int (a1 : Int)] (va_p (ve_ixL (i := 0) (vl_var rfl hn) ve_int rfl) (va_p (ve_ixL (i := 1) (vl_var rfl hn) ve_int rfl) va_nil)) (by simp)) fun v1 H1 e1 h1 => ?_
  refine q_setV (ve_tup [.int (s2 : Int), .int (a2 : Int)] (va_p (ve_ixL (i := 2) (vl_var rfl (hn.ex e1)) ve_int rfl) (va_p (ve_ixL (i := 3) (vl_var rfl (hn.ex e1)) ve_int rfl) va_nil)) (by simp)) fun v2 H2 e2 h2 => ?_
  have h1 := h1.ex e2
  have e12 := e1.trans e2
  refine q_when (et_not (et_and (vt_B (ve_call (va_p (ve_var rfl h1) va_nil) ⟨_, _, rfl, rfl⟩)) fun _ => vt_B (ve_call (va_p (ve_var rfl h2) va_nil) ⟨_, _, rfl, rfl⟩))) (fun c H3 e3 => ?_) (fun c H3 e3 => ?_)
  · rw [isB_iff, isB_iff] at c
    have e' := q (d, [-1]) (by
      rw [if_pos]
      simpa using c)
    exact s_retN (vn_lst (K := K) [.int (-1)] (va_p ve_int va_nil) (by simp)) fun p H4 n4 e4 o4 => e' p H4 (.of ((e12.trans e3).trans e4)) (dk.ex ((e12.trans e3).trans e4)) (fresh_back (e12.trans e3) n4) o4
  · have c' := c
    rw [isB_iff, isB_iff] at c
    have e' := q _ (by
      rw [if_neg]
      simpa using c)
    have e13 := e12.trans e3
    have b1 : isB (s1 : Int) (a1 : Int) = true := by simp at c'; exact c'.1
    have b2 : isB (s2 : Int) (a2 : Int) = true := by simp at c'; exact c'.2
    rw [eB_of b1] at h1
    rw [eB_of b2] at h2
    refine c_two (K := K) (ev_var rfl) (ve_tup [.str wd, eB (Gq03Neutral.basic s1 a1), eB (Gq03Neutral.basic s2 a2)] (va_p (ve_var rfl (hv.ex e13)) (va_p (ve_var rfl (h1.ex e3)) (va_p (ve_var rfl (h2.ex e3)) va_nil))) (by simp)) fun v H4 e4 hv => ?_
    rw [← hmk] at hv
    exact ⟨l, d, v, _, rfl, dk.ex (e13.trans e4), fit, hv, fun p H5 xd dk5 n5 o5 => e' p H5 ((Exd.of (e13.trans e4)).trans xd) dk5 (fresh_back (e13.trans e4) n5) o5⟩
theorem ok_add_direction_rule (T : Txt mg) (X : Cl K C) (D_is_direction : Def P w K mg base 1 "is_direction" ["r"] (sp_is_direction K)) (D_add_rule : Def P w K mg base 1 "add_rule" ["desk", "rule"] (sp_add_rule K C))
    (F : At K mg "add_direction_rule" s_add_direction_rule ["desk", "word", "numbers"]) : Def P w K mg base 3 "add_direction_rule" ["desk", "word", "numbers"] (sp_add_direction_rule K C) := by
  refine F.ok sc_add_direction_rule (by rintro vs H Q E ⟨l, d, v, n, wd, mk, a, b, rfl, _⟩; rfl) fun f cdv AA outer s H vs Q EE hr h => ?_
  obtain ⟨l, d, v, n, wd, mk, a1, a2, rfl, dk, fit, hv, hmk, hn, q⟩ := h
  have nd := sc_add_direction_rule.nd
  refine ⟨(tSeq (tAsg (tOp (rIxL K) (tVar 2) (tC (.int 0))) (gName 3))
    (tSeq (tAsg (tOp (rIxL K) (tVar 2) (tC (.int 1))) (gName 4))
    (tSeq (tIfS (tNot (tAnd (tB (tCall (sp_is_direction K) [] E0 (tCons (tVar 3) tNil))) (tB (tCall (sp_is_direction K) [] E0 (tCons (tVar 4) tNil)))))
      (tRet (tLst (tCons (tC (.int (-1))) tNil)))
      tNext)
    (tRet (tCall (sp_add_rule K C) [] E0 (tCons (tVar 0) (tCons (tTup (tCons (tVar 1) (tCons (tVar 3) (tCons (tVar 4) tNil)))) tNil))))))), (pss_cons (ps_set (i := 3) nd rfl (Or.inl rfl) (pe_ix ix_list (pv 2) pe_int (fun _ _ => rfl)))
      (pss_cons (ps_set (i := 4) nd rfl (Or.inl rfl) (pe_ix ix_list (pv 2) pe_int (fun _ _ => rfl)))
      (pss_cons (ps_if (pt_not (PW.pt (pw_and (pt_val (pe_def D_is_direction (hr.mono (by decide)) (by rfl) (pa_cons (pv 3) pa_nil))) (pw_and1 (pt_val (pe_def D_is_direction (hr.mono (by decide)) (by rfl) (pa_cons (pv 4) pa_nil)))))))
        (pss_one (ps_ret (pe_lst (pa_cons (pe_gI T.c_NO_SUCH_NUMBER) pa_nil))))
        pss_nil)
      (pss_one (ps_ret (pe_def D_add_rule (hr.mono (by decide)) (by rfl) (pa_cons (pv 0) (pa_cons (pe_tup (pa_cons (pv 1) (pa_cons (pv 3) (pa_cons (pv 4) pa_nil)))) pa_nil)))))))), ?_⟩
  refine q_setV (ve_ixL (i := 0) (vl_var rfl hn) ve_int rfl) fun v1 H1 e1 h1 => ?_
  refine q_setV (ve_ixL (i := 1) (vl_var rfl (hn.ex e1)) ve_int rfl) fun v2 H2 e2 h2 => ?_
  have h1 := h1.ex e2
  have e12 := e1.trans e2
  refine q_when (et_not (et_and (vt_B (ve_call (va_p (ve_var rfl h1) va_nil) ⟨_, rfl, rfl⟩)) fun _ => vt_B (ve_call (va_p (ve_var rfl h2) va_nil) ⟨_, rfl, rfl⟩))) (fun c H3 e3 => ?_) (fun c H3 e3 => ?_)
  · rw [isR_iff, isR_iff] at c
    have e' := q (d, [-1]) (by
      rw [if_pos]
      simpa using c)
    exact s_retN (vn_lst (K := K) [.int (-1)] (va_p ve_int va_nil) (by simp)) fun p H4 n4 e4 o4 => e' p H4 (.of ((e12.trans e3).trans e4)) (dk.ex ((e12.trans e3).trans e4)) (fresh_back (e12.trans e3) n4) o4
  · rw [isR_iff, isR_iff] at c
    have e' := q _ (by
      rw [if_neg]
      simpa using c)
    have e13 := e12.trans e3
    refine c_two (K := K) (ev_var rfl) (ve_tup [.str wd, eN a1, eN a2] (va_p (ve_var rfl (hv.ex e13)) (va_p (ve_var rfl (h1.ex e3)) (va_p (ve_var rfl (h2.ex e3)) va_nil))) (by simp)) fun v H4 e4 hv => ?_
    rw [← hmk] at hv
    exact ⟨l, d, v, _, rfl, dk.ex (e13.trans e4), fit, hv, fun p H5 xd dk5 n5 o5 => e' p H5 ((Exd.of (e13.trans e4)).trans xd) dk5 (fresh_back (e13.trans e4) n5) o5⟩
theorem ok_sub (T : Txt mg) (X : Cl K C) (D_add_basic_rule : Def P w K mg base 3 "add_basic_rule" ["desk", "word", "numbers"] (sp_add_basic_rule K C))
    (F : At K mg "sub" s_sub ["desk", "numbers"]) : Def P w K mg base 4 "sub" ["desk", "numbers"] (spC K C (rSub fun b c => Gq03.Call.sub b c)) := by
  refine F.ok sc_sub spC_len fun f cdv AA outer s H vs Q EE hr h => ?_
  obtain ⟨l, d, n, ns, d', ans, rfl, dk, fit, hn, ⟨s1, a1, s2, a2, rfl, e⟩, q⟩ := h
  have nd := sc_sub.nd
  refine ⟨(tRet (tCall (sp_add_basic_rule K C) [] E0 (tCons (tVar 0) (tCons (tC (.str "sub")) (tCons (tVar 1) tNil))))), (pss_one (ps_ret (pe_def D_add_basic_rule (hr.mono (by decide)) (by rfl) (pa_cons (pv 0) (pa_cons (pe_gS T.c_SUB) (pa_cons (pv 1) pa_nil)))))), ?_⟩
  refine c_three (K := K) (ev_var rfl) ve_str (vl_var rfl hn) fun v w' H1 e1 hv hw => ?_
  refine ⟨l, d, v, w', _, fun b c => Rule.sub b c, s1, a1, s2, a2, rfl, dk.ex e1, fit, hv, fun _ _ => rfl, hw, fun r hr' p H2 xd dk2 n2 o2 => ?_⟩
  have e2 : (d', ans) = r := e.trans hr'.symm
  subst e2
  exact q p H2 ((Exd.of e1).trans xd) dk2 (fresh_back e1 n2) o2
theorem ok_never (T : Txt mg) (X : Cl K C) (D_add_basic_rule : Def P w K mg base 3 "add_basic_rule" ["desk", "word", "numbers"] (sp_add_basic_rule K C))
    (F : At K mg "never" s_never ["desk", "numbers"]) : Def P w K mg base 4 "never" ["desk", "numbers"] (spC K C (rSub fun b c => Gq03.Call.never b c)) := by
  refine F.ok sc_never spC_len fun f cdv AA outer s H vs Q EE hr h => ?_
  obtain ⟨l, d, n, ns, d', ans, rfl, dk, fit, hn, ⟨s1, a1, s2, a2, rfl, e⟩, q⟩ := h
  have nd := sc_never.nd
  refine ⟨(tRet (tCall (sp_add_basic_rule K C) [] E0 (tCons (tVar 0) (tCons (tC (.str "never")) (tCons (tVar 1) tNil))))), (pss_one (ps_ret (pe_def D_add_basic_rule (hr.mono (by decide)) (by rfl) (pa_cons (pv 0) (pa_cons (pe_gS T.c_NEVER) (pa_cons (pv 1) pa_nil)))))), ?_⟩
  refine c_three (K := K) (ev_var rfl) ve_str (vl_var rfl hn) fun v w' H1 e1 hv hw => ?_
  refine ⟨l, d, v, w', _, fun b c => Rule.never b c, s1, a1, s2, a2, rfl, dk.ex e1, fit, hv, fun _ _ => rfl, hw, fun r hr' p H2 xd dk2 n2 o2 => ?_⟩
  have e2 : (d', ans) = r := e.trans hr'.symm
  subst e2
  exact q p H2 ((Exd.of e1).trans xd) dk2 (fresh_back e1 n2) o2
theorem ok_role (T : Txt mg) (X : Cl K C) (D_add_direction_rule : Def P w K mg base 3 "add_direction_rule" ["desk", "word", "numbers"] (sp_add_direction_rule K C))
    (F : At K mg "role" s_role ["desk", "numbers"]) : Def P w K mg base 4 "role" ["desk", "numbers"] (spC K C (rRole fun b c => Gq03.Call.role b c)) := by
  refine F.ok sc_role spC_len fun f cdv AA outer s H vs Q EE hr h => ?_
  obtain ⟨l, d, n, ns, d', ans, rfl, dk, fit, hn, ⟨a1, a2, rfl, e⟩, q⟩ := h
  have nd := sc_role.nd
  refine ⟨(tRet (tCall (sp_add_direction_rule K C) [] E0 (tCons (tVar 0) (tCons (tC (.str "role")) (tCons (tVar 1) tNil))))), (pss_one (ps_ret (pe_def D_add_direction_rule (hr.mono (by decide)) (by rfl) (pa_cons (pv 0) (pa_cons (pe_gS T.c_ROLE) (pa_cons (pv 1) pa_nil)))))), ?_⟩
  refine c_three (K := K) (ev_var rfl) ve_str (vl_var rfl hn) fun v w' H1 e1 hv hw => ?_
  refine ⟨l, d, v, w', _, fun b c => Rule.role b c, a1, a2, rfl, dk.ex e1, fit, hv, fun _ _ => rfl, hw, fun r hr' p H2 xd dk2 n2 o2 => ?_⟩
  have e2 : (d', ans) = r := e.trans hr'.symm
  subst e2
  exact q p H2 ((Exd.of e1).trans xd) dk2 (fresh_back e1 n2) o2
theorem ok_neverrole (T : Txt mg) (X : Cl K C) (D_add_direction_rule : Def P w K mg base 3 "add_direction_rule" ["desk", "word", "numbers"] (sp_add_direction_rule K C))
    (F : At K mg "neverrole" s_neverrole ["desk", "numbers"]) : Def P w K mg base 4 "neverrole" ["desk", "numbers"] (spC K C (rRole fun b c => Gq03.Call.neverRole b c)) := by
  refine F.ok sc_neverrole spC_len fun f cdv AA outer s H vs Q EE hr h => ?_
  obtain ⟨l, d, n, ns, d', ans, rfl, dk, fit, hn, ⟨a1, a2, rfl, e⟩, q⟩ := h
  have nd := sc_neverrole.nd
  refine ⟨(tRet (tCall (sp_add_direction_rule K C) [] E0 (tCons (tVar 0) (tCons (tC (.str "neverrole")) (tCons (tVar 1) tNil))))), (pss_one (ps_ret (pe_def D_add_direction_rule (hr.mono (by decide)) (by rfl) (pa_cons (pv 0) (pa_cons (pe_gS T.c_NEVERROLE) (pa_cons (pv 1) pa_nil)))))), ?_⟩
  refine c_three (K := K) (ev_var rfl) ve_str (vl_var rfl hn) fun v w' H1 e1 hv hw => ?_
  refine ⟨l, d, v, w', _, fun b c => Rule.neverRole b c, a1, a2, rfl, dk.ex e1, fit, hv, fun _ _ => rfl, hw, fun r hr' p H2 xd dk2 n2 o2 => ?_⟩
  have e2 : (d', ans) = r := e.trans hr'.symm
  subst e2
  exact q p H2 ((Exd.of e1).trans xd) dk2 (fresh_back e1 n2) o2
end
end Wp

set_option Elab.async false
set_option linter.all false
set_option maxRecDepth 100000
set_option maxHeartbeats 2000000
namespace Dx
open PySem PySem.Spec PyProof.Rows L2 Evl
section
variable {K : PySem.W.Frag} {σ : L2.St} {H : Hp} {te tl : TE} {g : TG} {r : TA} {ds : List PyData}
/-- [e for i in range(0, hi, 2)] -/
theorem vn_lcS {A : Type} {vs : List Nat} (lst : List A) (f : A → PyData) {hi : Int} (h : Va K r σ H [.p (.int 0), .p (.int hi), .p (.int 2)]) (rg : RgC 0 hi 2 lst.length) (hz : lst.length ≤ 40000)
    (hs : ∀ (i : Nat) a, lst[i]? = some a → ∀ H1, Ex H H1 → ∃ σ2, (∀ Q : L2.St → Hp → Prop, Q σ2 H1 → g (.int ((2 * i : Nat) : Int)) (wipe σ vs) H1 Q) ∧ wipe σ2 vs = wipe σ vs ∧ Ve K te σ2 H1 (f a)) :
    Vn K (tLc (iRng3 r) g tYes te vs) σ H (lst.map f) := fun H0 e0 Q q => h H0 e0 _ fun ws H1 e1 hv => by
  have hw := args_int3 hv
  subst hw
  refine ⟨0, hi, 2, lst.length, rfl, rg, fun D hD => ?_⟩
  have fe : ∀ l : List A, ((l.filter fun _ => true).map f) = l.map f := fun l => by rw [List.filter_eq_self.mpr (fun _ _ => rfl)]
  refine lc_it (walk_rangeC (lo := 0) (c := 2) (n := lst.length)) (fun i H' => Ex H1 H' ∧ Own K H' D (((lst.take i).filter fun _ => true).map f)) ⟨Ex.new hD, [], upd_same, .nil⟩ (fun _ _ _ _ => trivial) (fun i x H' H'' hi pv hy => ?_) (fun H' pv => ?_)
  · obtain ⟨rfl, rfl⟩ := hy
    obtain ⟨a, ha⟩ : ∃ a, lst[i]? = some a := ⟨lst[i], List.getElem?_eq_getElem hi⟩
    obtain ⟨σ2, hg, hw, he⟩ := hs i a ha H'' ((e0.trans e1).trans pv.1)
    have ei : (0 : Int) + ((i : Nat) : Int) * 2 = ((2 * i : Nat) : Int) := by omega
    show g (V.int ((0 : Int) + ((i : Nat) : Int) * 2)) (wipe σ vs) H'' _
    rw [ei]
    exact hg _ ⟨hw, lc_turn (p := fun _ => true) hD ha hz pv.1 pv.2 (fun H2 _ _ q => q H2 (Ex.refl H2)) fun _ => he⟩
  · rw [List.take_length, fe] at pv
    exact q D H' (fresh_back e1 hD) (e1.trans pv.1) pv.2
theorem vn_slTo {hi : Nat} {tb : TE} (ha : Vl K te σ H ds) (h2 : Ve K tb σ H (.int (hi : Int))) : Vn K (tSl (rSlL K) te tNoPart (tPart tb)) σ H (ds.take hi) := fun H1 e Q q =>
  ha H1 e _ fun v H2 e2 hv => h2.int H2 (e.trans e2) _ fun H3 e3 => ⟨_, rfl, by
    obtain ⟨p, xs, rfl, hs, dx⟩ := hv.ex e3
    refine ⟨p, xs, rfl, hs, fun p hp => q p _ (fresh_back (e2.trans e3) hp) ((e2.trans e3).trans (Ex.new hp)) ⟨_, upd_same, ?_⟩⟩
    have cut : cutV xs none (some (hi : Int)) = (xs.take hi).drop 0 := by
      unfold cutV
      rw [HT.sIx_nat, HT.sIx_none, List.drop_zero, List.drop_zero]
      by_cases h : hi ≤ xs.length
      · rw [Nat.min_eq_left h, Nat.sub_zero]
      · rw [Nat.min_eq_right (by omega), Nat.sub_zero, List.take_length, List.take_of_length_le (by omega)]
    rw [cut]
    have := sub_all (p := p) (ys := (xs.take hi).drop 0) (lo := 0) (hi := hi) dx hp
    rw [List.drop_zero (l := ds.take hi)] at this
    exact this⟩
/-- a list of one's own, as an argument -/
def IsOwn (K : PySem.W.Frag) (ds : List PyData) (H : Hp) (v : V) : Prop := ∃ p, v = .ref p ∧ Own K H p ds
theorem Vn.ox (h : Vn K te σ H ds) : Vx te σ H (IsOwn K ds) := fun H1 e Q q => h H1 e Q fun p H2 _ e2 o => q _ H2 e2 fun H3 e3 => ⟨p, rfl, o.ex e3⟩
end
theorem rg_two {n : Nat} (h : n ≤ 4) : RgC 0 ((2 * n : Nat) : Int) 2 n := by
  match n, h with
  | 0, _ => exact ⟨by decide, by decide, by decide +kernel, by decide +kernel⟩
  | 1, _ => exact ⟨by decide, by decide, by decide +kernel, by decide +kernel⟩
  | 2, _ => exact ⟨by decide, by decide, by decide +kernel, by decide +kernel⟩
  | 3, _ => exact ⟨by decide, by decide, by decide +kernel, by decide +kernel⟩
  | 4, _ => exact ⟨by decide, by decide, by decide +kernel, by decide +kernel⟩
end Dx
namespace Wp
open PySem PySem.Spec PyProof.Rows L2 Evl Dx
open Gq03 (Basic Rule Fact Desk Ask)
open Wm (OkDesk Fit OkRules ofN)
abbrev s_one_or_zero : Stmt := top 95
theorem sc_one_or_zero : FnScope ["holds"] ["holds"] (defScope s_one_or_zero) := ⟨rfl, rfl, rfl, by decide +kernel, rfl, by decide +kernel, by decide +kernel⟩
abbrev s_counted : Stmt := top 96
theorem sc_counted : FnScope ["found"] ["found"] (defScope s_counted) := ⟨rfl, rfl, rfl, by decide +kernel, rfl, by decide +kernel, by decide +kernel⟩
abbrev s_is_so : Stmt := top 97
theorem sc_is_so : FnScope ["desk", "numbers", "x", "b"] ["desk", "numbers"] (defScope s_is_so) := ⟨rfl, rfl, rfl, by decide +kernel, rfl, by decide +kernel, by decide +kernel⟩
abbrev s_who : Stmt := top 98
theorem sc_who : FnScope ["desk", "numbers", "b"] ["desk", "numbers"] (defScope s_who) := ⟨rfl, rfl, rfl, by decide +kernel, rfl, by decide +kernel, by decide +kernel⟩
abbrev s_edges : Stmt := top 99
theorem sc_edges : FnScope ["desk", "numbers", "x", "y"] ["desk", "numbers"] (defScope s_edges) := ⟨rfl, rfl, rfl, by decide +kernel, rfl, by decide +kernel, by decide +kernel⟩
abbrev s_is_step : Stmt := top 100
theorem sc_is_step : FnScope ["r", "k"] ["r", "k"] (defScope s_is_step) := ⟨rfl, rfl, rfl, by decide +kernel, rfl, by decide +kernel, by decide +kernel⟩
abbrev s_are_steps : Stmt := top 101
theorem sc_are_steps : FnScope ["row", "at"] ["row"] (defScope s_are_steps) := ⟨rfl, rfl, rfl, by decide +kernel, rfl, by decide +kernel, by decide +kernel⟩
abbrev s_starts_of : Stmt := top 102
theorem sc_starts_of : FnScope ["desk", "row", "steps", "at"] ["desk", "row"] (defScope s_starts_of) := ⟨rfl, rfl, rfl, by decide +kernel, rfl, by decide +kernel, by decide +kernel⟩
abbrev s_chain : Stmt := top 103
theorem sc_chain : FnScope ["desk", "numbers", "x", "row"] ["desk", "numbers"] (defScope s_chain) := ⟨rfl, rfl, rfl, by decide +kernel, rfl, by decide +kernel, by decide +kernel⟩
abbrev s_from_all : Stmt := top 104
theorem sc_from_all : FnScope ["desk", "numbers", "row"] ["desk", "numbers"] (defScope s_from_all) := ⟨rfl, rfl, rfl, by decide +kernel, rfl, by decide +kernel, by decide +kernel⟩
abbrev s_sound : Stmt := top 105
theorem sc_sound : FnScope ["desk", "numbers", "wrong"] ["desk", "numbers"] (defScope s_sound) := ⟨rfl, rfl, rfl, by decide +kernel, rfl, by decide +kernel, by decide +kernel⟩
abbrev s_follows : Stmt := top 106
theorem sc_follows : FnScope ["desk", "numbers", "b", "c"] ["desk", "numbers"] (defScope s_follows) := ⟨rfl, rfl, rfl, by decide +kernel, rfl, by decide +kernel, by decide +kernel⟩
abbrev s_bad : Stmt := top 107
theorem sc_bad : FnScope ["desk", "numbers", "found", "answer", "b"] ["desk", "numbers"] (defScope s_bad) := ⟨rfl, rfl, rfl, by decide +kernel, rfl, by decide +kernel, by decide +kernel⟩
abbrev s_idle : Stmt := top 108
theorem sc_idle : FnScope ["desk", "numbers", "n", "others"] ["desk", "numbers"] (defScope s_idle) := ⟨rfl, rfl, rfl, by decide +kernel, rfl, by decide +kernel, by decide +kernel⟩
abbrev s_whence : Stmt := top 109
theorem sc_whence : FnScope ["desk", "numbers", "x", "b", "found"] ["desk", "numbers"] (defScope s_whence) := ⟨rfl, rfl, rfl, by decide +kernel, rfl, by decide +kernel, by decide +kernel⟩
abbrev s_fewest : Stmt := top 110
theorem sc_fewest : FnScope ["desk", "numbers"] ["desk", "numbers"] (defScope s_fewest) := ⟨rfl, rfl, rfl, by decide +kernel, rfl, by decide +kernel, by decide +kernel⟩
/-! ### Steps out of a row -/
def prs : List Nat → List (Nat × Nat)
  | r :: k :: l => (r, k) :: prs l
  | _ => []
def okStep (p : Nat × Nat) : Bool := Gq03.isRole p.1 && decide (p.2 ≤ 6)
theorem prs_len : ∀ (n : Nat) (l : List Nat), l.length = 2 * n → (prs l).length = n
  | 0, l, h => by
    have e : l = [] := List.eq_nil_of_length_eq_zero (by omega)
    subst e; rfl
  | n + 1, [], h => by simp at h
  | n + 1, [_], h => by simp at h; omega
  | n + 1, r :: k :: l, h => by
    simp only [List.length_cons] at h
    rw [prs, List.length_cons, prs_len n l (by omega)]
theorem prs_get : ∀ (l : List Nat) (i : Nat) (p : Nat × Nat), (prs l)[i]? = some p → l[2 * i]? = some p.1 ∧ l[2 * i + 1]? = some p.2
  | [], i, p, h => by simp [prs] at h
  | [_], i, p, h => by simp [prs] at h
  | r :: k :: l, 0, p, h => by
    simp [prs] at h
    subst h
    exact ⟨rfl, rfl⟩
  | r :: k :: l, i + 1, p, h => by
    have h' : (prs l)[i]? = some p := by simpa [prs] using h
    obtain ⟨h1, h2⟩ := prs_get l i p h'
    have e1 : 2 * (i + 1) = 2 * i + 1 + 1 := by omega
    rw [e1]
    exact ⟨by simpa using h1, by simpa using h2⟩
theorem ask_even : ∀ (n : Nat) (l : List Nat), l.length = 2 * n → Gq03.askOf l = if (prs l).all okStep = true then some (prs l) else none
  | 0, l, h => by
    have e : l = [] := List.eq_nil_of_length_eq_zero (by omega)
    subst e; rfl
  | n + 1, [], h => by simp at h
  | n + 1, [_], h => by simp at h; omega
  | n + 1, r :: k :: l, h => by
    simp only [List.length_cons] at h
    have ih := ask_even n l (by omega)
    rw [Gq03.askOf, prs, List.all_cons, ih]
    unfold okStep
    by_cases c : Gq03.isRole r = true ∧ k ≤ 6
    · rw [if_pos c, c.1, decide_eq_true c.2, Bool.true_and, Bool.true_and]
      split <;> rfl
    · rw [if_neg c, if_neg]
      intro w
      rw [Bool.and_eq_true, Bool.and_eq_true, decide_eq_true_iff] at w
      exact c w.1
theorem ask_odd : ∀ (n : Nat) (l : List Nat), l.length = 2 * n + 1 → Gq03.askOf l = none
  | n, [], h => by simp at h
  | n, [_], h => rfl
  | 0, _ :: _ :: _, h => by simp at h
  | n + 1, r :: k :: l, h => by
    simp only [List.length_cons] at h
    rw [Gq03.askOf, ask_odd n l (by omega)]
    split <;> rfl
def okRow (l : List Nat) : Bool := if l.length % 2 = 1 ∨ 8 < l.length then false else (prs l).all okStep
theorem okRow_ask {l : List Nat} (h : okRow l = true) : ∃ n, l.length = 2 * n ∧ n ≤ 4 ∧ Gq03.askOf l = some (prs l) := by
  unfold okRow at h
  split at h
  · cases h
  · rename_i c
    refine ⟨l.length / 2, by omega, by omega, ?_⟩
    rw [ask_even (l.length / 2) l (by omega), if_pos h]
theorem okRow_not {l : List Nat} (h : okRow l = false) : 8 < l.length ∨ Gq03.askOf l = none := by
  unfold okRow at h
  split at h
  · rename_i c
    rcases c with c | c
    · exact .inr (ask_odd (l.length / 2) l (by omega))
    · exact .inl c
  · rename_i c
    refine .inr ?_
    rw [ask_even (l.length / 2) l (by omega), if_neg (by rw [h]; decide)]
def rOZ : List Dx.Arg → List PyData → Prop := fun as ds => ∃ b : Bool, as = [.p (.bool b)] ∧ ds = (Gq03.flag b).map PyData.int
theorem rOZ_len : ∀ as d, rOZ as d → as.length = 1 := by rintro as d ⟨x, rfl, _⟩; rfl
abbrev sp_one_or_zero (K : PySem.W.Frag) : Sp := spN K rOZ
def rCt (K : PySem.W.Frag) : List Dx.Arg → List PyData → Prop := fun as ds => ∃ l : List Nat, as = [.x (IsOwn K (l.map eN))] ∧ l.length ≤ 1000 ∧ ds = (Gq03.told l).map PyData.int
theorem rCt_len {K : PySem.W.Frag} : ∀ as d, rCt K as d → as.length = 1 := by rintro as d ⟨x, rfl, _⟩; rfl
abbrev sp_counted (K : PySem.W.Frag) : Sp := spN K (rCt K)
def rStep : List Dx.Arg → PyData → Prop := fun as d => ∃ r k : Nat, as = [.p (eN r), .p (eN k)] ∧ d = .bool (okStep (r, k))
theorem rStep_len : ∀ as d, rStep as d → as.length = 2 := by rintro as d ⟨x, y, rfl, _⟩; rfl
abbrev sp_is_step (K : PySem.W.Frag) : Sp := spV K rStep
def rAre : List Dx.Arg → PyData → Prop := fun as d => ∃ l : List Nat, as = [.l (l.map eN)] ∧ d = .bool (okRow l)
theorem rAre_len : ∀ as d, rAre as d → as.length = 1 := by rintro as d ⟨x, rfl, _⟩; rfl
abbrev sp_are_steps (K : PySem.W.Frag) : Sp := spV K rAre
def IsDesk (K : PySem.W.Frag) (C : Addr) (d : Desk) (H : Hp) (v : V) : Prop := ∃ l : Pl, v = .ref l.a ∧ Dk K C H l d
def rSO (K : PySem.W.Frag) (C : Addr) : List Dx.Arg → List PyData → Prop := fun as ds => ∃ (d : Desk) (l : List Nat) (n : Nat), as = [.x (IsDesk K C d), .l (l.map eN)] ∧ Fit d ∧ l.length = 2 * n ∧ n ≤ 4 ∧ ds = (Gq03.allCertain d (prs l)).map eN
theorem rSO_len {K : PySem.W.Frag} {C : Addr} : ∀ as d, rSO K C as d → as.length = 2 := by rintro as d ⟨x, y, z, rfl, _⟩; rfl
abbrev sp_starts_of (K : PySem.W.Frag) (C : Addr) : Sp := spN K (rSO K C)
theorem told_eN (l : List Nat) : (Gq03.told l).map PyData.int = eN l.length :: l.map eN := by
  unfold Gq03.told Gq03.ints
  rw [List.map_map]
  rfl
theorem flag_eN (b : Bool) : (Gq03.flag b).map PyData.int = [.int (if b = true then 1 else 0)] := by
  cases b <;> rfl
section
variable {P : Program} {w : World} {K : PySem.W.Frag} {mg : Str → Option Value} {base : Heap} {C CL : Addr}
theorem ok_one_or_zero (T : Txt mg) (F : At K mg "one_or_zero" s_one_or_zero ["holds"]) : Def P w K mg base 1 "one_or_zero" ["holds"] (sp_one_or_zero K) := by
  refine F.ok sc_one_or_zero (spN_len rOZ_len) fun f cdv AA outer s H vs Q EE hr h => ?_
  obtain ⟨as, d, ha, ⟨b, rfl, rfl⟩, q⟩ := h
  obtain ⟨v1, rfl, hv1⟩ := args1 ha
  have hv1 : Dt K H v1 (.bool b) := hv1
  have nd := sc_one_or_zero.nd
  refine ⟨(tRet (tLst (tCons (tIf (tB (tVar 0)) (tC (.int 1)) (tC (.int 0))) tNil))), (pss_one (ps_ret (pe_lst (pa_cons (pe_ifExp (pt_val (pv 0)) pe_int pe_int) pa_nil)))), ?_⟩
  rw [flag_eN] at q
  refine s_retN (vn_lst [.int (if b = true then 1 else 0)] (va_p (ve_if (vt_B (ve_var rfl hv1)) (fun c => ?_) (fun c => ?_)) va_nil) (by simp)) q
  · rw [if_pos c]; exact ve_int
  · rw [if_neg (by rw [c]; decide)]; exact ve_int
theorem ok_counted (T : Txt mg) (F : At K mg "counted" s_counted ["found"]) : Def P w K mg base 1 "counted" ["found"] (sp_counted K) := by
  refine F.ok sc_counted (spN_len rCt_len) fun f cdv AA outer s H vs Q EE hr h => ?_
  obtain ⟨as, d, ha, ⟨l, rfl, hl, rfl⟩, q⟩ := h
  obtain ⟨v1, rfl, hv1⟩ := args1 ha
  obtain ⟨p, rfl, o⟩ : IsOwn K (l.map eN) H v1 := hv1 H (Ex.refl _)
  have nd := sc_counted.nd
  refine ⟨(tRet (tOp rCat (tLst (tCons (tCB (rLenS K) (tCons (tVar 0) tNil)) tNil)) (tVar 0))), (pss_one (ps_ret (pe_op op_cat (pe_lst (pa_cons (pe_callB call_len_seq (by rfl) T.b_len PySem.boot_len (pa_cons (pv 0) pa_nil)) pa_nil)) (pv 0)))), ?_⟩
  rw [told_eN] at q
  exact s_retN (vn_catO (vn_lst [eN l.length] (va_p ((ve_len (vo_var rfl o).l).to (by rw [List.length_map]; rfl)) va_nil) (by simp)).o (vo_var rfl o) (by rw [List.length_map, List.length_singleton]; omega)) q
theorem ok_is_step (T : Txt mg) (D_is_direction : Def P w K mg base 1 "is_direction" ["r"] (sp_is_direction K)) (D_is_kind : Def P w K mg base 1 "is_kind" ["k"] (sp_is_kind K)) (F : At K mg "is_step" s_is_step ["r", "k"]) : Def P w K mg base 2 "is_step" ["r", "k"] (sp_is_step K) := by
  refine F.ok sc_is_step (spV_len rStep_len) fun f cdv AA outer s H vs Q EE hr h => ?_
  obtain ⟨as, d, ha, ⟨r, k, rfl, rfl⟩, q⟩ := h
  obtain ⟨v1, v2, rfl, hv1, hv2⟩ := args2 ha
  have hv1 : Dt K H v1 (eN r) := hv1
  have hv2 : Dt K H v2 (eN k) := hv2
  have nd := sc_is_step.nd
  refine ⟨(tRet (tAndV (tCall (sp_is_direction K) [] E0 (tCons (tVar 0) tNil)) (tOrV (tOp rEq (tVar 1) (tC (.int 0))) (tCall (sp_is_kind K) [] E0 (tCons (tVar 1) tNil))))), (pss_one (ps_ret (pe_and (pe_def D_is_direction (hr.mono (by decide)) (by rfl) (pa_cons (pv 0) pa_nil)) (pe_one (pe_or (pe_cmpR op_eq (pv 1) pe_int (nomark _)) (pe_one (pe_def D_is_kind (hr.mono (by decide)) (by rfl) (pa_cons (pv 1) pa_nil)))))))), ?_⟩
  refine s_retV ((ve_andV (ve_call (va_p (ve_var rfl hv1) va_nil) ⟨_, rfl, rfl⟩) fun _ => ve_orV (ve_eqI (ve_var rfl hv2) ve_int) fun _ => ve_call (va_p (ve_var rfl hv2) va_nil) ⟨_, rfl, rfl⟩).to ?_) q
  unfold okStep
  rw [isR_iff]
  congr 2
  rw [Bool.eq_iff_iff]
  simp
  omega
theorem ok_are_steps (T : Txt mg) (D_is_step : Def P w K mg base 2 "is_step" ["r", "k"] (sp_is_step K)) (F : At K mg "are_steps" s_are_steps ["row"]) : Def P w K mg base 3 "are_steps" ["row"] (sp_are_steps K) := by
  refine F.ok sc_are_steps (spV_len rAre_len) fun f cdv AA outer s H vs Q EE hr h => ?_
  obtain ⟨as, d, ha, ⟨l, rfl, rfl⟩, q⟩ := h
  obtain ⟨v1, rfl, hv1⟩ := args1 ha
  have hv1 : Ls K H v1 (l.map eN) := hv1
  have nd := sc_are_steps.nd
  refine ⟨(tSeq (tIfS (tOr (tTest (tOp rEq (tOp (rI (fun _ j => 0 < j) fun i j => .int (i % j)) (tCB (rLenS K) (tCons (tVar 0) tNil)) (tC (.int 2))) (tC (.int 1)))) (tTest (tOp (rI0 fun i j => .bl (decide (j < i))) (tCB (rLenS K) (tCons (tVar 0) tNil)) (tOp (rI CMul fun i j => .int (i * j)) (tC (.int 2)) (tC (.int (4)))))))
      (tRet (tC (.bl false)))
      tNext)
    (tRet (tCB (L2.rAll K) (tCons (tLc (iRng3 (tCons (tC (.int 0)) (tCons (tCB (rLenS K) (tCons (tVar 0) tNil)) (tCons (tC (.int 2)) tNil)))) (gName 1) tYes (tCall (sp_is_step K) [] E0 (tCons (tOp (rIxL K) (tVar 0) (tVar 1)) (tCons (tOp (rIxL K) (tVar 0) (tOp (rI0 fun i j => .int (i + j)) (tVar 1) (tC (.int 1)))) tNil))) [1]) tNil)))), (pss_cons (ps_if (PW.pt (pw_or (pt_cmpR op_eq (pe_op op_mod (pe_callB call_len_seq (by rfl) T.b_len PySem.boot_len (pa_cons (pv 0) pa_nil)) pe_int) pe_int (nomark _)) (pw_or1 (pt_cmpR op_gt (pe_callB call_len_seq (by rfl) T.b_len PySem.boot_len (pa_cons (pv 0) pa_nil)) (pe_op op_mul pe_int (pe_gI T.c_MOST_STEPS)) (nomark _)))))
        (pss_one (ps_ret pe_bl))
        pss_nil)
      (pss_one (ps_ret (pe_callB (cr_all rfl) (by rfl) T.b_all (by decide +kernel) (pa_cons (pe_lc (own := [("at", 1)]) (g := (gName 1)) (tt := tYes) (te := (tCall (sp_is_step K) [] E0 (tCons (tOp (rIxL K) (tVar 0) (tVar 1)) (tCons (tOp (rIxL K) (tVar 0) (tOp (rI0 fun i j => .int (i + j)) (tVar 1) (tC (.int 1)))) tNil)))) rfl nd (pi_range3 (by rfl) T.b_range (pa_cons pe_int (pa_cons (pe_callB call_len_seq (by rfl) T.b_len PySem.boot_len (pa_cons (pv 0) pa_nil)) (pa_cons pe_int pa_nil)))) (blkOk_by (own := [("at", 1)]) (N := ["row", "at"]) (sc := defScope s_are_steps) (by decide +kernel)) (fun _ _ _ _ _ => by exact (pg_name (i := 1) nd rfl (Or.inl rfl))) (fun _ _ _ _ _ => by exact pts_nil) (fun _ _ _ _ _ => by exact (pe_def D_is_step (hr.mono (by decide)) (by rfl) (pa_cons (pe_ix ix_list (pv 0) (pv 1) (fun _ _ => rfl)) (pa_cons (pe_ix ix_list (pv 0) (pe_op op_add (pv 1) pe_int) (fun _ _ => rfl)) pa_nil))))) pa_nil))))), ?_⟩
  have ln : ∀ {H' : Hp} {σ : L2.St}, Ex H H' → σ[0]? = some (some v1) → Ve K (tCB (rLenS K) (tCons (tVar 0) tNil)) σ H' (.int ((l.length : Nat) : Int)) := fun e hs => (ve_len (vl_var hs (hv1.ex e))).to (by rw [List.length_map])
  have cnd : (decide ((l.length : Int) % 2 = 1) || decide ((2 : Int) * 4 < (l.length : Int))) = decide (l.length % 2 = 1 ∨ 8 < l.length) := by
    rw [Bool.eq_iff_iff]
    simp
    omega
  refine q_when (et_is (et_or (vt_test (ve_eqI (ve_I (g := (· % ·)) (i := (l.length : Int)) (j := 2) (by decide) (ln (Ex.refl _) rfl) ve_int) ve_int)) fun _ => vt_test (ve_B0 (g := fun i j => decide (j < i)) (ln (Ex.refl _) rfl) (ve_I (g := (· * ·)) (i := 2) (j := 4) (.inl ⟨by decide, by decide⟩) ve_int ve_int))) cnd) (fun c H1 e1 => ?_) (fun c H1 e1 => ?_)
  · have c := of_decide_eq_true c
    refine s_retV (K := K) ve_bl fun v H2 e2 hv => q v H2 (e1.trans e2) ?_
    unfold okRow
    rw [if_pos c]
    exact hv
  · have c := of_decide_eq_false c
    have len : l.length = 2 * (l.length / 2) := by omega
    have pl := prs_len _ l len
    refine s_retV (ve_allM (l := prs l) (h := okStep) (vn_lcS (prs l) (fun p => .bool (okStep p)) (va_p ve_int (va_p (ln e1 rfl) (va_p ve_int va_nil))) (by rw [pl]; have := rg_two (n := l.length / 2) (by omega); rw [← len] at this; exact this) (by omega) ?_).l) fun v H2 e2 hv => q v H2 (e1.trans e2) ?_
    · intro i p hp H2 e2
      obtain ⟨g1, g2⟩ := prs_get l i p hp
      have e12 := e1.trans e2
      exact ⟨[some v1, some (.int ((2 * i : Nat) : Int))], fun Q h => h, rfl, ve_call (va_p (ve_ixL (i := 2 * i) (vl_var rfl (hv1.ex e12)) (ve_var rfl .int) (by rw [List.getElem?_map, g1]; rfl)) (va_p (ve_ixL (i := 2 * i + 1) (vl_var rfl (hv1.ex e12)) ((ve_I0 (g := (· + ·)) (ve_var rfl .int) ve_int).to (by congr 1)) (by rw [List.getElem?_map, g2]; rfl)) va_nil)) ⟨p.1, p.2, rfl, rfl⟩⟩
    · unfold okRow
      rw [if_neg c]
      exact hv
/-- Laws(desk.rules) -/
theorem vx_laws (X : Cl K C) {l : Pl} {d : Desk} {σ : L2.St} {H : Hp} (dk : Dk K C H l d) (fit : Fit d) {i : Nat} (hs : σ[i]? = some (some (.ref l.a))) : Vx (tMake CL (sp_Laws K CL) [] E0 (tCons (tFld K (tVar i) "rules") tNil)) σ H (IsLawsB K CL d.rules) :=
  vx_make (va_l (vo_ev (ev_rules X dk hs) dk.rules).l va_nil) ⟨d.rules, rfl, fit.ok.rules, fit.rl, rfl⟩
theorem vl_told (X : Cl K C) {l : Pl} {d : Desk} {σ : L2.St} {H : Hp} (dk : Dk K C H l d) {i : Nat} (hs : σ[i]? = some (some (.ref l.a))) : Vl K (tFld K (tVar i) "told") σ H (d.facts.map eF) := (vo_ev (ev_told X dk hs) dk.told).l
theorem ok_starts_of (T : Txt mg) (X : Cl K C) (D_certain_starts : Def P w K mg base 9 "certain_starts" ["told", "laws", "steps"] (sp_certain_starts K CL)) {fL : Addr} {fdL : FuncData} (M_Laws : Mk K CL fL) (G_Laws : FnOk P w K mg base CX0 6 fL fdL ["self", "rules"] (sp_Laws K CL)) (b_Laws : Binds K fdL ["self", "rules"] []) (mg_Laws : mg "Laws" = some (.ref CL)) (F : At K mg "starts_of" s_starts_of ["desk", "row"]) : Def P w K mg base 10 "starts_of" ["desk", "row"] (sp_starts_of K C) := by
  refine F.ok sc_starts_of (spN_len rSO_len) fun f cdv AA outer s H vs Q EE hr h => ?_
  obtain ⟨as, d, ha, ⟨d, l, n, rfl, fit, ln, n4, rfl⟩, q⟩ := h
  obtain ⟨v1, v2, rfl, hv1, hv2⟩ := args2 ha
  obtain ⟨pl, rfl, dk⟩ : IsDesk K C d H v1 := hv1 H (Ex.refl _)
  have hv2 : Ls K H v2 (l.map eN) := hv2
  have nd := sc_starts_of.nd
  refine ⟨(tSeq (tAsg (tLc (iRng3 (tCons (tC (.int 0)) (tCons (tCB (rLenS K) (tCons (tVar 1) tNil)) (tCons (tC (.int 2)) tNil)))) (gName 3) tYes (tTup (tCons (tOp (rIxL K) (tVar 1) (tVar 3)) (tCons (tOp (rIxL K) (tVar 1) (tOp (rI0 fun i j => .int (i + j)) (tVar 3) (tC (.int 1)))) tNil))) [3]) (gName 2))
    (tRet (tCall (sp_certain_starts K CL) [] E0 (tCons (tFld K (tVar 0) "told") (tCons (tMake CL (sp_Laws K CL) [] E0 (tCons (tFld K (tVar 0) "rules") tNil)) (tCons (tVar 2) tNil)))))), (pss_cons (ps_setLc (i := 2) (own := [("at", 3)]) (g := (gName 3)) (tt := tYes) (te := (tTup (tCons (tOp (rIxL K) (tVar 1) (tVar 3)) (tCons (tOp (rIxL K) (tVar 1) (tOp (rI0 fun i j => .int (i + j)) (tVar 3) (tC (.int 1)))) tNil)))) rfl nd rfl rfl (sw_true rfl rfl rfl (by decide +kernel)) (pi_range3 (by rfl) T.b_range (pa_cons pe_int (pa_cons (pe_callB call_len_seq (by rfl) T.b_len PySem.boot_len (pa_cons (pv 1) pa_nil)) (pa_cons pe_int pa_nil)))) (blkOk_by (own := [("at", 3)]) (N := ["desk", "row", "steps", "at"]) (sc := defScope s_starts_of) (by decide +kernel)) (fun _ _ _ _ _ => by exact (pg_name (i := 3) nd rfl (Or.inl rfl))) (fun _ _ _ _ _ => by exact pts_nil) (fun _ _ _ _ _ => by exact (pe_tup (pa_cons (pe_ix ix_list (pv 1) (pv 3) (fun _ _ => rfl)) (pa_cons (pe_ix ix_list (pv 1) (pe_op op_add (pv 3) pe_int) (fun _ _ => rfl)) pa_nil)))))
      (pss_one (ps_ret (pe_def D_certain_starts (hr.mono (by decide)) (by rfl) (pa_cons (pe_fld (pv 0) rfl) (pa_cons (pe_make M_Laws G_Laws (hr.mono (by decide)) (by rfl) mg_Laws b_Laws .nil pass0 (pa_cons (pe_fld (pv 0) rfl) pa_nil)) (pa_cons (pv 2) pa_nil))))))), ?_⟩
  have pn := prs_len n l ln
  refine q_setN (vn_lcS (prs l) eP (va_p ve_int (va_p ((ve_len (vl_var rfl hv2)).to (by rw [List.length_map])) (va_p ve_int va_nil))) (by rw [pn, ln]; exact rg_two n4) (by omega) ?_) fun p H1 n1 e1 o1 => ?_
  · intro i p hp H2 e2
    obtain ⟨g1, g2⟩ := prs_get l i p hp
    exact ⟨[some (.ref pl.a), some v2, none, some (.int ((2 * i : Nat) : Int))], fun Q h => h, rfl, ve_tup [.int (p.1 : Int), .int (p.2 : Int)] (va_p (ve_ixL (i := 2 * i) (vl_var rfl (hv2.ex e2)) (ve_var rfl .int) (by rw [List.getElem?_map, g1]; rfl)) (va_p (ve_ixL (i := 2 * i + 1) (vl_var rfl (hv2.ex e2)) ((ve_I0 (g := (· + ·)) (ve_var rfl .int) ve_int).to (by congr 1)) (by rw [List.getElem?_map, g2]; rfl)) va_nil)) (by simp)⟩
  have dk1 := dk.ex e1
  exact s_retN (vn_call (va_l (vl_told X dk1 rfl) (va_x (vx_laws X dk1 fit rfl) (va_l (vo_var rfl o1).l va_nil))) ⟨d, prs l, rfl, fit, by omega, rfl⟩) fun p2 H2 n2 e2 o2 => q p2 H2 (fresh_back e1 n2) (e1.trans e2) o2
/-! ### the calls -/
def rXB (mk : Nat → Basic → Gq03.Call) (d : Desk) (ns : List Int) (d' : Desk) (ans : List Int) : Prop := ∃ x s a : Nat, ns = [(x : Int), (s : Int), (a : Int)] ∧ (d', ans) = Gq03.step d (mk x (Gq03Neutral.basic s a))
def rWho (d : Desk) (ns : List Int) (d' : Desk) (ans : List Int) : Prop := ∃ s a : Nat, ns = [(s : Int), (a : Int)] ∧ (d', ans) = Gq03.step d (.who (Gq03Neutral.basic s a))
def rNo (c : Gq03.Call) (d : Desk) (ns : List Int) (d' : Desk) (ans : List Int) : Prop := ns = [] ∧ (d', ans) = Gq03.step d c
def rChain (d : Desk) (ns : List Int) (d' : Desk) (ans : List Int) : Prop := ∃ (x : Nat) (l : List Nat), ns = (x : Int) :: (l.length : Int) :: ofN l ∧ (d', ans) = Gq03.step d (.chain x l)
def rAllS (d : Desk) (ns : List Int) (d' : Desk) (ans : List Int) : Prop := ∃ (l : List Nat), ns = (l.length : Int) :: ofN l ∧ (d', ans) = Gq03.step d (.all l)
theorem ok_is_so (T : Txt mg) (X : Cl K C) (D_is_node : Def P w K mg base 1 "is_node" ["x"] (sp_is_node K)) (D_is_basic : Def P w K mg base 2 "is_basic" ["b"] (sp_is_basic K)) (D_certain_nodes : Def P w K mg base 8 "certain_nodes" ["told", "laws", "b"] (sp_certain_nodes K CL)) (D_one_or_zero : Def P w K mg base 1 "one_or_zero" ["holds"] (sp_one_or_zero K)) {fL : Addr} {fdL : FuncData} (M_Laws : Mk K CL fL) (G_Laws : FnOk P w K mg base CX0 6 fL fdL ["self", "rules"] (sp_Laws K CL)) (b_Laws : Binds K fdL ["self", "rules"] []) (mg_Laws : mg "Laws" = some (.ref CL)) (F : At K mg "is_so" s_is_so ["desk", "numbers"]) : Def P w K mg base 9 "is_so" ["desk", "numbers"] (spC K C (rXB fun x b => .is_ x b)) := by
  refine F.ok sc_is_so spC_len fun f cdv AA outer s H vs Q EE hr h => ?_
  obtain ⟨l, d, n, ns, d', ans, rfl, dk, fit, hn, ⟨x, s1, a1, rfl, e⟩, q⟩ := h
  have nd := sc_is_so.nd
  have hu := hu65 hr
  refine ⟨(tSeq (tAsg (tOp (rIxL K) (tVar 1) (tC (.int 0))) (gName 2))
    (tSeq (tAsg (tTup (tCons (tOp (rIxL K) (tVar 1) (tC (.int 1))) (tCons (tOp (rIxL K) (tVar 1) (tC (.int 2))) tNil))) (gName 3))
    (tSeq (tIfS (tNot (tAnd (tB (tCall (sp_is_node K) [] E0 (tCons (tVar 2) tNil))) (tB (tCall (sp_is_basic K) [] E0 (tCons (tVar 3) tNil)))))
      (tRet (tLst (tCons (tC (.int (-1))) tNil)))
      tNext)
    (tRet (tCall (sp_one_or_zero K) [] E0 (tCons (tOp (rInD K) (tVar 2) (tCall (sp_certain_nodes K CL) [] E0 (tCons (tFld K (tVar 0) "told") (tCons (tMake CL (sp_Laws K CL) [] E0 (tCons (tFld K (tVar 0) "rules") tNil)) (tCons (tVar 3) tNil))))) tNil)))))), (pss_cons (ps_set (i := 2) nd rfl (Or.inl rfl) (pe_ix ix_list (pv 1) pe_int (fun _ _ => rfl)))
      (pss_cons (ps_set (i := 3) nd rfl (Or.inl rfl) (pe_tup (pa_cons (pe_ix ix_list (pv 1) pe_int (fun _ _ => rfl)) (pa_cons (pe_ix ix_list (pv 1) pe_int (fun _ _ => rfl)) pa_nil))))
      (pss_cons (ps_if (pt_not (PW.pt (pw_and (pt_val (pe_def D_is_node (hr.mono (by decide)) (by rfl) (pa_cons (pv 2) pa_nil))) (pw_and1 (pt_val (pe_def D_is_basic (hr.mono (by decide)) (by rfl) (pa_cons (pv 3) pa_nil)))))))
        (pss_one (ps_ret (pe_lst (pa_cons (pe_gI T.c_NO_SUCH_NUMBER) pa_nil))))
        pss_nil)
      (pss_one (ps_ret (pe_def D_one_or_zero (hr.mono (by decide)) (by rfl) (pa_cons (pe_cmpR (op_inD hu) (pv 2) (pe_def D_certain_nodes (hr.mono (by decide)) (by rfl) (pa_cons (pe_fld (pv 0) rfl) (pa_cons (pe_make M_Laws G_Laws (hr.mono (by decide)) (by rfl) mg_Laws b_Laws .nil pass0 (pa_cons (pe_fld (pv 0) rfl) pa_nil)) (pa_cons (pv 3) pa_nil)))) (by rfl)) pa_nil))))))), ?_⟩
  have fin : ∀ {te : TE} {σ : L2.St} {H1 : Hp} {D : Ends}, d' = d → D.rt = Q → Ex H H1 → Vn K te σ H1 (ans.map PyData.int) → tRet te D σ H1 := fun ed hD e1 h => s_retN h fun p H2 n2 e2 o2 => by
    subst ed
    rw [hD]
    exact q p H2 (.of (e1.trans e2)) (dk.ex (e1.trans e2)) (fresh_back e1 n2) o2
  refine q_setV (ve_ixL (i := 0) (vl_var rfl hn) ve_int rfl) fun v1 H1 e1 h1 => ?_
  refine q_setV (ve_tup [.int (s1 : Int), .int (a1 : Int)] (va_p (ve_ixL (i := 1) (vl_var rfl (hn.ex e1)) ve_int rfl) (va_p (ve_ixL (i := 2) (vl_var rfl (hn.ex e1)) ve_int rfl) va_nil)) (by simp)) fun v2 H2 e2 h2 => ?_
  have h1 := h1.ex e2
  have e12 := e1.trans e2
  refine q_when (et_not (et_and (vt_B (ve_call (va_p (ve_var rfl h1) va_nil) ⟨_, rfl, rfl⟩)) fun _ => vt_B (ve_call (va_p (ve_var rfl h2) va_nil) ⟨_, _, rfl, rfl⟩))) (fun c H3 e3 => ?_) (fun c H3 e3 => ?_)
  · rw [isN_iff, isB_iff] at c
    have e' : Gq03.step d (.is_ x (Gq03Neutral.basic s1 a1)) = (d, [-1]) := by
      show (d, _) = _
      rw [if_pos]
      simpa using c
    rw [e'] at e
    cases e
    exact fin rfl rfl (e12.trans e3) (vn_lst (K := K) [.int (-1)] (va_p ve_int va_nil) (by simp))
  · have b1 : isB (s1 : Int) (a1 : Int) = true := by simp at c; exact c.2
    rw [isN_iff, isB_iff] at c
    have hx : Gq03.isNode x = true := by simp at c; exact c.1
    have e' : Gq03.step d (.is_ x (Gq03Neutral.basic s1 a1)) = (d, Gq03.flag (Gq03.isCertain d x (Gq03Neutral.basic s1 a1))) := by
      show (d, _) = _
      rw [if_neg]
      simpa using c
    rw [e'] at e
    cases e
    rw [eB_of b1] at h2
    have e13 := e12.trans e3
    have dk3 := dk.ex e13
    exact fin rfl rfl e13 (vn_call (va_p ((ve_inE encN (a := x) (ve_var rfl (h1.ex e3)) (vn_call (va_l (vl_told X dk3 rfl) (va_x (vx_laws X dk3 fit rfl) (va_p (ve_var rfl (h2.ex e3)) va_nil))) ⟨d, _, rfl, fit, rfl⟩).l).to (by rw [filter_contains (List.contains_iff_mem.mp hx)])) va_nil) ⟨_, rfl, rfl⟩)
theorem ok_who (T : Txt mg) (X : Cl K C) (D_is_basic : Def P w K mg base 2 "is_basic" ["b"] (sp_is_basic K)) (D_certain_nodes : Def P w K mg base 8 "certain_nodes" ["told", "laws", "b"] (sp_certain_nodes K CL)) (D_counted : Def P w K mg base 1 "counted" ["found"] (sp_counted K)) {fL : Addr} {fdL : FuncData} (M_Laws : Mk K CL fL) (G_Laws : FnOk P w K mg base CX0 6 fL fdL ["self", "rules"] (sp_Laws K CL)) (b_Laws : Binds K fdL ["self", "rules"] []) (mg_Laws : mg "Laws" = some (.ref CL)) (F : At K mg "who" s_who ["desk", "numbers"]) : Def P w K mg base 9 "who" ["desk", "numbers"] (spC K C (rWho)) := by
  refine F.ok sc_who spC_len fun f cdv AA outer s H vs Q EE hr h => ?_
  obtain ⟨l, d, n, ns, d', ans, rfl, dk, fit, hn, ⟨s1, a1, rfl, e⟩, q⟩ := h
  have nd := sc_who.nd
  have hu := hu65 hr
  refine ⟨(tSeq (tAsg (tTup (tCons (tOp (rIxL K) (tVar 1) (tC (.int 0))) (tCons (tOp (rIxL K) (tVar 1) (tC (.int 1))) tNil))) (gName 2))
    (tSeq (tIfS (tNot (tB (tCall (sp_is_basic K) [] E0 (tCons (tVar 2) tNil))))
      (tRet (tLst (tCons (tC (.int (-1))) tNil)))
      tNext)
    (tRet (tCall (sp_counted K) [] E0 (tCons (tCall (sp_certain_nodes K CL) [] E0 (tCons (tFld K (tVar 0) "told") (tCons (tMake CL (sp_Laws K CL) [] E0 (tCons (tFld K (tVar 0) "rules") tNil)) (tCons (tVar 2) tNil)))) tNil))))), (pss_cons (ps_set (i := 2) nd rfl (Or.inl rfl) (pe_tup (pa_cons (pe_ix ix_list (pv 1) pe_int (fun _ _ => rfl)) (pa_cons (pe_ix ix_list (pv 1) pe_int (fun _ _ => rfl)) pa_nil))))
      (pss_cons (ps_if (pt_not (pt_val (pe_def D_is_basic (hr.mono (by decide)) (by rfl) (pa_cons (pv 2) pa_nil))))
        (pss_one (ps_ret (pe_lst (pa_cons (pe_gI T.c_NO_SUCH_NUMBER) pa_nil))))
        pss_nil)
      (pss_one (ps_ret (pe_def D_counted (hr.mono (by decide)) (by rfl) (pa_cons (pe_def D_certain_nodes (hr.mono (by decide)) (by rfl) (pa_cons (pe_fld (pv 0) rfl) (pa_cons (pe_make M_Laws G_Laws (hr.mono (by decide)) (by rfl) mg_Laws b_Laws .nil pass0 (pa_cons (pe_fld (pv 0) rfl) pa_nil)) (pa_cons (pv 2) pa_nil)))) pa_nil)))))), ?_⟩
  have fin : ∀ {te : TE} {σ : L2.St} {H1 : Hp} {D : Ends}, d' = d → D.rt = Q → Ex H H1 → Vn K te σ H1 (ans.map PyData.int) → tRet te D σ H1 := fun ed hD e1 h => s_retN h fun p H2 n2 e2 o2 => by
    subst ed
    rw [hD]
    exact q p H2 (.of (e1.trans e2)) (dk.ex (e1.trans e2)) (fresh_back e1 n2) o2
  refine q_setV (ve_tup [.int (s1 : Int), .int (a1 : Int)] (va_p (ve_ixL (i := 0) (vl_var rfl hn) ve_int rfl) (va_p (ve_ixL (i := 1) (vl_var rfl hn) ve_int rfl) va_nil)) (by simp)) fun v2 H2 e2 h2 => ?_
  refine q_when (et_not (vt_B (ve_call (va_p (ve_var rfl h2) va_nil) ⟨_, _, rfl, rfl⟩))) (fun c H3 e3 => ?_) (fun c H3 e3 => ?_)
  · rw [isB_iff] at c
    have e' : Gq03.step d (.who (Gq03Neutral.basic s1 a1)) = (d, [-1]) := by
      show (d, _) = _
      rw [if_pos]
      simpa using c
    rw [e'] at e
    cases e
    exact fin rfl rfl (e2.trans e3) (vn_lst (K := K) [.int (-1)] (va_p ve_int va_nil) (by simp))
  · have b1 : isB (s1 : Int) (a1 : Int) = true := by simpa using c
    rw [isB_iff] at c
    have e' : Gq03.step d (.who (Gq03Neutral.basic s1 a1)) = (d, Gq03.told (Gq03.nodes.filter fun x => Gq03.isCertain d x (Gq03Neutral.basic s1 a1))) := by
      show (d, _) = _
      rw [if_neg]
      simpa using c
    rw [e'] at e
    cases e
    rw [eB_of b1] at h2
    have e13 := e2.trans e3
    have dk3 := dk.ex e13
    have cl : (Gq03.nodes.filter fun x => Gq03.isCertain d x (Gq03Neutral.basic s1 a1)).length ≤ 8 := List.length_filter_le _ _
    exact fin rfl rfl e13 (vn_call (va_x (Vn.ox (vn_call (va_l (vl_told X dk3 rfl) (va_x (vx_laws X dk3 fit rfl) (va_p (ve_var rfl (h2.ex e3)) va_nil))) ⟨d, _, rfl, fit, rfl⟩)) va_nil) ⟨_, rfl, by omega, rfl⟩)
theorem ok_edges (T : Txt mg) (X : Cl K C) (D_is_node : Def P w K mg base 1 "is_node" ["x"] (sp_is_node K)) (D_certain_directions : Def P w K mg base 8 "certain_directions" ["told", "laws", "x", "y"] (sp_certain_directions K CL)) (D_counted : Def P w K mg base 1 "counted" ["found"] (sp_counted K)) {fL : Addr} {fdL : FuncData} (M_Laws : Mk K CL fL) (G_Laws : FnOk P w K mg base CX0 6 fL fdL ["self", "rules"] (sp_Laws K CL)) (b_Laws : Binds K fdL ["self", "rules"] []) (mg_Laws : mg "Laws" = some (.ref CL)) (F : At K mg "edges" s_edges ["desk", "numbers"]) : Def P w K mg base 9 "edges" ["desk", "numbers"] (spC K C (rRole fun x y => .edges x y)) := by
  refine F.ok sc_edges spC_len fun f cdv AA outer s H vs Q EE hr h => ?_
  obtain ⟨l, d, n, ns, d', ans, rfl, dk, fit, hn, ⟨x, y, rfl, e⟩, q⟩ := h
  have nd := sc_edges.nd
  have hu := hu65 hr
  refine ⟨(tSeq (tAsg (tOp (rIxL K) (tVar 1) (tC (.int 0))) (gName 2))
    (tSeq (tAsg (tOp (rIxL K) (tVar 1) (tC (.int 1))) (gName 3))
    (tSeq (tIfS (tNot (tAnd (tB (tCall (sp_is_node K) [] E0 (tCons (tVar 2) tNil))) (tB (tCall (sp_is_node K) [] E0 (tCons (tVar 3) tNil)))))
      (tRet (tLst (tCons (tC (.int (-1))) tNil)))
      tNext)
    (tRet (tCall (sp_counted K) [] E0 (tCons (tCall (sp_certain_directions K CL) [] E0 (tCons (tFld K (tVar 0) "told") (tCons (tMake CL (sp_Laws K CL) [] E0 (tCons (tFld K (tVar 0) "rules") tNil)) (tCons (tVar 2) (tCons (tVar 3) tNil))))) tNil)))))), (pss_cons (ps_set (i := 2) nd rfl (Or.inl rfl) (pe_ix ix_list (pv 1) pe_int (fun _ _ => rfl)))
      (pss_cons (ps_set (i := 3) nd rfl (Or.inl rfl) (pe_ix ix_list (pv 1) pe_int (fun _ _ => rfl)))
      (pss_cons (ps_if (pt_not (PW.pt (pw_and (pt_val (pe_def D_is_node (hr.mono (by decide)) (by rfl) (pa_cons (pv 2) pa_nil))) (pw_and1 (pt_val (pe_def D_is_node (hr.mono (by decide)) (by rfl) (pa_cons (pv 3) pa_nil)))))))
        (pss_one (ps_ret (pe_lst (pa_cons (pe_gI T.c_NO_SUCH_NUMBER) pa_nil))))
        pss_nil)
      (pss_one (ps_ret (pe_def D_counted (hr.mono (by decide)) (by rfl) (pa_cons (pe_def D_certain_directions (hr.mono (by decide)) (by rfl) (pa_cons (pe_fld (pv 0) rfl) (pa_cons (pe_make M_Laws G_Laws (hr.mono (by decide)) (by rfl) mg_Laws b_Laws .nil pass0 (pa_cons (pe_fld (pv 0) rfl) pa_nil)) (pa_cons (pv 2) (pa_cons (pv 3) pa_nil))))) pa_nil))))))), ?_⟩
  have fin : ∀ {te : TE} {σ : L2.St} {H1 : Hp} {D : Ends}, d' = d → D.rt = Q → Ex H H1 → Vn K te σ H1 (ans.map PyData.int) → tRet te D σ H1 := fun ed hD e1 h => s_retN h fun p H2 n2 e2 o2 => by
    subst ed
    rw [hD]
    exact q p H2 (.of (e1.trans e2)) (dk.ex (e1.trans e2)) (fresh_back e1 n2) o2
  refine q_setV (ve_ixL (i := 0) (vl_var rfl hn) ve_int rfl) fun v1 H1 e1 h1 => ?_
  refine q_setV (ve_ixL (i := 1) (vl_var rfl (hn.ex e1)) ve_int rfl) fun v2 H2 e2 h2 => ?_
  have h1 := h1.ex e2
  have e12 := e1.trans e2
  refine q_when (et_not (et_and (vt_B (ve_call (va_p (ve_var rfl h1) va_nil) ⟨_, rfl, rfl⟩)) fun _ => vt_B (ve_call (va_p (ve_var rfl h2) va_nil) ⟨_, rfl, rfl⟩))) (fun c H3 e3 => ?_) (fun c H3 e3 => ?_)
  · rw [isN_iff, isN_iff] at c
    have e' : Gq03.step d (.edges x y) = (d, [-1]) := by
      show (d, _) = _
      rw [if_pos]
      simpa using c
    rw [e'] at e
    cases e
    exact fin rfl rfl (e12.trans e3) (vn_lst (K := K) [.int (-1)] (va_p ve_int va_nil) (by simp))
  · rw [isN_iff, isN_iff] at c
    have e' : Gq03.step d (.edges x y) = (d, Gq03.told (Gq03.roles.filter fun r => Gq03.edgeCertain d x y r)) := by
      show (d, _) = _
      rw [if_neg]
      simpa using c
    rw [e'] at e
    cases e
    have e13 := e12.trans e3
    have dk3 := dk.ex e13
    have cl : (Gq03.roles.filter fun r => Gq03.edgeCertain d x y r).length ≤ 8 := List.length_filter_le _ _
    exact fin rfl rfl e13 (vn_call (va_x (Vn.ox (vn_call (va_l (vl_told X dk3 rfl) (va_x (vx_laws X dk3 fit rfl) (va_p (ve_var rfl (h1.ex e3)) (va_p (ve_var rfl (h2.ex e3)) va_nil)))) ⟨d, x, y, rfl, fit, rfl⟩)) va_nil) ⟨_, rfl, Nat.le_trans cl (by decide), rfl⟩)
theorem ok_chain (T : Txt mg) (X : Cl K C) (D_is_node : Def P w K mg base 1 "is_node" ["x"] (sp_is_node K)) (D_are_steps : Def P w K mg base 3 "are_steps" ["row"] (sp_are_steps K)) (D_starts_of : Def P w K mg base 10 "starts_of" ["desk", "row"] (sp_starts_of K C)) (D_one_or_zero : Def P w K mg base 1 "one_or_zero" ["holds"] (sp_one_or_zero K)) (F : At K mg "chain" s_chain ["desk", "numbers"]) : Def P w K mg base 11 "chain" ["desk", "numbers"] (spC K C (rChain)) := by
  refine F.ok sc_chain spC_len fun f cdv AA outer s H vs Q EE hr h => ?_
  obtain ⟨l, d, n, ns, d', ans, rfl, dk, fit, hn, ⟨x, st, rfl, e⟩, q⟩ := h
  have nd := sc_chain.nd
  have hu := hu65 hr
  refine ⟨(tSeq (tAsg (tOp (rIxL K) (tVar 1) (tC (.int 0))) (gName 2))
    (tSeq (tAsg (tSl (rSlL K) (tVar 1) (tPart (tC (.int 2))) tNoPart) (gName 3))
    (tSeq (tIfS (tNot (tAnd (tB (tCall (sp_is_node K) [] E0 (tCons (tVar 2) tNil))) (tB (tCall (sp_are_steps K) [] E0 (tCons (tVar 3) tNil)))))
      (tRet (tLst (tCons (tC (.int (-1))) tNil)))
      tNext)
    (tRet (tCall (sp_one_or_zero K) [] E0 (tCons (tOp (rInD K) (tVar 2) (tCall (sp_starts_of K C) [] E0 (tCons (tVar 0) (tCons (tVar 3) tNil)))) tNil)))))), (pss_cons (ps_set (i := 2) nd rfl (Or.inl rfl) (pe_ix ix_list (pv 1) pe_int (fun _ _ => rfl)))
      (pss_cons (ps_set (i := 3) nd rfl (Or.inl rfl) (pe_slice sl_list (pv 1) (po_some pe_int) po_none))
      (pss_cons (ps_if (pt_not (PW.pt (pw_and (pt_val (pe_def D_is_node (hr.mono (by decide)) (by rfl) (pa_cons (pv 2) pa_nil))) (pw_and1 (pt_val (pe_def D_are_steps (hr.mono (by decide)) (by rfl) (pa_cons (pv 3) pa_nil)))))))
        (pss_one (ps_ret (pe_lst (pa_cons (pe_gI T.c_NO_SUCH_NUMBER) pa_nil))))
        pss_nil)
      (pss_one (ps_ret (pe_def D_one_or_zero (hr.mono (by decide)) (by rfl) (pa_cons (pe_cmpR (op_inD hu) (pv 2) (pe_def D_starts_of (hr.mono (by decide)) (by rfl) (pa_cons (pv 0) (pa_cons (pv 3) pa_nil))) (by rfl)) pa_nil))))))), ?_⟩
  have fin : ∀ {te : TE} {σ : L2.St} {H1 : Hp} {D : Ends}, d' = d → D.rt = Q → Ex H H1 → Vn K te σ H1 (ans.map PyData.int) → tRet te D σ H1 := fun ed hD e1 h => s_retN h fun p H2 n2 e2 o2 => by
    subst ed
    rw [hD]
    exact q p H2 (.of (e1.trans e2)) (dk.ex (e1.trans e2)) (fresh_back e1 n2) o2
  refine q_setV (ve_ixL (i := 0) (vl_var rfl hn) ve_int rfl) fun v1 H1 e1 h1 => ?_
  refine q_setN ((vn_slFrom (lo := 2) (vl_var rfl (hn.ex e1)) ve_int).to (es := st.map eN) (by
    show ((ofN st).map PyData.int) = _
    unfold ofN
    rw [List.map_map]
    rfl)) fun p H2 n2 e2 o2 => ?_
  have h1 := h1.ex e2
  have e12 := e1.trans e2
  refine q_when (et_not (et_and (vt_B (ve_call (va_p (ve_var rfl h1) va_nil) ⟨_, rfl, rfl⟩)) fun _ => vt_B (ve_call (va_l (vo_var rfl o2).l va_nil) ⟨_, rfl, rfl⟩))) (fun c H3 e3 => ?_) (fun c H3 e3 => ?_)
  · rw [isN_iff] at c
    have e' : Gq03.step d (.chain x st) = (d, [-1]) := by
      show (d, _) = _
      by_cases h8 : Gq03.isNode x = false ∨ 8 < st.length
      · rw [if_pos h8]
      · rw [if_neg h8]
        have ok : okRow st = false := by
          simp only [not_or, Bool.not_eq_false] at h8
          rw [h8.1] at c
          simpa using c
        have an : Gq03.askOf st = none := (okRow_not ok).resolve_left fun h => h8 (.inr h)
        rw [an]
    rw [e'] at e
    cases e
    exact fin rfl rfl (e12.trans e3) (vn_lst (K := K) [.int (-1)] (va_p ve_int va_nil) (by simp))
  · rw [isN_iff] at c
    have hx : Gq03.isNode x = true := by simp at c; exact c.1
    have ok : okRow st = true := by simp at c; exact c.2
    obtain ⟨m, lm, m4, an⟩ := okRow_ask ok
    have e' : Gq03.step d (.chain x st) = (d, Gq03.flag (Gq03.chainCertain d x (prs st))) := by
      show (d, _) = _
      rw [if_neg (by rw [hx]; simp; omega), an]
    rw [e'] at e
    cases e
    have e13 := e12.trans e3
    have dk3 := dk.ex e13
    refine fin rfl rfl e13 (vn_call (va_p ((ve_inE encN (a := x) (ve_var rfl (h1.ex e3)) (vn_call (va_x (vx_var rfl fun H' e' => ⟨l, rfl, dk3.ex e'⟩) (va_l (vo_var rfl (o2.ex e3)).l va_nil)) ⟨d, st, m, rfl, fit, lm, m4, rfl⟩).l).to ?_) va_nil) ⟨_, rfl, rfl⟩)
    congr 1
    unfold Gq03.allCertain Gq03.chainCertain
    dsimp only
    rw [filter_contains (List.contains_iff_mem.mp hx)]
theorem ok_from_all (T : Txt mg) (X : Cl K C) (D_are_steps : Def P w K mg base 3 "are_steps" ["row"] (sp_are_steps K)) (D_starts_of : Def P w K mg base 10 "starts_of" ["desk", "row"] (sp_starts_of K C)) (D_counted : Def P w K mg base 1 "counted" ["found"] (sp_counted K)) (F : At K mg "from_all" s_from_all ["desk", "numbers"]) : Def P w K mg base 11 "from_all" ["desk", "numbers"] (spC K C (rAllS)) := by
  refine F.ok sc_from_all spC_len fun f cdv AA outer s H vs Q EE hr h => ?_
  obtain ⟨l, d, n, ns, d', ans, rfl, dk, fit, hn, ⟨st, rfl, e⟩, q⟩ := h
  have nd := sc_from_all.nd
  have hu := hu65 hr
  refine ⟨(tSeq (tAsg (tSl (rSlL K) (tVar 1) (tPart (tC (.int 1))) tNoPart) (gName 2))
    (tSeq (tIfS (tNot (tB (tCall (sp_are_steps K) [] E0 (tCons (tVar 2) tNil))))
      (tRet (tLst (tCons (tC (.int (-1))) tNil)))
      tNext)
    (tRet (tCall (sp_counted K) [] E0 (tCons (tCall (sp_starts_of K C) [] E0 (tCons (tVar 0) (tCons (tVar 2) tNil))) tNil))))), (pss_cons (ps_set (i := 2) nd rfl (Or.inl rfl) (pe_slice sl_list (pv 1) (po_some pe_int) po_none))
      (pss_cons (ps_if (pt_not (pt_val (pe_def D_are_steps (hr.mono (by decide)) (by rfl) (pa_cons (pv 2) pa_nil))))
        (pss_one (ps_ret (pe_lst (pa_cons (pe_gI T.c_NO_SUCH_NUMBER) pa_nil))))
        pss_nil)
      (pss_one (ps_ret (pe_def D_counted (hr.mono (by decide)) (by rfl) (pa_cons (pe_def D_starts_of (hr.mono (by decide)) (by rfl) (pa_cons (pv 0) (pa_cons (pv 2) pa_nil))) pa_nil)))))), ?_⟩
  have fin : ∀ {te : TE} {σ : L2.St} {H1 : Hp} {D : Ends}, d' = d → D.rt = Q → Ex H H1 → Vn K te σ H1 (ans.map PyData.int) → tRet te D σ H1 := fun ed hD e1 h => s_retN h fun p H2 n2 e2 o2 => by
    subst ed
    rw [hD]
    exact q p H2 (.of (e1.trans e2)) (dk.ex (e1.trans e2)) (fresh_back e1 n2) o2
  refine q_setN ((vn_slFrom (lo := 1) (vl_var rfl hn) ve_int).to (es := st.map eN) (by
    show ((ofN st).map PyData.int) = _
    unfold ofN
    rw [List.map_map]
    rfl)) fun p H2 n2 e2 o2 => ?_
  refine q_when (et_not (vt_B (ve_call (va_l (vo_var rfl o2).l va_nil) ⟨_, rfl, rfl⟩))) (fun c H3 e3 => ?_) (fun c H3 e3 => ?_)
  · have e' : Gq03.step d (.all st) = (d, [-1]) := by
      show (d, _) = _
      by_cases h8 : 8 < st.length
      · rw [if_pos h8]
      · rw [if_neg h8]
        have ok : okRow st = false := by simpa using c
        have an : Gq03.askOf st = none := (okRow_not ok).resolve_left h8
        rw [an]
    rw [e'] at e
    cases e
    exact fin rfl rfl (e2.trans e3) (vn_lst (K := K) [.int (-1)] (va_p ve_int va_nil) (by simp))
  · have ok : okRow st = true := by simpa using c
    obtain ⟨m, lm, m4, an⟩ := okRow_ask ok
    have e' : Gq03.step d (.all st) = (d, Gq03.told (Gq03.allCertain d (prs st))) := by
      show (d, _) = _
      rw [if_neg (by omega), an]
    rw [e'] at e
    cases e
    have e13 := e2.trans e3
    have dk3 := dk.ex e13
    have cl : (Gq03.allCertain d (prs st)).length ≤ 8 := List.length_filter_le _ _
    exact fin rfl rfl e13 (vn_call (va_x (Vn.ox (vn_call (va_x (vx_var rfl fun H' e' => ⟨l, rfl, dk3.ex e'⟩) (va_l (vo_var rfl (o2.ex e3)).l va_nil)) ⟨d, st, m, rfl, fit, lm, m4, rfl⟩)) va_nil) ⟨_, rfl, by omega, rfl⟩)
theorem ok_sound (T : Txt mg) (X : Cl K C) (D_wrong_nodes : Def P w K mg base 6 "wrong_nodes" ["told", "laws"] (sp_wrong_nodes K CL)) {fL : Addr} {fdL : FuncData} (M_Laws : Mk K CL fL) (G_Laws : FnOk P w K mg base CX0 6 fL fdL ["self", "rules"] (sp_Laws K CL)) (b_Laws : Binds K fdL ["self", "rules"] []) (mg_Laws : mg "Laws" = some (.ref CL)) (F : At K mg "sound" s_sound ["desk", "numbers"]) : Def P w K mg base 9 "sound" ["desk", "numbers"] (spC K C (rNo .sound)) := by
  refine F.ok sc_sound spC_len fun f cdv AA outer s H vs Q EE hr h => ?_
  obtain ⟨l, d, n, ns, d', ans, rfl, dk, fit, hn, ⟨rfl, e⟩, q⟩ := h
  have nd := sc_sound.nd
  have hu := hu65 hr
  refine ⟨(tSeq (tAsg (tCall (sp_wrong_nodes K CL) [] E0 (tCons (tFld K (tVar 0) "told") (tCons (tMake CL (sp_Laws K CL) [] E0 (tCons (tFld K (tVar 0) "rules") tNil)) tNil))) (gName 2))
    (tRet (tIf (tTest (tOp rEq (tCB (rLenS K) (tCons (tVar 2) tNil)) (tC (.int 0)))) (tLst (tCons (tC (.int 1)) tNil)) (tLst (tCons (tC (.int 0)) (tCons (tOp (rIxL K) (tVar 2) (tC (.int 0))) tNil)))))), (pss_cons (ps_set (i := 2) nd rfl (Or.inl rfl) (pe_def D_wrong_nodes (hr.mono (by decide)) (by rfl) (pa_cons (pe_fld (pv 0) rfl) (pa_cons (pe_make M_Laws G_Laws (hr.mono (by decide)) (by rfl) mg_Laws b_Laws .nil pass0 (pa_cons (pe_fld (pv 0) rfl) pa_nil)) pa_nil))))
      (pss_one (ps_ret (pe_ifExp (pt_cmpR op_eq (pe_callB call_len_seq (by rfl) T.b_len PySem.boot_len (pa_cons (pv 2) pa_nil)) pe_int (nomark _)) (pe_lst (pa_cons pe_int pa_nil)) (pe_lst (pa_cons pe_int (pa_cons (pe_ix ix_list (pv 2) pe_int (fun _ _ => rfl)) pa_nil))))))), ?_⟩
  have fin : ∀ {te : TE} {σ : L2.St} {H1 : Hp} {D : Ends}, d' = d → D.rt = Q → Ex H H1 → Vn K te σ H1 (ans.map PyData.int) → tRet te D σ H1 := fun ed hD e1 h => s_retN h fun p H2 n2 e2 o2 => by
    subst ed
    rw [hD]
    exact q p H2 (.of (e1.trans e2)) (dk.ex (e1.trans e2)) (fresh_back e1 n2) o2
  refine q_setN (vn_call (va_l (vl_told X dk rfl) (va_x (vx_laws X dk fit rfl) va_nil)) ⟨d, rfl, fit, rfl⟩) fun p H1 n1 e1 o1 => ?_
  have hf : (Wm.wrongsM d).head? = Gq03.nodes.find? fun x => !Gq03.fineBy (Gq03.bad d.rules) d x := by rw [Wm.wrongsM_eq fit.ok, List.head?_filter]
  have e' : Gq03.step d .sound = (d, match (Wm.wrongsM d).head? with
      | none => [1]
      | some x => Gq03.ints [0, x]) := by
    rw [hf]
    rfl
  rw [e'] at e
  cases hw : Wm.wrongsM d with
  | nil =>
    rw [hw] at e o1
    cases e
    exact fin rfl rfl e1 (vn_if (vt_test (ve_eqI (i := 0) (ve_len (vo_var rfl o1).l) ve_int)) (fun _ => vn_lst (K := K) [.int 1] (va_p ve_int va_nil) (by simp)) fun c => absurd c (by decide))
  | cons x ws =>
    rw [hw] at e o1
    cases e
    exact fin rfl rfl e1 (vn_if (vt_test (ve_eqI (ve_len (vo_var rfl o1).l) ve_int)) (fun c => absurd (of_decide_eq_true c) (by simp; omega)) fun _ => vn_lst (K := K) [.int 0, eN x] (va_p ve_int (va_p (ve_ixL (i := 0) (vo_var rfl o1).l ve_int rfl) va_nil)) (by simp))
theorem ok_follows (T : Txt mg) (X : Cl K C) (D_is_basic : Def P w K mg base 2 "is_basic" ["b"] (sp_is_basic K)) (D_always_sub : Def P w K mg base 9 "always_sub" ["laws", "b", "c"] (sp_always_sub K CL)) (D_one_or_zero : Def P w K mg base 1 "one_or_zero" ["holds"] (sp_one_or_zero K)) {fL : Addr} {fdL : FuncData} (M_Laws : Mk K CL fL) (G_Laws : FnOk P w K mg base CX0 6 fL fdL ["self", "rules"] (sp_Laws K CL)) (b_Laws : Binds K fdL ["self", "rules"] []) (mg_Laws : mg "Laws" = some (.ref CL)) (F : At K mg "follows" s_follows ["desk", "numbers"]) : Def P w K mg base 10 "follows" ["desk", "numbers"] (spC K C (rSub fun b c => .follows b c)) := by
  refine F.ok sc_follows spC_len fun f cdv AA outer s H vs Q EE hr h => ?_
  obtain ⟨l, d, n, ns, d', ans, rfl, dk, fit, hn, ⟨s1, a1, s2, a2, rfl, e⟩, q⟩ := h
  have nd := sc_follows.nd
  have hu := hu65 hr
  refine ⟨(tSeq (tAsg (tTup (tCons (tOp (rIxL K) (tVar 1) (tC (.int 0))) (tCons (tOp (rIxL K) (tVar 1) (tC (.int 1))) tNil))) (gName 2))
    (tSeq (tAsg (tTup (tCons (tOp (rIxL K) (tVar 1) (tC (.int 2))) (tCons (tOp (rIxL K) (tVar 1) (tC (.int 3))) tNil))) (gName 3))
    (tSeq (tIfS (tNot (tAnd (tB (tCall (sp_is_basic K) [] E0 (tCons (tVar 2) tNil))) (tB (tCall (sp_is_basic K) [] E0 (tCons (tVar 3) tNil)))))
      (tRet (tLst (tCons (tC (.int (-1))) tNil)))
      tNext)
    (tRet (tCall (sp_one_or_zero K) [] E0 (tCons (tCall (sp_always_sub K CL) [] E0 (tCons (tMake CL (sp_Laws K CL) [] E0 (tCons (tFld K (tVar 0) "rules") tNil)) (tCons (tVar 2) (tCons (tVar 3) tNil)))) tNil)))))), (pss_cons (ps_set (i := 2) nd rfl (Or.inl rfl) (pe_tup (pa_cons (pe_ix ix_list (pv 1) pe_int (fun _ _ => rfl)) (pa_cons (pe_ix ix_list (pv 1) pe_int (fun _ _ => rfl)) pa_nil))))
      (pss_cons (ps_set (i := 3) nd rfl (Or.inl rfl) (pe_tup (pa_cons (pe_ix ix_list (pv 1) pe_int (fun _ _ => rfl)) (pa_cons (pe_ix ix_list (pv 1) pe_int (fun _ _ => rfl)) pa_nil))))
      (pss_cons (ps_if (pt_not (PW.pt (pw_and (pt_val (pe_def D_is_basic (hr.mono (by decide)) (by rfl) (pa_cons (pv 2) pa_nil))) (pw_and1 (pt_val (pe_def D_is_basic (hr.mono (by decide)) (by rfl) (pa_cons (pv 3) pa_nil)))))))
        (pss_one (ps_ret (pe_lst (pa_cons (pe_gI T.c_NO_SUCH_NUMBER) pa_nil))))
        pss_nil)
      (pss_one (ps_ret (pe_def D_one_or_zero (hr.mono (by decide)) (by rfl) (pa_cons (pe_def D_always_sub (hr.mono (by decide)) (by rfl) (pa_cons (pe_make M_Laws G_Laws (hr.mono (by decide)) (by rfl) mg_Laws b_Laws .nil pass0 (pa_cons (pe_fld (pv 0) rfl) pa_nil)) (pa_cons (pv 2) (pa_cons (pv 3) pa_nil)))) pa_nil))))))), ?_⟩
  have fin : ∀ {te : TE} {σ : L2.St} {H1 : Hp} {D : Ends}, d' = d → D.rt = Q → Ex H H1 → Vn K te σ H1 (ans.map PyData.int) → tRet te D σ H1 := fun ed hD e1 h => s_retN h fun p H2 n2 e2 o2 => by
    subst ed
    rw [hD]
    exact q p H2 (.of (e1.trans e2)) (dk.ex (e1.trans e2)) (fresh_back e1 n2) o2
  refine q_setV (ve_tup [.int (s1 : Int), .int (a1 : Int)] (va_p (ve_ixL (i := 0) (vl_var rfl hn) ve_int rfl) (va_p (ve_ixL (i := 1) (vl_var rfl hn) ve_int rfl) va_nil)) (by simp)) fun v1 H1 e1 h1 => ?_
  refine q_setV (ve_tup [.int (s2 : Int), .int (a2 : Int)] (va_p (ve_ixL (i := 2) (vl_var rfl (hn.ex e1)) ve_int rfl) (va_p (ve_ixL (i := 3) (vl_var rfl (hn.ex e1)) ve_int rfl) va_nil)) (by simp)) fun v2 H2 e2 h2 => ?_
  have h1 := h1.ex e2
  have e12 := e1.trans e2
  refine q_when (et_not (et_and (vt_B (ve_call (va_p (ve_var rfl h1) va_nil) ⟨_, _, rfl, rfl⟩)) fun _ => vt_B (ve_call (va_p (ve_var rfl h2) va_nil) ⟨_, _, rfl, rfl⟩))) (fun c H3 e3 => ?_) (fun c H3 e3 => ?_)
  · rw [isB_iff, isB_iff] at c
    have e' : Gq03.step d (.follows (Gq03Neutral.basic s1 a1) (Gq03Neutral.basic s2 a2)) = (d, [-1]) := by
      show (d, _) = _
      rw [if_pos]
      simpa using c
    rw [e'] at e
    cases e
    exact fin rfl rfl (e12.trans e3) (vn_lst (K := K) [.int (-1)] (va_p ve_int va_nil) (by simp))
  · have b1 : isB (s1 : Int) (a1 : Int) = true := by simp at c; exact c.1
    have b2 : isB (s2 : Int) (a2 : Int) = true := by simp at c; exact c.2
    rw [isB_iff, isB_iff] at c
    have c1 : Gq03.isBasic (Gq03Neutral.basic s1 a1) = true := by simp at c; exact c.1
    have c2 : Gq03.isBasic (Gq03Neutral.basic s2 a2) = true := by simp at c; exact c.2
    have e' : Gq03.step d (.follows (Gq03Neutral.basic s1 a1) (Gq03Neutral.basic s2 a2)) = (d, Gq03.flag (Gq03.follows d.rules (Gq03Neutral.basic s1 a1) (Gq03Neutral.basic s2 a2))) := by
      show (d, _) = _
      rw [if_neg]
      simpa using c
    rw [e'] at e
    cases e
    rw [eB_of b1] at h1
    rw [eB_of b2] at h2
    have e13 := e12.trans e3
    have dk3 := dk.ex e13
    exact fin rfl rfl e13 (vn_call (va_p (ve_call (va_x (vx_laws X dk3 fit rfl) (va_p (ve_var rfl (h1.ex e3)) (va_p (ve_var rfl (h2.ex e3)) va_nil))) ⟨d.rules, _, _, rfl, fit.ok.rules, fit.rl, List.contains_iff_mem.mp c1, List.contains_iff_mem.mp c2, rfl⟩) va_nil) ⟨_, rfl, rfl⟩)
theorem ok_bad (T : Txt mg) (X : Cl K C) (XL : ClL K CL) {fL : Addr} {fdL : FuncData} (M_Laws : Mk K CL fL) (G_Laws : FnOk P w K mg base CX0 6 fL fdL ["self", "rules"] (sp_Laws K CL)) (b_Laws : Binds K fdL ["self", "rules"] []) (mg_Laws : mg "Laws" = some (.ref CL)) (F : At K mg "bad" s_bad ["desk", "numbers"]) : Def P w K mg base 9 "bad" ["desk", "numbers"] (spC K C (rNo .bad)) := by
  refine F.ok sc_bad spC_len fun f cdv AA outer s H vs Q EE hr h => ?_
  obtain ⟨l, d, n, ns, d', ans, rfl, dk, fit, hn, ⟨rfl, e⟩, q⟩ := h
  have nd := sc_bad.nd
  have hu := hu65 hr
  refine ⟨(tSeq (tAsg (tFld K (tMake CL (sp_Laws K CL) [] E0 (tCons (tFld K (tVar 0) "rules") tNil)) "bad") (gName 2))
    (tSeq (tAsg (tLst (tCons (tCB (rLenS K) (tCons (tVar 2) tNil)) tNil)) (gName 3))
    (tSeq (tFor (iList K (tVar 2)) (gName 4)
      (tDrop (tBM K "list" rExtend (tVar 3) (tCons (tLst (tCons (tOp (rIxT K) (tVar 4) (tC (.int 0))) (tCons (tOp (rIxT K) (tVar 4) (tC (.int 1))) tNil))) tNil))))
    (tRet (tVar 3))))), (pss_cons (ps_set (i := 2) nd rfl (Or.inl rfl) (pe_fld (pe_make M_Laws G_Laws (hr.mono (by decide)) (by rfl) mg_Laws b_Laws .nil pass0 (pa_cons (pe_fld (pv 0) rfl) pa_nil)) rfl))
      (pss_cons (ps_set (i := 3) nd rfl (Or.inl rfl) (pe_lst (pa_cons (pe_callB call_len_seq (by rfl) T.b_len PySem.boot_len (pa_cons (pv 2) pa_nil)) pa_nil)))
      (pss_cons (ps_for PassesOwn.never rfl (pi_list (pv 2)) (pg_name (i := 4) nd rfl (Or.inl rfl))
        (pss_one (ps_expr (pe_bm PySem.F.plainAttrs_list PySem.F.slot_list_extend PySem.F.type_list_extend mt_extend (pv 3) (pa_cons (pe_lst (pa_cons (pe_ix ix_tup (pv 4) pe_int (fun _ _ => rfl)) (pa_cons (pe_ix ix_tup (pv 4) pe_int (fun _ _ => rfl)) pa_nil))) pa_nil)))))
      (pss_one (ps_ret (pv 3)))))), ?_⟩
  have fin : ∀ {te : TE} {σ : L2.St} {H1 : Hp} {D : Ends}, d' = d → D.rt = Q → Ex H H1 → Vn K te σ H1 (ans.map PyData.int) → tRet te D σ H1 := fun ed hD e1 h => s_retN h fun p H2 n2 e2 o2 => by
    subst ed
    rw [hD]
    exact q p H2 (.of (e1.trans e2)) (dk.ex (e1.trans e2)) (fresh_back e1 n2) o2
  have e' : Gq03.step d .bad = (d, ((Wm.badM d.rules).length : Int) :: Gq03.ints ((Wm.badM d.rules).flatMap Gq03.row)) := by
    rw [Wm.badM_eq fit.ok.rules]
    rfl
  rw [e'] at e
  cases e
  have bl : (Wm.badM d.rules).length ≤ 14 := List.length_filter_le _ _
  refine q_setX (vl_bad XL (vx_laws X dk fit rfl)).x fun v2 H1 e1 h2 => ?_
  have h2 : Ls K H1 v2 ((Wm.badM d.rules).map eB) := h2 H1 (Ex.refl _)
  refine q_setN (vn_lst [.int ((Wm.badM d.rules).length : Int)] (va_p ((ve_len (vl_var rfl h2)).to (by rw [List.length_map])) va_nil) (by simp)) fun p H2 n2 e2 o2 => ?_
  refine q_forX (Wm.badM d.rules) eB (v1 := v2) rfl (fun i σ' H' => ∃ a, σ' = [some (.ref l.a), some n, some v2, some (.ref p), a] ∧ i ≤ 14 ∧ Ex H1 H' ∧ Own K H' p (.int ((Wm.badM d.rules).length : Int) :: (((Wm.badM d.rules).take i).flatMap Gq03.row).map eN)) ⟨none, rfl, by omega, e2, o2⟩
    (fun i σ' H' hi h => ?_) (fun i b u σ' H' hb hu' h => ?_) (fun σ' H' h => ?_)
  · obtain ⟨a, rfl, _, ex, o⟩ := h
    exact h2.ex ex
  · obtain ⟨a, rfl, i14, ex, o⟩ := h
    have ilt : i < (Wm.badM d.rules).length := (List.getElem?_eq_some_iff.mp hb).1
    have ll : (((Wm.badM d.rules).take i).flatMap Gq03.row).length ≤ 2 * ((Wm.badM d.rules).take i).length := Wm.flatMap_len (fun b => by cases b <;> simp [Gq03.row]) _
    have tl : ((Wm.badM d.rules).take i).length ≤ 14 := Nat.le_trans (by rw [List.length_take]; exact Nat.min_le_right _ _) bl
    have two : ∃ x y : Nat, eB b = .tuple [.int (x : Int), .int (y : Int)] ∧ Gq03.row b = [x, y] := by
      cases b with
      | kind k => exact ⟨0, k, rfl, rfl⟩
      | has r => exact ⟨1, r, rfl, rfl⟩
    obtain ⟨x, y, eb, er⟩ := two
    rw [eb] at hu'
    refine s_ext o rfl (vn_lst [eN x, eN y] (va_p (ve_ixT (i := 0) (ve_var rfl hu') ve_int rfl) (va_p (ve_ixT (i := 1) (ve_var rfl hu') ve_int rfl) va_nil)) (by simp)).o (by simp only [List.length_cons, List.length_map, List.length_nil]; omega) fun H3 b3 t3 o3 => ?_
    refine ⟨some u, rfl, by omega, Exb.ex n2 ex b3, ?_⟩
    rw [flat_more hb, er, List.map_append]
    exact o3
  · obtain ⟨a, rfl, _, ex, o⟩ := h
    rw [List.take_length] at o
    refine s_retO rfl (q p H' (.of (e1.trans ex)) (dk.ex (e1.trans ex)) (fresh_back e1 n2) ?_)
    unfold Gq03.ints
    rw [List.map_cons, List.map_map]
    exact o
theorem ok_idle (T : Txt mg) (X : Cl K C) (D_always_kept : Def P w K mg base 10 "always_kept" ["laws", "rule"] (sp_always_kept K CL)) (D_one_or_zero : Def P w K mg base 1 "one_or_zero" ["holds"] (sp_one_or_zero K)) {fL : Addr} {fdL : FuncData} (M_Laws : Mk K CL fL) (G_Laws : FnOk P w K mg base CX0 6 fL fdL ["self", "rules"] (sp_Laws K CL)) (b_Laws : Binds K fdL ["self", "rules"] []) (mg_Laws : mg "Laws" = some (.ref CL)) (F : At K mg "idle" s_idle ["desk", "numbers"]) : Def P w K mg base 11 "idle" ["desk", "numbers"] (spC K C (rOne1 fun n => .idle n)) := by
  refine F.ok sc_idle spC_len fun f cdv AA outer s H vs Q EE hr h => ?_
  obtain ⟨l, d, n, ns, d', ans, rfl, dk, fit, hn, ⟨m, rfl, hm, e⟩, q⟩ := h
  have nd := sc_idle.nd
  have hu := hu65 hr
  refine ⟨(tSeq (tAsg (tOp (rIxL K) (tVar 1) (tC (.int 0))) (gName 2))
    (tSeq (tIfS (tTest (tOp (rI0 fun i j => .bl (decide (j ≤ i))) (tVar 2) (tCB (rLenS K) (tCons (tFld K (tVar 0) "rules") tNil))))
      (tRet (tLst (tCons (tC (.int (-2))) tNil)))
      tNext)
    (tSeq (tAsg (tOp rCat (tSl (rSlL K) (tFld K (tVar 0) "rules") tNoPart (tPart (tVar 2))) (tSl (rSlL K) (tFld K (tVar 0) "rules") (tPart (tOp (rI0 fun i j => .int (i + j)) (tVar 2) (tC (.int 1)))) tNoPart)) (gName 3))
    (tRet (tCall (sp_one_or_zero K) [] E0 (tCons (tCall (sp_always_kept K CL) [] E0 (tCons (tMake CL (sp_Laws K CL) [] E0 (tCons (tVar 3) tNil)) (tCons (tOp (rIxL K) (tFld K (tVar 0) "rules") (tVar 2)) tNil))) tNil)))))), (pss_cons (ps_set (i := 2) nd rfl (Or.inl rfl) (pe_ix ix_list (pv 1) pe_int (fun _ _ => rfl)))
      (pss_cons (ps_if (pt_cmpR op_ge (pv 2) (pe_callB call_len_seq (by rfl) T.b_len PySem.boot_len (pa_cons (pe_fld (pv 0) rfl) pa_nil)) (nomark _))
        (pss_one (ps_ret (pe_lst (pa_cons (pe_gI T.c_NOT_THERE) pa_nil))))
        pss_nil)
      (pss_cons (ps_set (i := 3) nd rfl (Or.inl rfl) (pe_op op_cat (pe_slice sl_list (pe_fld (pv 0) rfl) po_none (po_some (pv 2))) (pe_slice sl_list (pe_fld (pv 0) rfl) (po_some (pe_op op_add (pv 2) pe_int)) po_none)))
      (pss_one (ps_ret (pe_def D_one_or_zero (hr.mono (by decide)) (by rfl) (pa_cons (pe_def D_always_kept (hr.mono (by decide)) (by rfl) (pa_cons (pe_make M_Laws G_Laws (hr.mono (by decide)) (by rfl) mg_Laws b_Laws .nil pass0 (pa_cons (pv 3) pa_nil)) (pa_cons (pe_ix ix_list (pe_fld (pv 0) rfl) (pv 2) (fun _ _ => rfl)) pa_nil))) pa_nil))))))), ?_⟩
  have fin : ∀ {te : TE} {σ : L2.St} {H1 : Hp} {D : Ends}, d' = d → D.rt = Q → Ex H H1 → Vn K te σ H1 (ans.map PyData.int) → tRet te D σ H1 := fun ed hD e1 h => s_retN h fun p H2 n2 e2 o2 => by
    subst ed
    rw [hD]
    exact q p H2 (.of (e1.trans e2)) (dk.ex (e1.trans e2)) (fresh_back e1 n2) o2
  have rl := fit.rl
  refine q_setV (ve_ixL (i := 0) (vl_var rfl hn) ve_int rfl) fun v1 H1 e1 h1 => ?_
  have h1 : Dt K H1 v1 (.int (m : Int)) := h1
  cases h1.int_eq
  have dk1 := dk.ex e1
  refine q_when (vt_test (ve_B0 (g := fun i j => decide (j ≤ i)) (ve_var rfl .int) (ve_len (vo_ev (ev_rules X dk1 rfl) dk1.rules).l))) (fun c H2 e2 => ?_) (fun c H2 e2 => ?_)
  · have c := of_decide_eq_true c
    rw [List.length_map] at c
    have e' : Gq03.step d (.idle m) = (d, [-2]) := by
      show (d, _) = _
      rw [if_pos (by omega)]
    rw [e'] at e
    cases e
    exact fin rfl rfl (e1.trans e2) (vn_lst (K := K) [.int (-2)] (va_p ve_int va_nil) (by simp))
  · have c := of_decide_eq_false c
    rw [List.length_map] at c
    have e12 := e1.trans e2
    have dk2 := dk.ex e12
    obtain ⟨x, hx⟩ : ∃ x, d.rules[m]? = some x := ⟨d.rules[m]'(by omega), List.getElem?_eq_getElem (by omega)⟩
    have okx := fit.ok.rules x (List.mem_of_getElem? hx)
    have e' : Gq03.step d (.idle m) = (d, Gq03.flag (keptM (Gq03.without m d.rules) x)) := by
      show (d, _) = _
      rw [if_neg (by omega), idle_kept hx]
    rw [e'] at e
    cases e
    refine q_setN (vn_cat (vn_slTo (hi := m) (vo_ev (ev_rules X dk2 rfl) dk2.rules).l (ve_var rfl .int)) (vn_slFrom (lo := m + 1) (vo_ev (ev_rules X dk2 rfl) dk2.rules).l ((ve_I0 (g := (· + ·)) (ve_var rfl .int) ve_int).to (by congr 1))) (by simp only [List.length_take, List.length_drop, List.length_map]; omega)) fun p H3 n3 e3 o3 => ?_
    have o3 : Own K H3 p ((Gq03.without m d.rules).map eR) := by
      unfold Gq03.without
      rw [List.map_append, List.map_take, List.map_drop]
      exact o3
    have e13 := e12.trans e3
    have dk3 := dk.ex e13
    have okw : OkRules (Gq03.without m d.rules) := fun z hz => fit.ok.rules z (Wm.mem_without hz)
    have lw : (Gq03.without m d.rules).length ≤ 12 := Nat.le_trans Wm.len_without rl
    exact fin rfl rfl e13 (vn_call (va_p (ve_call (va_x (vx_make (va_l (vo_var rfl o3).l va_nil) ⟨_, rfl, okw, lw, rfl⟩) (va_p (ve_ixL (i := m) (vo_ev (ev_rules X dk3 rfl) dk3.rules).l (ve_var rfl .int) (by rw [List.getElem?_map, hx]; rfl)) va_nil)) ⟨Gq03.without m d.rules, x, rfl, okw, lw, okx, rfl⟩) va_nil) ⟨_, rfl, rfl⟩)
theorem ok_whence (T : Txt mg) (X : Cl K C) (D_is_node : Def P w K mg base 1 "is_node" ["x"] (sp_is_node K)) (D_is_basic : Def P w K mg base 2 "is_basic" ["b"] (sp_is_basic K)) (D_sources : Def P w K mg base 4 "sources" ["told", "laws", "x", "b"] (sp_sources K CL)) {fL : Addr} {fdL : FuncData} (M_Laws : Mk K CL fL) (G_Laws : FnOk P w K mg base CX0 6 fL fdL ["self", "rules"] (sp_Laws K CL)) (b_Laws : Binds K fdL ["self", "rules"] []) (mg_Laws : mg "Laws" = some (.ref CL)) (F : At K mg "whence" s_whence ["desk", "numbers"]) : Def P w K mg base 9 "whence" ["desk", "numbers"] (spC K C (rXB fun x b => .whence x b)) := by
  refine F.ok sc_whence spC_len fun f cdv AA outer s H vs Q EE hr h => ?_
  obtain ⟨l, d, n, ns, d', ans, rfl, dk, fit, hn, ⟨x, s1, a1, rfl, e⟩, q⟩ := h
  have nd := sc_whence.nd
  have hu := hu65 hr
  refine ⟨(tSeq (tAsg (tOp (rIxL K) (tVar 1) (tC (.int 0))) (gName 2))
    (tSeq (tAsg (tTup (tCons (tOp (rIxL K) (tVar 1) (tC (.int 1))) (tCons (tOp (rIxL K) (tVar 1) (tC (.int 2))) tNil))) (gName 3))
    (tSeq (tIfS (tNot (tAnd (tB (tCall (sp_is_node K) [] E0 (tCons (tVar 2) tNil))) (tB (tCall (sp_is_basic K) [] E0 (tCons (tVar 3) tNil)))))
      (tRet (tLst (tCons (tC (.int (-1))) tNil)))
      tNext)
    (tSeq (tAsg (tCall (sp_sources K CL) [] E0 (tCons (tFld K (tVar 0) "told") (tCons (tMake CL (sp_Laws K CL) [] E0 (tCons (tFld K (tVar 0) "rules") tNil)) (tCons (tVar 2) (tCons (tVar 3) tNil))))) (gName 4))
    (tRet (tIf (tTest (tOp rEq (tCB (rLenS K) (tCons (tVar 4) tNil)) (tC (.int 0)))) (tLst (tCons (tC (.int (-3))) tNil)) (tLst (tCons (tOp (rIxL K) (tVar 4) (tC (.int 0))) tNil)))))))), (pss_cons (ps_set (i := 2) nd rfl (Or.inl rfl) (pe_ix ix_list (pv 1) pe_int (fun _ _ => rfl)))
      (pss_cons (ps_set (i := 3) nd rfl (Or.inl rfl) (pe_tup (pa_cons (pe_ix ix_list (pv 1) pe_int (fun _ _ => rfl)) (pa_cons (pe_ix ix_list (pv 1) pe_int (fun _ _ => rfl)) pa_nil))))
      (pss_cons (ps_if (pt_not (PW.pt (pw_and (pt_val (pe_def D_is_node (hr.mono (by decide)) (by rfl) (pa_cons (pv 2) pa_nil))) (pw_and1 (pt_val (pe_def D_is_basic (hr.mono (by decide)) (by rfl) (pa_cons (pv 3) pa_nil)))))))
        (pss_one (ps_ret (pe_lst (pa_cons (pe_gI T.c_NO_SUCH_NUMBER) pa_nil))))
        pss_nil)
      (pss_cons (ps_set (i := 4) nd rfl (Or.inl rfl) (pe_def D_sources (hr.mono (by decide)) (by rfl) (pa_cons (pe_fld (pv 0) rfl) (pa_cons (pe_make M_Laws G_Laws (hr.mono (by decide)) (by rfl) mg_Laws b_Laws .nil pass0 (pa_cons (pe_fld (pv 0) rfl) pa_nil)) (pa_cons (pv 2) (pa_cons (pv 3) pa_nil))))))
      (pss_one (ps_ret (pe_ifExp (pt_cmpR op_eq (pe_callB call_len_seq (by rfl) T.b_len PySem.boot_len (pa_cons (pv 4) pa_nil)) pe_int (nomark _)) (pe_lst (pa_cons (pe_gI T.c_FROM_NOTHING) pa_nil)) (pe_lst (pa_cons (pe_ix ix_list (pv 4) pe_int (fun _ _ => rfl)) pa_nil))))))))), ?_⟩
  have fin : ∀ {te : TE} {σ : L2.St} {H1 : Hp} {D : Ends}, d' = d → D.rt = Q → Ex H H1 → Vn K te σ H1 (ans.map PyData.int) → tRet te D σ H1 := fun ed hD e1 h => s_retN h fun p H2 n2 e2 o2 => by
    subst ed
    rw [hD]
    exact q p H2 (.of (e1.trans e2)) (dk.ex (e1.trans e2)) (fresh_back e1 n2) o2
  refine q_setV (ve_ixL (i := 0) (vl_var rfl hn) ve_int rfl) fun v1 H1 e1 h1 => ?_
  refine q_setV (ve_tup [.int (s1 : Int), .int (a1 : Int)] (va_p (ve_ixL (i := 1) (vl_var rfl (hn.ex e1)) ve_int rfl) (va_p (ve_ixL (i := 2) (vl_var rfl (hn.ex e1)) ve_int rfl) va_nil)) (by simp)) fun v2 H2 e2 h2 => ?_
  have h1 := h1.ex e2
  have e12 := e1.trans e2
  refine q_when (et_not (et_and (vt_B (ve_call (va_p (ve_var rfl h1) va_nil) ⟨_, rfl, rfl⟩)) fun _ => vt_B (ve_call (va_p (ve_var rfl h2) va_nil) ⟨_, _, rfl, rfl⟩))) (fun c H3 e3 => ?_) (fun c H3 e3 => ?_)
  · rw [isN_iff, isB_iff] at c
    have e' : Gq03.step d (.whence x (Gq03Neutral.basic s1 a1)) = (d, [-1]) := by
      show (d, _) = _
      rw [if_pos]
      simpa using c
    rw [e'] at e
    cases e
    exact fin rfl rfl (e12.trans e3) (vn_lst (K := K) [.int (-1)] (va_p ve_int va_nil) (by simp))
  · have b1 : isB (s1 : Int) (a1 : Int) = true := by simp at c; exact c.2
    rw [isN_iff, isB_iff] at c
    have hf : (srcM d x (Gq03Neutral.basic s1 a1)).head? = Gq03.whence d x (Gq03Neutral.basic s1 a1) := by
      have z : srcM d x (Gq03Neutral.basic s1 a1) = (List.range d.facts.length).filter fun n => match d.facts[n]? with
          | none => false
          | some f => (Gq03.typeOf ⟨[f], d.rules⟩ x).contains (Gq03Neutral.basic s1 a1) := zip_range (l := d.facts) (p := fun f => (Gq03.typeOf ⟨[f], d.rules⟩ x).contains (Gq03Neutral.basic s1 a1)) fun i a h => by rw [h]
      rw [z, List.head?_filter]
      rfl
    have c' : ¬ (Gq03.isNode x = false ∨ Gq03.isBasic (Gq03Neutral.basic s1 a1) = false) := by simpa using c
    have e' : Gq03.step d (.whence x (Gq03Neutral.basic s1 a1)) = (d, match (srcM d x (Gq03Neutral.basic s1 a1)).head? with
        | none => [-3]
        | some n => Gq03.ints [n]) := by
      rw [hf]
      show (d, if _ then _ else _) = _
      rw [if_neg c']
      rfl
    rw [e'] at e
    rw [eB_of b1] at h2
    have e13 := e12.trans e3
    have dk3 := dk.ex e13
    refine q_setN (vn_call (va_l (vl_told X dk3 rfl) (va_x ((vx_laws X dk3 fit rfl).imp fun _ _ h => h.toIsLaws) (va_p (ve_var rfl (h1.ex e3)) (va_p (ve_var rfl (h2.ex e3)) va_nil)))) ⟨d, x, _, rfl, fit, rfl⟩) fun p H4 n4 e4 o4 => ?_
    have e14 := e13.trans e4
    cases hw : srcM d x (Gq03Neutral.basic s1 a1) with
    | nil =>
      rw [hw] at e o4
      cases e
      exact fin rfl rfl e14 (vn_if (vt_test (ve_eqI (i := 0) (ve_len (vo_var rfl o4).l) ve_int)) (fun _ => vn_lst (K := K) [.int (-3)] (va_p ve_int va_nil) (by simp)) fun c => absurd c (by decide))
    | cons z ws =>
      rw [hw] at e o4
      cases e
      exact fin rfl rfl e14 (vn_if (vt_test (ve_eqI (ve_len (vo_var rfl o4).l) ve_int)) (fun c => absurd (of_decide_eq_true c) (by simp; omega)) fun _ => vn_lst (K := K) [eN z] (va_p (ve_ixL (i := 0) (vo_var rfl o4).l ve_int rfl) va_nil) (by simp))
theorem ok_fewest (T : Txt mg) (X : Cl K C) (D_fewest_to_drop : Def P w K mg base 17 "fewest_to_drop" ["told", "laws"] (sp_fewest_to_drop K CL)) (D_counted : Def P w K mg base 1 "counted" ["found"] (sp_counted K)) {fL : Addr} {fdL : FuncData} (M_Laws : Mk K CL fL) (G_Laws : FnOk P w K mg base CX0 6 fL fdL ["self", "rules"] (sp_Laws K CL)) (b_Laws : Binds K fdL ["self", "rules"] []) (mg_Laws : mg "Laws" = some (.ref CL)) (F : At K mg "fewest" s_fewest ["desk", "numbers"]) : Def P w K mg base 18 "fewest" ["desk", "numbers"] (spC K C (rNo .fewest)) := by
  refine F.ok sc_fewest spC_len fun f cdv AA outer s H vs Q EE hr h => ?_
  obtain ⟨l, d, n, ns, d', ans, rfl, dk, fit, hn, ⟨rfl, e⟩, q⟩ := h
  have nd := sc_fewest.nd
  have hu := hu65 hr
  refine ⟨(tRet (tCall (sp_counted K) [] E0 (tCons (tCall (sp_fewest_to_drop K CL) [] E0 (tCons (tFld K (tVar 0) "told") (tCons (tMake CL (sp_Laws K CL) [] E0 (tCons (tFld K (tVar 0) "rules") tNil)) tNil))) tNil))), (pss_one (ps_ret (pe_def D_counted (hr.mono (by decide)) (by rfl) (pa_cons (pe_def D_fewest_to_drop (hr.mono (by decide)) (by rfl) (pa_cons (pe_fld (pv 0) rfl) (pa_cons (pe_make M_Laws G_Laws (hr.mono (by decide)) (by rfl) mg_Laws b_Laws .nil pass0 (pa_cons (pe_fld (pv 0) rfl) pa_nil)) pa_nil))) pa_nil)))), ?_⟩
  have fin : ∀ {te : TE} {σ : L2.St} {H1 : Hp} {D : Ends}, d' = d → D.rt = Q → Ex H H1 → Vn K te σ H1 (ans.map PyData.int) → tRet te D σ H1 := fun ed hD e1 h => s_retN h fun p H2 n2 e2 o2 => by
    subst ed
    rw [hD]
    exact q p H2 (.of (e1.trans e2)) (dk.ex (e1.trans e2)) (fresh_back e1 n2) o2
  have e' : Gq03.step d .fewest = (d, Gq03.told (Gq03.fewest d)) := rfl
  rw [e'] at e
  cases e
  have fl := Wm.fewest_len d
  have := fit.fl
  exact fin rfl rfl (Ex.refl _) (vn_call (va_x (Vn.ox (vn_call (va_l (vl_told X dk rfl) (va_x (vx_laws X dk fit rfl) va_nil)) ⟨d, rfl, fit, rfl⟩)) va_nil) ⟨_, rfl, by omega, rfl⟩)
end
end Wp

set_option Elab.async false
set_option linter.all false
set_option maxRecDepth 100000
set_option maxHeartbeats 2000000
namespace Wp
open PySem PySem.Spec PyProof.Rows L2 Evl Dx
open Gq03 (Basic Rule Fact Desk)
open Wm (Fit ofN)
/-! ### A new desk -/
abbrev s_init : Stmt := inClass (top 81) 0
theorem sc_init : FnScope ["self"] ["self"] (defScope s_init) := ⟨rfl, rfl, rfl, by decide +kernel, rfl, by decide +kernel, by decide +kernel⟩
def sp_init (K : PySem.W.Frag) (C : Addr) : Sp := fun vs H Q _ => ∃ p dx, vs = [.ref p] ∧ H p = some (.ins C dx []) ∧
  ∀ H' pt pr, Dk K C H' ⟨p, dx, pt, pr⟩ Gq03.init → H pt = none → H pr = none → (∀ b o, H b = some o → b ≠ p → H' b = some o) → Q .non H'
section
variable {P : Program} {w : World} {K : PySem.W.Frag} {mg : Str → Option Value} {base : Heap} {C : Addr}
theorem ok_init (X : Cl K C) {f : Addr} {fd : FuncData} (F : Fun K "__init__" "Desk.__init__" s_init f fd) : FnOk P w K mg base CX0 1 f fd ["self"] (sp_init K C) := by
  refine F.ok sc_init (by rintro vs H Q E ⟨p, dx, rfl, _⟩; rfl) fun cdv AA outer s H vs Q EE hr h => ?_
  obtain ⟨p, dx, rfl, hp, q⟩ := h
  have nd := sc_init.nd
  refine ⟨(tSeq (sFld K (tVar 0) (tLst tNil) "told")
    (sFld K (tVar 0) (tLst tNil) "rules")), (pss_cons (ps_fld (pv 0) (pe_lst pa_nil) (by rfl))
      (pss_one (ps_fld (pv 0) (pe_lst pa_nil) (by rfl)))), ?_⟩
  refine ⟨by decide, fun pt hpt => ?_⟩
  have n1 : p ≠ pt := ne_of_none hp hpt
  refine ⟨_, rfl, p, C, dx, [], rfl, by rw [upd_ne n1]; exact hp, X.cl, X.nT, by decide, ?_⟩
  refine ⟨by decide, fun pr hpr => ?_⟩
  have n2 : p ≠ pr := fun e => by subst e; rw [upd_same] at hpr; cases hpr
  have hpr1 : (upd H pt (.lst [])) pr = none := by rw [upd_ne n2.symm] at hpr; exact hpr
  have n3 : pt ≠ pr := fun e => by subst e; rw [upd_same] at hpr1; cases hpr1
  have hpr0 : H pr = none := by rw [upd_ne n3.symm] at hpr1; exact hpr1
  refine ⟨_, rfl, p, C, dx, _, rfl, by rw [upd_ne n2, upd_same], X.cl, X.nR, by show 1 < 1000; decide, ?_⟩
  refine q _ pt pr ⟨?_, ⟨[], ?_, .nil⟩, ⟨[], ?_, .nil⟩, n3⟩ hpt hpr0 fun b o hb ne => ?_
  · show upd _ p _ p = _
    rw [upd_same]
    congr 2
  · show upd _ p _ pt = _
    rw [upd_ne n1.symm, upd_ne n3, upd_ne n1.symm, upd_same]
  · show upd _ p _ pr = _
    rw [upd_ne n2.symm, upd_same]
  · rw [upd_ne ne, upd_ne (ne_of_none hb hpr0), upd_ne ne, upd_ne (ne_of_none hb hpt)]
    exact hb
/-! ### The calls by their numbers -/
def RC (p : Nat) (d : Desk) (ns : List Int) (d' : Desk) (ans : List Int) : Prop := ∃ body args c, ns = ofN body ∧ Wm.Head p body args ∧ Gq03Neutral.callIn (p :: args) = some c ∧ (∀ z ∈ args, z ≤ 4294967295) ∧ (d', ans) = Gq03.step d c
theorem head_plain {p n : Nat} {body args : List Nat} (hh : Wm.Head p body args) (h : Wm.sizeOf p = some n) : body = args ∧ args.length = n := by
  cases hh with
  | plain h1 h2 =>
    rw [h1] at h
    cases h
    exact ⟨rfl, h2⟩
  | chain _ => exact absurd h (by simp [Wm.sizeOf])
  | all _ => exact absurd h (by simp [Wm.sizeOf])
theorem head_chain {p : Nat} {body args : List Nat} (hh : Wm.Head p body args) (h : p = 11) : ∃ x row, body = x :: row.length :: row ∧ args = x :: row := by
  cases hh with
  | plain h1 h2 => subst h; exact absurd h1 (by simp [Wm.sizeOf])
  | chain _ => exact ⟨_, _, rfl, rfl⟩
  | all _ => exact absurd h (by decide)
theorem head_all {p : Nat} {body args : List Nat} (hh : Wm.Head p body args) (h : p = 12) : body = args.length :: args := by
  cases hh with
  | plain h1 h2 => subst h; exact absurd h1 (by simp [Wm.sizeOf])
  | chain _ => exact absurd h (by decide)
  | all _ => rfl
theorem len0 {A : Type} {l : List A} (h : l.length = 0) : l = [] := List.eq_nil_of_length_eq_zero h
theorem len1 {A : Type} {l : List A} (h : l.length = 1) : ∃ a, l = [a] := by
  match l, h with
  | [a], _ => exact ⟨a, rfl⟩
theorem len2 {A : Type} {l : List A} (h : l.length = 2) : ∃ a b, l = [a, b] := by
  match l, h with
  | [a, b], _ => exact ⟨a, b, rfl⟩
theorem len3 {A : Type} {l : List A} (h : l.length = 3) : ∃ a b c, l = [a, b, c] := by
  match l, h with
  | [a, b, c], _ => exact ⟨a, b, c, rfl⟩
theorem len4 {A : Type} {l : List A} (h : l.length = 4) : ∃ a b c d, l = [a, b, c, d] := by
  match l, h with
  | [a, b, c, d], _ => exact ⟨a, b, c, d, rfl⟩
section
variable {d : Desk} {ns : List Int} {d' : Desk} {ans : List Int}
theorem RC.r0 (h : RC 0 d ns d' ans) : rRole (fun x k => .kind x k) d ns d' ans := by
  obtain ⟨body, args, c, rfl, hh, hc, hb, e⟩ := h
  obtain ⟨rfl, hl⟩ := head_plain (n := 2) hh rfl
  obtain ⟨a, b, rfl⟩ := len2 hl
  cases hc
  exact ⟨a, b, rfl, e⟩
theorem RC.r1 (h : RC 1 d ns d' ans) : rEdge d ns d' ans := by
  obtain ⟨body, args, c, rfl, hh, hc, hb, e⟩ := h
  obtain ⟨rfl, hl⟩ := head_plain (n := 3) hh rfl
  obtain ⟨a, b, x, rfl⟩ := len3 hl
  cases hc
  exact ⟨a, b, x, rfl, e⟩
theorem RC.r2 (h : RC 2 d ns d' ans) : rOne1 (fun n => .drop n) d ns d' ans := by
  obtain ⟨body, args, c, rfl, hh, hc, hb, e⟩ := h
  obtain ⟨rfl, hl⟩ := head_plain (n := 1) hh rfl
  obtain ⟨a, rfl⟩ := len1 hl
  cases hc
  exact ⟨a, rfl, hb a (by simp), e⟩
theorem RC.r3 (h : RC 3 d ns d' ans) : rSub (fun b c => Gq03.Call.sub b c) d ns d' ans := by
  obtain ⟨body, args, c, rfl, hh, hc, hb, e⟩ := h
  obtain ⟨rfl, hl⟩ := head_plain (n := 4) hh rfl
  obtain ⟨a, b, x, y, rfl⟩ := len4 hl
  cases hc
  exact ⟨a, b, x, y, rfl, e⟩
theorem RC.r4 (h : RC 4 d ns d' ans) : rRole (fun b c => Gq03.Call.role b c) d ns d' ans := by
  obtain ⟨body, args, c, rfl, hh, hc, hb, e⟩ := h
  obtain ⟨rfl, hl⟩ := head_plain (n := 2) hh rfl
  obtain ⟨a, b, rfl⟩ := len2 hl
  cases hc
  exact ⟨a, b, rfl, e⟩
theorem RC.r5 (h : RC 5 d ns d' ans) : rSub (fun b c => Gq03.Call.never b c) d ns d' ans := by
  obtain ⟨body, args, c, rfl, hh, hc, hb, e⟩ := h
  obtain ⟨rfl, hl⟩ := head_plain (n := 4) hh rfl
  obtain ⟨a, b, x, y, rfl⟩ := len4 hl
  cases hc
  exact ⟨a, b, x, y, rfl, e⟩
theorem RC.r6 (h : RC 6 d ns d' ans) : rRole (fun b c => Gq03.Call.neverRole b c) d ns d' ans := by
  obtain ⟨body, args, c, rfl, hh, hc, hb, e⟩ := h
  obtain ⟨rfl, hl⟩ := head_plain (n := 2) hh rfl
  obtain ⟨a, b, rfl⟩ := len2 hl
  cases hc
  exact ⟨a, b, rfl, e⟩
theorem RC.r7 (h : RC 7 d ns d' ans) : rOne1 (fun n => .strike n) d ns d' ans := by
  obtain ⟨body, args, c, rfl, hh, hc, hb, e⟩ := h
  obtain ⟨rfl, hl⟩ := head_plain (n := 1) hh rfl
  obtain ⟨a, rfl⟩ := len1 hl
  cases hc
  exact ⟨a, rfl, hb a (by simp), e⟩
theorem RC.r8 (h : RC 8 d ns d' ans) : rXB (fun x b => .is_ x b) d ns d' ans := by
  obtain ⟨body, args, c, rfl, hh, hc, hb, e⟩ := h
  obtain ⟨rfl, hl⟩ := head_plain (n := 3) hh rfl
  obtain ⟨a, b, x, rfl⟩ := len3 hl
  cases hc
  exact ⟨a, b, x, rfl, e⟩
theorem RC.r9 (h : RC 9 d ns d' ans) : rWho d ns d' ans := by
  obtain ⟨body, args, c, rfl, hh, hc, hb, e⟩ := h
  obtain ⟨rfl, hl⟩ := head_plain (n := 2) hh rfl
  obtain ⟨a, b, rfl⟩ := len2 hl
  cases hc
  exact ⟨a, b, rfl, e⟩
theorem RC.r10 (h : RC 10 d ns d' ans) : rRole (fun x y => .edges x y) d ns d' ans := by
  obtain ⟨body, args, c, rfl, hh, hc, hb, e⟩ := h
  obtain ⟨rfl, hl⟩ := head_plain (n := 2) hh rfl
  obtain ⟨a, b, rfl⟩ := len2 hl
  cases hc
  exact ⟨a, b, rfl, e⟩
theorem RC.r11 (h : RC 11 d ns d' ans) : rChain d ns d' ans := by
  obtain ⟨body, args, c, rfl, hh, hc, hb, e⟩ := h
  obtain ⟨x, row, rfl, rfl⟩ := head_chain hh rfl
  cases hc
  exact ⟨x, row, rfl, e⟩
theorem RC.r12 (h : RC 12 d ns d' ans) : rAllS d ns d' ans := by
  obtain ⟨body, args, c, rfl, hh, hc, hb, e⟩ := h
  cases head_all hh rfl
  cases hc
  exact ⟨args, rfl, e⟩
theorem RC.r13 (h : RC 13 d ns d' ans) : rNo .sound d ns d' ans := by
  obtain ⟨body, args, c, rfl, hh, hc, hb, e⟩ := h
  obtain ⟨rfl, hl⟩ := head_plain (n := 0) hh rfl
  cases len0 hl
  cases hc
  exact ⟨rfl, e⟩
theorem RC.r14 (h : RC 14 d ns d' ans) : rSub (fun b c => .follows b c) d ns d' ans := by
  obtain ⟨body, args, c, rfl, hh, hc, hb, e⟩ := h
  obtain ⟨rfl, hl⟩ := head_plain (n := 4) hh rfl
  obtain ⟨a, b, x, y, rfl⟩ := len4 hl
  cases hc
  exact ⟨a, b, x, y, rfl, e⟩
theorem RC.r15 (h : RC 15 d ns d' ans) : rNo .bad d ns d' ans := by
  obtain ⟨body, args, c, rfl, hh, hc, hb, e⟩ := h
  obtain ⟨rfl, hl⟩ := head_plain (n := 0) hh rfl
  cases len0 hl
  cases hc
  exact ⟨rfl, e⟩
theorem RC.r16 (h : RC 16 d ns d' ans) : rOne1 (fun n => .idle n) d ns d' ans := by
  obtain ⟨body, args, c, rfl, hh, hc, hb, e⟩ := h
  obtain ⟨rfl, hl⟩ := head_plain (n := 1) hh rfl
  obtain ⟨a, rfl⟩ := len1 hl
  cases hc
  exact ⟨a, rfl, hb a (by simp), e⟩
theorem RC.r17 (h : RC 17 d ns d' ans) : rXB (fun x b => .whence x b) d ns d' ans := by
  obtain ⟨body, args, c, rfl, hh, hc, hb, e⟩ := h
  obtain ⟨rfl, hl⟩ := head_plain (n := 3) hh rfl
  obtain ⟨a, b, x, rfl⟩ := len3 hl
  cases hc
  exact ⟨a, b, x, rfl, e⟩
theorem RC.r18 (h : RC 18 d ns d' ans) : rNo .fewest d ns d' ans := by
  obtain ⟨body, args, c, rfl, hh, hc, hb, e⟩ := h
  obtain ⟨rfl, hl⟩ := head_plain (n := 0) hh rfl
  cases len0 hl
  cases hc
  exact ⟨rfl, e⟩
end
theorem held_of {k j : Nat} {x : Str} {ps : List Str} {R R' : Desk → List Int → Desk → List Int → Prop} {f : Addr} (D : Def P w K mg base k x ps (spC K C R)) (hf : mg x = some (.ref f)) (hk : k ≤ j) (hR : ∀ d ns d' ans, R' d ns d' ans → R d ns d' ans) : Held P w K mg base j f (spC K C R') := by
  obtain ⟨f', fd, F, hm, kp, b⟩ := D.ex
  have e : f' = f := by
    rw [hm] at hf
    cases hf
    rfl
  subst e
  exact ⟨fd, ps, (F.mono hk).imp fun vs H Q E ⟨l, d, n, ns, d', ans, h1, h2, h3, h4, h5, h6⟩ => ⟨l, d, n, ns, d', ans, h1, h2, h3, h4, hR _ _ _ _ h5, h6⟩, kp, b⟩
/-! ### The walk over the calls -/
theorem own_ints {H : Hp} {p : Addr} {ns : List Int} : Own K H p (ns.map PyData.int) ↔ H p = some (.lst (ns.map V.int)) := by
  constructor
  · rintro ⟨xs, h, d⟩
    rw [d.ints] at h
    exact h
  · intro h
    exact ⟨_, h, .of_ints⟩
theorem ls_ints {H : Hp} {a : Addr} {ns : List Int} (h : SqL K H a (ns.map V.int)) : Ls K H (.ref a) (ns.map PyData.int) := ⟨a, _, rfl, h, .of_ints⟩
theorem Exd.ex {l : Pl} {H0 H H' : Hp} (n1 : H0 l.pt = none) (n2 : H0 l.pr = none) (e : Ex H0 H) (x : Exd l H H') : Ex H0 H' := fun a o h => x a o (ne_of_none h n1) (ne_of_none h n2) (e a o h)
theorem ve_c {σ : L2.St} {H : Hp} {v : V} {d : PyData} (h : ∀ H, Dt K H v d) : Ve K (tC v) σ H d := fun H1 _ _ q => q v H1 (Ex.refl H1) (h H1)
abbrev s_call_end : Stmt := top 114
theorem sc_call_end : FnScope ["calls", "at", "number", "end"] ["calls", "at"] (defScope s_call_end) := ⟨rfl, rfl, rfl, by decide +kernel, rfl, by decide +kernel, by decide +kernel⟩
abbrev s_answers : Stmt := top 115
theorem sc_answers : FnScope ["calls", "desk", "given", "at", "number", "end", "answer"] ["calls"] (defScope s_answers) := ⟨rfl, rfl, rfl, by decide +kernel, rfl, by decide +kernel, by decide +kernel⟩
def sizes : List Nat := [2, 3, 1, 4, 2, 4, 2, 1, 3, 2, 2, 1, 0, 0, 4, 0, 1, 3, 0]
theorem head_size {p : Nat} {body args : List Nat} (h : Wm.Head p body args) : p ≤ 18 ∧ ((p ≠ 11 ∧ p ≠ 12 ∧ sizes[p]? = some body.length) ∨ (p = 11 ∧ ∃ x row, body = x :: row.length :: row) ∨ (p = 12 ∧ ∃ row, body = row.length :: row)) := by
  cases h with
  | chain _ => exact ⟨by decide, .inr (.inl ⟨rfl, _, _, rfl⟩)⟩
  | all _ => exact ⟨by decide, .inr (.inr ⟨rfl, _, rfl⟩)⟩
  | plain h1 h2 =>
    rename_i n
    subst h2
    have hp : p ≤ 18 := by
      apply Classical.byContradiction
      intro no
      unfold Wm.sizeOf at h1
      rw [List.getD_eq_getElem?_getD, List.getElem?_eq_none (by simp; omega)] at h1
      cases h1
    refine ⟨hp, .inl ?_⟩
    match p, hp, h1 with
    | 0, _, h1 => exact ⟨by decide, by decide, h1⟩
    | 1, _, h1 => exact ⟨by decide, by decide, h1⟩
    | 2, _, h1 => exact ⟨by decide, by decide, h1⟩
    | 3, _, h1 => exact ⟨by decide, by decide, h1⟩
    | 4, _, h1 => exact ⟨by decide, by decide, h1⟩
    | 5, _, h1 => exact ⟨by decide, by decide, h1⟩
    | 6, _, h1 => exact ⟨by decide, by decide, h1⟩
    | 7, _, h1 => exact ⟨by decide, by decide, h1⟩
    | 8, _, h1 => exact ⟨by decide, by decide, h1⟩
    | 9, _, h1 => exact ⟨by decide, by decide, h1⟩
    | 10, _, h1 => exact ⟨by decide, by decide, h1⟩
    | 11, _, h1 => exact absurd h1 (by simp [Wm.sizeOf])
    | 12, _, h1 => exact absurd h1 (by simp [Wm.sizeOf])
    | 13, _, h1 => exact ⟨by decide, by decide, h1⟩
    | 14, _, h1 => exact ⟨by decide, by decide, h1⟩
    | 15, _, h1 => exact ⟨by decide, by decide, h1⟩
    | 16, _, h1 => exact ⟨by decide, by decide, h1⟩
    | 17, _, h1 => exact ⟨by decide, by decide, h1⟩
    | 18, _, h1 => exact ⟨by decide, by decide, h1⟩
def rEnd : List Dx.Arg → PyData → Prop := fun as d => ∃ (ns : List Int) (i p : Nat) (body args : List Nat) (rest : List Int), as = [.l (ns.map PyData.int), .p (eN i)] ∧ ns.drop i = ofN (p :: body) ++ rest ∧ Wm.Head p body args ∧ d = eN (i + 1 + body.length)
theorem rEnd_len : ∀ as d, rEnd as d → as.length = 2 := by rintro as d ⟨_, _, _, _, _, _, rfl, _⟩; rfl
abbrev sp_call_end (K : PySem.W.Frag) : Sp := spV K rEnd
/-- an item of a row of the module's own -/
theorem ve_ixK {σ : L2.St} {H : Hp} {a : Addr} {xs : List V} {tb : TE} {i : Nat} {z : Int} (hT : ∀ H, SqT K H a xs) (hb : Ve K tb σ H (.int (i : Int))) (hx : xs[i]? = some (.int z)) : Ve K (tOp (rIxT K) (tC (.ref a)) tb) σ H (.int z) := fun H1 e Q q =>
  hb H1 e _ fun w H2 e2 hw => by
    cases hw.int_eq
    exact ⟨a, xs, _, _, rfl, rfl, hT H2, atI_nat hx, q _ H2 e2 .int⟩
theorem ok_call_end (T : Txt mg) {a_SIZES a_WITH_ROW : Addr} (g_SIZES : mg "SIZES" = some (.ref a_SIZES)) (g_WITH_ROW : mg "WITH_ROW" = some (.ref a_WITH_ROW)) (hZ : ∀ H, SqT K H a_SIZES (sizes.map fun n => V.int (n : Nat))) (hW : ∀ H, SqT K H a_WITH_ROW [.int 11, .int 12]) (F : At K mg "call_end" s_call_end ["calls", "at"]) : Def P w K mg base 1 "call_end" ["calls", "at"] (sp_call_end K) := by
  refine F.ok sc_call_end (spV_len rEnd_len) fun f cdv AA outer s H vs Q EE hr h => ?_
  obtain ⟨as, d, ha, ⟨ns, i, p, body, args, rest, rfl, hsplit, hh, rfl⟩, q⟩ := h
  obtain ⟨v1, v2, rfl, hv1, hv2⟩ := args2 ha
  have hv1 : Ls K H v1 (ns.map PyData.int) := hv1
  have hv2 : Dt K H v2 (.int (i : Int)) := hv2
  have nd := sc_call_end.nd
  have hu := hu65 hr
  refine ⟨(tSeq (tAsg (tOp (rIxL K) (tVar 0) (tVar 1)) (gName 2))
    (tSeq (tAsg (tOp (rI0 fun i j => .int (i + j)) (tOp (rI0 fun i j => .int (i + j)) (tVar 1) (tC (.int 1))) (tOp (rIxT K) (tC (.ref a_SIZES)) (tVar 2))) (gName 3))
    (tRet (tIf (tTest (tOp (L2.rIn K false) (tVar 2) (tC (.ref a_WITH_ROW)))) (tOp (rI0 fun i j => .int (i + j)) (tOp (rI0 fun i j => .int (i + j)) (tVar 3) (tC (.int 1))) (tOp (rIxL K) (tVar 0) (tVar 3))) (tVar 3))))), (pss_cons (ps_set (i := 2) nd rfl (Or.inl rfl) (pe_ix ix_list (pv 0) (pv 1) (fun _ _ => rfl)))
      (pss_cons (ps_set (i := 3) nd rfl (Or.inl rfl) (pe_op op_add (pe_op op_add (pv 1) pe_int) (pe_ix ix_tup (pe_gR g_SIZES) (pv 2) (fun _ _ => rfl))))
      (pss_one (ps_ret (pe_ifExp (pt_cmpR op_in_seq (pv 2) (pe_gR g_WITH_ROW) (by rfl)) (pe_op op_add (pe_op op_add (pv 3) pe_int) (pe_ix ix_list (pv 0) (pv 3) (fun _ _ => rfl))) (pv 3)))))), ?_⟩
  cases hv2.int_eq
  have get : ∀ j, ns[i + j]? = (ofN (p :: body) ++ rest)[j]? := fun j => by
    rw [← hsplit, List.getElem?_drop]
  have hget : ns[i]? = some (p : Int) := by
    have := get 0
    simpa [ofN] using this
  obtain ⟨hp18, hsz⟩ := head_size hh
  refine q_setV (K := K) (ve_ixL (i := i) (d := .int (p : Int)) (vl_var rfl hv1) (ve_var rfl .int) (by rw [List.getElem?_map, hget]; rfl)) fun v3 H1 e1 h3 => ?_
  cases h3.int_eq
  obtain ⟨z, hz⟩ : ∃ z, sizes[p]? = some z := ⟨sizes[p]'(by show p < 19; omega), List.getElem?_eq_getElem (by show p < 19; omega)⟩
  refine q_setV (K := K) (d := .int ((i + 1 + z : Nat) : Int)) ((ve_I0 (g := (· + ·)) (ve_I0 (g := (· + ·)) (ve_var rfl .int) ve_int) (ve_ixK (i := p) (z := (z : Int)) hZ (ve_var rfl .int) (by rw [List.getElem?_map, hz]; rfl))).to (by congr 1)) fun v4 H2 e2 h4 => ?_
  cases h4.int_eq
  have e12 := e1.trans e2
  have inr : inV (.int (p : Int)) [.int 11, .int 12] = (decide (p = 11) || decide (p = 12)) := by
    match p, hp18 with
    | 0, _ => decide
    | 1, _ => decide
    | 2, _ => decide
    | 3, _ => decide
    | 4, _ => decide
    | 5, _ => decide
    | 6, _ => decide
    | 7, _ => decide
    | 8, _ => decide
    | 9, _ => decide
    | 10, _ => decide
    | 11, _ => decide
    | 12, _ => decide
    | 13, _ => decide
    | 14, _ => decide
    | 15, _ => decide
    | 16, _ => decide
    | 17, _ => decide
    | 18, _ => decide
  have tst : EvT (tTest (tOp (L2.rIn K false) (tVar 2) (tC (.ref a_WITH_ROW)))) [some v1, some (.int (i : Int)), some (.int (p : Int)), some (.int ((i + 1 + z : Nat) : Int))] H2 (decide (p = 11) || decide (p = 12)) := by
    rw [← inr]
    exact et_test (ev_op (ev_var rfl) (fun H1 _ _ q => q H1 (Ex.refl H1)) (rv_isT (hW H2) rfl rfl))
  refine s_retV (ve_if tst (fun c => ?_) (fun c => ?_)) fun v H3 e3 hv => q v H3 (e12.trans e3) hv
  · rw [Bool.or_eq_true, decide_eq_true_iff, decide_eq_true_iff] at c
    rcases hsz with ⟨h1, h2, _⟩ | ⟨rfl, x, row, rfl⟩ | ⟨rfl, row, rfl⟩
    · exact absurd c (by omega)
    · have ez : z = 1 := by
        have : sizes[11]? = some 1 := rfl
        rw [this] at hz
        cases hz; rfl
      subst ez
      have g2 := get 2
      have g2 : ns[i + 1 + 1]? = some ((row.length : Nat) : Int) := by simpa [ofN] using g2
      refine (ve_I0 (g := (· + ·)) (ve_I0 (g := (· + ·)) (ve_var rfl .int) ve_int) (ve_ixL (i := i + 1 + 1) (d := .int ((row.length : Nat) : Int)) (vl_var rfl (hv1.ex e12)) (ve_var rfl .int) (by rw [List.getElem?_map, g2]; rfl))).to ?_
      unfold eN
      congr 1
      simp only [List.length_cons]
      omega
    · have ez : z = 0 := by
        have : sizes[12]? = some 0 := rfl
        rw [this] at hz
        cases hz; rfl
      subst ez
      have g2 := get 1
      have g2 : ns[i + 1 + 0]? = some ((row.length : Nat) : Int) := by simpa [ofN] using g2
      refine (ve_I0 (g := (· + ·)) (ve_I0 (g := (· + ·)) (ve_var rfl .int) ve_int) (ve_ixL (i := i + 1 + 0) (d := .int ((row.length : Nat) : Int)) (vl_var rfl (hv1.ex e12)) (ve_var rfl .int) (by rw [List.getElem?_map, g2]; rfl))).to ?_
      unfold eN
      congr 1
      simp only [List.length_cons]
      omega
  · rw [Bool.or_eq_false_iff, decide_eq_false_iff_not, decide_eq_false_iff_not] at c
    rcases hsz with ⟨h1, h2, h3⟩ | ⟨e, _⟩ | ⟨e, _⟩
    · rw [hz] at h3
      cases h3
      exact ve_var rfl .int
    · exact absurd e c.1
    · exact absurd e c.2
def sp_answers (K : PySem.W.Frag) : Sp := fun vs H Q _ => ∃ (a : Addr) (ns : List Int), vs = [.ref a] ∧ SqL K H a (ns.map V.int) ∧ ns.length ≤ 1140 ∧ Wm.From ns.length 60 ns ∧
  ∀ (H' : Hp) (p : Addr), H' p = some (.lst ((Wm.outs ns.length Gq03.init ns).map V.int)) → Q (.ref p) H'
theorem ok_answers (T : Txt mg) (X : Cl K C) {fI : Addr} {fdI : FuncData} (M_Desk : Mk K C fI) (G_Desk : FnOk P w K mg base CX0 1 fI fdI ["self"] (sp_init K C)) (b_Desk : Binds K fdI ["self"] []) (mg_Desk : mg "Desk" = some (.ref C)) (D_call_end : Def P w K mg base 1 "call_end" ["calls", "at"] (sp_call_end K))
    {a_CALLS : Addr} (g_CALLS : mg "CALLS" = some (.ref a_CALLS)) (fa : List Addr) (hfa : fa.length = 19) (hC : ∀ H, SqT K H a_CALLS (fa.map V.ref))
    (S : Addr → Sp → Prop) (eS : S = fun f sp => ∃ p, fa[p]? = some f ∧ sp = spC K C (RC p)) (hS : ∀ f sp, S f sp → Held P w K mg base 18 f sp)
    {f : Addr} {fd : FuncData} (F : Fun K "answers" "answers" s_answers f fd) : FnOk P w K mg base CX0 20 f fd ["calls"] (sp_answers K) := by
  refine F.ok sc_answers (by rintro vs H Q E ⟨a, ns, rfl, _⟩; rfl) fun cdv AA outer s H vs Q EE hr h => ?_
  obtain ⟨a, ns, rfl, hL, hlen, hfrom, q⟩ := h
  have nd := sc_answers.nd
  refine ⟨(tSeq (tAsg (tMake C (sp_init K C) [] E0 tNil) (gName 1))
    (tSeq (tAsg (tLst tNil) (gName 2))
    (tSeq (tAsg (tC (.int 0)) (gName 3))
    (tSeq (tWhile (tTest (tOp (rI0 fun i j => .bl (decide (i < j))) (tVar 3) (tCB (rLenS K) (tCons (tVar 0) tNil))))
      (tSeq (tAsg (tOp (rIxL K) (tVar 0) (tVar 3)) (gName 4))
    (tSeq (tAsg (tCall (sp_call_end K) [] E0 (tCons (tVar 0) (tCons (tVar 3) tNil))) (gName 5))
    (tSeq (tAsg (tCallAt S (tOp (rIxT K) (tC (.ref a_CALLS)) (tVar 4)) (tCons (tVar 1) (tCons (tSl (rSlL K) (tVar 0) (tPart (tOp (rI0 fun i j => .int (i + j)) (tVar 3) (tC (.int 1)))) (tPart (tVar 5))) tNil))) (gName 6))
    (tSeq (tDrop (tBM K "list" rAppend (tVar 2) (tCons (tCB (rLenS K) (tCons (tVar 6) tNil)) tNil)))
    (tSeq (tDrop (tBM K "list" rExtend (tVar 2) (tCons (tVar 6) tNil)))
    (tAsg (tVar 5) (gName 3))))))))
    (tRet (tVar 2)))))), (pss_cons (ps_set (i := 1) nd rfl (Or.inl rfl) (pe_make0 M_Desk G_Desk (hr.mono (by decide)) (by rfl) mg_Desk b_Desk .nil pass0))
      (pss_cons (ps_set (i := 2) nd rfl (Or.inl rfl) (pe_lst pa_nil))
      (pss_cons (ps_set (i := 3) nd rfl (Or.inl rfl) pe_int)
      (pss_cons (ps_while PassesOwn.never (pt_cmpR op_lt (pv 3) (pe_callB call_len_seq (by rfl) T.b_len PySem.boot_len (pa_cons (pv 0) pa_nil)) (nomark _))
        (pss_cons (ps_set (i := 4) nd rfl (Or.inl rfl) (pe_ix ix_list (pv 0) (pv 3) (fun _ _ => rfl)))
      (pss_cons (ps_set (i := 5) nd rfl (Or.inl rfl) (pe_def D_call_end (hr.mono (by decide)) (by rfl) (pa_cons (pv 0) (pa_cons (pv 3) pa_nil))))
      (pss_cons (ps_set (i := 6) nd rfl (Or.inl rfl) (pe_callAt (S := S) hS (hr.mono (by decide)) (pe_ix ix_tup (pe_gR g_CALLS) (pv 4) (fun _ _ => rfl)) (pa_cons (pv 1) (pa_cons (pe_slice sl_list (pv 0) (po_some (pe_op op_add (pv 3) pe_int)) (po_some (pv 5))) pa_nil))))
      (pss_cons (ps_expr (pe_bm PySem.F.plainAttrs_list PySem.F.slot_list_append PySem.F.type_list_append mt_append (pv 2) (pa_cons (pe_callB call_len_seq (by rfl) T.b_len PySem.boot_len (pa_cons (pv 6) pa_nil)) pa_nil)))
      (pss_cons (ps_expr (pe_bm PySem.F.plainAttrs_list PySem.F.slot_list_extend PySem.F.type_list_extend mt_extend (pv 2) (pa_cons (pv 6) pa_nil)))
      (pss_one (ps_set (i := 3) nd rfl (Or.inl rfl) (pv 5)))))))))
      (pss_one (ps_ret (pv 2))))))), ?_⟩
  intro x dx nx ndx ne
  refine ⟨x, dx, rfl, upd_same, fun H1 pt pr dk npt npr kp => ⟨rfl, ?_⟩⟩
  have s1 : Ex H H1 := Same.made nx ndx kp
  have back : ∀ b, (upd (upd H dx (.own x)) x (.ins C dx [])) b = none → H b = none := fun b hb => by
    by_cases h1 : b = x
    · subst h1; rw [upd_same] at hb; cases hb
    · rw [upd_ne h1] at hb
      by_cases h2 : b = dx
      · subst h2; exact ndx
      · rw [upd_ne h2] at hb; exact hb
  have n1 : H pt = none := back pt npt
  have n2 : H pr = none := back pr npr
  have hL := ls_ints hL
  refine q_setN (vn_lst (K := K) [] va_nil (by simp)) fun g H2 ng e2 og => ?_
  have gpt : g ≠ pt := fun e => by subst e; obtain ⟨xs, hx⟩ := Own.at dk.told; rw [hx] at ng; cases ng
  have gpr : g ≠ pr := fun e => by subst e; obtain ⟨xs, hx⟩ := Own.at dk.rules; rw [hx] at ng; cases ng
  have ng0 : H g = none := fresh_back s1 ng
  refine q_setV (K := K) ve_int fun v3 H3 e3 h3 => ?_
  cases h3.int_eq
  refine q_while (fun m σ' H' => ∃ i f k d out y4 y5 y6, σ' = [some (.ref a), some (.ref x), some (.ref g), some (.int ((i : Nat) : Int)), y4, y5, y6] ∧ m = ns.length - i ∧ i ≤ ns.length ∧ Ex H H' ∧ Own K H' g (out.map PyData.int) ∧ Dk K C H' ⟨x, dx, pt, pr⟩ d ∧ Fit d ∧ Wm.From f k (ns.drop i) ∧ out.length + 31 * k ≤ 1860 ∧
      Wm.outs ns.length Gq03.init ns = out ++ Wm.outs f d (ns.drop i)) ns.length
    ⟨0, ns.length, 60, Gq03.init, [], none, none, none, rfl, rfl, Nat.zero_le _, (s1.trans e2).trans e3, og.ex e3, (dk.ex e2).ex e3, Wm.fit_init, hfrom, by decide, rfl⟩ ?_
  rintro m σ' H' ⟨i, f', k, d, out, y4, y5, y6, rfl, rfl, hi, ex, o, dk', fit, hF, hk, hout⟩
  refine ⟨_, vt_test (ve_B0 (g := fun i j => decide (i < j)) (ve_var rfl .int) (ve_len (vl_var rfl (hL.ex ex)))), fun hb H4 e4 => ?_, fun hb H4 e4 => ?_⟩
  · have hb : (i : Int) < ((ns.map PyData.int).length : Int) := of_decide_eq_true hb
    rw [List.length_map] at hb
    obtain ⟨f2, k2, p, body, args, c, rest, rfl, rfl, hsplit, hhead, hcall, hbnd, hF2, hstep⟩ := Wm.next (l := ns.drop i) (by
      intro e
      have := congrArg List.length e
      rw [List.length_drop] at this
      simp at this
      omega) hF
    have hp18 := (head_size hhead).1
    have hget : ns[i]? = some (p : Int) := by
      have := congrArg (fun l => l[0]?) hsplit
      simp only [List.getElem?_drop] at this
      simpa [ofN] using this
    have hbody : (ns.take (i + 1 + body.length)).drop (i + 1) = ofN body := by
      rw [List.drop_take]
      have e1 : ns.drop (i + 1) = ofN body ++ rest := by
        have := congrArg (fun l => l.drop 1) hsplit
        simp only [List.drop_drop] at this
        exact this
      rw [e1]
      have e2 : i + 1 + body.length - (i + 1) = (ofN body).length := by
        unfold ofN
        rw [List.length_map]
        omega
      rw [e2, List.take_left]
    have hrest : ns.drop (i + 1 + body.length) = rest := by
      have := congrArg (fun l => l.drop (1 + body.length)) hsplit
      simp only [List.drop_drop] at this
      rw [Nat.add_assoc, this]
      show (ofN (p :: body) ++ rest).drop (1 + body.length) = rest
      have : 1 + body.length = (ofN (p :: body)).length := by
        unfold ofN
        rw [List.length_map, List.length_cons]
        omega
      rw [this, List.drop_left]
    have hle : i + 1 + body.length ≤ ns.length := by
      have := congrArg List.length hsplit
      rw [List.length_drop, List.length_append] at this
      unfold ofN at this
      rw [List.length_map, List.length_cons] at this
      omega
    refine ⟨_, fun σ2 H2 h => h, ?_⟩
    have ex4 := ex.trans e4
    refine q_setV (K := K) (ve_ixL (i := i) (d := .int (p : Int)) (vl_var rfl (hL.ex ex4)) (ve_var rfl .int) (by rw [List.getElem?_map, hget]; rfl)) fun v5 H5 e5 h5 => ?_
    cases h5.int_eq
    have ex5 := ex4.trans e5
    refine q_setV (K := K) (ve_call (va_l (vl_var rfl (hL.ex ex5)) (va_p (ve_var rfl .int) va_nil)) ⟨ns, i, p, body, args, rest, rfl, hsplit, hhead, rfl⟩) fun v6 H6 e6 h6 => ?_
    cases h6.int_eq
    have ex6 := ex5.trans e6
    have dk6 := ((dk'.ex e4).ex e5).ex e6
    -- the call
    obtain ⟨fp, hfp⟩ : ∃ fp, fa[p]? = some fp := ⟨fa[p]'(by omega), List.getElem?_eq_getElem (by omega)⟩
    refine ⟨_, rfl, a_CALLS, fa.map V.ref, (p : Int), .ref fp, rfl, rfl, hC H6, atI_nat (by rw [List.getElem?_map, hfp]; rfl), fp, _, rfl, by rw [eS]; exact ⟨p, hfp, rfl⟩, ?_⟩
    refine ⟨_, rfl, vn_sl (K := K) (lo := i + 1) (hi := i + 1 + body.length) (vl_var rfl (hL.ex ex6)) ((ve_I0 (g := (· + ·)) (ve_var rfl .int) ve_int).to (by congr 1)) (ve_var rfl .int) H6 (Ex.refl H6) _ fun n H7 nn e7 on => ?_⟩
    have dk7 := dk6.ex e7
    rw [← List.map_take, ← List.map_drop, hbody] at on
    refine ⟨⟨x, dx, pt, pr⟩, d, .ref n, ofN body, (Gq03.step d c).1, (Gq03.step d c).2, rfl, dk7, fit, on.ls, ⟨body, args, c, rfl, hhead, hcall, hbnd, rfl⟩, fun r H8 xd dk8 nr or => ?_⟩
    have o7 : Own K H7 g (out.map PyData.int) := ((o.ex e4).ex e5).ex (e6.trans e7)
    have o8 : Own K H8 g (out.map PyData.int) := own_ints.mpr (xd g _ gpt gpr (own_ints.mp o7))
    have ex8 : Ex H H8 := Exd.ex (l := ⟨x, dx, pt, pr⟩) n1 n2 (ex6.trans e7) xd
    have sl := Wm.step_len fit c
    have ngr : r ≠ g := fun e => by subst e; rw [own_ints.mp o7] at nr; cases nr
    refine q_app o8 rfl (ve_len (vo_var rfl or).l) (by rw [List.length_map]; omega) fun H9 b9 t9 o9 => ?_
    have or9 : Own K H9 r ((Gq03.step d c).2.map PyData.int) := b9.own ngr t9 or
    have dk9 : Dk K C H9 ⟨x, dx, pt, pr⟩ (Gq03.step d c).1 := ⟨b9 _ _ (fun e => by
      have h1 := dk8.ins
      have h2 := own_ints.mp o8
      rw [← e] at h2
      rw [h2] at h1
      cases h1) dk8.ins, b9.own gpt.symm t9 dk8.told, b9.own gpr.symm t9 dk8.rules, dk8.ne⟩
    have ex9 : Ex H H9 := Exb.ex ng0 ex8 b9
    refine q_ext o9 rfl (vo_var rfl or9) (by rw [List.length_append, List.length_map, List.length_map, List.length_singleton]; omega) fun H10 b10 t10 o10 => ?_
    refine s_setV (K := K) (ve_var rfl .int) fun v11 H11 e11 h11 => ?_
    cases h11.int_eq
    have dk10 : Dk K C H10 ⟨x, dx, pt, pr⟩ (Gq03.step d c).1 := ⟨b10 _ _ (fun e => by
      have h1 := dk9.ins
      obtain ⟨xs, h2⟩ := Own.at o9
      rw [← e] at h2
      rw [h2] at h1
      cases h1) dk9.ins, b10.own gpt.symm t10 dk9.told, b10.own gpr.symm t10 dk9.rules, dk9.ne⟩
    refine ⟨ns.length - (i + 1 + body.length), by omega, i + 1 + body.length, f2, k2, (Gq03.step d c).1, out ++ ((((Gq03.step d c).2.length : Nat) : Int) :: (Gq03.step d c).2), _, _, _, rfl, rfl, hle, (Exb.ex ng0 ex9 b10).trans e11, ?_, dk10.ex e11, Wm.fit_step fit c, by rw [hrest]; exact hF2, ?_, ?_⟩
    · rw [List.append_assoc] at o10
      have o11 := o10.ex e11
      rw [List.length_map] at o11
      rw [List.map_append, List.map_cons]
      exact o11
    · rw [List.length_append, List.length_cons]
      omega
    · rw [hout, hstep d, hrest, List.append_assoc]
  · have hb : ¬ (i : Int) < ((ns.map PyData.int).length : Int) := of_decide_eq_false hb
    rw [List.length_map] at hb
    have e : ns.drop i = [] := List.drop_eq_nil_of_le (by omega)
    rw [e, Wm.outs_nil, List.append_nil] at hout
    refine s_retO rfl (q H4 g ?_)
    rw [hout]
    exact own_ints.mp (o.ex e4)
end
end Wp

set_option Elab.async false
set_option linter.all false
set_option maxRecDepth 100000
set_option maxHeartbeats 2000000
namespace Wp
open PySem PySem.Spec PyProof.Rows L2 Evl Dx
open PySem.W (Codec)
theorem all_mk {P : Program} {w : World} {K : PySem.W.Frag} {h : Heap} {mg : Str → Option Value} {fa : Addr} {f_is_node f_is_kind f_is_label f_is_direction f_is_basic f_nodes f_directions f_basics f_forward f_backward f_label f_is_forward f_turned f_reached f_reached_from_each f_reached_from_all f_direction_steps f_basic_steps f_forbids f_clashes f_bad_ones f_told_directions f_directions_between f_told_basics f_profile f_clash_between f_is_wrong f_wrong_nodes f_can_be f_certain_nodes f_certain_directions f_sources f_thing_with_edge f_thing_with_basic f_always_sub f_always_role f_always_never f_always_neverrole f_always_kept f_own_profile f_fits f_own_nodes f_is_over f_round_trips f_look_out f_told_moves f_certain_starts f_impossible_ones f_later_foes f_first_row f_fewest_to_drop f_tell f_add_rule f_add_basic_rule f_add_direction_rule f_take_out f_kind f_edge f_drop f_sub f_role f_never f_neverrole f_strike f_one_or_zero f_counted f_is_so f_who f_edges f_is_step f_are_steps f_starts_of f_chain f_from_all f_sound f_follows f_bad f_idle f_whence f_fewest f_call_end f_answers : Addr} {od_is_node an_is_node od_is_kind an_is_kind od_is_label an_is_label od_is_direction an_is_direction od_is_basic an_is_basic od_nodes an_nodes od_directions an_directions od_basics an_basics od_forward an_forward od_backward an_backward od_label an_label od_is_forward an_is_forward od_turned an_turned od_reached an_reached od_reached_from_each an_reached_from_each od_reached_from_all an_reached_from_all od_direction_steps an_direction_steps od_basic_steps an_basic_steps od_forbids an_forbids od_clashes an_clashes od_bad_ones an_bad_ones od_told_directions an_told_directions od_directions_between an_directions_between od_told_basics an_told_basics od_profile an_profile od_clash_between an_clash_between od_is_wrong an_is_wrong od_wrong_nodes an_wrong_nodes od_can_be an_can_be od_certain_nodes an_certain_nodes od_certain_directions an_certain_directions od_sources an_sources od_thing_with_edge an_thing_with_edge od_thing_with_basic an_thing_with_basic od_always_sub an_always_sub od_always_role an_always_role od_always_never an_always_never od_always_neverrole an_always_neverrole od_always_kept an_always_kept od_own_profile an_own_profile od_fits an_fits od_own_nodes an_own_nodes od_is_over an_is_over od_round_trips an_round_trips od_look_out an_look_out od_told_moves an_told_moves od_certain_starts an_certain_starts od_impossible_ones an_impossible_ones od_later_foes an_later_foes od_first_row an_first_row od_fewest_to_drop an_fewest_to_drop od_tell an_tell od_add_rule an_add_rule od_add_basic_rule an_add_basic_rule od_add_direction_rule an_add_direction_rule od_take_out an_take_out od_kind an_kind od_edge an_edge od_drop an_drop od_sub an_sub od_role an_role od_never an_never od_neverrole an_neverrole od_strike an_strike od_one_or_zero an_one_or_zero od_counted an_counted od_is_so an_is_so od_who an_who od_edges an_edges od_is_step an_is_step od_are_steps an_are_steps od_starts_of an_starts_of od_chain an_chain od_from_all an_from_all od_sound an_sound od_follows an_follows od_bad an_bad od_idle an_idle od_whence an_whence od_fewest an_fewest od_call_end an_call_end od_answers an_answers : Option Addr} {sl_is_node sl_is_kind sl_is_label sl_is_direction sl_is_basic sl_nodes sl_directions sl_basics sl_forward sl_backward sl_label sl_is_forward sl_turned sl_reached sl_reached_from_each sl_reached_from_all sl_direction_steps sl_basic_steps sl_forbids sl_clashes sl_bad_ones sl_told_directions sl_directions_between sl_told_basics sl_profile sl_clash_between sl_is_wrong sl_wrong_nodes sl_can_be sl_certain_nodes sl_certain_directions sl_sources sl_thing_with_edge sl_thing_with_basic sl_always_sub sl_always_role sl_always_never sl_always_neverrole sl_always_kept sl_own_profile sl_fits sl_own_nodes sl_is_over sl_round_trips sl_look_out sl_told_moves sl_certain_starts sl_impossible_ones sl_later_foes sl_first_row sl_fewest_to_drop sl_tell sl_add_rule sl_add_basic_rule sl_add_direction_rule sl_take_out sl_kind sl_edge sl_drop sl_sub sl_role sl_never sl_neverrole sl_strike sl_one_or_zero sl_counted sl_is_so sl_who sl_edges sl_is_step sl_are_steps sl_starts_of sl_chain sl_from_all sl_sound sl_follows sl_bad sl_idle sl_whence sl_fewest sl_call_end sl_answers : Array (Option Value)} {oc_is_node kV_is_node dc_is_node pm_is_node cd_is_node ct_is_node oc_is_kind kV_is_kind dc_is_kind pm_is_kind cd_is_kind ct_is_kind oc_is_label kV_is_label dc_is_label pm_is_label cd_is_label ct_is_label oc_is_direction kV_is_direction dc_is_direction pm_is_direction cd_is_direction ct_is_direction oc_is_basic kV_is_basic dc_is_basic pm_is_basic cd_is_basic ct_is_basic oc_nodes kV_nodes dc_nodes pm_nodes cd_nodes ct_nodes oc_directions kV_directions dc_directions pm_directions cd_directions ct_directions oc_basics kV_basics dc_basics pm_basics cd_basics ct_basics oc_forward kV_forward dc_forward pm_forward cd_forward ct_forward oc_backward kV_backward dc_backward pm_backward cd_backward ct_backward oc_label kV_label dc_label pm_label cd_label ct_label oc_is_forward kV_is_forward dc_is_forward pm_is_forward cd_is_forward ct_is_forward oc_turned kV_turned dc_turned pm_turned cd_turned ct_turned oc_reached kV_reached dc_reached pm_reached cd_reached ct_reached oc_reached_from_each kV_reached_from_each dc_reached_from_each pm_reached_from_each cd_reached_from_each ct_reached_from_each oc_reached_from_all kV_reached_from_all dc_reached_from_all pm_reached_from_all cd_reached_from_all ct_reached_from_all oc_direction_steps kV_direction_steps dc_direction_steps pm_direction_steps cd_direction_steps ct_direction_steps oc_basic_steps kV_basic_steps dc_basic_steps pm_basic_steps cd_basic_steps ct_basic_steps oc_forbids kV_forbids dc_forbids pm_forbids cd_forbids ct_forbids oc_clashes kV_clashes dc_clashes pm_clashes cd_clashes ct_clashes oc_bad_ones kV_bad_ones dc_bad_ones pm_bad_ones cd_bad_ones ct_bad_ones oc_told_directions kV_told_directions dc_told_directions pm_told_directions cd_told_directions ct_told_directions oc_directions_between kV_directions_between dc_directions_between pm_directions_between cd_directions_between ct_directions_between oc_told_basics kV_told_basics dc_told_basics pm_told_basics cd_told_basics ct_told_basics oc_profile kV_profile dc_profile pm_profile cd_profile ct_profile oc_clash_between kV_clash_between dc_clash_between pm_clash_between cd_clash_between ct_clash_between oc_is_wrong kV_is_wrong dc_is_wrong pm_is_wrong cd_is_wrong ct_is_wrong oc_wrong_nodes kV_wrong_nodes dc_wrong_nodes pm_wrong_nodes cd_wrong_nodes ct_wrong_nodes oc_can_be kV_can_be dc_can_be pm_can_be cd_can_be ct_can_be oc_certain_nodes kV_certain_nodes dc_certain_nodes pm_certain_nodes cd_certain_nodes ct_certain_nodes oc_certain_directions kV_certain_directions dc_certain_directions pm_certain_directions cd_certain_directions ct_certain_directions oc_sources kV_sources dc_sources pm_sources cd_sources ct_sources oc_thing_with_edge kV_thing_with_edge dc_thing_with_edge pm_thing_with_edge cd_thing_with_edge ct_thing_with_edge oc_thing_with_basic kV_thing_with_basic dc_thing_with_basic pm_thing_with_basic cd_thing_with_basic ct_thing_with_basic oc_always_sub kV_always_sub dc_always_sub pm_always_sub cd_always_sub ct_always_sub oc_always_role kV_always_role dc_always_role pm_always_role cd_always_role ct_always_role oc_always_never kV_always_never dc_always_never pm_always_never cd_always_never ct_always_never oc_always_neverrole kV_always_neverrole dc_always_neverrole pm_always_neverrole cd_always_neverrole ct_always_neverrole oc_always_kept kV_always_kept dc_always_kept pm_always_kept cd_always_kept ct_always_kept oc_own_profile kV_own_profile dc_own_profile pm_own_profile cd_own_profile ct_own_profile oc_fits kV_fits dc_fits pm_fits cd_fits ct_fits oc_own_nodes kV_own_nodes dc_own_nodes pm_own_nodes cd_own_nodes ct_own_nodes oc_is_over kV_is_over dc_is_over pm_is_over cd_is_over ct_is_over oc_round_trips kV_round_trips dc_round_trips pm_round_trips cd_round_trips ct_round_trips oc_look_out kV_look_out dc_look_out pm_look_out cd_look_out ct_look_out oc_told_moves kV_told_moves dc_told_moves pm_told_moves cd_told_moves ct_told_moves oc_certain_starts kV_certain_starts dc_certain_starts pm_certain_starts cd_certain_starts ct_certain_starts oc_impossible_ones kV_impossible_ones dc_impossible_ones pm_impossible_ones cd_impossible_ones ct_impossible_ones oc_later_foes kV_later_foes dc_later_foes pm_later_foes cd_later_foes ct_later_foes oc_first_row kV_first_row dc_first_row pm_first_row cd_first_row ct_first_row oc_fewest_to_drop kV_fewest_to_drop dc_fewest_to_drop pm_fewest_to_drop cd_fewest_to_drop ct_fewest_to_drop oc_tell kV_tell dc_tell pm_tell cd_tell ct_tell oc_add_rule kV_add_rule dc_add_rule pm_add_rule cd_add_rule ct_add_rule oc_add_basic_rule kV_add_basic_rule dc_add_basic_rule pm_add_basic_rule cd_add_basic_rule ct_add_basic_rule oc_add_direction_rule kV_add_direction_rule dc_add_direction_rule pm_add_direction_rule cd_add_direction_rule ct_add_direction_rule oc_take_out kV_take_out dc_take_out pm_take_out cd_take_out ct_take_out oc_kind kV_kind dc_kind pm_kind cd_kind ct_kind oc_edge kV_edge dc_edge pm_edge cd_edge ct_edge oc_drop kV_drop dc_drop pm_drop cd_drop ct_drop oc_sub kV_sub dc_sub pm_sub cd_sub ct_sub oc_role kV_role dc_role pm_role cd_role ct_role oc_never kV_never dc_never pm_never cd_never ct_never oc_neverrole kV_neverrole dc_neverrole pm_neverrole cd_neverrole ct_neverrole oc_strike kV_strike dc_strike pm_strike cd_strike ct_strike oc_one_or_zero kV_one_or_zero dc_one_or_zero pm_one_or_zero cd_one_or_zero ct_one_or_zero oc_counted kV_counted dc_counted pm_counted cd_counted ct_counted oc_is_so kV_is_so dc_is_so pm_is_so cd_is_so ct_is_so oc_who kV_who dc_who pm_who cd_who ct_who oc_edges kV_edges dc_edges pm_edges cd_edges ct_edges oc_is_step kV_is_step dc_is_step pm_is_step cd_is_step ct_is_step oc_are_steps kV_are_steps dc_are_steps pm_are_steps cd_are_steps ct_are_steps oc_starts_of kV_starts_of dc_starts_of pm_starts_of cd_starts_of ct_starts_of oc_chain kV_chain dc_chain pm_chain cd_chain ct_chain oc_from_all kV_from_all dc_from_all pm_from_all cd_from_all ct_from_all oc_sound kV_sound dc_sound pm_sound cd_sound ct_sound oc_follows kV_follows dc_follows pm_follows cd_follows ct_follows oc_bad kV_bad dc_bad pm_bad cd_bad ct_bad oc_idle kV_idle dc_idle pm_idle cd_idle ct_idle oc_whence kV_whence dc_whence pm_whence cd_whence ct_whence oc_fewest kV_fewest dc_fewest pm_fewest cd_fewest ct_fewest oc_call_end kV_call_end dc_call_end pm_call_end cd_call_end ct_call_end oc_answers kV_answers dc_answers pm_answers cd_answers ct_answers : Value} {C CL CW aCALLS aSIZES aWITHROW fi_Desk fi_Laws fi_Walk : Addr} {dCALLS dSIZES dWITHROW odi_Desk ani_Desk odi_Laws ani_Laws odi_Walk ani_Walk : Option Addr} {nCALLS nSIZES nWITHROW : Nat} {slCALLS slSIZES slWITHROW sli_Desk sli_Laws sli_Walk : Array (Option Value)} {oci_Desk kVi_Desk dci_Desk pmi_Desk cdi_Desk cti_Desk oci_Laws kVi_Laws dci_Laws pmi_Laws cdi_Laws cti_Laws oci_Walk kVi_Walk dci_Walk pmi_Walk cdi_Walk cti_Walk : Value} {tS0 tS1 tS2 tS3 tS4 tS5 tS6 tS7 tS8 tS9 tS10 tS11 tS12 tS13 tS14 tS15 tS16 tS17 tS18 tW0 tW1 : Tok} {t_LAST_NODE t_LAST_KIND t_LAST_LABEL t_FIRST_DIRECTION t_LAST_DIRECTION t_OF_KIND t_WITH_EDGE t_KIND t_EDGE t_SUB t_ROLE t_NEVER t_NEVERROLE t_NO_SUCH_NUMBER t_NOT_THERE t_FROM_NOTHING t_TOLD_ALREADY t_FULL t_MOST_TOLD t_MOST_RULES t_MOST_STEPS : Tok} (X : K.In h) (G : h.Ns mainGlobals mg) (hfa : mg "answers" = some (.ref fa))
    (a_is_node : PySem.W.nsIn K mainGlobals "is_node" = some (some (.ref f_is_node)))
    (l_is_node : K.lookup f_is_node = some ⟨oc_is_node, od_is_node, .func (PySem.W.fnOf "is_node" "is_node" (defArgs s_is_node) (defBody s_is_node) (defScope s_is_node) .none kV_is_node dc_is_node pm_is_node an_is_node cd_is_node ct_is_node), sl_is_node⟩)
    (c_is_node : PySem.W.codeIn K cd_is_node "is_node" = true)
    (k_is_node : PySem.W.keepIn K (.ref f_is_node) = true)
    (a_is_kind : PySem.W.nsIn K mainGlobals "is_kind" = some (some (.ref f_is_kind)))
    (l_is_kind : K.lookup f_is_kind = some ⟨oc_is_kind, od_is_kind, .func (PySem.W.fnOf "is_kind" "is_kind" (defArgs s_is_kind) (defBody s_is_kind) (defScope s_is_kind) .none kV_is_kind dc_is_kind pm_is_kind an_is_kind cd_is_kind ct_is_kind), sl_is_kind⟩)
    (c_is_kind : PySem.W.codeIn K cd_is_kind "is_kind" = true)
    (k_is_kind : PySem.W.keepIn K (.ref f_is_kind) = true)
    (a_is_label : PySem.W.nsIn K mainGlobals "is_label" = some (some (.ref f_is_label)))
    (l_is_label : K.lookup f_is_label = some ⟨oc_is_label, od_is_label, .func (PySem.W.fnOf "is_label" "is_label" (defArgs s_is_label) (defBody s_is_label) (defScope s_is_label) .none kV_is_label dc_is_label pm_is_label an_is_label cd_is_label ct_is_label), sl_is_label⟩)
    (c_is_label : PySem.W.codeIn K cd_is_label "is_label" = true)
    (k_is_label : PySem.W.keepIn K (.ref f_is_label) = true)
    (a_is_direction : PySem.W.nsIn K mainGlobals "is_direction" = some (some (.ref f_is_direction)))
    (l_is_direction : K.lookup f_is_direction = some ⟨oc_is_direction, od_is_direction, .func (PySem.W.fnOf "is_direction" "is_direction" (defArgs s_is_direction) (defBody s_is_direction) (defScope s_is_direction) .none kV_is_direction dc_is_direction pm_is_direction an_is_direction cd_is_direction ct_is_direction), sl_is_direction⟩)
    (c_is_direction : PySem.W.codeIn K cd_is_direction "is_direction" = true)
    (k_is_direction : PySem.W.keepIn K (.ref f_is_direction) = true)
    (a_is_basic : PySem.W.nsIn K mainGlobals "is_basic" = some (some (.ref f_is_basic)))
    (l_is_basic : K.lookup f_is_basic = some ⟨oc_is_basic, od_is_basic, .func (PySem.W.fnOf "is_basic" "is_basic" (defArgs s_is_basic) (defBody s_is_basic) (defScope s_is_basic) .none kV_is_basic dc_is_basic pm_is_basic an_is_basic cd_is_basic ct_is_basic), sl_is_basic⟩)
    (c_is_basic : PySem.W.codeIn K cd_is_basic "is_basic" = true)
    (k_is_basic : PySem.W.keepIn K (.ref f_is_basic) = true)
    (a_nodes : PySem.W.nsIn K mainGlobals "nodes" = some (some (.ref f_nodes)))
    (l_nodes : K.lookup f_nodes = some ⟨oc_nodes, od_nodes, .func (PySem.W.fnOf "nodes" "nodes" (defArgs s_nodes) (defBody s_nodes) (defScope s_nodes) .none kV_nodes dc_nodes pm_nodes an_nodes cd_nodes ct_nodes), sl_nodes⟩)
    (c_nodes : PySem.W.codeIn K cd_nodes "nodes" = true)
    (k_nodes : PySem.W.keepIn K (.ref f_nodes) = true)
    (a_directions : PySem.W.nsIn K mainGlobals "directions" = some (some (.ref f_directions)))
    (l_directions : K.lookup f_directions = some ⟨oc_directions, od_directions, .func (PySem.W.fnOf "directions" "directions" (defArgs s_directions) (defBody s_directions) (defScope s_directions) .none kV_directions dc_directions pm_directions an_directions cd_directions ct_directions), sl_directions⟩)
    (c_directions : PySem.W.codeIn K cd_directions "directions" = true)
    (k_directions : PySem.W.keepIn K (.ref f_directions) = true)
    (a_basics : PySem.W.nsIn K mainGlobals "basics" = some (some (.ref f_basics)))
    (l_basics : K.lookup f_basics = some ⟨oc_basics, od_basics, .func (PySem.W.fnOf "basics" "basics" (defArgs s_basics) (defBody s_basics) (defScope s_basics) .none kV_basics dc_basics pm_basics an_basics cd_basics ct_basics), sl_basics⟩)
    (c_basics : PySem.W.codeIn K cd_basics "basics" = true)
    (k_basics : PySem.W.keepIn K (.ref f_basics) = true)
    (a_forward : PySem.W.nsIn K mainGlobals "forward" = some (some (.ref f_forward)))
    (l_forward : K.lookup f_forward = some ⟨oc_forward, od_forward, .func (PySem.W.fnOf "forward" "forward" (defArgs s_forward) (defBody s_forward) (defScope s_forward) .none kV_forward dc_forward pm_forward an_forward cd_forward ct_forward), sl_forward⟩)
    (c_forward : PySem.W.codeIn K cd_forward "forward" = true)
    (k_forward : PySem.W.keepIn K (.ref f_forward) = true)
    (a_backward : PySem.W.nsIn K mainGlobals "backward" = some (some (.ref f_backward)))
    (l_backward : K.lookup f_backward = some ⟨oc_backward, od_backward, .func (PySem.W.fnOf "backward" "backward" (defArgs s_backward) (defBody s_backward) (defScope s_backward) .none kV_backward dc_backward pm_backward an_backward cd_backward ct_backward), sl_backward⟩)
    (c_backward : PySem.W.codeIn K cd_backward "backward" = true)
    (k_backward : PySem.W.keepIn K (.ref f_backward) = true)
    (a_label : PySem.W.nsIn K mainGlobals "label" = some (some (.ref f_label)))
    (l_label : K.lookup f_label = some ⟨oc_label, od_label, .func (PySem.W.fnOf "label" "label" (defArgs s_label) (defBody s_label) (defScope s_label) .none kV_label dc_label pm_label an_label cd_label ct_label), sl_label⟩)
    (c_label : PySem.W.codeIn K cd_label "label" = true)
    (k_label : PySem.W.keepIn K (.ref f_label) = true)
    (a_is_forward : PySem.W.nsIn K mainGlobals "is_forward" = some (some (.ref f_is_forward)))
    (l_is_forward : K.lookup f_is_forward = some ⟨oc_is_forward, od_is_forward, .func (PySem.W.fnOf "is_forward" "is_forward" (defArgs s_is_forward) (defBody s_is_forward) (defScope s_is_forward) .none kV_is_forward dc_is_forward pm_is_forward an_is_forward cd_is_forward ct_is_forward), sl_is_forward⟩)
    (c_is_forward : PySem.W.codeIn K cd_is_forward "is_forward" = true)
    (k_is_forward : PySem.W.keepIn K (.ref f_is_forward) = true)
    (a_turned : PySem.W.nsIn K mainGlobals "turned" = some (some (.ref f_turned)))
    (l_turned : K.lookup f_turned = some ⟨oc_turned, od_turned, .func (PySem.W.fnOf "turned" "turned" (defArgs s_turned) (defBody s_turned) (defScope s_turned) .none kV_turned dc_turned pm_turned an_turned cd_turned ct_turned), sl_turned⟩)
    (c_turned : PySem.W.codeIn K cd_turned "turned" = true)
    (k_turned : PySem.W.keepIn K (.ref f_turned) = true)
    (a_reached : PySem.W.nsIn K mainGlobals "reached" = some (some (.ref f_reached)))
    (l_reached : K.lookup f_reached = some ⟨oc_reached, od_reached, .func (PySem.W.fnOf "reached" "reached" (defArgs s_reached) (defBody s_reached) (defScope s_reached) .none kV_reached dc_reached pm_reached an_reached cd_reached ct_reached), sl_reached⟩)
    (c_reached : PySem.W.codeIn K cd_reached "reached" = true)
    (k_reached : PySem.W.keepIn K (.ref f_reached) = true)
    (a_reached_from_each : PySem.W.nsIn K mainGlobals "reached_from_each" = some (some (.ref f_reached_from_each)))
    (l_reached_from_each : K.lookup f_reached_from_each = some ⟨oc_reached_from_each, od_reached_from_each, .func (PySem.W.fnOf "reached_from_each" "reached_from_each" (defArgs s_reached_from_each) (defBody s_reached_from_each) (defScope s_reached_from_each) .none kV_reached_from_each dc_reached_from_each pm_reached_from_each an_reached_from_each cd_reached_from_each ct_reached_from_each), sl_reached_from_each⟩)
    (c_reached_from_each : PySem.W.codeIn K cd_reached_from_each "reached_from_each" = true)
    (k_reached_from_each : PySem.W.keepIn K (.ref f_reached_from_each) = true)
    (a_reached_from_all : PySem.W.nsIn K mainGlobals "reached_from_all" = some (some (.ref f_reached_from_all)))
    (l_reached_from_all : K.lookup f_reached_from_all = some ⟨oc_reached_from_all, od_reached_from_all, .func (PySem.W.fnOf "reached_from_all" "reached_from_all" (defArgs s_reached_from_all) (defBody s_reached_from_all) (defScope s_reached_from_all) .none kV_reached_from_all dc_reached_from_all pm_reached_from_all an_reached_from_all cd_reached_from_all ct_reached_from_all), sl_reached_from_all⟩)
    (c_reached_from_all : PySem.W.codeIn K cd_reached_from_all "reached_from_all" = true)
    (k_reached_from_all : PySem.W.keepIn K (.ref f_reached_from_all) = true)
    (a_direction_steps : PySem.W.nsIn K mainGlobals "direction_steps" = some (some (.ref f_direction_steps)))
    (l_direction_steps : K.lookup f_direction_steps = some ⟨oc_direction_steps, od_direction_steps, .func (PySem.W.fnOf "direction_steps" "direction_steps" (defArgs s_direction_steps) (defBody s_direction_steps) (defScope s_direction_steps) .none kV_direction_steps dc_direction_steps pm_direction_steps an_direction_steps cd_direction_steps ct_direction_steps), sl_direction_steps⟩)
    (c_direction_steps : PySem.W.codeIn K cd_direction_steps "direction_steps" = true)
    (k_direction_steps : PySem.W.keepIn K (.ref f_direction_steps) = true)
    (a_basic_steps : PySem.W.nsIn K mainGlobals "basic_steps" = some (some (.ref f_basic_steps)))
    (l_basic_steps : K.lookup f_basic_steps = some ⟨oc_basic_steps, od_basic_steps, .func (PySem.W.fnOf "basic_steps" "basic_steps" (defArgs s_basic_steps) (defBody s_basic_steps) (defScope s_basic_steps) .none kV_basic_steps dc_basic_steps pm_basic_steps an_basic_steps cd_basic_steps ct_basic_steps), sl_basic_steps⟩)
    (c_basic_steps : PySem.W.codeIn K cd_basic_steps "basic_steps" = true)
    (k_basic_steps : PySem.W.keepIn K (.ref f_basic_steps) = true)
    (a_forbids : PySem.W.nsIn K mainGlobals "forbids" = some (some (.ref f_forbids)))
    (l_forbids : K.lookup f_forbids = some ⟨oc_forbids, od_forbids, .func (PySem.W.fnOf "forbids" "forbids" (defArgs s_forbids) (defBody s_forbids) (defScope s_forbids) .none kV_forbids dc_forbids pm_forbids an_forbids cd_forbids ct_forbids), sl_forbids⟩)
    (c_forbids : PySem.W.codeIn K cd_forbids "forbids" = true)
    (k_forbids : PySem.W.keepIn K (.ref f_forbids) = true)
    (a_clashes : PySem.W.nsIn K mainGlobals "clashes" = some (some (.ref f_clashes)))
    (l_clashes : K.lookup f_clashes = some ⟨oc_clashes, od_clashes, .func (PySem.W.fnOf "clashes" "clashes" (defArgs s_clashes) (defBody s_clashes) (defScope s_clashes) .none kV_clashes dc_clashes pm_clashes an_clashes cd_clashes ct_clashes), sl_clashes⟩)
    (c_clashes : PySem.W.codeIn K cd_clashes "clashes" = true)
    (k_clashes : PySem.W.keepIn K (.ref f_clashes) = true)
    (a_bad_ones : PySem.W.nsIn K mainGlobals "bad_ones" = some (some (.ref f_bad_ones)))
    (l_bad_ones : K.lookup f_bad_ones = some ⟨oc_bad_ones, od_bad_ones, .func (PySem.W.fnOf "bad_ones" "bad_ones" (defArgs s_bad_ones) (defBody s_bad_ones) (defScope s_bad_ones) .none kV_bad_ones dc_bad_ones pm_bad_ones an_bad_ones cd_bad_ones ct_bad_ones), sl_bad_ones⟩)
    (c_bad_ones : PySem.W.codeIn K cd_bad_ones "bad_ones" = true)
    (k_bad_ones : PySem.W.keepIn K (.ref f_bad_ones) = true)
    (a_told_directions : PySem.W.nsIn K mainGlobals "told_directions" = some (some (.ref f_told_directions)))
    (l_told_directions : K.lookup f_told_directions = some ⟨oc_told_directions, od_told_directions, .func (PySem.W.fnOf "told_directions" "told_directions" (defArgs s_told_directions) (defBody s_told_directions) (defScope s_told_directions) .none kV_told_directions dc_told_directions pm_told_directions an_told_directions cd_told_directions ct_told_directions), sl_told_directions⟩)
    (c_told_directions : PySem.W.codeIn K cd_told_directions "told_directions" = true)
    (k_told_directions : PySem.W.keepIn K (.ref f_told_directions) = true)
    (a_directions_between : PySem.W.nsIn K mainGlobals "directions_between" = some (some (.ref f_directions_between)))
    (l_directions_between : K.lookup f_directions_between = some ⟨oc_directions_between, od_directions_between, .func (PySem.W.fnOf "directions_between" "directions_between" (defArgs s_directions_between) (defBody s_directions_between) (defScope s_directions_between) .none kV_directions_between dc_directions_between pm_directions_between an_directions_between cd_directions_between ct_directions_between), sl_directions_between⟩)
    (c_directions_between : PySem.W.codeIn K cd_directions_between "directions_between" = true)
    (k_directions_between : PySem.W.keepIn K (.ref f_directions_between) = true)
    (a_told_basics : PySem.W.nsIn K mainGlobals "told_basics" = some (some (.ref f_told_basics)))
    (l_told_basics : K.lookup f_told_basics = some ⟨oc_told_basics, od_told_basics, .func (PySem.W.fnOf "told_basics" "told_basics" (defArgs s_told_basics) (defBody s_told_basics) (defScope s_told_basics) .none kV_told_basics dc_told_basics pm_told_basics an_told_basics cd_told_basics ct_told_basics), sl_told_basics⟩)
    (c_told_basics : PySem.W.codeIn K cd_told_basics "told_basics" = true)
    (k_told_basics : PySem.W.keepIn K (.ref f_told_basics) = true)
    (a_profile : PySem.W.nsIn K mainGlobals "profile" = some (some (.ref f_profile)))
    (l_profile : K.lookup f_profile = some ⟨oc_profile, od_profile, .func (PySem.W.fnOf "profile" "profile" (defArgs s_profile) (defBody s_profile) (defScope s_profile) .none kV_profile dc_profile pm_profile an_profile cd_profile ct_profile), sl_profile⟩)
    (c_profile : PySem.W.codeIn K cd_profile "profile" = true)
    (k_profile : PySem.W.keepIn K (.ref f_profile) = true)
    (a_clash_between : PySem.W.nsIn K mainGlobals "clash_between" = some (some (.ref f_clash_between)))
    (l_clash_between : K.lookup f_clash_between = some ⟨oc_clash_between, od_clash_between, .func (PySem.W.fnOf "clash_between" "clash_between" (defArgs s_clash_between) (defBody s_clash_between) (defScope s_clash_between) .none kV_clash_between dc_clash_between pm_clash_between an_clash_between cd_clash_between ct_clash_between), sl_clash_between⟩)
    (c_clash_between : PySem.W.codeIn K cd_clash_between "clash_between" = true)
    (k_clash_between : PySem.W.keepIn K (.ref f_clash_between) = true)
    (a_is_wrong : PySem.W.nsIn K mainGlobals "is_wrong" = some (some (.ref f_is_wrong)))
    (l_is_wrong : K.lookup f_is_wrong = some ⟨oc_is_wrong, od_is_wrong, .func (PySem.W.fnOf "is_wrong" "is_wrong" (defArgs s_is_wrong) (defBody s_is_wrong) (defScope s_is_wrong) .none kV_is_wrong dc_is_wrong pm_is_wrong an_is_wrong cd_is_wrong ct_is_wrong), sl_is_wrong⟩)
    (c_is_wrong : PySem.W.codeIn K cd_is_wrong "is_wrong" = true)
    (k_is_wrong : PySem.W.keepIn K (.ref f_is_wrong) = true)
    (a_wrong_nodes : PySem.W.nsIn K mainGlobals "wrong_nodes" = some (some (.ref f_wrong_nodes)))
    (l_wrong_nodes : K.lookup f_wrong_nodes = some ⟨oc_wrong_nodes, od_wrong_nodes, .func (PySem.W.fnOf "wrong_nodes" "wrong_nodes" (defArgs s_wrong_nodes) (defBody s_wrong_nodes) (defScope s_wrong_nodes) .none kV_wrong_nodes dc_wrong_nodes pm_wrong_nodes an_wrong_nodes cd_wrong_nodes ct_wrong_nodes), sl_wrong_nodes⟩)
    (c_wrong_nodes : PySem.W.codeIn K cd_wrong_nodes "wrong_nodes" = true)
    (k_wrong_nodes : PySem.W.keepIn K (.ref f_wrong_nodes) = true)
    (a_can_be : PySem.W.nsIn K mainGlobals "can_be" = some (some (.ref f_can_be)))
    (l_can_be : K.lookup f_can_be = some ⟨oc_can_be, od_can_be, .func (PySem.W.fnOf "can_be" "can_be" (defArgs s_can_be) (defBody s_can_be) (defScope s_can_be) .none kV_can_be dc_can_be pm_can_be an_can_be cd_can_be ct_can_be), sl_can_be⟩)
    (c_can_be : PySem.W.codeIn K cd_can_be "can_be" = true)
    (k_can_be : PySem.W.keepIn K (.ref f_can_be) = true)
    (a_certain_nodes : PySem.W.nsIn K mainGlobals "certain_nodes" = some (some (.ref f_certain_nodes)))
    (l_certain_nodes : K.lookup f_certain_nodes = some ⟨oc_certain_nodes, od_certain_nodes, .func (PySem.W.fnOf "certain_nodes" "certain_nodes" (defArgs s_certain_nodes) (defBody s_certain_nodes) (defScope s_certain_nodes) .none kV_certain_nodes dc_certain_nodes pm_certain_nodes an_certain_nodes cd_certain_nodes ct_certain_nodes), sl_certain_nodes⟩)
    (c_certain_nodes : PySem.W.codeIn K cd_certain_nodes "certain_nodes" = true)
    (k_certain_nodes : PySem.W.keepIn K (.ref f_certain_nodes) = true)
    (a_certain_directions : PySem.W.nsIn K mainGlobals "certain_directions" = some (some (.ref f_certain_directions)))
    (l_certain_directions : K.lookup f_certain_directions = some ⟨oc_certain_directions, od_certain_directions, .func (PySem.W.fnOf "certain_directions" "certain_directions" (defArgs s_certain_directions) (defBody s_certain_directions) (defScope s_certain_directions) .none kV_certain_directions dc_certain_directions pm_certain_directions an_certain_directions cd_certain_directions ct_certain_directions), sl_certain_directions⟩)
    (c_certain_directions : PySem.W.codeIn K cd_certain_directions "certain_directions" = true)
    (k_certain_directions : PySem.W.keepIn K (.ref f_certain_directions) = true)
    (a_sources : PySem.W.nsIn K mainGlobals "sources" = some (some (.ref f_sources)))
    (l_sources : K.lookup f_sources = some ⟨oc_sources, od_sources, .func (PySem.W.fnOf "sources" "sources" (defArgs s_sources) (defBody s_sources) (defScope s_sources) .none kV_sources dc_sources pm_sources an_sources cd_sources ct_sources), sl_sources⟩)
    (c_sources : PySem.W.codeIn K cd_sources "sources" = true)
    (k_sources : PySem.W.keepIn K (.ref f_sources) = true)
    (a_thing_with_edge : PySem.W.nsIn K mainGlobals "thing_with_edge" = some (some (.ref f_thing_with_edge)))
    (l_thing_with_edge : K.lookup f_thing_with_edge = some ⟨oc_thing_with_edge, od_thing_with_edge, .func (PySem.W.fnOf "thing_with_edge" "thing_with_edge" (defArgs s_thing_with_edge) (defBody s_thing_with_edge) (defScope s_thing_with_edge) .none kV_thing_with_edge dc_thing_with_edge pm_thing_with_edge an_thing_with_edge cd_thing_with_edge ct_thing_with_edge), sl_thing_with_edge⟩)
    (c_thing_with_edge : PySem.W.codeIn K cd_thing_with_edge "thing_with_edge" = true)
    (k_thing_with_edge : PySem.W.keepIn K (.ref f_thing_with_edge) = true)
    (a_thing_with_basic : PySem.W.nsIn K mainGlobals "thing_with_basic" = some (some (.ref f_thing_with_basic)))
    (l_thing_with_basic : K.lookup f_thing_with_basic = some ⟨oc_thing_with_basic, od_thing_with_basic, .func (PySem.W.fnOf "thing_with_basic" "thing_with_basic" (defArgs s_thing_with_basic) (defBody s_thing_with_basic) (defScope s_thing_with_basic) .none kV_thing_with_basic dc_thing_with_basic pm_thing_with_basic an_thing_with_basic cd_thing_with_basic ct_thing_with_basic), sl_thing_with_basic⟩)
    (c_thing_with_basic : PySem.W.codeIn K cd_thing_with_basic "thing_with_basic" = true)
    (k_thing_with_basic : PySem.W.keepIn K (.ref f_thing_with_basic) = true)
    (a_always_sub : PySem.W.nsIn K mainGlobals "always_sub" = some (some (.ref f_always_sub)))
    (l_always_sub : K.lookup f_always_sub = some ⟨oc_always_sub, od_always_sub, .func (PySem.W.fnOf "always_sub" "always_sub" (defArgs s_always_sub) (defBody s_always_sub) (defScope s_always_sub) .none kV_always_sub dc_always_sub pm_always_sub an_always_sub cd_always_sub ct_always_sub), sl_always_sub⟩)
    (c_always_sub : PySem.W.codeIn K cd_always_sub "always_sub" = true)
    (k_always_sub : PySem.W.keepIn K (.ref f_always_sub) = true)
    (a_always_role : PySem.W.nsIn K mainGlobals "always_role" = some (some (.ref f_always_role)))
    (l_always_role : K.lookup f_always_role = some ⟨oc_always_role, od_always_role, .func (PySem.W.fnOf "always_role" "always_role" (defArgs s_always_role) (defBody s_always_role) (defScope s_always_role) .none kV_always_role dc_always_role pm_always_role an_always_role cd_always_role ct_always_role), sl_always_role⟩)
    (c_always_role : PySem.W.codeIn K cd_always_role "always_role" = true)
    (k_always_role : PySem.W.keepIn K (.ref f_always_role) = true)
    (a_always_never : PySem.W.nsIn K mainGlobals "always_never" = some (some (.ref f_always_never)))
    (l_always_never : K.lookup f_always_never = some ⟨oc_always_never, od_always_never, .func (PySem.W.fnOf "always_never" "always_never" (defArgs s_always_never) (defBody s_always_never) (defScope s_always_never) .none kV_always_never dc_always_never pm_always_never an_always_never cd_always_never ct_always_never), sl_always_never⟩)
    (c_always_never : PySem.W.codeIn K cd_always_never "always_never" = true)
    (k_always_never : PySem.W.keepIn K (.ref f_always_never) = true)
    (a_always_neverrole : PySem.W.nsIn K mainGlobals "always_neverrole" = some (some (.ref f_always_neverrole)))
    (l_always_neverrole : K.lookup f_always_neverrole = some ⟨oc_always_neverrole, od_always_neverrole, .func (PySem.W.fnOf "always_neverrole" "always_neverrole" (defArgs s_always_neverrole) (defBody s_always_neverrole) (defScope s_always_neverrole) .none kV_always_neverrole dc_always_neverrole pm_always_neverrole an_always_neverrole cd_always_neverrole ct_always_neverrole), sl_always_neverrole⟩)
    (c_always_neverrole : PySem.W.codeIn K cd_always_neverrole "always_neverrole" = true)
    (k_always_neverrole : PySem.W.keepIn K (.ref f_always_neverrole) = true)
    (a_always_kept : PySem.W.nsIn K mainGlobals "always_kept" = some (some (.ref f_always_kept)))
    (l_always_kept : K.lookup f_always_kept = some ⟨oc_always_kept, od_always_kept, .func (PySem.W.fnOf "always_kept" "always_kept" (defArgs s_always_kept) (defBody s_always_kept) (defScope s_always_kept) .none kV_always_kept dc_always_kept pm_always_kept an_always_kept cd_always_kept ct_always_kept), sl_always_kept⟩)
    (c_always_kept : PySem.W.codeIn K cd_always_kept "always_kept" = true)
    (k_always_kept : PySem.W.keepIn K (.ref f_always_kept) = true)
    (a_own_profile : PySem.W.nsIn K mainGlobals "own_profile" = some (some (.ref f_own_profile)))
    (l_own_profile : K.lookup f_own_profile = some ⟨oc_own_profile, od_own_profile, .func (PySem.W.fnOf "own_profile" "own_profile" (defArgs s_own_profile) (defBody s_own_profile) (defScope s_own_profile) .none kV_own_profile dc_own_profile pm_own_profile an_own_profile cd_own_profile ct_own_profile), sl_own_profile⟩)
    (c_own_profile : PySem.W.codeIn K cd_own_profile "own_profile" = true)
    (k_own_profile : PySem.W.keepIn K (.ref f_own_profile) = true)
    (a_fits : PySem.W.nsIn K mainGlobals "fits" = some (some (.ref f_fits)))
    (l_fits : K.lookup f_fits = some ⟨oc_fits, od_fits, .func (PySem.W.fnOf "fits" "fits" (defArgs s_fits) (defBody s_fits) (defScope s_fits) .none kV_fits dc_fits pm_fits an_fits cd_fits ct_fits), sl_fits⟩)
    (c_fits : PySem.W.codeIn K cd_fits "fits" = true)
    (k_fits : PySem.W.keepIn K (.ref f_fits) = true)
    (a_own_nodes : PySem.W.nsIn K mainGlobals "own_nodes" = some (some (.ref f_own_nodes)))
    (l_own_nodes : K.lookup f_own_nodes = some ⟨oc_own_nodes, od_own_nodes, .func (PySem.W.fnOf "own_nodes" "own_nodes" (defArgs s_own_nodes) (defBody s_own_nodes) (defScope s_own_nodes) .none kV_own_nodes dc_own_nodes pm_own_nodes an_own_nodes cd_own_nodes ct_own_nodes), sl_own_nodes⟩)
    (c_own_nodes : PySem.W.codeIn K cd_own_nodes "own_nodes" = true)
    (k_own_nodes : PySem.W.keepIn K (.ref f_own_nodes) = true)
    (a_is_over : PySem.W.nsIn K mainGlobals "is_over" = some (some (.ref f_is_over)))
    (l_is_over : K.lookup f_is_over = some ⟨oc_is_over, od_is_over, .func (PySem.W.fnOf "is_over" "is_over" (defArgs s_is_over) (defBody s_is_over) (defScope s_is_over) .none kV_is_over dc_is_over pm_is_over an_is_over cd_is_over ct_is_over), sl_is_over⟩)
    (c_is_over : PySem.W.codeIn K cd_is_over "is_over" = true)
    (k_is_over : PySem.W.keepIn K (.ref f_is_over) = true)
    (a_round_trips : PySem.W.nsIn K mainGlobals "round_trips" = some (some (.ref f_round_trips)))
    (l_round_trips : K.lookup f_round_trips = some ⟨oc_round_trips, od_round_trips, .func (PySem.W.fnOf "round_trips" "round_trips" (defArgs s_round_trips) (defBody s_round_trips) (defScope s_round_trips) .none kV_round_trips dc_round_trips pm_round_trips an_round_trips cd_round_trips ct_round_trips), sl_round_trips⟩)
    (c_round_trips : PySem.W.codeIn K cd_round_trips "round_trips" = true)
    (k_round_trips : PySem.W.keepIn K (.ref f_round_trips) = true)
    (a_look_out : PySem.W.nsIn K mainGlobals "look_out" = some (some (.ref f_look_out)))
    (l_look_out : K.lookup f_look_out = some ⟨oc_look_out, od_look_out, .func (PySem.W.fnOf "look_out" "look_out" (defArgs s_look_out) (defBody s_look_out) (defScope s_look_out) .none kV_look_out dc_look_out pm_look_out an_look_out cd_look_out ct_look_out), sl_look_out⟩)
    (c_look_out : PySem.W.codeIn K cd_look_out "look_out" = true)
    (k_look_out : PySem.W.keepIn K (.ref f_look_out) = true)
    (a_told_moves : PySem.W.nsIn K mainGlobals "told_moves" = some (some (.ref f_told_moves)))
    (l_told_moves : K.lookup f_told_moves = some ⟨oc_told_moves, od_told_moves, .func (PySem.W.fnOf "told_moves" "told_moves" (defArgs s_told_moves) (defBody s_told_moves) (defScope s_told_moves) .none kV_told_moves dc_told_moves pm_told_moves an_told_moves cd_told_moves ct_told_moves), sl_told_moves⟩)
    (c_told_moves : PySem.W.codeIn K cd_told_moves "told_moves" = true)
    (k_told_moves : PySem.W.keepIn K (.ref f_told_moves) = true)
    (a_certain_starts : PySem.W.nsIn K mainGlobals "certain_starts" = some (some (.ref f_certain_starts)))
    (l_certain_starts : K.lookup f_certain_starts = some ⟨oc_certain_starts, od_certain_starts, .func (PySem.W.fnOf "certain_starts" "certain_starts" (defArgs s_certain_starts) (defBody s_certain_starts) (defScope s_certain_starts) .none kV_certain_starts dc_certain_starts pm_certain_starts an_certain_starts cd_certain_starts ct_certain_starts), sl_certain_starts⟩)
    (c_certain_starts : PySem.W.codeIn K cd_certain_starts "certain_starts" = true)
    (k_certain_starts : PySem.W.keepIn K (.ref f_certain_starts) = true)
    (a_impossible_ones : PySem.W.nsIn K mainGlobals "impossible_ones" = some (some (.ref f_impossible_ones)))
    (l_impossible_ones : K.lookup f_impossible_ones = some ⟨oc_impossible_ones, od_impossible_ones, .func (PySem.W.fnOf "impossible_ones" "impossible_ones" (defArgs s_impossible_ones) (defBody s_impossible_ones) (defScope s_impossible_ones) .none kV_impossible_ones dc_impossible_ones pm_impossible_ones an_impossible_ones cd_impossible_ones ct_impossible_ones), sl_impossible_ones⟩)
    (c_impossible_ones : PySem.W.codeIn K cd_impossible_ones "impossible_ones" = true)
    (k_impossible_ones : PySem.W.keepIn K (.ref f_impossible_ones) = true)
    (a_later_foes : PySem.W.nsIn K mainGlobals "later_foes" = some (some (.ref f_later_foes)))
    (l_later_foes : K.lookup f_later_foes = some ⟨oc_later_foes, od_later_foes, .func (PySem.W.fnOf "later_foes" "later_foes" (defArgs s_later_foes) (defBody s_later_foes) (defScope s_later_foes) .none kV_later_foes dc_later_foes pm_later_foes an_later_foes cd_later_foes ct_later_foes), sl_later_foes⟩)
    (c_later_foes : PySem.W.codeIn K cd_later_foes "later_foes" = true)
    (k_later_foes : PySem.W.keepIn K (.ref f_later_foes) = true)
    (a_first_row : PySem.W.nsIn K mainGlobals "first_row" = some (some (.ref f_first_row)))
    (l_first_row : K.lookup f_first_row = some ⟨oc_first_row, od_first_row, .func (PySem.W.fnOf "first_row" "first_row" (defArgs s_first_row) (defBody s_first_row) (defScope s_first_row) .none kV_first_row dc_first_row pm_first_row an_first_row cd_first_row ct_first_row), sl_first_row⟩)
    (c_first_row : PySem.W.codeIn K cd_first_row "first_row" = true)
    (k_first_row : PySem.W.keepIn K (.ref f_first_row) = true)
    (a_fewest_to_drop : PySem.W.nsIn K mainGlobals "fewest_to_drop" = some (some (.ref f_fewest_to_drop)))
    (l_fewest_to_drop : K.lookup f_fewest_to_drop = some ⟨oc_fewest_to_drop, od_fewest_to_drop, .func (PySem.W.fnOf "fewest_to_drop" "fewest_to_drop" (defArgs s_fewest_to_drop) (defBody s_fewest_to_drop) (defScope s_fewest_to_drop) .none kV_fewest_to_drop dc_fewest_to_drop pm_fewest_to_drop an_fewest_to_drop cd_fewest_to_drop ct_fewest_to_drop), sl_fewest_to_drop⟩)
    (c_fewest_to_drop : PySem.W.codeIn K cd_fewest_to_drop "fewest_to_drop" = true)
    (k_fewest_to_drop : PySem.W.keepIn K (.ref f_fewest_to_drop) = true)
    (a_tell : PySem.W.nsIn K mainGlobals "tell" = some (some (.ref f_tell)))
    (l_tell : K.lookup f_tell = some ⟨oc_tell, od_tell, .func (PySem.W.fnOf "tell" "tell" (defArgs s_tell) (defBody s_tell) (defScope s_tell) .none kV_tell dc_tell pm_tell an_tell cd_tell ct_tell), sl_tell⟩)
    (c_tell : PySem.W.codeIn K cd_tell "tell" = true)
    (k_tell : PySem.W.keepIn K (.ref f_tell) = true)
    (a_add_rule : PySem.W.nsIn K mainGlobals "add_rule" = some (some (.ref f_add_rule)))
    (l_add_rule : K.lookup f_add_rule = some ⟨oc_add_rule, od_add_rule, .func (PySem.W.fnOf "add_rule" "add_rule" (defArgs s_add_rule) (defBody s_add_rule) (defScope s_add_rule) .none kV_add_rule dc_add_rule pm_add_rule an_add_rule cd_add_rule ct_add_rule), sl_add_rule⟩)
    (c_add_rule : PySem.W.codeIn K cd_add_rule "add_rule" = true)
    (k_add_rule : PySem.W.keepIn K (.ref f_add_rule) = true)
    (a_add_basic_rule : PySem.W.nsIn K mainGlobals "add_basic_rule" = some (some (.ref f_add_basic_rule)))
    (l_add_basic_rule : K.lookup f_add_basic_rule = some ⟨oc_add_basic_rule, od_add_basic_rule, .func (PySem.W.fnOf "add_basic_rule" "add_basic_rule" (defArgs s_add_basic_rule) (defBody s_add_basic_rule) (defScope s_add_basic_rule) .none kV_add_basic_rule dc_add_basic_rule pm_add_basic_rule an_add_basic_rule cd_add_basic_rule ct_add_basic_rule), sl_add_basic_rule⟩)
    (c_add_basic_rule : PySem.W.codeIn K cd_add_basic_rule "add_basic_rule" = true)
    (k_add_basic_rule : PySem.W.keepIn K (.ref f_add_basic_rule) = true)
    (a_add_direction_rule : PySem.W.nsIn K mainGlobals "add_direction_rule" = some (some (.ref f_add_direction_rule)))
    (l_add_direction_rule : K.lookup f_add_direction_rule = some ⟨oc_add_direction_rule, od_add_direction_rule, .func (PySem.W.fnOf "add_direction_rule" "add_direction_rule" (defArgs s_add_direction_rule) (defBody s_add_direction_rule) (defScope s_add_direction_rule) .none kV_add_direction_rule dc_add_direction_rule pm_add_direction_rule an_add_direction_rule cd_add_direction_rule ct_add_direction_rule), sl_add_direction_rule⟩)
    (c_add_direction_rule : PySem.W.codeIn K cd_add_direction_rule "add_direction_rule" = true)
    (k_add_direction_rule : PySem.W.keepIn K (.ref f_add_direction_rule) = true)
    (a_take_out : PySem.W.nsIn K mainGlobals "take_out" = some (some (.ref f_take_out)))
    (l_take_out : K.lookup f_take_out = some ⟨oc_take_out, od_take_out, .func (PySem.W.fnOf "take_out" "take_out" (defArgs s_take_out) (defBody s_take_out) (defScope s_take_out) .none kV_take_out dc_take_out pm_take_out an_take_out cd_take_out ct_take_out), sl_take_out⟩)
    (c_take_out : PySem.W.codeIn K cd_take_out "take_out" = true)
    (k_take_out : PySem.W.keepIn K (.ref f_take_out) = true)
    (a_kind : PySem.W.nsIn K mainGlobals "kind" = some (some (.ref f_kind)))
    (l_kind : K.lookup f_kind = some ⟨oc_kind, od_kind, .func (PySem.W.fnOf "kind" "kind" (defArgs s_kind) (defBody s_kind) (defScope s_kind) .none kV_kind dc_kind pm_kind an_kind cd_kind ct_kind), sl_kind⟩)
    (c_kind : PySem.W.codeIn K cd_kind "kind" = true)
    (k_kind : PySem.W.keepIn K (.ref f_kind) = true)
    (a_edge : PySem.W.nsIn K mainGlobals "edge" = some (some (.ref f_edge)))
    (l_edge : K.lookup f_edge = some ⟨oc_edge, od_edge, .func (PySem.W.fnOf "edge" "edge" (defArgs s_edge) (defBody s_edge) (defScope s_edge) .none kV_edge dc_edge pm_edge an_edge cd_edge ct_edge), sl_edge⟩)
    (c_edge : PySem.W.codeIn K cd_edge "edge" = true)
    (k_edge : PySem.W.keepIn K (.ref f_edge) = true)
    (a_drop : PySem.W.nsIn K mainGlobals "drop" = some (some (.ref f_drop)))
    (l_drop : K.lookup f_drop = some ⟨oc_drop, od_drop, .func (PySem.W.fnOf "drop" "drop" (defArgs s_drop) (defBody s_drop) (defScope s_drop) .none kV_drop dc_drop pm_drop an_drop cd_drop ct_drop), sl_drop⟩)
    (c_drop : PySem.W.codeIn K cd_drop "drop" = true)
    (k_drop : PySem.W.keepIn K (.ref f_drop) = true)
    (a_sub : PySem.W.nsIn K mainGlobals "sub" = some (some (.ref f_sub)))
    (l_sub : K.lookup f_sub = some ⟨oc_sub, od_sub, .func (PySem.W.fnOf "sub" "sub" (defArgs s_sub) (defBody s_sub) (defScope s_sub) .none kV_sub dc_sub pm_sub an_sub cd_sub ct_sub), sl_sub⟩)
    (c_sub : PySem.W.codeIn K cd_sub "sub" = true)
    (k_sub : PySem.W.keepIn K (.ref f_sub) = true)
    (a_role : PySem.W.nsIn K mainGlobals "role" = some (some (.ref f_role)))
    (l_role : K.lookup f_role = some ⟨oc_role, od_role, .func (PySem.W.fnOf "role" "role" (defArgs s_role) (defBody s_role) (defScope s_role) .none kV_role dc_role pm_role an_role cd_role ct_role), sl_role⟩)
    (c_role : PySem.W.codeIn K cd_role "role" = true)
    (k_role : PySem.W.keepIn K (.ref f_role) = true)
    (a_never : PySem.W.nsIn K mainGlobals "never" = some (some (.ref f_never)))
    (l_never : K.lookup f_never = some ⟨oc_never, od_never, .func (PySem.W.fnOf "never" "never" (defArgs s_never) (defBody s_never) (defScope s_never) .none kV_never dc_never pm_never an_never cd_never ct_never), sl_never⟩)
    (c_never : PySem.W.codeIn K cd_never "never" = true)
    (k_never : PySem.W.keepIn K (.ref f_never) = true)
    (a_neverrole : PySem.W.nsIn K mainGlobals "neverrole" = some (some (.ref f_neverrole)))
    (l_neverrole : K.lookup f_neverrole = some ⟨oc_neverrole, od_neverrole, .func (PySem.W.fnOf "neverrole" "neverrole" (defArgs s_neverrole) (defBody s_neverrole) (defScope s_neverrole) .none kV_neverrole dc_neverrole pm_neverrole an_neverrole cd_neverrole ct_neverrole), sl_neverrole⟩)
    (c_neverrole : PySem.W.codeIn K cd_neverrole "neverrole" = true)
    (k_neverrole : PySem.W.keepIn K (.ref f_neverrole) = true)
    (a_strike : PySem.W.nsIn K mainGlobals "strike" = some (some (.ref f_strike)))
    (l_strike : K.lookup f_strike = some ⟨oc_strike, od_strike, .func (PySem.W.fnOf "strike" "strike" (defArgs s_strike) (defBody s_strike) (defScope s_strike) .none kV_strike dc_strike pm_strike an_strike cd_strike ct_strike), sl_strike⟩)
    (c_strike : PySem.W.codeIn K cd_strike "strike" = true)
    (k_strike : PySem.W.keepIn K (.ref f_strike) = true)
    (a_one_or_zero : PySem.W.nsIn K mainGlobals "one_or_zero" = some (some (.ref f_one_or_zero)))
    (l_one_or_zero : K.lookup f_one_or_zero = some ⟨oc_one_or_zero, od_one_or_zero, .func (PySem.W.fnOf "one_or_zero" "one_or_zero" (defArgs s_one_or_zero) (defBody s_one_or_zero) (defScope s_one_or_zero) .none kV_one_or_zero dc_one_or_zero pm_one_or_zero an_one_or_zero cd_one_or_zero ct_one_or_zero), sl_one_or_zero⟩)
    (c_one_or_zero : PySem.W.codeIn K cd_one_or_zero "one_or_zero" = true)
    (k_one_or_zero : PySem.W.keepIn K (.ref f_one_or_zero) = true)
    (a_counted : PySem.W.nsIn K mainGlobals "counted" = some (some (.ref f_counted)))
    (l_counted : K.lookup f_counted = some ⟨oc_counted, od_counted, .func (PySem.W.fnOf "counted" "counted" (defArgs s_counted) (defBody s_counted) (defScope s_counted) .none kV_counted dc_counted pm_counted an_counted cd_counted ct_counted), sl_counted⟩)
    (c_counted : PySem.W.codeIn K cd_counted "counted" = true)
    (k_counted : PySem.W.keepIn K (.ref f_counted) = true)
    (a_is_so : PySem.W.nsIn K mainGlobals "is_so" = some (some (.ref f_is_so)))
    (l_is_so : K.lookup f_is_so = some ⟨oc_is_so, od_is_so, .func (PySem.W.fnOf "is_so" "is_so" (defArgs s_is_so) (defBody s_is_so) (defScope s_is_so) .none kV_is_so dc_is_so pm_is_so an_is_so cd_is_so ct_is_so), sl_is_so⟩)
    (c_is_so : PySem.W.codeIn K cd_is_so "is_so" = true)
    (k_is_so : PySem.W.keepIn K (.ref f_is_so) = true)
    (a_who : PySem.W.nsIn K mainGlobals "who" = some (some (.ref f_who)))
    (l_who : K.lookup f_who = some ⟨oc_who, od_who, .func (PySem.W.fnOf "who" "who" (defArgs s_who) (defBody s_who) (defScope s_who) .none kV_who dc_who pm_who an_who cd_who ct_who), sl_who⟩)
    (c_who : PySem.W.codeIn K cd_who "who" = true)
    (k_who : PySem.W.keepIn K (.ref f_who) = true)
    (a_edges : PySem.W.nsIn K mainGlobals "edges" = some (some (.ref f_edges)))
    (l_edges : K.lookup f_edges = some ⟨oc_edges, od_edges, .func (PySem.W.fnOf "edges" "edges" (defArgs s_edges) (defBody s_edges) (defScope s_edges) .none kV_edges dc_edges pm_edges an_edges cd_edges ct_edges), sl_edges⟩)
    (c_edges : PySem.W.codeIn K cd_edges "edges" = true)
    (k_edges : PySem.W.keepIn K (.ref f_edges) = true)
    (a_is_step : PySem.W.nsIn K mainGlobals "is_step" = some (some (.ref f_is_step)))
    (l_is_step : K.lookup f_is_step = some ⟨oc_is_step, od_is_step, .func (PySem.W.fnOf "is_step" "is_step" (defArgs s_is_step) (defBody s_is_step) (defScope s_is_step) .none kV_is_step dc_is_step pm_is_step an_is_step cd_is_step ct_is_step), sl_is_step⟩)
    (c_is_step : PySem.W.codeIn K cd_is_step "is_step" = true)
    (k_is_step : PySem.W.keepIn K (.ref f_is_step) = true)
    (a_are_steps : PySem.W.nsIn K mainGlobals "are_steps" = some (some (.ref f_are_steps)))
    (l_are_steps : K.lookup f_are_steps = some ⟨oc_are_steps, od_are_steps, .func (PySem.W.fnOf "are_steps" "are_steps" (defArgs s_are_steps) (defBody s_are_steps) (defScope s_are_steps) .none kV_are_steps dc_are_steps pm_are_steps an_are_steps cd_are_steps ct_are_steps), sl_are_steps⟩)
    (c_are_steps : PySem.W.codeIn K cd_are_steps "are_steps" = true)
    (k_are_steps : PySem.W.keepIn K (.ref f_are_steps) = true)
    (a_starts_of : PySem.W.nsIn K mainGlobals "starts_of" = some (some (.ref f_starts_of)))
    (l_starts_of : K.lookup f_starts_of = some ⟨oc_starts_of, od_starts_of, .func (PySem.W.fnOf "starts_of" "starts_of" (defArgs s_starts_of) (defBody s_starts_of) (defScope s_starts_of) .none kV_starts_of dc_starts_of pm_starts_of an_starts_of cd_starts_of ct_starts_of), sl_starts_of⟩)
    (c_starts_of : PySem.W.codeIn K cd_starts_of "starts_of" = true)
    (k_starts_of : PySem.W.keepIn K (.ref f_starts_of) = true)
    (a_chain : PySem.W.nsIn K mainGlobals "chain" = some (some (.ref f_chain)))
    (l_chain : K.lookup f_chain = some ⟨oc_chain, od_chain, .func (PySem.W.fnOf "chain" "chain" (defArgs s_chain) (defBody s_chain) (defScope s_chain) .none kV_chain dc_chain pm_chain an_chain cd_chain ct_chain), sl_chain⟩)
    (c_chain : PySem.W.codeIn K cd_chain "chain" = true)
    (k_chain : PySem.W.keepIn K (.ref f_chain) = true)
    (a_from_all : PySem.W.nsIn K mainGlobals "from_all" = some (some (.ref f_from_all)))
    (l_from_all : K.lookup f_from_all = some ⟨oc_from_all, od_from_all, .func (PySem.W.fnOf "from_all" "from_all" (defArgs s_from_all) (defBody s_from_all) (defScope s_from_all) .none kV_from_all dc_from_all pm_from_all an_from_all cd_from_all ct_from_all), sl_from_all⟩)
    (c_from_all : PySem.W.codeIn K cd_from_all "from_all" = true)
    (k_from_all : PySem.W.keepIn K (.ref f_from_all) = true)
    (a_sound : PySem.W.nsIn K mainGlobals "sound" = some (some (.ref f_sound)))
    (l_sound : K.lookup f_sound = some ⟨oc_sound, od_sound, .func (PySem.W.fnOf "sound" "sound" (defArgs s_sound) (defBody s_sound) (defScope s_sound) .none kV_sound dc_sound pm_sound an_sound cd_sound ct_sound), sl_sound⟩)
    (c_sound : PySem.W.codeIn K cd_sound "sound" = true)
    (k_sound : PySem.W.keepIn K (.ref f_sound) = true)
    (a_follows : PySem.W.nsIn K mainGlobals "follows" = some (some (.ref f_follows)))
    (l_follows : K.lookup f_follows = some ⟨oc_follows, od_follows, .func (PySem.W.fnOf "follows" "follows" (defArgs s_follows) (defBody s_follows) (defScope s_follows) .none kV_follows dc_follows pm_follows an_follows cd_follows ct_follows), sl_follows⟩)
    (c_follows : PySem.W.codeIn K cd_follows "follows" = true)
    (k_follows : PySem.W.keepIn K (.ref f_follows) = true)
    (a_bad : PySem.W.nsIn K mainGlobals "bad" = some (some (.ref f_bad)))
    (l_bad : K.lookup f_bad = some ⟨oc_bad, od_bad, .func (PySem.W.fnOf "bad" "bad" (defArgs s_bad) (defBody s_bad) (defScope s_bad) .none kV_bad dc_bad pm_bad an_bad cd_bad ct_bad), sl_bad⟩)
    (c_bad : PySem.W.codeIn K cd_bad "bad" = true)
    (k_bad : PySem.W.keepIn K (.ref f_bad) = true)
    (a_idle : PySem.W.nsIn K mainGlobals "idle" = some (some (.ref f_idle)))
    (l_idle : K.lookup f_idle = some ⟨oc_idle, od_idle, .func (PySem.W.fnOf "idle" "idle" (defArgs s_idle) (defBody s_idle) (defScope s_idle) .none kV_idle dc_idle pm_idle an_idle cd_idle ct_idle), sl_idle⟩)
    (c_idle : PySem.W.codeIn K cd_idle "idle" = true)
    (k_idle : PySem.W.keepIn K (.ref f_idle) = true)
    (a_whence : PySem.W.nsIn K mainGlobals "whence" = some (some (.ref f_whence)))
    (l_whence : K.lookup f_whence = some ⟨oc_whence, od_whence, .func (PySem.W.fnOf "whence" "whence" (defArgs s_whence) (defBody s_whence) (defScope s_whence) .none kV_whence dc_whence pm_whence an_whence cd_whence ct_whence), sl_whence⟩)
    (c_whence : PySem.W.codeIn K cd_whence "whence" = true)
    (k_whence : PySem.W.keepIn K (.ref f_whence) = true)
    (a_fewest : PySem.W.nsIn K mainGlobals "fewest" = some (some (.ref f_fewest)))
    (l_fewest : K.lookup f_fewest = some ⟨oc_fewest, od_fewest, .func (PySem.W.fnOf "fewest" "fewest" (defArgs s_fewest) (defBody s_fewest) (defScope s_fewest) .none kV_fewest dc_fewest pm_fewest an_fewest cd_fewest ct_fewest), sl_fewest⟩)
    (c_fewest : PySem.W.codeIn K cd_fewest "fewest" = true)
    (k_fewest : PySem.W.keepIn K (.ref f_fewest) = true)
    (a_call_end : PySem.W.nsIn K mainGlobals "call_end" = some (some (.ref f_call_end)))
    (l_call_end : K.lookup f_call_end = some ⟨oc_call_end, od_call_end, .func (PySem.W.fnOf "call_end" "call_end" (defArgs s_call_end) (defBody s_call_end) (defScope s_call_end) .none kV_call_end dc_call_end pm_call_end an_call_end cd_call_end ct_call_end), sl_call_end⟩)
    (c_call_end : PySem.W.codeIn K cd_call_end "call_end" = true)
    (k_call_end : PySem.W.keepIn K (.ref f_call_end) = true)
    (a_answers : PySem.W.nsIn K mainGlobals "answers" = some (some (.ref f_answers)))
    (l_answers : K.lookup f_answers = some ⟨oc_answers, od_answers, .func (PySem.W.fnOf "answers" "answers" (defArgs s_answers) (defBody s_answers) (defScope s_answers) .none kV_answers dc_answers pm_answers an_answers cd_answers ct_answers), sl_answers⟩)
    (c_answers : PySem.W.codeIn K cd_answers "answers" = true)
    (k_answers : PySem.W.keepIn K (.ref f_answers) = true)
    (g_LAST_NODE : PySem.W.nsIn K mainGlobals "LAST_NODE" = some (some (.int (8) t_LAST_NODE)))
    (g_LAST_KIND : PySem.W.nsIn K mainGlobals "LAST_KIND" = some (some (.int (6) t_LAST_KIND)))
    (g_LAST_LABEL : PySem.W.nsIn K mainGlobals "LAST_LABEL" = some (some (.int (4) t_LAST_LABEL)))
    (g_FIRST_DIRECTION : PySem.W.nsIn K mainGlobals "FIRST_DIRECTION" = some (some (.int (2) t_FIRST_DIRECTION)))
    (g_LAST_DIRECTION : PySem.W.nsIn K mainGlobals "LAST_DIRECTION" = some (some (.int (9) t_LAST_DIRECTION)))
    (g_OF_KIND : PySem.W.nsIn K mainGlobals "OF_KIND" = some (some (.int (0) t_OF_KIND)))
    (g_WITH_EDGE : PySem.W.nsIn K mainGlobals "WITH_EDGE" = some (some (.int (1) t_WITH_EDGE)))
    (g_KIND : PySem.W.nsIn K mainGlobals "KIND" = some (some (.str "kind" t_KIND)))
    (g_EDGE : PySem.W.nsIn K mainGlobals "EDGE" = some (some (.str "edge" t_EDGE)))
    (g_SUB : PySem.W.nsIn K mainGlobals "SUB" = some (some (.str "sub" t_SUB)))
    (g_ROLE : PySem.W.nsIn K mainGlobals "ROLE" = some (some (.str "role" t_ROLE)))
    (g_NEVER : PySem.W.nsIn K mainGlobals "NEVER" = some (some (.str "never" t_NEVER)))
    (g_NEVERROLE : PySem.W.nsIn K mainGlobals "NEVERROLE" = some (some (.str "neverrole" t_NEVERROLE)))
    (g_NO_SUCH_NUMBER : PySem.W.nsIn K mainGlobals "NO_SUCH_NUMBER" = some (some (.int (-1) t_NO_SUCH_NUMBER)))
    (g_NOT_THERE : PySem.W.nsIn K mainGlobals "NOT_THERE" = some (some (.int (-2) t_NOT_THERE)))
    (g_FROM_NOTHING : PySem.W.nsIn K mainGlobals "FROM_NOTHING" = some (some (.int (-3) t_FROM_NOTHING)))
    (g_TOLD_ALREADY : PySem.W.nsIn K mainGlobals "TOLD_ALREADY" = some (some (.int (-4) t_TOLD_ALREADY)))
    (g_FULL : PySem.W.nsIn K mainGlobals "FULL" = some (some (.int (-5) t_FULL)))
    (g_MOST_TOLD : PySem.W.nsIn K mainGlobals "MOST_TOLD" = some (some (.int (14) t_MOST_TOLD)))
    (g_MOST_RULES : PySem.W.nsIn K mainGlobals "MOST_RULES" = some (some (.int (12) t_MOST_RULES)))
    (g_MOST_STEPS : PySem.W.nsIn K mainGlobals "MOST_STEPS" = some (some (.int (4) t_MOST_STEPS)))
    (b_len : PySem.W.nsIn K mainGlobals "len" = some none)
    (b_all : PySem.W.nsIn K mainGlobals "all" = some none)
    (b_sorted : PySem.W.nsIn K mainGlobals "sorted" = some none)
    (b_enumerate : PySem.W.nsIn K mainGlobals "enumerate" = some none)
    (b_any : PySem.W.nsIn K mainGlobals "any" = some none)
    (b_list : PySem.W.nsIn K mainGlobals "list" = some none)
    (b_range : PySem.W.nsIn K mainGlobals "range" = some none)
    (aC : PySem.W.nsIn K mainGlobals "CALLS" = some (some (.ref aCALLS)))
    (lC : K.lookup aCALLS = some ⟨.type "tuple", dCALLS, .seq #[.ref f_kind, .ref f_edge, .ref f_drop, .ref f_sub, .ref f_role, .ref f_never, .ref f_neverrole, .ref f_strike, .ref f_is_so, .ref f_who, .ref f_edges, .ref f_chain, .ref f_from_all, .ref f_sound, .ref f_follows, .ref f_bad, .ref f_idle, .ref f_whence, .ref f_fewest] nCALLS, slCALLS⟩)
    (aS : PySem.W.nsIn K mainGlobals "SIZES" = some (some (.ref aSIZES)))
    (lS : K.lookup aSIZES = some ⟨.type "tuple", dSIZES, .seq #[.int 2 tS0, .int 3 tS1, .int 1 tS2, .int 4 tS3, .int 2 tS4, .int 4 tS5, .int 2 tS6, .int 1 tS7, .int 3 tS8, .int 2 tS9, .int 2 tS10, .int 1 tS11, .int 0 tS12, .int 0 tS13, .int 4 tS14, .int 0 tS15, .int 1 tS16, .int 3 tS17, .int 0 tS18] nSIZES, slSIZES⟩)
    (aW : PySem.W.nsIn K mainGlobals "WITH_ROW" = some (some (.ref aWITHROW)))
    (lW : K.lookup aWITHROW = some ⟨.type "tuple", dWITHROW, .seq #[.int 11 tW0, .int 12 tW1] nWITHROW, slWITHROW⟩)
    (aD_Desk : PySem.W.nsIn K mainGlobals "Desk" = some (some (.ref C)))
    (a1_Desk : PySem.W.findIn K (.ref C) "__init__" = some (some (.ref fi_Desk)))
    (i1_Desk : PySem.W.isFn K (.ref fi_Desk) = true)
    (l1_Desk : K.lookup fi_Desk = some ⟨oci_Desk, odi_Desk, .func (PySem.W.fnOf "__init__" "Desk.__init__" (defArgs s_init) (defBody s_init) (defScope s_init) .none kVi_Desk dci_Desk pmi_Desk ani_Desk cdi_Desk cti_Desk), sli_Desk⟩)
    (c1_Desk : PySem.W.codeIn K cdi_Desk "Desk.__init__" = true)
    (k1_Desk : PySem.W.keepIn K (.ref fi_Desk) = true)
    (pg_Desk : PySem.W.plainGet K C Str.empty = true)
    (hd_Desk : PySem.W.hasDictIn K C = true)
    (po_Desk : PySem.W.plainOver K C = true)
    (sa_Desk : PySem.W.findIn K (.ref C) "__setattr__" = some (some (.builtin "object.__setattr__")))
    (mk_Desk : PySem.W.makesIn K C = true)
    (kc_Desk : PySem.W.keepIn K (.ref C) = true)
    (ntold_Desk : PySem.W.findIn K (.ref C) "told" = some none)
    (nrules_Desk : PySem.W.findIn K (.ref C) "rules" = some none)
    (aD_Laws : PySem.W.nsIn K mainGlobals "Laws" = some (some (.ref CL)))
    (a1_Laws : PySem.W.findIn K (.ref CL) "__init__" = some (some (.ref fi_Laws)))
    (i1_Laws : PySem.W.isFn K (.ref fi_Laws) = true)
    (l1_Laws : K.lookup fi_Laws = some ⟨oci_Laws, odi_Laws, .func (PySem.W.fnOf "__init__" "Laws.__init__" (defArgs s_Laws) (defBody s_Laws) (defScope s_Laws) .none kVi_Laws dci_Laws pmi_Laws ani_Laws cdi_Laws cti_Laws), sli_Laws⟩)
    (c1_Laws : PySem.W.codeIn K cdi_Laws "Laws.__init__" = true)
    (k1_Laws : PySem.W.keepIn K (.ref fi_Laws) = true)
    (pg_Laws : PySem.W.plainGet K CL Str.empty = true)
    (hd_Laws : PySem.W.hasDictIn K CL = true)
    (po_Laws : PySem.W.plainOver K CL = true)
    (sa_Laws : PySem.W.findIn K (.ref CL) "__setattr__" = some (some (.builtin "object.__setattr__")))
    (mk_Laws : PySem.W.makesIn K CL = true)
    (kc_Laws : PySem.W.keepIn K (.ref CL) = true)
    (nrules_Laws : PySem.W.findIn K (.ref CL) "rules" = some none)
    (nafter_direction_Laws : PySem.W.findIn K (.ref CL) "after_direction" = some none)
    (nafter_basic_Laws : PySem.W.findIn K (.ref CL) "after_basic" = some none)
    (nbad_Laws : PySem.W.findIn K (.ref CL) "bad" = some none)
    (aD_Walk : PySem.W.nsIn K mainGlobals "Walk" = some (some (.ref CW)))
    (a1_Walk : PySem.W.findIn K (.ref CW) "__init__" = some (some (.ref fi_Walk)))
    (i1_Walk : PySem.W.isFn K (.ref fi_Walk) = true)
    (l1_Walk : K.lookup fi_Walk = some ⟨oci_Walk, odi_Walk, .func (PySem.W.fnOf "__init__" "Walk.__init__" (defArgs s_Walk) (defBody s_Walk) (defScope s_Walk) .none kVi_Walk dci_Walk pmi_Walk ani_Walk cdi_Walk cti_Walk), sli_Walk⟩)
    (c1_Walk : PySem.W.codeIn K cdi_Walk "Walk.__init__" = true)
    (k1_Walk : PySem.W.keepIn K (.ref fi_Walk) = true)
    (pg_Walk : PySem.W.plainGet K CW Str.empty = true)
    (hd_Walk : PySem.W.hasDictIn K CW = true)
    (po_Walk : PySem.W.plainOver K CW = true)
    (sa_Walk : PySem.W.findIn K (.ref CW) "__setattr__" = some (some (.builtin "object.__setattr__")))
    (mk_Walk : PySem.W.makesIn K CW = true)
    (kc_Walk : PySem.W.keepIn K (.ref CW) = true)
    (nlaws_Walk : PySem.W.findIn K (.ref CW) "laws" = some none)
    (nsteps_Walk : PySem.W.findIn K (.ref CW) "steps" = some none)
    (nbacks_Walk : PySem.W.findIn K (.ref CW) "backs" = some none)
    (nends_Walk : PySem.W.findIn K (.ref CW) "ends" = some none) :
    ∃ fd : FuncData, (∀ (s : Shared) (us : List Value), us.length = (["calls"] : List Str).length → BindsTo s fd ⟨us, []⟩ ((["calls"] : List Str).zip us)) ∧ ∀ base : Heap, K.In base → base.Ns mainGlobals mg → FnOk P w K mg base CX0 20 fa fd ["calls"] (sp_answers K) := by
  have e := hfa.symm.trans (PySem.W.mg_of X G a_answers)
  cases e
  have T : Txt mg := ⟨⟨_, PySem.W.mg_of X G g_LAST_NODE⟩, ⟨_, PySem.W.mg_of X G g_LAST_KIND⟩, ⟨_, PySem.W.mg_of X G g_LAST_LABEL⟩, ⟨_, PySem.W.mg_of X G g_FIRST_DIRECTION⟩, ⟨_, PySem.W.mg_of X G g_LAST_DIRECTION⟩, ⟨_, PySem.W.mg_of X G g_OF_KIND⟩, ⟨_, PySem.W.mg_of X G g_WITH_EDGE⟩, ⟨_, PySem.W.mg_of X G g_KIND⟩, ⟨_, PySem.W.mg_of X G g_EDGE⟩, ⟨_, PySem.W.mg_of X G g_SUB⟩, ⟨_, PySem.W.mg_of X G g_ROLE⟩, ⟨_, PySem.W.mg_of X G g_NEVER⟩, ⟨_, PySem.W.mg_of X G g_NEVERROLE⟩, ⟨_, PySem.W.mg_of X G g_NO_SUCH_NUMBER⟩, ⟨_, PySem.W.mg_of X G g_NOT_THERE⟩, ⟨_, PySem.W.mg_of X G g_FROM_NOTHING⟩, ⟨_, PySem.W.mg_of X G g_TOLD_ALREADY⟩, ⟨_, PySem.W.mg_of X G g_FULL⟩, ⟨_, PySem.W.mg_of X G g_MOST_TOLD⟩, ⟨_, PySem.W.mg_of X G g_MOST_RULES⟩, ⟨_, PySem.W.mg_of X G g_MOST_STEPS⟩, PySem.W.mg_none_of X G b_len, PySem.W.mg_none_of X G b_all, PySem.W.mg_none_of X G b_sorted, PySem.W.mg_none_of X G b_enumerate, PySem.W.mg_none_of X G b_any, PySem.W.mg_none_of X G b_list, PySem.W.mg_none_of X G b_range⟩
  have XC : Cl K C := ⟨⟨pg_Desk, hd_Desk, po_Desk, sa_Desk⟩, ntold_Desk, nrules_Desk⟩
  have XL : ClL K CL := ⟨⟨pg_Laws, hd_Laws, po_Laws, sa_Laws⟩, nrules_Laws, nafter_direction_Laws, nafter_basic_Laws, nbad_Laws⟩
  have XW : ClW K CW := ⟨⟨pg_Walk, hd_Walk, po_Walk, sa_Walk⟩, nlaws_Walk, nsteps_Walk, nbacks_Walk, nends_Walk⟩
  have A_is_node : At K mg "is_node" s_is_node ["x"] := ⟨f_is_node, _, fun_mk l_is_node c_is_node k_is_node, PySem.W.mg_of X G a_is_node, (fun_mk (st := s_is_node) l_is_node c_is_node k_is_node).binds (ps := ["x"]) fun _ _ _ _ _ _ us hl => match us, hl with | [_], _ => rfl⟩
  have A_is_kind : At K mg "is_kind" s_is_kind ["k"] := ⟨f_is_kind, _, fun_mk l_is_kind c_is_kind k_is_kind, PySem.W.mg_of X G a_is_kind, (fun_mk (st := s_is_kind) l_is_kind c_is_kind k_is_kind).binds (ps := ["k"]) fun _ _ _ _ _ _ us hl => match us, hl with | [_], _ => rfl⟩
  have A_is_label : At K mg "is_label" s_is_label ["a"] := ⟨f_is_label, _, fun_mk l_is_label c_is_label k_is_label, PySem.W.mg_of X G a_is_label, (fun_mk (st := s_is_label) l_is_label c_is_label k_is_label).binds (ps := ["a"]) fun _ _ _ _ _ _ us hl => match us, hl with | [_], _ => rfl⟩
  have A_is_direction : At K mg "is_direction" s_is_direction ["r"] := ⟨f_is_direction, _, fun_mk l_is_direction c_is_direction k_is_direction, PySem.W.mg_of X G a_is_direction, (fun_mk (st := s_is_direction) l_is_direction c_is_direction k_is_direction).binds (ps := ["r"]) fun _ _ _ _ _ _ us hl => match us, hl with | [_], _ => rfl⟩
  have A_is_basic : At K mg "is_basic" s_is_basic ["b"] := ⟨f_is_basic, _, fun_mk l_is_basic c_is_basic k_is_basic, PySem.W.mg_of X G a_is_basic, (fun_mk (st := s_is_basic) l_is_basic c_is_basic k_is_basic).binds (ps := ["b"]) fun _ _ _ _ _ _ us hl => match us, hl with | [_], _ => rfl⟩
  have A_nodes : At K mg "nodes" s_nodes [] := ⟨f_nodes, _, fun_mk l_nodes c_nodes k_nodes, PySem.W.mg_of X G a_nodes, (fun_mk (st := s_nodes) l_nodes c_nodes k_nodes).binds (ps := []) fun _ _ _ _ _ _ us hl => match us, hl with | [], _ => rfl⟩
  have A_directions : At K mg "directions" s_directions [] := ⟨f_directions, _, fun_mk l_directions c_directions k_directions, PySem.W.mg_of X G a_directions, (fun_mk (st := s_directions) l_directions c_directions k_directions).binds (ps := []) fun _ _ _ _ _ _ us hl => match us, hl with | [], _ => rfl⟩
  have A_basics : At K mg "basics" s_basics [] := ⟨f_basics, _, fun_mk l_basics c_basics k_basics, PySem.W.mg_of X G a_basics, (fun_mk (st := s_basics) l_basics c_basics k_basics).binds (ps := []) fun _ _ _ _ _ _ us hl => match us, hl with | [], _ => rfl⟩
  have A_forward : At K mg "forward" s_forward ["a"] := ⟨f_forward, _, fun_mk l_forward c_forward k_forward, PySem.W.mg_of X G a_forward, (fun_mk (st := s_forward) l_forward c_forward k_forward).binds (ps := ["a"]) fun _ _ _ _ _ _ us hl => match us, hl with | [_], _ => rfl⟩
  have A_backward : At K mg "backward" s_backward ["a"] := ⟨f_backward, _, fun_mk l_backward c_backward k_backward, PySem.W.mg_of X G a_backward, (fun_mk (st := s_backward) l_backward c_backward k_backward).binds (ps := ["a"]) fun _ _ _ _ _ _ us hl => match us, hl with | [_], _ => rfl⟩
  have A_label : At K mg "label" s_label ["r"] := ⟨f_label, _, fun_mk l_label c_label k_label, PySem.W.mg_of X G a_label, (fun_mk (st := s_label) l_label c_label k_label).binds (ps := ["r"]) fun _ _ _ _ _ _ us hl => match us, hl with | [_], _ => rfl⟩
  have A_is_forward : At K mg "is_forward" s_is_forward ["r"] := ⟨f_is_forward, _, fun_mk l_is_forward c_is_forward k_is_forward, PySem.W.mg_of X G a_is_forward, (fun_mk (st := s_is_forward) l_is_forward c_is_forward k_is_forward).binds (ps := ["r"]) fun _ _ _ _ _ _ us hl => match us, hl with | [_], _ => rfl⟩
  have A_turned : At K mg "turned" s_turned ["r"] := ⟨f_turned, _, fun_mk l_turned c_turned k_turned, PySem.W.mg_of X G a_turned, (fun_mk (st := s_turned) l_turned c_turned k_turned).binds (ps := ["r"]) fun _ _ _ _ _ _ us hl => match us, hl with | [_], _ => rfl⟩
  have A_reached : At K mg "reached" s_reached ["starts", "steps"] := ⟨f_reached, _, fun_mk l_reached c_reached k_reached, PySem.W.mg_of X G a_reached, (fun_mk (st := s_reached) l_reached c_reached k_reached).binds (ps := ["starts", "steps"]) fun _ _ _ _ _ _ us hl => match us, hl with | [_, _], _ => rfl⟩
  have A_reached_from_each : At K mg "reached_from_each" s_reached_from_each ["starts", "steps"] := ⟨f_reached_from_each, _, fun_mk l_reached_from_each c_reached_from_each k_reached_from_each, PySem.W.mg_of X G a_reached_from_each, (fun_mk (st := s_reached_from_each) l_reached_from_each c_reached_from_each k_reached_from_each).binds (ps := ["starts", "steps"]) fun _ _ _ _ _ _ us hl => match us, hl with | [_, _], _ => rfl⟩
  have A_reached_from_all : At K mg "reached_from_all" s_reached_from_all ["table", "starts"] := ⟨f_reached_from_all, _, fun_mk l_reached_from_all c_reached_from_all k_reached_from_all, PySem.W.mg_of X G a_reached_from_all, (fun_mk (st := s_reached_from_all) l_reached_from_all c_reached_from_all k_reached_from_all).binds (ps := ["table", "starts"]) fun _ _ _ _ _ _ us hl => match us, hl with | [_, _], _ => rfl⟩
  have A_direction_steps : At K mg "direction_steps" s_direction_steps ["rules"] := ⟨f_direction_steps, _, fun_mk l_direction_steps c_direction_steps k_direction_steps, PySem.W.mg_of X G a_direction_steps, (fun_mk (st := s_direction_steps) l_direction_steps c_direction_steps k_direction_steps).binds (ps := ["rules"]) fun _ _ _ _ _ _ us hl => match us, hl with | [_], _ => rfl⟩
  have A_basic_steps : At K mg "basic_steps" s_basic_steps ["rules"] := ⟨f_basic_steps, _, fun_mk l_basic_steps c_basic_steps k_basic_steps, PySem.W.mg_of X G a_basic_steps, (fun_mk (st := s_basic_steps) l_basic_steps c_basic_steps k_basic_steps).binds (ps := ["rules"]) fun _ _ _ _ _ _ us hl => match us, hl with | [_], _ => rfl⟩
  have A_forbids : At K mg "forbids" s_forbids ["laws", "word", "ones"] := ⟨f_forbids, _, fun_mk l_forbids c_forbids k_forbids, PySem.W.mg_of X G a_forbids, (fun_mk (st := s_forbids) l_forbids c_forbids k_forbids).binds (ps := ["laws", "word", "ones"]) fun _ _ _ _ _ _ us hl => match us, hl with | [_, _, _], _ => rfl⟩
  have A_clashes : At K mg "clashes" s_clashes ["laws", "b"] := ⟨f_clashes, _, fun_mk l_clashes c_clashes k_clashes, PySem.W.mg_of X G a_clashes, (fun_mk (st := s_clashes) l_clashes c_clashes k_clashes).binds (ps := ["laws", "b"]) fun _ _ _ _ _ _ us hl => match us, hl with | [_, _], _ => rfl⟩
  have A_bad_ones : At K mg "bad_ones" s_bad_ones ["laws"] := ⟨f_bad_ones, _, fun_mk l_bad_ones c_bad_ones k_bad_ones, PySem.W.mg_of X G a_bad_ones, (fun_mk (st := s_bad_ones) l_bad_ones c_bad_ones k_bad_ones).binds (ps := ["laws"]) fun _ _ _ _ _ _ us hl => match us, hl with | [_], _ => rfl⟩
  have A_told_directions : At K mg "told_directions" s_told_directions ["told", "x", "y"] := ⟨f_told_directions, _, fun_mk l_told_directions c_told_directions k_told_directions, PySem.W.mg_of X G a_told_directions, (fun_mk (st := s_told_directions) l_told_directions c_told_directions k_told_directions).binds (ps := ["told", "x", "y"]) fun _ _ _ _ _ _ us hl => match us, hl with | [_, _, _], _ => rfl⟩
  have A_directions_between : At K mg "directions_between" s_directions_between ["told", "laws", "x", "y"] := ⟨f_directions_between, _, fun_mk l_directions_between c_directions_between k_directions_between, PySem.W.mg_of X G a_directions_between, (fun_mk (st := s_directions_between) l_directions_between c_directions_between k_directions_between).binds (ps := ["told", "laws", "x", "y"]) fun _ _ _ _ _ _ us hl => match us, hl with | [_, _, _, _], _ => rfl⟩
  have A_told_basics : At K mg "told_basics" s_told_basics ["told", "x"] := ⟨f_told_basics, _, fun_mk l_told_basics c_told_basics k_told_basics, PySem.W.mg_of X G a_told_basics, (fun_mk (st := s_told_basics) l_told_basics c_told_basics k_told_basics).binds (ps := ["told", "x"]) fun _ _ _ _ _ _ us hl => match us, hl with | [_, _], _ => rfl⟩
  have A_profile : At K mg "profile" s_profile ["told", "laws", "x"] := ⟨f_profile, _, fun_mk l_profile c_profile k_profile, PySem.W.mg_of X G a_profile, (fun_mk (st := s_profile) l_profile c_profile k_profile).binds (ps := ["told", "laws", "x"]) fun _ _ _ _ _ _ us hl => match us, hl with | [_, _, _], _ => rfl⟩
  have A_clash_between : At K mg "clash_between" s_clash_between ["told", "laws", "x", "y"] := ⟨f_clash_between, _, fun_mk l_clash_between c_clash_between k_clash_between, PySem.W.mg_of X G a_clash_between, (fun_mk (st := s_clash_between) l_clash_between c_clash_between k_clash_between).binds (ps := ["told", "laws", "x", "y"]) fun _ _ _ _ _ _ us hl => match us, hl with | [_, _, _, _], _ => rfl⟩
  have A_is_wrong : At K mg "is_wrong" s_is_wrong ["told", "laws", "x"] := ⟨f_is_wrong, _, fun_mk l_is_wrong c_is_wrong k_is_wrong, PySem.W.mg_of X G a_is_wrong, (fun_mk (st := s_is_wrong) l_is_wrong c_is_wrong k_is_wrong).binds (ps := ["told", "laws", "x"]) fun _ _ _ _ _ _ us hl => match us, hl with | [_, _, _], _ => rfl⟩
  have A_wrong_nodes : At K mg "wrong_nodes" s_wrong_nodes ["told", "laws"] := ⟨f_wrong_nodes, _, fun_mk l_wrong_nodes c_wrong_nodes k_wrong_nodes, PySem.W.mg_of X G a_wrong_nodes, (fun_mk (st := s_wrong_nodes) l_wrong_nodes c_wrong_nodes k_wrong_nodes).binds (ps := ["told", "laws"]) fun _ _ _ _ _ _ us hl => match us, hl with | [_, _], _ => rfl⟩
  have A_can_be : At K mg "can_be" s_can_be ["told", "laws"] := ⟨f_can_be, _, fun_mk l_can_be c_can_be k_can_be, PySem.W.mg_of X G a_can_be, (fun_mk (st := s_can_be) l_can_be c_can_be k_can_be).binds (ps := ["told", "laws"]) fun _ _ _ _ _ _ us hl => match us, hl with | [_, _], _ => rfl⟩
  have A_certain_nodes : At K mg "certain_nodes" s_certain_nodes ["told", "laws", "b"] := ⟨f_certain_nodes, _, fun_mk l_certain_nodes c_certain_nodes k_certain_nodes, PySem.W.mg_of X G a_certain_nodes, (fun_mk (st := s_certain_nodes) l_certain_nodes c_certain_nodes k_certain_nodes).binds (ps := ["told", "laws", "b"]) fun _ _ _ _ _ _ us hl => match us, hl with | [_, _, _], _ => rfl⟩
  have A_certain_directions : At K mg "certain_directions" s_certain_directions ["told", "laws", "x", "y"] := ⟨f_certain_directions, _, fun_mk l_certain_directions c_certain_directions k_certain_directions, PySem.W.mg_of X G a_certain_directions, (fun_mk (st := s_certain_directions) l_certain_directions c_certain_directions k_certain_directions).binds (ps := ["told", "laws", "x", "y"]) fun _ _ _ _ _ _ us hl => match us, hl with | [_, _, _, _], _ => rfl⟩
  have A_sources : At K mg "sources" s_sources ["told", "laws", "x", "b"] := ⟨f_sources, _, fun_mk l_sources c_sources k_sources, PySem.W.mg_of X G a_sources, (fun_mk (st := s_sources) l_sources c_sources k_sources).binds (ps := ["told", "laws", "x", "b"]) fun _ _ _ _ _ _ us hl => match us, hl with | [_, _, _, _], _ => rfl⟩
  have A_thing_with_edge : At K mg "thing_with_edge" s_thing_with_edge ["r", "x", "y"] := ⟨f_thing_with_edge, _, fun_mk l_thing_with_edge c_thing_with_edge k_thing_with_edge, PySem.W.mg_of X G a_thing_with_edge, (fun_mk (st := s_thing_with_edge) l_thing_with_edge c_thing_with_edge k_thing_with_edge).binds (ps := ["r", "x", "y"]) fun _ _ _ _ _ _ us hl => match us, hl with | [_, _, _], _ => rfl⟩
  have A_thing_with_basic : At K mg "thing_with_basic" s_thing_with_basic ["b", "x", "y"] := ⟨f_thing_with_basic, _, fun_mk l_thing_with_basic c_thing_with_basic k_thing_with_basic, PySem.W.mg_of X G a_thing_with_basic, (fun_mk (st := s_thing_with_basic) l_thing_with_basic c_thing_with_basic k_thing_with_basic).binds (ps := ["b", "x", "y"]) fun _ _ _ _ _ _ us hl => match us, hl with | [_, _, _], _ => rfl⟩
  have A_always_sub : At K mg "always_sub" s_always_sub ["laws", "b", "c"] := ⟨f_always_sub, _, fun_mk l_always_sub c_always_sub k_always_sub, PySem.W.mg_of X G a_always_sub, (fun_mk (st := s_always_sub) l_always_sub c_always_sub k_always_sub).binds (ps := ["laws", "b", "c"]) fun _ _ _ _ _ _ us hl => match us, hl with | [_, _, _], _ => rfl⟩
  have A_always_role : At K mg "always_role" s_always_role ["laws", "r", "s"] := ⟨f_always_role, _, fun_mk l_always_role c_always_role k_always_role, PySem.W.mg_of X G a_always_role, (fun_mk (st := s_always_role) l_always_role c_always_role k_always_role).binds (ps := ["laws", "r", "s"]) fun _ _ _ _ _ _ us hl => match us, hl with | [_, _, _], _ => rfl⟩
  have A_always_never : At K mg "always_never" s_always_never ["laws", "b", "c"] := ⟨f_always_never, _, fun_mk l_always_never c_always_never k_always_never, PySem.W.mg_of X G a_always_never, (fun_mk (st := s_always_never) l_always_never c_always_never k_always_never).binds (ps := ["laws", "b", "c"]) fun _ _ _ _ _ _ us hl => match us, hl with | [_, _, _], _ => rfl⟩
  have A_always_neverrole : At K mg "always_neverrole" s_always_neverrole ["laws", "r", "s"] := ⟨f_always_neverrole, _, fun_mk l_always_neverrole c_always_neverrole k_always_neverrole, PySem.W.mg_of X G a_always_neverrole, (fun_mk (st := s_always_neverrole) l_always_neverrole c_always_neverrole k_always_neverrole).binds (ps := ["laws", "r", "s"]) fun _ _ _ _ _ _ us hl => match us, hl with | [_, _, _], _ => rfl⟩
  have A_always_kept : At K mg "always_kept" s_always_kept ["laws", "rule"] := ⟨f_always_kept, _, fun_mk l_always_kept c_always_kept k_always_kept, PySem.W.mg_of X G a_always_kept, (fun_mk (st := s_always_kept) l_always_kept c_always_kept k_always_kept).binds (ps := ["laws", "rule"]) fun _ _ _ _ _ _ us hl => match us, hl with | [_, _], _ => rfl⟩
  have A_own_profile : At K mg "own_profile" s_own_profile ["laws", "r"] := ⟨f_own_profile, _, fun_mk l_own_profile c_own_profile k_own_profile, PySem.W.mg_of X G a_own_profile, (fun_mk (st := s_own_profile) l_own_profile c_own_profile k_own_profile).binds (ps := ["laws", "r"]) fun _ _ _ _ _ _ us hl => match us, hl with | [_, _], _ => rfl⟩
  have A_fits : At K mg "fits" s_fits ["has", "k"] := ⟨f_fits, _, fun_mk l_fits c_fits k_fits, PySem.W.mg_of X G a_fits, (fun_mk (st := s_fits) l_fits c_fits k_fits).binds (ps := ["has", "k"]) fun _ _ _ _ _ _ us hl => match us, hl with | [_, _], _ => rfl⟩
  have A_own_nodes : At K mg "own_nodes" s_own_nodes ["walk", "has", "done"] := ⟨f_own_nodes, _, fun_mk l_own_nodes c_own_nodes k_own_nodes, PySem.W.mg_of X G a_own_nodes, (fun_mk (st := s_own_nodes) l_own_nodes c_own_nodes k_own_nodes).binds (ps := ["walk", "has", "done"]) fun _ _ _ _ _ _ us hl => match us, hl with | [_, _, _], _ => rfl⟩
  have A_is_over : At K mg "is_over" s_is_over ["walk", "has", "done"] := ⟨f_is_over, _, fun_mk l_is_over c_is_over k_is_over, PySem.W.mg_of X G a_is_over, (fun_mk (st := s_is_over) l_is_over c_is_over k_is_over).binds (ps := ["walk", "has", "done"]) fun _ _ _ _ _ _ us hl => match us, hl with | [_, _, _], _ => rfl⟩
  have A_round_trips : At K mg "round_trips" s_round_trips ["walk", "has", "first"] := ⟨f_round_trips, _, fun_mk l_round_trips c_round_trips k_round_trips, PySem.W.mg_of X G a_round_trips, (fun_mk (st := s_round_trips) l_round_trips c_round_trips k_round_trips).binds (ps := ["walk", "has", "first"]) fun _ _ _ _ _ _ us hl => match us, hl with | [_, _, _], _ => rfl⟩
  have A_look_out : At K mg "look_out" s_look_out ["walk", "r", "done"] := ⟨f_look_out, _, fun_mk l_look_out c_look_out k_look_out, PySem.W.mg_of X G a_look_out, (fun_mk (st := s_look_out) l_look_out c_look_out k_look_out).binds (ps := ["walk", "r", "done"]) fun _ _ _ _ _ _ us hl => match us, hl with | [_, _, _], _ => rfl⟩
  have A_told_moves : At K mg "told_moves" s_told_moves ["walk", "told", "profiles"] := ⟨f_told_moves, _, fun_mk l_told_moves c_told_moves k_told_moves, PySem.W.mg_of X G a_told_moves, (fun_mk (st := s_told_moves) l_told_moves c_told_moves k_told_moves).binds (ps := ["walk", "told", "profiles"]) fun _ _ _ _ _ _ us hl => match us, hl with | [_, _, _], _ => rfl⟩
  have A_certain_starts : At K mg "certain_starts" s_certain_starts ["told", "laws", "steps"] := ⟨f_certain_starts, _, fun_mk l_certain_starts c_certain_starts k_certain_starts, PySem.W.mg_of X G a_certain_starts, (fun_mk (st := s_certain_starts) l_certain_starts c_certain_starts k_certain_starts).binds (ps := ["told", "laws", "steps"]) fun _ _ _ _ _ _ us hl => match us, hl with | [_, _, _], _ => rfl⟩
  have A_impossible_ones : At K mg "impossible_ones" s_impossible_ones ["told", "laws"] := ⟨f_impossible_ones, _, fun_mk l_impossible_ones c_impossible_ones k_impossible_ones, PySem.W.mg_of X G a_impossible_ones, (fun_mk (st := s_impossible_ones) l_impossible_ones c_impossible_ones k_impossible_ones).binds (ps := ["told", "laws"]) fun _ _ _ _ _ _ us hl => match us, hl with | [_, _], _ => rfl⟩
  have A_later_foes : At K mg "later_foes" s_later_foes ["told", "laws"] := ⟨f_later_foes, _, fun_mk l_later_foes c_later_foes k_later_foes, PySem.W.mg_of X G a_later_foes, (fun_mk (st := s_later_foes) l_later_foes c_later_foes k_later_foes).binds (ps := ["told", "laws"]) fun _ _ _ _ _ _ us hl => match us, hl with | [_, _], _ => rfl⟩
  have A_first_row : At K mg "first_row" s_first_row ["foes", "left"] := ⟨f_first_row, _, fun_mk l_first_row c_first_row k_first_row, PySem.W.mg_of X G a_first_row, (fun_mk (st := s_first_row) l_first_row c_first_row k_first_row).binds (ps := ["foes", "left"]) fun _ _ _ _ _ _ us hl => match us, hl with | [_, _], _ => rfl⟩
  have A_fewest_to_drop : At K mg "fewest_to_drop" s_fewest_to_drop ["told", "laws"] := ⟨f_fewest_to_drop, _, fun_mk l_fewest_to_drop c_fewest_to_drop k_fewest_to_drop, PySem.W.mg_of X G a_fewest_to_drop, (fun_mk (st := s_fewest_to_drop) l_fewest_to_drop c_fewest_to_drop k_fewest_to_drop).binds (ps := ["told", "laws"]) fun _ _ _ _ _ _ us hl => match us, hl with | [_, _], _ => rfl⟩
  have A_tell : At K mg "tell" s_tell ["desk", "thing"] := ⟨f_tell, _, fun_mk l_tell c_tell k_tell, PySem.W.mg_of X G a_tell, (fun_mk (st := s_tell) l_tell c_tell k_tell).binds (ps := ["desk", "thing"]) fun _ _ _ _ _ _ us hl => match us, hl with | [_, _], _ => rfl⟩
  have A_add_rule : At K mg "add_rule" s_add_rule ["desk", "rule"] := ⟨f_add_rule, _, fun_mk l_add_rule c_add_rule k_add_rule, PySem.W.mg_of X G a_add_rule, (fun_mk (st := s_add_rule) l_add_rule c_add_rule k_add_rule).binds (ps := ["desk", "rule"]) fun _ _ _ _ _ _ us hl => match us, hl with | [_, _], _ => rfl⟩
  have A_add_basic_rule : At K mg "add_basic_rule" s_add_basic_rule ["desk", "word", "numbers"] := ⟨f_add_basic_rule, _, fun_mk l_add_basic_rule c_add_basic_rule k_add_basic_rule, PySem.W.mg_of X G a_add_basic_rule, (fun_mk (st := s_add_basic_rule) l_add_basic_rule c_add_basic_rule k_add_basic_rule).binds (ps := ["desk", "word", "numbers"]) fun _ _ _ _ _ _ us hl => match us, hl with | [_, _, _], _ => rfl⟩
  have A_add_direction_rule : At K mg "add_direction_rule" s_add_direction_rule ["desk", "word", "numbers"] := ⟨f_add_direction_rule, _, fun_mk l_add_direction_rule c_add_direction_rule k_add_direction_rule, PySem.W.mg_of X G a_add_direction_rule, (fun_mk (st := s_add_direction_rule) l_add_direction_rule c_add_direction_rule k_add_direction_rule).binds (ps := ["desk", "word", "numbers"]) fun _ _ _ _ _ _ us hl => match us, hl with | [_, _, _], _ => rfl⟩
  have A_take_out : At K mg "take_out" s_take_out ["row", "n"] := ⟨f_take_out, _, fun_mk l_take_out c_take_out k_take_out, PySem.W.mg_of X G a_take_out, (fun_mk (st := s_take_out) l_take_out c_take_out k_take_out).binds (ps := ["row", "n"]) fun _ _ _ _ _ _ us hl => match us, hl with | [_, _], _ => rfl⟩
  have A_kind : At K mg "kind" s_kind ["desk", "numbers"] := ⟨f_kind, _, fun_mk l_kind c_kind k_kind, PySem.W.mg_of X G a_kind, (fun_mk (st := s_kind) l_kind c_kind k_kind).binds (ps := ["desk", "numbers"]) fun _ _ _ _ _ _ us hl => match us, hl with | [_, _], _ => rfl⟩
  have A_edge : At K mg "edge" s_edge ["desk", "numbers"] := ⟨f_edge, _, fun_mk l_edge c_edge k_edge, PySem.W.mg_of X G a_edge, (fun_mk (st := s_edge) l_edge c_edge k_edge).binds (ps := ["desk", "numbers"]) fun _ _ _ _ _ _ us hl => match us, hl with | [_, _], _ => rfl⟩
  have A_drop : At K mg "drop" s_drop ["desk", "numbers"] := ⟨f_drop, _, fun_mk l_drop c_drop k_drop, PySem.W.mg_of X G a_drop, (fun_mk (st := s_drop) l_drop c_drop k_drop).binds (ps := ["desk", "numbers"]) fun _ _ _ _ _ _ us hl => match us, hl with | [_, _], _ => rfl⟩
  have A_sub : At K mg "sub" s_sub ["desk", "numbers"] := ⟨f_sub, _, fun_mk l_sub c_sub k_sub, PySem.W.mg_of X G a_sub, (fun_mk (st := s_sub) l_sub c_sub k_sub).binds (ps := ["desk", "numbers"]) fun _ _ _ _ _ _ us hl => match us, hl with | [_, _], _ => rfl⟩
  have A_role : At K mg "role" s_role ["desk", "numbers"] := ⟨f_role, _, fun_mk l_role c_role k_role, PySem.W.mg_of X G a_role, (fun_mk (st := s_role) l_role c_role k_role).binds (ps := ["desk", "numbers"]) fun _ _ _ _ _ _ us hl => match us, hl with | [_, _], _ => rfl⟩
  have A_never : At K mg "never" s_never ["desk", "numbers"] := ⟨f_never, _, fun_mk l_never c_never k_never, PySem.W.mg_of X G a_never, (fun_mk (st := s_never) l_never c_never k_never).binds (ps := ["desk", "numbers"]) fun _ _ _ _ _ _ us hl => match us, hl with | [_, _], _ => rfl⟩
  have A_neverrole : At K mg "neverrole" s_neverrole ["desk", "numbers"] := ⟨f_neverrole, _, fun_mk l_neverrole c_neverrole k_neverrole, PySem.W.mg_of X G a_neverrole, (fun_mk (st := s_neverrole) l_neverrole c_neverrole k_neverrole).binds (ps := ["desk", "numbers"]) fun _ _ _ _ _ _ us hl => match us, hl with | [_, _], _ => rfl⟩
  have A_strike : At K mg "strike" s_strike ["desk", "numbers"] := ⟨f_strike, _, fun_mk l_strike c_strike k_strike, PySem.W.mg_of X G a_strike, (fun_mk (st := s_strike) l_strike c_strike k_strike).binds (ps := ["desk", "numbers"]) fun _ _ _ _ _ _ us hl => match us, hl with | [_, _], _ => rfl⟩
  have A_one_or_zero : At K mg "one_or_zero" s_one_or_zero ["holds"] := ⟨f_one_or_zero, _, fun_mk l_one_or_zero c_one_or_zero k_one_or_zero, PySem.W.mg_of X G a_one_or_zero, (fun_mk (st := s_one_or_zero) l_one_or_zero c_one_or_zero k_one_or_zero).binds (ps := ["holds"]) fun _ _ _ _ _ _ us hl => match us, hl with | [_], _ => rfl⟩
  have A_counted : At K mg "counted" s_counted ["found"] := ⟨f_counted, _, fun_mk l_counted c_counted k_counted, PySem.W.mg_of X G a_counted, (fun_mk (st := s_counted) l_counted c_counted k_counted).binds (ps := ["found"]) fun _ _ _ _ _ _ us hl => match us, hl with | [_], _ => rfl⟩
  have A_is_so : At K mg "is_so" s_is_so ["desk", "numbers"] := ⟨f_is_so, _, fun_mk l_is_so c_is_so k_is_so, PySem.W.mg_of X G a_is_so, (fun_mk (st := s_is_so) l_is_so c_is_so k_is_so).binds (ps := ["desk", "numbers"]) fun _ _ _ _ _ _ us hl => match us, hl with | [_, _], _ => rfl⟩
  have A_who : At K mg "who" s_who ["desk", "numbers"] := ⟨f_who, _, fun_mk l_who c_who k_who, PySem.W.mg_of X G a_who, (fun_mk (st := s_who) l_who c_who k_who).binds (ps := ["desk", "numbers"]) fun _ _ _ _ _ _ us hl => match us, hl with | [_, _], _ => rfl⟩
  have A_edges : At K mg "edges" s_edges ["desk", "numbers"] := ⟨f_edges, _, fun_mk l_edges c_edges k_edges, PySem.W.mg_of X G a_edges, (fun_mk (st := s_edges) l_edges c_edges k_edges).binds (ps := ["desk", "numbers"]) fun _ _ _ _ _ _ us hl => match us, hl with | [_, _], _ => rfl⟩
  have A_is_step : At K mg "is_step" s_is_step ["r", "k"] := ⟨f_is_step, _, fun_mk l_is_step c_is_step k_is_step, PySem.W.mg_of X G a_is_step, (fun_mk (st := s_is_step) l_is_step c_is_step k_is_step).binds (ps := ["r", "k"]) fun _ _ _ _ _ _ us hl => match us, hl with | [_, _], _ => rfl⟩
  have A_are_steps : At K mg "are_steps" s_are_steps ["row"] := ⟨f_are_steps, _, fun_mk l_are_steps c_are_steps k_are_steps, PySem.W.mg_of X G a_are_steps, (fun_mk (st := s_are_steps) l_are_steps c_are_steps k_are_steps).binds (ps := ["row"]) fun _ _ _ _ _ _ us hl => match us, hl with | [_], _ => rfl⟩
  have A_starts_of : At K mg "starts_of" s_starts_of ["desk", "row"] := ⟨f_starts_of, _, fun_mk l_starts_of c_starts_of k_starts_of, PySem.W.mg_of X G a_starts_of, (fun_mk (st := s_starts_of) l_starts_of c_starts_of k_starts_of).binds (ps := ["desk", "row"]) fun _ _ _ _ _ _ us hl => match us, hl with | [_, _], _ => rfl⟩
  have A_chain : At K mg "chain" s_chain ["desk", "numbers"] := ⟨f_chain, _, fun_mk l_chain c_chain k_chain, PySem.W.mg_of X G a_chain, (fun_mk (st := s_chain) l_chain c_chain k_chain).binds (ps := ["desk", "numbers"]) fun _ _ _ _ _ _ us hl => match us, hl with | [_, _], _ => rfl⟩
  have A_from_all : At K mg "from_all" s_from_all ["desk", "numbers"] := ⟨f_from_all, _, fun_mk l_from_all c_from_all k_from_all, PySem.W.mg_of X G a_from_all, (fun_mk (st := s_from_all) l_from_all c_from_all k_from_all).binds (ps := ["desk", "numbers"]) fun _ _ _ _ _ _ us hl => match us, hl with | [_, _], _ => rfl⟩
  have A_sound : At K mg "sound" s_sound ["desk", "numbers"] := ⟨f_sound, _, fun_mk l_sound c_sound k_sound, PySem.W.mg_of X G a_sound, (fun_mk (st := s_sound) l_sound c_sound k_sound).binds (ps := ["desk", "numbers"]) fun _ _ _ _ _ _ us hl => match us, hl with | [_, _], _ => rfl⟩
  have A_follows : At K mg "follows" s_follows ["desk", "numbers"] := ⟨f_follows, _, fun_mk l_follows c_follows k_follows, PySem.W.mg_of X G a_follows, (fun_mk (st := s_follows) l_follows c_follows k_follows).binds (ps := ["desk", "numbers"]) fun _ _ _ _ _ _ us hl => match us, hl with | [_, _], _ => rfl⟩
  have A_bad : At K mg "bad" s_bad ["desk", "numbers"] := ⟨f_bad, _, fun_mk l_bad c_bad k_bad, PySem.W.mg_of X G a_bad, (fun_mk (st := s_bad) l_bad c_bad k_bad).binds (ps := ["desk", "numbers"]) fun _ _ _ _ _ _ us hl => match us, hl with | [_, _], _ => rfl⟩
  have A_idle : At K mg "idle" s_idle ["desk", "numbers"] := ⟨f_idle, _, fun_mk l_idle c_idle k_idle, PySem.W.mg_of X G a_idle, (fun_mk (st := s_idle) l_idle c_idle k_idle).binds (ps := ["desk", "numbers"]) fun _ _ _ _ _ _ us hl => match us, hl with | [_, _], _ => rfl⟩
  have A_whence : At K mg "whence" s_whence ["desk", "numbers"] := ⟨f_whence, _, fun_mk l_whence c_whence k_whence, PySem.W.mg_of X G a_whence, (fun_mk (st := s_whence) l_whence c_whence k_whence).binds (ps := ["desk", "numbers"]) fun _ _ _ _ _ _ us hl => match us, hl with | [_, _], _ => rfl⟩
  have A_fewest : At K mg "fewest" s_fewest ["desk", "numbers"] := ⟨f_fewest, _, fun_mk l_fewest c_fewest k_fewest, PySem.W.mg_of X G a_fewest, (fun_mk (st := s_fewest) l_fewest c_fewest k_fewest).binds (ps := ["desk", "numbers"]) fun _ _ _ _ _ _ us hl => match us, hl with | [_, _], _ => rfl⟩
  have A_call_end : At K mg "call_end" s_call_end ["calls", "at"] := ⟨f_call_end, _, fun_mk l_call_end c_call_end k_call_end, PySem.W.mg_of X G a_call_end, (fun_mk (st := s_call_end) l_call_end c_call_end k_call_end).binds (ps := ["calls", "at"]) fun _ _ _ _ _ _ us hl => match us, hl with | [_, _], _ => rfl⟩
  have F_Desk := fun_mk (st := s_init) l1_Desk c1_Desk k1_Desk
  have b_Desk := F_Desk.binds (ps := ["self"]) fun _ _ _ _ _ _ us hl => match us, hl with | [_], _ => rfl
  have M_Desk : Mk K C fi_Desk := ⟨mk_Desk, a1_Desk, i1_Desk, kc_Desk⟩
  have mg_Desk := PySem.W.mg_of X G aD_Desk
  have F_Laws := fun_mk (st := s_Laws) l1_Laws c1_Laws k1_Laws
  have b_Laws := F_Laws.binds (ps := ["self", "rules"]) fun _ _ _ _ _ _ us hl => match us, hl with | [_, _], _ => rfl
  have M_Laws : Mk K CL fi_Laws := ⟨mk_Laws, a1_Laws, i1_Laws, kc_Laws⟩
  have mg_Laws := PySem.W.mg_of X G aD_Laws
  have F_Walk := fun_mk (st := s_Walk) l1_Walk c1_Walk k1_Walk
  have b_Walk := F_Walk.binds (ps := ["self", "laws", "steps"]) fun _ _ _ _ _ _ us hl => match us, hl with | [_, _, _], _ => rfl
  have M_Walk : Mk K CW fi_Walk := ⟨mk_Walk, a1_Walk, i1_Walk, kc_Walk⟩
  have mg_Walk := PySem.W.mg_of X G aD_Walk
  have hZ : ∀ H, SqT K H aSIZES (sizes.map fun n => V.int (n : Nat)) := fun H => .inr ⟨_, _, _, lS, rfl, rfl, by show 19 ≤ sizeLine; decide, .cons ⟨_, rfl⟩ (.cons ⟨_, rfl⟩ (.cons ⟨_, rfl⟩ (.cons ⟨_, rfl⟩ (.cons ⟨_, rfl⟩ (.cons ⟨_, rfl⟩ (.cons ⟨_, rfl⟩ (.cons ⟨_, rfl⟩ (.cons ⟨_, rfl⟩ (.cons ⟨_, rfl⟩ (.cons ⟨_, rfl⟩ (.cons ⟨_, rfl⟩ (.cons ⟨_, rfl⟩ (.cons ⟨_, rfl⟩ (.cons ⟨_, rfl⟩ (.cons ⟨_, rfl⟩ (.cons ⟨_, rfl⟩ (.cons ⟨_, rfl⟩ (.cons ⟨_, rfl⟩ (.nil)))))))))))))))))))⟩
  have hW : ∀ H, SqT K H aWITHROW [.int 11, .int 12] := fun H => .inr ⟨_, _, _, lW, rfl, rfl, by show 2 ≤ sizeLine; decide, .cons ⟨_, rfl⟩ (.cons ⟨_, rfl⟩ .nil)⟩
  refine ⟨PySem.W.fnOf "answers" "answers" (defArgs s_answers) (defBody s_answers) (defScope s_answers) .none kV_answers dc_answers pm_answers an_answers cd_answers ct_answers, fun s us hu => match us, hu with | [_], _ => .of_eq rfl, fun base _ _ => ?_⟩
  have D_is_node := ok_is_node (P := P) (w := w) (K := K) (mg := mg) (base := base) T A_is_node
  have D_is_kind := ok_is_kind (P := P) (w := w) (K := K) (mg := mg) (base := base) T A_is_kind
  have D_is_label := ok_is_label (P := P) (w := w) (K := K) (mg := mg) (base := base) T A_is_label
  have D_is_direction := ok_is_direction (P := P) (w := w) (K := K) (mg := mg) (base := base) T A_is_direction
  have D_is_basic := ok_is_basic (P := P) (w := w) (K := K) (mg := mg) (base := base) T D_is_kind D_is_direction A_is_basic
  have D_nodes := ok_nodes (P := P) (w := w) (K := K) (mg := mg) (base := base) T A_nodes
  have D_directions := ok_directions (P := P) (w := w) (K := K) (mg := mg) (base := base) T A_directions
  have D_basics := ok_basics (P := P) (w := w) (K := K) (mg := mg) (base := base) T D_directions A_basics
  have D_forward := ok_forward (P := P) (w := w) (K := K) (mg := mg) (base := base) T A_forward
  have D_backward := ok_backward (P := P) (w := w) (K := K) (mg := mg) (base := base) T A_backward
  have D_label := ok_label (P := P) (w := w) (K := K) (mg := mg) (base := base) T A_label
  have D_is_forward := ok_is_forward (P := P) (w := w) (K := K) (mg := mg) (base := base) T A_is_forward
  have D_turned := ok_turned (P := P) (w := w) (K := K) (mg := mg) (base := base) T D_is_forward A_turned
  have D_reachedB := ok_reached (P := P) (w := w) (K := K) (mg := mg) (base := base) encB T A_reached
  have D_reachedN := ok_reached (P := P) (w := w) (K := K) (mg := mg) (base := base) encN T A_reached
  have D_reachedP := ok_reached (P := P) (w := w) (K := K) (mg := mg) (base := base) encP T A_reached
  have D_reached_from_eachN := ok_reached_from_each (P := P) (w := w) (K := K) (mg := mg) (base := base) keNat (fun _ _ => pe_dnewK) T D_reachedN A_reached_from_each
  have D_reached_from_eachB := ok_reached_from_each (P := P) (w := w) (K := K) (mg := mg) (base := base) keB (fun _ _ => pe_dnewT) T D_reachedB A_reached_from_each
  have D_reached_from_allN := ok_reached_from_all (P := P) (w := w) (K := K) (mg := mg) (base := base) encN keNat T A_reached_from_all
  have D_reached_from_allB := ok_reached_from_all (P := P) (w := w) (K := K) (mg := mg) (base := base) encB keB T A_reached_from_all
  have D_direction_steps := ok_direction_steps (P := P) (w := w) (K := K) (mg := mg) (base := base) T D_turned A_direction_steps
  have D_basic_steps := ok_basic_steps (P := P) (w := w) (K := K) (mg := mg) (base := base) T D_direction_steps A_basic_steps
  have D_forbidsN := ok_forbidsN (P := P) (w := w) (K := K) (mg := mg) (base := base) T XL A_forbids
  have D_forbidsB := ok_forbidsB (P := P) (w := w) (K := K) (mg := mg) (base := base) T XL A_forbids
  have D_clashes := ok_clashes (P := P) (w := w) (K := K) (mg := mg) (base := base) T XL D_forbidsN D_forbidsB A_clashes
  have D_bad_ones := ok_bad_ones (P := P) (w := w) (K := K) (mg := mg) (base := base) T XL D_reachedB D_directions D_turned D_basic_steps D_basics D_clashes A_bad_ones
  have G_Laws := ok_Laws (P := P) (w := w) (K := K) (mg := mg) (base := base) T XL D_reached_from_eachN D_reached_from_eachB D_directions D_basics D_direction_steps D_basic_steps D_bad_ones F_Laws
  have D_told_directions := ok_told_directions (P := P) (w := w) (K := K) (mg := mg) (base := base) T D_forward D_backward A_told_directions
  have D_directions_between := ok_directions_between (P := P) (w := w) (K := K) (mg := mg) (base := base) T XL D_reached_from_allN D_told_directions A_directions_between
  have D_told_basics := ok_told_basics (P := P) (w := w) (K := K) (mg := mg) (base := base) T D_forward D_backward A_told_basics
  have D_profile := ok_profile (P := P) (w := w) (K := K) (mg := mg) (base := base) T XL D_reached_from_allB D_told_basics A_profile
  have D_clash_between := ok_clash_between (P := P) (w := w) (K := K) (mg := mg) (base := base) T XL D_directions_between D_turned D_forbidsN A_clash_between
  have D_is_wrong := ok_is_wrong (P := P) (w := w) (K := K) (mg := mg) (base := base) T XL D_profile D_forbidsB D_nodes D_clash_between A_is_wrong
  have D_wrong_nodes := ok_wrong_nodes (P := P) (w := w) (K := K) (mg := mg) (base := base) T D_nodes D_is_wrong A_wrong_nodes
  have D_can_be := ok_can_be (P := P) (w := w) (K := K) (mg := mg) (base := base) T D_wrong_nodes A_can_be
  have D_certain_nodes := ok_certain_nodes (P := P) (w := w) (K := K) (mg := mg) (base := base) T D_can_be D_nodes D_profile A_certain_nodes
  have D_certain_directions := ok_certain_directions (P := P) (w := w) (K := K) (mg := mg) (base := base) T D_can_be D_directions D_directions_between A_certain_directions
  have D_sources := ok_sources (P := P) (w := w) (K := K) (mg := mg) (base := base) T D_profile A_sources
  have D_thing_with_edge := ok_thing_with_edge (P := P) (w := w) (K := K) (mg := mg) (base := base) T D_label D_is_forward A_thing_with_edge
  have D_thing_with_basic := ok_thing_with_basic (P := P) (w := w) (K := K) (mg := mg) (base := base) T D_thing_with_edge A_thing_with_basic
  have D_always_sub := ok_always_sub (P := P) (w := w) (K := K) (mg := mg) (base := base) T D_thing_with_basic D_certain_nodes A_always_sub
  have D_always_role := ok_always_role (P := P) (w := w) (K := K) (mg := mg) (base := base) T D_thing_with_edge D_certain_directions A_always_role
  have D_always_never := ok_always_never (P := P) (w := w) (K := K) (mg := mg) (base := base) T D_thing_with_basic D_can_be A_always_never
  have D_always_neverrole := ok_always_neverrole (P := P) (w := w) (K := K) (mg := mg) (base := base) T D_thing_with_edge D_can_be A_always_neverrole
  have D_always_kept := ok_always_kept (P := P) (w := w) (K := K) (mg := mg) (base := base) T D_always_sub D_always_role D_always_never D_always_neverrole A_always_kept
  have D_impossible_ones := ok_impossible_ones (P := P) (w := w) (K := K) (mg := mg) (base := base) T D_can_be A_impossible_ones
  have D_later_foes := ok_later_foes (P := P) (w := w) (K := K) (mg := mg) (base := base) T D_can_be A_later_foes
  have D_first_row := ok_first_row (P := P) (w := w) (K := K) (mg := mg) (base := base) T A_first_row 15
  have D_fewest_to_drop := ok_fewest_to_drop (P := P) (w := w) (K := K) (mg := mg) (base := base) T D_impossible_ones D_later_foes D_first_row A_fewest_to_drop
  have D_own_profile := ok_own_profile (P := P) (w := w) (K := K) (mg := mg) (base := base) T XL D_turned A_own_profile
  have D_fits := ok_fits (P := P) (w := w) (K := K) (mg := mg) (base := base) T A_fits
  have D_own_nodes := ok_own_nodes (P := P) (w := w) (K := K) (mg := mg) (base := base) T XL XW D_directions D_fits D_own_profile A_own_nodes
  have D_is_over := ok_is_over (P := P) (w := w) (K := K) (mg := mg) (base := base) T XL XW D_own_nodes A_is_over
  have D_round_trips := ok_round_trips (P := P) (w := w) (K := K) (mg := mg) (base := base) T XL XW D_own_nodes D_fits A_round_trips
  have D_look_out := ok_look_out (P := P) (w := w) (K := K) (mg := mg) (base := base) T XL XW D_own_profile D_turned D_reachedN D_round_trips D_is_over A_look_out
  have G_Walk := ok_Walk (P := P) (w := w) (K := K) (mg := mg) (base := base) T XL XW D_directions D_look_out F_Walk
  have D_told_moves := ok_told_moves (P := P) (w := w) (K := K) (mg := mg) (base := base) T XL XW D_nodes D_round_trips D_directions_between D_fits A_told_moves
  have D_certain_starts := ok_certain_starts (P := P) (w := w) (K := K) (mg := mg) (base := base) T XL XW D_can_be D_nodes D_profile D_is_over D_reachedP D_told_moves M_Walk G_Walk b_Walk mg_Walk A_certain_starts
  have D_tell := ok_tell (P := P) (w := w) (K := K) (mg := mg) (base := base) T XC A_tell
  have D_add_rule := ok_add_rule (P := P) (w := w) (K := K) (mg := mg) (base := base) T XC A_add_rule
  have D_take_out := ok_take_out (P := P) (w := w) (K := K) (mg := mg) (base := base) (C := C) T A_take_out
  have D_add_basic_rule := ok_add_basic_rule (P := P) (w := w) (K := K) (mg := mg) (base := base) T XC D_is_basic D_add_rule A_add_basic_rule
  have D_add_direction_rule := ok_add_direction_rule (P := P) (w := w) (K := K) (mg := mg) (base := base) T XC D_is_direction D_add_rule A_add_direction_rule
  have D_kind := ok_kind (P := P) (w := w) (K := K) (mg := mg) (base := base) T XC D_is_node D_is_kind D_tell A_kind
  have D_edge := ok_edge (P := P) (w := w) (K := K) (mg := mg) (base := base) T XC D_is_node D_is_label D_tell A_edge
  have D_drop := ok_drop (P := P) (w := w) (K := K) (mg := mg) (base := base) T XC D_take_out A_drop
  have D_strike := ok_strike (P := P) (w := w) (K := K) (mg := mg) (base := base) T XC D_take_out A_strike
  have D_sub := ok_sub (P := P) (w := w) (K := K) (mg := mg) (base := base) T XC D_add_basic_rule A_sub
  have D_never := ok_never (P := P) (w := w) (K := K) (mg := mg) (base := base) T XC D_add_basic_rule A_never
  have D_role := ok_role (P := P) (w := w) (K := K) (mg := mg) (base := base) T XC D_add_direction_rule A_role
  have D_neverrole := ok_neverrole (P := P) (w := w) (K := K) (mg := mg) (base := base) T XC D_add_direction_rule A_neverrole
  have D_one_or_zero := ok_one_or_zero (P := P) (w := w) (K := K) (mg := mg) (base := base) T A_one_or_zero
  have D_counted := ok_counted (P := P) (w := w) (K := K) (mg := mg) (base := base) T A_counted
  have D_is_step := ok_is_step (P := P) (w := w) (K := K) (mg := mg) (base := base) T D_is_direction D_is_kind A_is_step
  have D_are_steps := ok_are_steps (P := P) (w := w) (K := K) (mg := mg) (base := base) T D_is_step A_are_steps
  have D_starts_of := ok_starts_of (P := P) (w := w) (K := K) (mg := mg) (base := base) T XC D_certain_starts M_Laws G_Laws b_Laws mg_Laws A_starts_of
  have D_is_so := ok_is_so (P := P) (w := w) (K := K) (mg := mg) (base := base) T XC D_is_node D_is_basic D_certain_nodes D_one_or_zero M_Laws G_Laws b_Laws mg_Laws A_is_so
  have D_who := ok_who (P := P) (w := w) (K := K) (mg := mg) (base := base) T XC D_is_basic D_certain_nodes D_counted M_Laws G_Laws b_Laws mg_Laws A_who
  have D_edges := ok_edges (P := P) (w := w) (K := K) (mg := mg) (base := base) T XC D_is_node D_certain_directions D_counted M_Laws G_Laws b_Laws mg_Laws A_edges
  have D_chain := ok_chain (P := P) (w := w) (K := K) (mg := mg) (base := base) T XC D_is_node D_are_steps D_starts_of D_one_or_zero A_chain
  have D_from_all := ok_from_all (P := P) (w := w) (K := K) (mg := mg) (base := base) T XC D_are_steps D_starts_of D_counted A_from_all
  have D_sound := ok_sound (P := P) (w := w) (K := K) (mg := mg) (base := base) T XC D_wrong_nodes M_Laws G_Laws b_Laws mg_Laws A_sound
  have D_follows := ok_follows (P := P) (w := w) (K := K) (mg := mg) (base := base) T XC D_is_basic D_always_sub D_one_or_zero M_Laws G_Laws b_Laws mg_Laws A_follows
  have D_bad := ok_bad (P := P) (w := w) (K := K) (mg := mg) (base := base) T XC XL M_Laws G_Laws b_Laws mg_Laws A_bad
  have D_idle := ok_idle (P := P) (w := w) (K := K) (mg := mg) (base := base) T XC D_always_kept D_one_or_zero M_Laws G_Laws b_Laws mg_Laws A_idle
  have D_whence := ok_whence (P := P) (w := w) (K := K) (mg := mg) (base := base) T XC D_is_node D_is_basic D_sources M_Laws G_Laws b_Laws mg_Laws A_whence
  have D_fewest := ok_fewest (P := P) (w := w) (K := K) (mg := mg) (base := base) T XC D_fewest_to_drop D_counted M_Laws G_Laws b_Laws mg_Laws A_fewest
  have D_call_end := ok_call_end (P := P) (w := w) (K := K) (mg := mg) (base := base) T (PySem.W.mg_of X G aS) (PySem.W.mg_of X G aW) hZ hW A_call_end
  have hC : ∀ H, SqT K H aCALLS ([f_kind, f_edge, f_drop, f_sub, f_role, f_never, f_neverrole, f_strike, f_is_so, f_who, f_edges, f_chain, f_from_all, f_sound, f_follows, f_bad, f_idle, f_whence, f_fewest].map V.ref) := fun H => .inr ⟨_, _, _, lC, rfl, rfl, by show 19 ≤ sizeLine; decide, .cons rfl (.cons rfl (.cons rfl (.cons rfl (.cons rfl (.cons rfl (.cons rfl (.cons rfl (.cons rfl (.cons rfl (.cons rfl (.cons rfl (.cons rfl (.cons rfl (.cons rfl (.cons rfl (.cons rfl (.cons rfl (.cons rfl (.nil)))))))))))))))))))⟩
  refine (ok_answers T XC M_Desk (ok_init XC F_Desk) b_Desk mg_Desk D_call_end (PySem.W.mg_of X G aC) [f_kind, f_edge, f_drop, f_sub, f_role, f_never, f_neverrole, f_strike, f_is_so, f_who, f_edges, f_chain, f_from_all, f_sound, f_follows, f_bad, f_idle, f_whence, f_fewest] rfl hC _ rfl ?_ (fun_mk l_answers c_answers k_answers))
  rintro f sp ⟨p, hp, rfl⟩
  match p, hp with
  | 0, hp => cases hp; exact held_of D_kind (PySem.W.mg_of X G a_kind) (by decide) fun _ _ _ _ => RC.r0
  | 1, hp => cases hp; exact held_of D_edge (PySem.W.mg_of X G a_edge) (by decide) fun _ _ _ _ => RC.r1
  | 2, hp => cases hp; exact held_of D_drop (PySem.W.mg_of X G a_drop) (by decide) fun _ _ _ _ => RC.r2
  | 3, hp => cases hp; exact held_of D_sub (PySem.W.mg_of X G a_sub) (by decide) fun _ _ _ _ => RC.r3
  | 4, hp => cases hp; exact held_of D_role (PySem.W.mg_of X G a_role) (by decide) fun _ _ _ _ => RC.r4
  | 5, hp => cases hp; exact held_of D_never (PySem.W.mg_of X G a_never) (by decide) fun _ _ _ _ => RC.r5
  | 6, hp => cases hp; exact held_of D_neverrole (PySem.W.mg_of X G a_neverrole) (by decide) fun _ _ _ _ => RC.r6
  | 7, hp => cases hp; exact held_of D_strike (PySem.W.mg_of X G a_strike) (by decide) fun _ _ _ _ => RC.r7
  | 8, hp => cases hp; exact held_of D_is_so (PySem.W.mg_of X G a_is_so) (by decide) fun _ _ _ _ => RC.r8
  | 9, hp => cases hp; exact held_of D_who (PySem.W.mg_of X G a_who) (by decide) fun _ _ _ _ => RC.r9
  | 10, hp => cases hp; exact held_of D_edges (PySem.W.mg_of X G a_edges) (by decide) fun _ _ _ _ => RC.r10
  | 11, hp => cases hp; exact held_of D_chain (PySem.W.mg_of X G a_chain) (by decide) fun _ _ _ _ => RC.r11
  | 12, hp => cases hp; exact held_of D_from_all (PySem.W.mg_of X G a_from_all) (by decide) fun _ _ _ _ => RC.r12
  | 13, hp => cases hp; exact held_of D_sound (PySem.W.mg_of X G a_sound) (by decide) fun _ _ _ _ => RC.r13
  | 14, hp => cases hp; exact held_of D_follows (PySem.W.mg_of X G a_follows) (by decide) fun _ _ _ _ => RC.r14
  | 15, hp => cases hp; exact held_of D_bad (PySem.W.mg_of X G a_bad) (by decide) fun _ _ _ _ => RC.r15
  | 16, hp => cases hp; exact held_of D_idle (PySem.W.mg_of X G a_idle) (by decide) fun _ _ _ _ => RC.r16
  | 17, hp => cases hp; exact held_of D_whence (PySem.W.mg_of X G a_whence) (by decide) fun _ _ _ _ => RC.r17
  | 18, hp => cases hp; exact held_of D_fewest (PySem.W.mg_of X G a_fewest) (by decide) fun _ _ _ _ => RC.r18
  | p + 19, hp => exact absurd hp (by simp)
end Wp
open PySem PySem.W PyProof.Rows
set_option maxRecDepth 100000 in
set_option maxHeartbeats 8000000 in
theorem PySem.Challenge.cw_whatmustbe_s01_answers_holds : PySem.Challenge.rw_whatmustbe_s01_answers.Holds := by
  w_on; k_headS; (case hw => exact ⟨[.list [.int 13]], by decide +kernel, by decide +kernel⟩)
  k_fillS
  refine L2.walk_specK (r := PySem.Challenge.rw_whatmustbe_s01_answers) (k := 20) (CX := L2.CX0) (ps := ["calls"]) (sp := Wp.sp_answers) (by decide +kernel) rfl rfl ⟨rfl, by decide, by decide⟩ (fun w h Y => PySem.W.kIn_of Y) ?F ?S (fun _ _ _ _ z => z)
  case F =>
    intro w mg fa h Y KX G hmg
    refine' Wp.all_mk KX G hmg ?a_is_node ?l_is_node ?c_is_node ?k_is_node ?a_is_kind ?l_is_kind ?c_is_kind ?k_is_kind ?a_is_label ?l_is_label ?c_is_label ?k_is_label ?a_is_direction ?l_is_direction ?c_is_direction ?k_is_direction ?a_is_basic ?l_is_basic ?c_is_basic ?k_is_basic ?a_nodes ?l_nodes ?c_nodes ?k_nodes ?a_directions ?l_directions ?c_directions ?k_directions ?a_basics ?l_basics ?c_basics ?k_basics ?a_forward ?l_forward ?c_forward ?k_forward ?a_backward ?l_backward ?c_backward ?k_backward ?a_label ?l_label ?c_label ?k_label ?a_is_forward ?l_is_forward ?c_is_forward ?k_is_forward ?a_turned ?l_turned ?c_turned ?k_turned ?a_reached ?l_reached ?c_reached ?k_reached ?a_reached_from_each ?l_reached_from_each ?c_reached_from_each ?k_reached_from_each ?a_reached_from_all ?l_reached_from_all ?c_reached_from_all ?k_reached_from_all ?a_direction_steps ?l_direction_steps ?c_direction_steps ?k_direction_steps ?a_basic_steps ?l_basic_steps ?c_basic_steps ?k_basic_steps ?a_forbids ?l_forbids ?c_forbids ?k_forbids ?a_clashes ?l_clashes ?c_clashes ?k_clashes ?a_bad_ones ?l_bad_ones ?c_bad_ones ?k_bad_ones ?a_told_directions ?l_told_directions ?c_told_directions ?k_told_directions ?a_directions_between ?l_directions_between ?c_directions_between ?k_directions_between ?a_told_basics ?l_told_basics ?c_told_basics ?k_told_basics ?a_profile ?l_profile ?c_profile ?k_profile ?a_clash_between ?l_clash_between ?c_clash_between ?k_clash_between ?a_is_wrong ?l_is_wrong ?c_is_wrong ?k_is_wrong ?a_wrong_nodes ?l_wrong_nodes ?c_wrong_nodes ?k_wrong_nodes ?a_can_be ?l_can_be ?c_can_be ?k_can_be ?a_certain_nodes ?l_certain_nodes ?c_certain_nodes ?k_certain_nodes ?a_certain_directions ?l_certain_directions ?c_certain_directions ?k_certain_directions ?a_sources ?l_sources ?c_sources ?k_sources ?a_thing_with_edge ?l_thing_with_edge ?c_thing_with_edge ?k_thing_with_edge ?a_thing_with_basic ?l_thing_with_basic ?c_thing_with_basic ?k_thing_with_basic ?a_always_sub ?l_always_sub ?c_always_sub ?k_always_sub ?a_always_role ?l_always_role ?c_always_role ?k_always_role ?a_always_never ?l_always_never ?c_always_never ?k_always_never ?a_always_neverrole ?l_always_neverrole ?c_always_neverrole ?k_always_neverrole ?a_always_kept ?l_always_kept ?c_always_kept ?k_always_kept ?a_own_profile ?l_own_profile ?c_own_profile ?k_own_profile ?a_fits ?l_fits ?c_fits ?k_fits ?a_own_nodes ?l_own_nodes ?c_own_nodes ?k_own_nodes ?a_is_over ?l_is_over ?c_is_over ?k_is_over ?a_round_trips ?l_round_trips ?c_round_trips ?k_round_trips ?a_look_out ?l_look_out ?c_look_out ?k_look_out ?a_told_moves ?l_told_moves ?c_told_moves ?k_told_moves ?a_certain_starts ?l_certain_starts ?c_certain_starts ?k_certain_starts ?a_impossible_ones ?l_impossible_ones ?c_impossible_ones ?k_impossible_ones ?a_later_foes ?l_later_foes ?c_later_foes ?k_later_foes ?a_first_row ?l_first_row ?c_first_row ?k_first_row ?a_fewest_to_drop ?l_fewest_to_drop ?c_fewest_to_drop ?k_fewest_to_drop ?a_tell ?l_tell ?c_tell ?k_tell ?a_add_rule ?l_add_rule ?c_add_rule ?k_add_rule ?a_add_basic_rule ?l_add_basic_rule ?c_add_basic_rule ?k_add_basic_rule ?a_add_direction_rule ?l_add_direction_rule ?c_add_direction_rule ?k_add_direction_rule ?a_take_out ?l_take_out ?c_take_out ?k_take_out ?a_kind ?l_kind ?c_kind ?k_kind ?a_edge ?l_edge ?c_edge ?k_edge ?a_drop ?l_drop ?c_drop ?k_drop ?a_sub ?l_sub ?c_sub ?k_sub ?a_role ?l_role ?c_role ?k_role ?a_never ?l_never ?c_never ?k_never ?a_neverrole ?l_neverrole ?c_neverrole ?k_neverrole ?a_strike ?l_strike ?c_strike ?k_strike ?a_one_or_zero ?l_one_or_zero ?c_one_or_zero ?k_one_or_zero ?a_counted ?l_counted ?c_counted ?k_counted ?a_is_so ?l_is_so ?c_is_so ?k_is_so ?a_who ?l_who ?c_who ?k_who ?a_edges ?l_edges ?c_edges ?k_edges ?a_is_step ?l_is_step ?c_is_step ?k_is_step ?a_are_steps ?l_are_steps ?c_are_steps ?k_are_steps ?a_starts_of ?l_starts_of ?c_starts_of ?k_starts_of ?a_chain ?l_chain ?c_chain ?k_chain ?a_from_all ?l_from_all ?c_from_all ?k_from_all ?a_sound ?l_sound ?c_sound ?k_sound ?a_follows ?l_follows ?c_follows ?k_follows ?a_bad ?l_bad ?c_bad ?k_bad ?a_idle ?l_idle ?c_idle ?k_idle ?a_whence ?l_whence ?c_whence ?k_whence ?a_fewest ?l_fewest ?c_fewest ?k_fewest ?a_call_end ?l_call_end ?c_call_end ?k_call_end ?a_answers ?l_answers ?c_answers ?k_answers ?g_LAST_NODE ?g_LAST_KIND ?g_LAST_LABEL ?g_FIRST_DIRECTION ?g_LAST_DIRECTION ?g_OF_KIND ?g_WITH_EDGE ?g_KIND ?g_EDGE ?g_SUB ?g_ROLE ?g_NEVER ?g_NEVERROLE ?g_NO_SUCH_NUMBER ?g_NOT_THERE ?g_FROM_NOTHING ?g_TOLD_ALREADY ?g_FULL ?g_MOST_TOLD ?g_MOST_RULES ?g_MOST_STEPS ?b_len ?b_all ?b_sorted ?b_enumerate ?b_any ?b_list ?b_range ?aC ?lC ?aS ?lS ?aW ?lW ?aD_Desk ?a1_Desk ?i1_Desk ?l1_Desk ?c1_Desk ?k1_Desk ?pg_Desk ?hd_Desk ?po_Desk ?sa_Desk ?mk_Desk ?kc_Desk ?ntold_Desk ?nrules_Desk ?aD_Laws ?a1_Laws ?i1_Laws ?l1_Laws ?c1_Laws ?k1_Laws ?pg_Laws ?hd_Laws ?po_Laws ?sa_Laws ?mk_Laws ?kc_Laws ?nrules_Laws ?nafter_direction_Laws ?nafter_basic_Laws ?nbad_Laws ?aD_Walk ?a1_Walk ?i1_Walk ?l1_Walk ?c1_Walk ?k1_Walk ?pg_Walk ?hd_Walk ?po_Walk ?sa_Walk ?mk_Walk ?kc_Walk ?nlaws_Walk ?nsteps_Walk ?nbacks_Walk ?nends_Walk
    (case a_is_node => k_is); (case l_is_node => k_is); (case c_is_node => k_is); (case k_is_node => k_is); (case a_is_kind => k_is); (case l_is_kind => k_is); (case c_is_kind => k_is); (case k_is_kind => k_is); (case a_is_label => k_is); (case l_is_label => k_is); (case c_is_label => k_is); (case k_is_label => k_is); (case a_is_direction => k_is); (case l_is_direction => k_is); (case c_is_direction => k_is); (case k_is_direction => k_is); (case a_is_basic => k_is); (case l_is_basic => k_is); (case c_is_basic => k_is); (case k_is_basic => k_is); (case a_nodes => k_is); (case l_nodes => k_is); (case c_nodes => k_is); (case k_nodes => k_is); (case a_directions => k_is); (case l_directions => k_is); (case c_directions => k_is); (case k_directions => k_is); (case a_basics => k_is); (case l_basics => k_is); (case c_basics => k_is); (case k_basics => k_is); (case a_forward => k_is); (case l_forward => k_is); (case c_forward => k_is); (case k_forward => k_is); (case a_backward => k_is); (case l_backward => k_is); (case c_backward => k_is); (case k_backward => k_is); (case a_label => k_is); (case l_label => k_is); (case c_label => k_is); (case k_label => k_is); (case a_is_forward => k_is); (case l_is_forward => k_is); (case c_is_forward => k_is); (case k_is_forward => k_is); (case a_turned => k_is); (case l_turned => k_is); (case c_turned => k_is); (case k_turned => k_is); (case a_reached => k_is); (case l_reached => k_is); (case c_reached => k_is); (case k_reached => k_is); (case a_reached_from_each => k_is); (case l_reached_from_each => k_is); (case c_reached_from_each => k_is); (case k_reached_from_each => k_is); (case a_reached_from_all => k_is); (case l_reached_from_all => k_is); (case c_reached_from_all => k_is); (case k_reached_from_all => k_is); (case a_direction_steps => k_is); (case l_direction_steps => k_is); (case c_direction_steps => k_is); (case k_direction_steps => k_is); (case a_basic_steps => k_is); (case l_basic_steps => k_is); (case c_basic_steps => k_is); (case k_basic_steps => k_is); (case a_forbids => k_is); (case l_forbids => k_is); (case c_forbids => k_is); (case k_forbids => k_is); (case a_clashes => k_is); (case l_clashes => k_is); (case c_clashes => k_is); (case k_clashes => k_is); (case a_bad_ones => k_is); (case l_bad_ones => k_is); (case c_bad_ones => k_is); (case k_bad_ones => k_is); (case a_told_directions => k_is); (case l_told_directions => k_is); (case c_told_directions => k_is); (case k_told_directions => k_is); (case a_directions_between => k_is); (case l_directions_between => k_is); (case c_directions_between => k_is); (case k_directions_between => k_is); (case a_told_basics => k_is); (case l_told_basics => k_is); (case c_told_basics => k_is); (case k_told_basics => k_is); (case a_profile => k_is); (case l_profile => k_is); (case c_profile => k_is); (case k_profile => k_is); (case a_clash_between => k_is); (case l_clash_between => k_is); (case c_clash_between => k_is); (case k_clash_between => k_is); (case a_is_wrong => k_is); (case l_is_wrong => k_is); (case c_is_wrong => k_is); (case k_is_wrong => k_is); (case a_wrong_nodes => k_is); (case l_wrong_nodes => k_is); (case c_wrong_nodes => k_is); (case k_wrong_nodes => k_is); (case a_can_be => k_is); (case l_can_be => k_is); (case c_can_be => k_is); (case k_can_be => k_is); (case a_certain_nodes => k_is); (case l_certain_nodes => k_is); (case c_certain_nodes => k_is); (case k_certain_nodes => k_is); (case a_certain_directions => k_is); (case l_certain_directions => k_is); (case c_certain_directions => k_is); (case k_certain_directions => k_is); (case a_sources => k_is); (case l_sources => k_is); (case c_sources => k_is); (case k_sources => k_is); (case a_thing_with_edge => k_is); (case l_thing_with_edge => k_is); (case c_thing_with_edge => k_is); (case k_thing_with_edge => k_is); (case a_thing_with_basic => k_is); (case l_thing_with_basic => k_is); (case c_thing_with_basic => k_is); (case k_thing_with_basic => k_is); (case a_always_sub => k_is); (case l_always_sub => k_is); (case c_always_sub => k_is); (case k_always_sub => k_is); (case a_always_role => k_is); (case l_always_role => k_is); (case c_always_role => k_is); (case k_always_role => k_is); (case a_always_never => k_is); (case l_always_never => k_is); (case c_always_never => k_is); (case k_always_never => k_is); (case a_always_neverrole => k_is); (case l_always_neverrole => k_is); (case c_always_neverrole => k_is); (case k_always_neverrole => k_is); (case a_always_kept => k_is); (case l_always_kept => k_is); (case c_always_kept => k_is); (case k_always_kept => k_is); (case a_own_profile => k_is); (case l_own_profile => k_is); (case c_own_profile => k_is); (case k_own_profile => k_is); (case a_fits => k_is); (case l_fits => k_is); (case c_fits => k_is); (case k_fits => k_is); (case a_own_nodes => k_is); (case l_own_nodes => k_is); (case c_own_nodes => k_is); (case k_own_nodes => k_is); (case a_is_over => k_is); (case l_is_over => k_is); (case c_is_over => k_is); (case k_is_over => k_is); (case a_round_trips => k_is); (case l_round_trips => k_is); (case c_round_trips => k_is); (case k_round_trips => k_is); (case a_look_out => k_is); (case l_look_out => k_is); (case c_look_out => k_is); (case k_look_out => k_is); (case a_told_moves => k_is); (case l_told_moves => k_is); (case c_told_moves => k_is); (case k_told_moves => k_is); (case a_certain_starts => k_is); (case l_certain_starts => k_is); (case c_certain_starts => k_is); (case k_certain_starts => k_is); (case a_impossible_ones => k_is); (case l_impossible_ones => k_is); (case c_impossible_ones => k_is); (case k_impossible_ones => k_is); (case a_later_foes => k_is); (case l_later_foes => k_is); (case c_later_foes => k_is); (case k_later_foes => k_is); (case a_first_row => k_is); (case l_first_row => k_is); (case c_first_row => k_is); (case k_first_row => k_is); (case a_fewest_to_drop => k_is); (case l_fewest_to_drop => k_is); (case c_fewest_to_drop => k_is); (case k_fewest_to_drop => k_is); (case a_tell => k_is); (case l_tell => k_is); (case c_tell => k_is); (case k_tell => k_is); (case a_add_rule => k_is); (case l_add_rule => k_is); (case c_add_rule => k_is); (case k_add_rule => k_is); (case a_add_basic_rule => k_is); (case l_add_basic_rule => k_is); (case c_add_basic_rule => k_is); (case k_add_basic_rule => k_is); (case a_add_direction_rule => k_is); (case l_add_direction_rule => k_is); (case c_add_direction_rule => k_is); (case k_add_direction_rule => k_is); (case a_take_out => k_is); (case l_take_out => k_is); (case c_take_out => k_is); (case k_take_out => k_is); (case a_kind => k_is); (case l_kind => k_is); (case c_kind => k_is); (case k_kind => k_is); (case a_edge => k_is); (case l_edge => k_is); (case c_edge => k_is); (case k_edge => k_is); (case a_drop => k_is); (case l_drop => k_is); (case c_drop => k_is); (case k_drop => k_is); (case a_sub => k_is); (case l_sub => k_is); (case c_sub => k_is); (case k_sub => k_is); (case a_role => k_is); (case l_role => k_is); (case c_role => k_is); (case k_role => k_is); (case a_never => k_is); (case l_never => k_is); (case c_never => k_is); (case k_never => k_is); (case a_neverrole => k_is); (case l_neverrole => k_is); (case c_neverrole => k_is); (case k_neverrole => k_is); (case a_strike => k_is); (case l_strike => k_is); (case c_strike => k_is); (case k_strike => k_is); (case a_one_or_zero => k_is); (case l_one_or_zero => k_is); (case c_one_or_zero => k_is); (case k_one_or_zero => k_is); (case a_counted => k_is); (case l_counted => k_is); (case c_counted => k_is); (case k_counted => k_is); (case a_is_so => k_is); (case l_is_so => k_is); (case c_is_so => k_is); (case k_is_so => k_is); (case a_who => k_is); (case l_who => k_is); (case c_who => k_is); (case k_who => k_is); (case a_edges => k_is); (case l_edges => k_is); (case c_edges => k_is); (case k_edges => k_is); (case a_is_step => k_is); (case l_is_step => k_is); (case c_is_step => k_is); (case k_is_step => k_is); (case a_are_steps => k_is); (case l_are_steps => k_is); (case c_are_steps => k_is); (case k_are_steps => k_is); (case a_starts_of => k_is); (case l_starts_of => k_is); (case c_starts_of => k_is); (case k_starts_of => k_is); (case a_chain => k_is); (case l_chain => k_is); (case c_chain => k_is); (case k_chain => k_is); (case a_from_all => k_is); (case l_from_all => k_is); (case c_from_all => k_is); (case k_from_all => k_is); (case a_sound => k_is); (case l_sound => k_is); (case c_sound => k_is); (case k_sound => k_is); (case a_follows => k_is); (case l_follows => k_is); (case c_follows => k_is); (case k_follows => k_is); (case a_bad => k_is); (case l_bad => k_is); (case c_bad => k_is); (case k_bad => k_is); (case a_idle => k_is); (case l_idle => k_is); (case c_idle => k_is); (case k_idle => k_is); (case a_whence => k_is); (case l_whence => k_is); (case c_whence => k_is); (case k_whence => k_is); (case a_fewest => k_is); (case l_fewest => k_is); (case c_fewest => k_is); (case k_fewest => k_is); (case a_call_end => k_is); (case l_call_end => k_is); (case c_call_end => k_is); (case k_call_end => k_is); (case a_answers => k_is); (case l_answers => k_is); (case c_answers => k_is); (case k_answers => k_is); (case g_LAST_NODE => k_is); (case g_LAST_KIND => k_is); (case g_LAST_LABEL => k_is); (case g_FIRST_DIRECTION => k_is); (case g_LAST_DIRECTION => k_is); (case g_OF_KIND => k_is); (case g_WITH_EDGE => k_is); (case g_KIND => k_is); (case g_EDGE => k_is); (case g_SUB => k_is); (case g_ROLE => k_is); (case g_NEVER => k_is); (case g_NEVERROLE => k_is); (case g_NO_SUCH_NUMBER => k_is); (case g_NOT_THERE => k_is); (case g_FROM_NOTHING => k_is); (case g_TOLD_ALREADY => k_is); (case g_FULL => k_is); (case g_MOST_TOLD => k_is); (case g_MOST_RULES => k_is); (case g_MOST_STEPS => k_is); (case b_len => k_is); (case b_all => k_is); (case b_sorted => k_is); (case b_enumerate => k_is); (case b_any => k_is); (case b_list => k_is); (case b_range => k_is); (case aC => k_is); (case lC => k_is); (case aS => k_is); (case lS => k_is); (case aW => k_is); (case lW => k_is); (case aD_Desk => k_is); (case a1_Desk => k_is); (case i1_Desk => k_is); (case l1_Desk => k_is); (case c1_Desk => k_is); (case k1_Desk => k_is); (case pg_Desk => k_is); (case hd_Desk => k_is); (case po_Desk => k_is); (case sa_Desk => k_is); (case mk_Desk => k_is); (case kc_Desk => k_is); (case ntold_Desk => k_is); (case nrules_Desk => k_is); (case aD_Laws => k_is); (case a1_Laws => k_is); (case i1_Laws => k_is); (case l1_Laws => k_is); (case c1_Laws => k_is); (case k1_Laws => k_is); (case pg_Laws => k_is); (case hd_Laws => k_is); (case po_Laws => k_is); (case sa_Laws => k_is); (case mk_Laws => k_is); (case kc_Laws => k_is); (case nrules_Laws => k_is); (case nafter_direction_Laws => k_is); (case nafter_basic_Laws => k_is); (case nbad_Laws => k_is); (case aD_Walk => k_is); (case a1_Walk => k_is); (case i1_Walk => k_is); (case l1_Walk => k_is); (case c1_Walk => k_is); (case k1_Walk => k_is); (case pg_Walk => k_is); (case hd_Walk => k_is); (case po_Walk => k_is); (case sa_Walk => k_is); (case mk_Walk => k_is); (case kc_Walk => k_is); (case nlaws_Walk => k_is); (case nsteps_Walk => k_is); (case nbacks_Walk => k_is); (case nends_Walk => k_is)
  case S =>
    intro K H xs a hO hwi hask hx
    cases hx with
    | cons h1 h2 =>
      cases h2
      cases h1 with
      | lst hs ha =>
        have e := L2.ints_dw a.1 _ ha
        subst e
        have q : ((Codec.inLen 0 1140 a.1 && a.1.all (Codec.inInt 0 4294967295)) && true) = true := hwi
        rw [Bool.and_eq_true, Bool.and_eq_true] at q
        refine ⟨_, a.1, rfl, hs, (Codec.inNat_iff.mp q.1.1).2, Wm.asked_from hask, fun H' p hp => ?_⟩
        rw [← Wm.answers_outs] at hp
        exact .lst (L2.SqL.of hp) (L2.dw_ints _)
#print axioms PySem.Challenge.cw_whatmustbe_s01_answers_holds
