import PyProof.Rows.All
import Wide.All
import OpenK.AllK
import Wide.FinOn
import HandS.ForMost
import HandS.Wide
import HandS.Evl
import HandS.TupAny
import HandS.TupMul
import HandS.Deep
import HandS.Style
import HandS.IsInst
import HandS.Conv
import HandS.SortInts
import KE.KTupSum
import KE.GoesMore
import KE.GoesEnum
import HandS.Zip
import KE.DataMinMax
import HandS.NamedTupSort
import HandS.TupSets
import HandS.SortKw
import HandS.TryOnly
import HandS.Small
import HandS.TupLen
import HandS.RaiseMore
import PyProof.CallFns
import KE.KDictDisplayH
import KE.KDictPairs
import KE.KDictSum
import KE.SortKeyHeap
import HandS.GenList
import HandS.GenYield
import HandS.WordsExc
import KE.KOwnIn
import PySem.Challenge.RW_swapsheets_k70_whole_rooms_and_walls
set_option Elab.async false
set_option linter.all false
set_option maxRecDepth 100000
set_option maxHeartbeats 4000000
/-! Rt1: data over the layer: what a value stands for, frames of data, expressions that give data. -/
namespace Rt
open PySem L2

/-! ### extensions of a heap -/
def Ex (H H' : Hp) : Prop := ∀ a o, H a = some o → H' a = some o
theorem Ex.refl (H : Hp) : Ex H H := fun _ _ h => h
theorem Ex.trans {H H1 H2 : Hp} (a : Ex H H1) (b : Ex H1 H2) : Ex H H2 := fun x o h => b x o (a x o h)
theorem Ex.new {H : Hp} {p : Addr} {o : HO} (h : H p = none) : Ex H (upd H p o) := fun a u e => by
  rw [upd_ne (ne_of_none e h)]
  exact e
theorem Ex.back {H H' : Hp} {p : Addr} (e : Ex H H') (h : H' p = none) : H p = none := by
  cases h1 : H p with
  | none => rfl
  | some o =>
    rw [e p o h1] at h
    cases h
/-- what both lay anew -/
theorem Ex.upd2 {H H' : Hp} {p : Addr} {o : HO} (e : Ex H H') : Ex (upd H p o) (upd H' p o) := fun a u h => by
  by_cases q : a = p
  · subst q
    rw [upd_same] at h ⊢
    exact h
  · rw [upd_ne q] at h ⊢
    exact e a u h
/-- a thing that the lesser heap doesn't know may change -/
theorem Ex.mut {H H' : Hp} {p : Addr} {o : HO} (e : Ex H H') (h : H p = none) : Ex H (upd H' p o) := fun a u ha => by
  rw [upd_ne (ne_of_none ha h)]
  exact e a u ha

/-! ### lists side by side -/
def All2 {α β : Type} (R : α → β → Prop) : List α → List β → Prop
  | [], [] => True
  | a :: as, b :: bs => R a b ∧ All2 R as bs
  | _, _ => False
section
variable {α β γ : Type} {R R' : α → β → Prop}
theorem All2.mono (h : ∀ a b, R a b → R' a b) : ∀ {as : List α} {bs : List β}, All2 R as bs → All2 R' as bs
  | [], [], _ => True.intro
  | a :: as, b :: bs, ⟨x, y⟩ => ⟨h a b x, All2.mono h y⟩
  | [], _ :: _, z => z.elim
  | _ :: _, [], z => z.elim
theorem All2.length : ∀ {as : List α} {bs : List β}, All2 R as bs → as.length = bs.length
  | [], [], _ => rfl
  | a :: as, b :: bs, ⟨x, y⟩ => by rw [List.length_cons, List.length_cons, All2.length y]
  | [], _ :: _, z => z.elim
  | _ :: _, [], z => z.elim
theorem All2.append : ∀ {as cs : List α} {bs ds : List β}, All2 R as bs → All2 R cs ds → All2 R (as ++ cs) (bs ++ ds)
  | [], _, [], _, _, h => h
  | a :: as, _, b :: bs, _, ⟨x, y⟩, h => ⟨x, All2.append y h⟩
  | [], _, _ :: _, _, z, _ => z.elim
  | _ :: _, _, [], _, z, _ => z.elim
theorem All2.get : ∀ {as : List α} {bs : List β} (i : Nat) {b : β}, All2 R as bs → bs[i]? = some b → ∃ a, as[i]? = some a ∧ R a b
  | [], [], _, _, _, h => by simp at h
  | a :: as, b :: bs, 0, c, ⟨x, y⟩, h => by
    simp at h
    subst h
    exact ⟨a, rfl, x⟩
  | a :: as, b :: bs, i + 1, c, ⟨x, y⟩, h => by
    simp at h
    obtain ⟨v, e, r⟩ := All2.get i y h
    exact ⟨v, by simpa using e, r⟩
  | [], _ :: _, _, _, z, _ => z.elim
  | _ :: _, [], _, _, z, _ => z.elim
theorem All2.getL : ∀ {as : List α} {bs : List β} (i : Nat) {a : α}, All2 R as bs → as[i]? = some a → ∃ b, bs[i]? = some b ∧ R a b
  | [], [], _, _, _, h => by simp at h
  | a :: as, b :: bs, 0, c, ⟨x, y⟩, h => by
    simp at h
    subst h
    exact ⟨b, rfl, x⟩
  | a :: as, b :: bs, i + 1, c, ⟨x, y⟩, h => by
    simp at h
    obtain ⟨v, e, r⟩ := All2.getL i y h
    exact ⟨v, by simpa using e, r⟩
  | [], _ :: _, _, _, z, _ => z.elim
  | _ :: _, [], _, _, z, _ => z.elim
theorem All2.take : ∀ (n : Nat) {as : List α} {bs : List β}, All2 R as bs → All2 R (as.take n) (bs.take n)
  | 0, _, _, _ => True.intro
  | n + 1, [], [], _ => True.intro
  | n + 1, a :: as, b :: bs, ⟨x, y⟩ => ⟨x, All2.take n y⟩
  | _ + 1, [], _ :: _, z => z.elim
  | _ + 1, _ :: _, [], z => z.elim
theorem All2.drop : ∀ (n : Nat) {as : List α} {bs : List β}, All2 R as bs → All2 R (as.drop n) (bs.drop n)
  | 0, _, _, h => h
  | n + 1, [], [], _ => True.intro
  | n + 1, a :: as, b :: bs, ⟨x, y⟩ => All2.drop n y
  | _ + 1, [], _ :: _, z => z.elim
  | _ + 1, _ :: _, [], z => z.elim
theorem All2.snoc {as : List α} {bs : List β} {a : α} {b : β} (h : All2 R as bs) (r : R a b) : All2 R (as ++ [a]) (bs ++ [b]) := h.append ⟨r, True.intro⟩
theorem All2.set : ∀ (i : Nat) {as : List α} {bs : List β} {a : α} {b : β}, All2 R as bs → R a b → All2 R (as.set i a) (bs.set i b)
  | _, [], [], _, _, _, _ => True.intro
  | 0, a :: as, b :: bs, _, _, ⟨x, y⟩, r => ⟨r, y⟩
  | i + 1, a :: as, b :: bs, _, _, ⟨x, y⟩, r => ⟨x, All2.set i y r⟩
  | _, [], _ :: _, _, _, z, _ => z.elim
  | _, _ :: _, [], _, _, z, _ => z.elim
theorem All2.map_eq {f : β → α} : ∀ {as : List α} {bs : List β}, All2 (fun a b => a = f b) as bs → as = bs.map f
  | [], [], _ => rfl
  | a :: as, b :: bs, ⟨x, y⟩ => by rw [x, All2.map_eq y]; rfl
  | [], _ :: _, z => z.elim
  | _ :: _, [], z => z.elim
theorem All2.of_map {f : β → α} : ∀ (bs : List β), All2 (fun a b => a = f b) (bs.map f) bs
  | [] => True.intro
  | b :: bs => ⟨rfl, All2.of_map bs⟩
theorem All2.reverse {as : List α} {bs : List β} (h : All2 R as bs) : All2 R as.reverse bs.reverse := by
  induction as generalizing bs with
  | nil => cases bs with | nil => exact True.intro | cons _ _ => exact h.elim
  | cons a as ih => cases bs with | nil => exact h.elim | cons b bs =>
      rw [List.reverse_cons, List.reverse_cons]
      exact (ih h.2).snoc h.1
end

/-! ### what a value stands for -/
structure Rp (α : Type) where
  p : Hp → V → α → Prop
  mono : ∀ {H H' : Hp} {v : V} {a : α}, Ex H H' → p H v a → p H' v a
def qI : Rp Int := ⟨fun _ v a => v = .int a, fun _ h => h⟩
def qB : Rp Bool := ⟨fun _ v a => v = .bl a, fun _ h => h⟩
def qN : Rp Unit := ⟨fun _ v _ => v = .non, fun _ h => h⟩
def qS : Rp Str := ⟨fun _ v a => v = .str a, fun _ h => h⟩
/-- a list: k = true; a tuple: k = false -/
def oSeq (k : Bool) (vs : List V) : HO := if k = true then .lst vs else .tup vs
def qSeq (k : Bool) {α : Type} (r : Rp α) : Rp (List α) :=
  ⟨fun H v xs => ∃ p vs, v = .ref p ∧ H p = some (oSeq k vs) ∧ All2 (r.p H) vs xs, fun e ⟨p, vs, h1, h2, h3⟩ => ⟨p, vs, h1, e _ _ h2, h3.mono fun _ _ q => r.mono e q⟩⟩
abbrev qL {α : Type} (r : Rp α) : Rp (List α) := qSeq true r
abbrev qT {α : Type} (r : Rp α) : Rp (List α) := qSeq false r
def qP {α β : Type} (r : Rp α) (q : Rp β) : Rp (α × β) :=
  ⟨fun H v a => ∃ p x y, v = .ref p ∧ H p = some (.tup [x, y]) ∧ r.p H x a.1 ∧ q.p H y a.2, fun e ⟨p, x, y, h1, h2, h3, h4⟩ => ⟨p, x, y, h1, e _ _ h2, r.mono e h3, q.mono e h4⟩⟩
def qP3 {α β γ : Type} (r : Rp α) (q : Rp β) (t : Rp γ) : Rp (α × β × γ) :=
  ⟨fun H v a => ∃ p x y z, v = .ref p ∧ H p = some (.tup [x, y, z]) ∧ r.p H x a.1 ∧ q.p H y a.2.1 ∧ t.p H z a.2.2, fun e ⟨p, x, y, z, h1, h2, h3, h4, h5⟩ => ⟨p, x, y, z, h1, e _ _ h2, r.mono e h3, q.mono e h4, t.mono e h5⟩⟩
theorem sq_seq {K : PySem.W.Frag} {H : Hp} {p : Addr} {k : Bool} {vs : List V} (h : H p = some (oSeq k vs)) : SqL K H p vs ∨ SqT K H p vs := by
  cases k with
  | true => exact .inl (SqL.of h)
  | false => exact .inr (SqT.of h)

/-! ### frames of data -/
/-- what an own object that is no list stands for -/
structure Og (α : Type) where
  p : Hp → HO → α → Prop
  mono : ∀ {H H' : Hp} {u : HO} {a : α}, Ex H H' → p H u a → p H' u a
inductive Sl : Type 1 where
  | un
  /-- data that nobody changes -/
  | im {α : Type} (r : Rp α) (a : α)
  /-- a list of the def's own, that it may change -/
  | ow {α : Type} (r : Rp α) (xs : List α)
  /-- the object at d, that more than one def changes -/
  | iv (d : Addr) (o : HO)
  /-- another object of the def's own (a dict), that it may change -/
  | ob {α : Type} (q : Og α) (a : α)
def SlOk (S H : Hp) (v : Option V) : Sl → Prop
  | .un => True
  | .im r a => ∃ x, v = some x ∧ r.p S x a
  | .ow r xs => ∃ p vs, v = some (.ref p) ∧ S p = none ∧ H p = some (.lst vs) ∧ All2 (r.p S) vs xs
  | .iv d o => ∃ p u, v = some (.ref p) ∧ S p = none ∧ H p = some u ∧ p = d ∧ u = o
  | .ob q a => ∃ p u, v = some (.ref p) ∧ S p = none ∧ H p = some u ∧ q.p S u a
/-- the address of a slot that may change -/
def ownOf : Option V → Sl → List Addr
  | some (.ref p), .ow _ _ => [p]
  | some (.ref p), .iv _ _ => [p]
  | some (.ref p), .ob _ _ => [p]
  | _, _ => []
def SlAll (S H : Hp) : St → List Sl → Prop
  | [], [] => True
  | v :: σ, s :: env => SlOk S H v s ∧ SlAll S H σ env
  | _, _ => False
def owns : St → List Sl → List Addr
  | v :: σ, s :: env => ownOf v s ++ owns σ env
  | _, _ => []
/-- all tuples that stand are among the data that nobody changes -/
def Tc (S H : Hp) : Prop := ∀ b vs, H b = some (.tup vs) → S b ≠ none
theorem Tc.both {S H : Hp} (t : Tc S H) (p : Addr) (o : HO) : Tc (upd S p o) (upd H p o) := fun b vs e => by
  by_cases z : b = p
  · rw [z, upd_same]
    exact fun z => nomatch z
  · rw [upd_ne z] at e ⊢
    exact t b vs e
theorem Tc.up {S H : Hp} (t : Tc S H) {p : Addr} {o : HO} (ho : ∀ vs, o ≠ .tup vs) : Tc S (upd H p o) := fun b vs e => by
  by_cases z : b = p
  · rw [z, upd_same] at e
    exact absurd (Option.some.inj e) (ho vs)
  · rw [upd_ne z] at e
    exact t b vs e
theorem Tc.grow {S S' H : Hp} (t : Tc S H) (e : Ex S S') : Tc S' H := fun b vs h z => by
  cases q : S b with
  | none => exact t b vs h q
  | some o =>
    rw [e _ _ q] at z
    cases z
theorem Tc.get {S H : Hp} (t : Tc S H) (x : Ex S H) {b : Addr} {vs : List V} (h : H b = some (.tup vs)) : S b = some (.tup vs) := by
  cases q : S b with
  | none => exact absurd q (t b vs h)
  | some o =>
    have := x _ _ q
    rw [h] at this
    exact this.symm
structure Cs where
  A0 : List Addr
  S0 : Hp
  H0 : Hp
structure Fr (C : Cs) (S H : Hp) (σ : St) (env : List Sl) : Prop where
  e0 : Ex C.S0 S
  e1 : Ex S H
  e2 : ∀ b o, C.H0 b = some o → b ∉ C.A0 → H b = some o
  nw : ∀ b, C.S0 b = none → C.H0 b ≠ none → S b = none
  al : ∀ b, C.H0 b ≠ none → H b ≠ none
  sl : SlAll S H σ env
  ow : ∀ p ∈ owns σ env, C.H0 p = none ∨ p ∈ C.A0
  nd : (owns σ env).Nodup
  tc : Tc S H

section
variable {C : Cs} {S S' H H' : Hp} {σ : St} {env : List Sl}
theorem SlAll.len : ∀ {σ : St} {env : List Sl}, SlAll S H σ env → σ.length = env.length
  | [], [], _ => rfl
  | _ :: _, _ :: _, ⟨_, h⟩ => by rw [List.length_cons, List.length_cons, SlAll.len h]
  | [], _ :: _, z => z.elim
  | _ :: _, [], z => z.elim
theorem SlAll.get : ∀ {σ : St} {env : List Sl} (i : Nat) {s : Sl}, SlAll S H σ env → env[i]? = some s → ∃ v, σ[i]? = some v ∧ SlOk S H v s
  | [], [], _, _, _, h => by simp at h
  | v :: σ, t :: env, 0, s, ⟨a, b⟩, h => by
    simp at h
    subst h
    exact ⟨v, rfl, a⟩
  | v :: σ, t :: env, i + 1, s, ⟨a, b⟩, h => by
    obtain ⟨w, e, r⟩ := SlAll.get i b (by simpa using h)
    exact ⟨w, by simpa using e, r⟩
  | [], _ :: _, _, _, z, _ => z.elim
  | _ :: _, [], _, _, z, _ => z.elim
theorem SlAll.set : ∀ {σ : St} {env : List Sl} (i : Nat) {v : Option V} {s : Sl}, SlAll S H σ env → SlOk S H v s → SlAll S H (σ.set i v) (env.set i s)
  | [], [], _, _, _, _, _ => True.intro
  | v :: σ, t :: env, 0, _, _, ⟨a, b⟩, h => ⟨h, b⟩
  | v :: σ, t :: env, i + 1, _, _, ⟨a, b⟩, h => ⟨a, SlAll.set i b h⟩
  | [], _ :: _, _, _, _, z, _ => z.elim
  | _ :: _, [], _, _, _, z, _ => z.elim
theorem owns_mem_get : ∀ {σ : St} {env : List Sl} (i : Nat) {p : Addr} {s : Sl}, env[i]? = some s → σ[i]? = some (some (.ref p)) → ownOf (some (.ref p)) s = [p] → p ∈ owns σ env
  | v :: σ, t :: env, 0, p, s, h1, h2, h3 => by
    simp at h1 h2
    subst h1 h2
    unfold owns
    rw [h3]
    simp
  | v :: σ, t :: env, i + 1, p, s, h1, h2, h3 => by
    unfold owns
    exact List.mem_append_right _ (owns_mem_get i (by simpa using h1) (by simpa using h2) h3)
  | [], _, _, _, _, _, h2, _ => by simp at h2
  | _ :: _, [], _, _, _, h1, _, _ => by simp at h1
/-- each slot's own address -/
theorem owns_of : ∀ {σ : St} {env : List Sl} {p : Addr}, p ∈ owns σ env → ∃ (i : Nat) (s : Sl), env[i]? = some s ∧ σ[i]? = some (some (.ref p)) ∧ ownOf (some (.ref p)) s = [p]
  | v :: σ, t :: env, p, h => by
    unfold owns at h
    rcases List.mem_append.mp h with h | h
    · refine ⟨0, t, rfl, ?_, ?_⟩
      · unfold ownOf at h
        split at h <;> simp_all
      · unfold ownOf at h ⊢
        split at h <;> simp_all
    · obtain ⟨i, s, a, b, c⟩ := owns_of h
      exact ⟨i + 1, s, by simpa using a, by simpa using b, c⟩
  | [], _, _, h => by simp [owns] at h
  | _ :: _, [], _, h => by simp [owns] at h
/-- two slots with one own address are one slot -/
theorem owns_inj : ∀ {σ : St} {env : List Sl} {p : Addr} {i j : Nat} {s t : Sl}, (owns σ env).Nodup → env[i]? = some s → σ[i]? = some (some (.ref p)) → ownOf (some (.ref p)) s = [p] → env[j]? = some t → σ[j]? = some (some (.ref p)) → ownOf (some (.ref p)) t = [p] → i = j
  | v :: σ, u :: env, p, 0, 0, s, t, nd, a1, a2, a3, b1, b2, b3 => rfl
  | v :: σ, u :: env, p, 0, j + 1, s, t, nd, a1, a2, a3, b1, b2, b3 => by
    unfold owns at nd
    have m : p ∈ owns σ env := owns_mem_get j (by simpa using b1) (by simpa using b2) b3
    simp at a1 a2
    subst a1 a2
    rw [a3] at nd
    exact absurd m (List.nodup_cons.mp (by simpa using nd)).1
  | v :: σ, u :: env, p, i + 1, 0, s, t, nd, a1, a2, a3, b1, b2, b3 => by
    unfold owns at nd
    have m : p ∈ owns σ env := owns_mem_get i (by simpa using a1) (by simpa using a2) a3
    simp at b1 b2
    subst b1 b2
    rw [b3] at nd
    exact absurd m (List.nodup_cons.mp (by simpa using nd)).1
  | v :: σ, u :: env, p, i + 1, j + 1, s, t, nd, a1, a2, a3, b1, b2, b3 => by
    unfold owns at nd
    have nd2 : (owns σ env).Nodup := (List.nodup_append.mp nd).2.1
    rw [owns_inj (i := i) (j := j) nd2 (by simpa using a1) (by simpa using a2) a3 (by simpa using b1) (by simpa using b2) b3]
  | [], _, _, _, _, _, _, _, _, h, _, _, _, _ => by simp at h
  | _ :: _, [], _, _, _, _, _, _, h, _, _, _, _, _ => by simp at h
/-- the own addresses behind a store -/
theorem owns_set : ∀ {σ : St} {env : List Sl} (i : Nat) {v : Option V} {s : Sl} {p : Addr}, p ∈ owns (σ.set i v) (env.set i s) → p ∈ owns σ env ∨ p ∈ ownOf v s
  | [], _, _, _, _, _, h => by simp [owns] at h
  | _ :: _, [], _, _, _, _, h => by simp [owns] at h
  | w :: σ, t :: env, 0, v, s, p, h => by
    simp only [List.set_cons_zero, owns, List.mem_append] at h ⊢
    rcases h with h | h
    · exact .inr h
    · exact .inl (.inr h)
  | w :: σ, t :: env, i + 1, v, s, p, h => by
    simp only [List.set_cons_succ, owns, List.mem_append] at h ⊢
    rcases h with h | h
    · exact .inl (.inl h)
    · rcases owns_set i h with h | h
      · exact .inl (.inr h)
      · exact .inr h
theorem owns_set_nd : ∀ {σ : St} {env : List Sl} (i : Nat) {v : Option V} {s : Sl}, (owns σ env).Nodup → (∀ p ∈ ownOf v s, p ∉ owns σ env) → (owns (σ.set i v) (env.set i s)).Nodup
  | [], _, _, _, _, h, _ => by simp [owns]
  | _ :: _, [], _, _, _, h, _ => by simp [owns]
  | w :: σ, t :: env, 0, v, s, h, n => by
    simp only [List.set_cons_zero, owns] at h n ⊢
    refine List.nodup_append.mpr ⟨?_, (List.nodup_append.mp h).2.1, fun a ha b hb e => ?_⟩
    · unfold ownOf
      split <;> simp
    · subst e
      exact n a ha (List.mem_append_right _ hb)
  | w :: σ, t :: env, i + 1, v, s, h, n => by
    simp only [List.set_cons_succ, owns] at h n ⊢
    have h2 := List.nodup_append.mp h
    refine List.nodup_append.mpr ⟨h2.1, owns_set_nd i h2.2.1 (fun p hp z => n p hp (List.mem_append_right _ z)), fun a ha b hb e => ?_⟩
    subst e
    rcases owns_set i hb with hb | hb
    · exact h2.2.2 a ha a hb rfl
    · exact n a hb (List.mem_append_left _ ha)
theorem SlAll.setEnv : ∀ {σ : St} {env : List Sl} (i : Nat) {v : Option V} {t : Sl}, SlAll S H σ env → σ[i]? = some v → SlOk S H v t → SlAll S H σ (env.set i t)
  | [], [], _, _, _, _, _, _ => True.intro
  | v :: σ, u :: env, 0, _, _, ⟨a, b⟩, h, q => by
    simp at h
    subst h
    exact ⟨q, b⟩
  | v :: σ, u :: env, i + 1, _, _, ⟨a, b⟩, h, q => ⟨a, SlAll.setEnv i b (by simpa using h) q⟩
  | [], _ :: _, _, _, _, z, _, _ => z.elim
  | _ :: _, [], _, _, _, z, _, _ => z.elim
/-- an own address is none of the frozen part -/
theorem SlAll.own (h : SlAll S H σ env) {p : Addr} (hp : p ∈ owns σ env) : S p = none ∧ ∃ o, H p = some o := by
  obtain ⟨i, s, a, b, c⟩ := owns_of hp
  obtain ⟨v, e, r⟩ := h.get i a
  rw [b] at e
  cases e
  cases s with
  | un => cases c
  | im _ _ => cases c
  | ow r' xs =>
    obtain ⟨q, vs, e1, e2, e3, _⟩ := r
    cases e1
    exact ⟨e2, _, e3⟩
  | iv d0 o0 =>
    obtain ⟨q, o, e1, e2, e3, _⟩ := r
    cases e1
    exact ⟨e2, _, e3⟩
  | ob q0 a0 =>
    obtain ⟨q, o, e1, e2, e3, _⟩ := r
    cases e1
    exact ⟨e2, _, e3⟩
/-- both heaps grow, the own things stand -/
theorem SlOk.mono {v : Option V} {s : Sl} (eS : Ex S S') (eH : Ex H H') (n : ∀ p ∈ ownOf v s, S' p = none) (h : SlOk S H v s) : SlOk S' H' v s := by
  cases s with
  | un => exact True.intro
  | im r a =>
    obtain ⟨x, e, q⟩ := h
    exact ⟨x, e, r.mono eS q⟩
  | ow r xs =>
    obtain ⟨p, vs, e, e2, e3, q⟩ := h
    subst e
    exact ⟨p, vs, rfl, n p (by simp [ownOf]), eH _ _ e3, q.mono fun _ _ z => r.mono eS z⟩
  | iv d0 o0 =>
    obtain ⟨p, o, e, e2, e3, q⟩ := h
    subst e
    exact ⟨p, o, rfl, n p (by simp [ownOf]), eH _ _ e3, q⟩
  | ob q0 a0 =>
    obtain ⟨p, o, e, e2, e3, q⟩ := h
    subst e
    exact ⟨p, o, rfl, n p (by simp [ownOf]), eH _ _ e3, q0.mono eS q⟩
theorem SlAll.mono : ∀ {σ : St} {env : List Sl}, Ex S S' → Ex H H' → (∀ p ∈ owns σ env, S' p = none) → SlAll S H σ env → SlAll S' H' σ env
  | [], [], _, _, _, _ => True.intro
  | v :: σ, s :: env, a, b, n, ⟨x, y⟩ => ⟨x.mono a b (fun p hp => n p (by unfold owns; exact List.mem_append_left _ hp)), SlAll.mono a b (fun p hp => n p (by unfold owns; exact List.mem_append_right _ hp)) y⟩
  | [], _ :: _, _, _, _, z => z.elim
  | _ :: _, [], _, _, _, z => z.elim
/-- a new thing that nobody changes -/
theorem Fr.new (F : Fr C S H σ env) {p : Addr} {o : HO} (hp : H p = none) : Fr C (upd S p o) (upd H p o) σ env := by
  have sp : S p = none := F.e1.back hp
  have hp0 : C.H0 p = none := by
    cases q : C.H0 p with
    | none => rfl
    | some u => exact absurd hp (F.al p (by rw [q]; exact fun z => nomatch z))
  refine ⟨F.e0.trans (Ex.new sp), F.e1.upd2, fun b u e n => ?_, fun b s0 h0 => ?_, fun b h0 => ?_, F.sl.mono (Ex.new sp) (Ex.new hp) fun q hq => ?_, F.ow, F.nd, F.tc.both p o⟩
  · exact Ex.new hp _ _ (F.e2 b u e n)
  · have nb : b ≠ p := fun z => by
      subst z
      exact h0 hp0
    rw [upd_ne nb]
    exact F.nw b s0 h0
  · by_cases z : b = p
    · subst z
      exact absurd hp0 h0
    · rw [upd_ne z]
      exact F.al b h0
  · obtain ⟨a, u, b⟩ := F.sl.own hq
    rw [upd_ne (ne_of_none b hp)]
    exact a
/-- a slot stored: data that nobody changes -/
theorem Fr.setIm (F : Fr C S H σ env) (i : Nat) {α : Type} {r : Rp α} {v : V} {a : α} (h : r.p S v a) : Fr C S H (σ.set i (some v)) (env.set i (.im r a)) := by
  have n0 : ownOf (some v) (Sl.im r a) = [] := by cases v <;> rfl
  exact ⟨F.e0, F.e1, F.e2, F.nw, F.al, F.sl.set i ⟨v, rfl, h⟩, fun p hp => (owns_set i hp).elim (F.ow p) (fun z => by rw [n0] at z; cases z), owns_set_nd i F.nd (fun p hp => by rw [n0] at hp; cases hp), F.tc⟩
/-- .. forgotten -/
theorem Fr.setUn (F : Fr C S H σ env) (i : Nat) (v : Option V) : Fr C S H (σ.set i v) (env.set i .un) := by
  have n0 : ownOf v Sl.un = [] := by cases v with | none => rfl | some v => cases v <;> rfl
  exact ⟨F.e0, F.e1, F.e2, F.nw, F.al, F.sl.set i True.intro, fun p hp => (owns_set i hp).elim (F.ow p) (fun z => by rw [n0] at z; cases z), owns_set_nd i F.nd (fun p hp => by rw [n0] at hp; cases hp), F.tc⟩
/-- a new list of the def's own -/
theorem Fr.setOw (F : Fr C S H σ env) (i : Nat) {α : Type} {r : Rp α} {p : Addr} {vs : List V} {xs : List α} (hp : H p = none) (h : All2 (r.p S) vs xs) :
    Fr C S (upd H p (.lst vs)) (σ.set i (some (.ref p))) (env.set i (.ow r xs)) := by
  have sp : S p = none := F.e1.back hp
  have hp0 : C.H0 p = none := by
    cases q : C.H0 p with
    | none => rfl
    | some u => exact absurd hp (F.al p (by rw [q]; exact fun z => nomatch z))
  have sl : SlAll S (upd H p (.lst vs)) σ env := F.sl.mono (Ex.refl S) (Ex.new hp) fun q hq => (F.sl.own hq).1
  refine ⟨F.e0, F.e1.trans (Ex.new hp), fun b u e n => Ex.new hp _ _ (F.e2 b u e n), F.nw, fun b h0 => ?_, sl.set i ⟨p, vs, rfl, sp, upd_same, h⟩, fun q hq => ?_, owns_set_nd i F.nd (fun q hq z => ?_), F.tc.up fun _ z => nomatch z⟩
  · by_cases z : b = p
    · rw [z, upd_same]
      exact fun z => nomatch z
    · rw [upd_ne z]
      exact F.al b h0
  · rcases owns_set i hq with z | z
    · exact F.ow q z
    · simp [ownOf] at z
      subst z
      exact .inl hp0
  · simp [ownOf] at hq
    subst hq
    obtain ⟨_, o, e⟩ := F.sl.own z
    rw [hp] at e
    cases e
theorem SlAll.mutOne : ∀ {σ : St} {env : List Sl} {i : Nat} {p : Addr} {o : HO} {s t : Sl}, SlAll S H σ env → (owns σ env).Nodup → env[i]? = some s → σ[i]? = some (some (.ref p)) → ownOf (some (.ref p)) s = [p] → SlOk S (upd H p o) (some (.ref p)) t →
    SlAll S (upd H p o) σ (env.set i t)
  | v :: σ, u :: env, 0, p, o, s, t, ⟨a, b⟩, nd, h1, h2, h3, h4 => by
    simp at h1 h2
    subst h1 h2
    unfold owns at nd
    rw [h3] at nd
    have np : p ∉ owns σ env := (List.nodup_cons.mp (by simpa using nd)).1
    refine ⟨h4, ?_⟩
    have key : ∀ {σ : St} {env : List Sl}, p ∉ owns σ env → SlAll S H σ env → SlAll S (upd H p o) σ env := by
      intro σ
      induction σ with
      | nil => intro env n z; cases env with | nil => exact True.intro | cons _ _ => exact z.elim
      | cons w σ ih => intro env n z; cases env with | nil => exact z.elim | cons s env =>
          obtain ⟨z1, z2⟩ := z
          unfold owns at n
          refine ⟨?_, ih (fun q => n (List.mem_append_right _ q)) z2⟩
          have n1 : p ∉ ownOf w s := fun q => n (List.mem_append_left _ q)
          cases s with
          | un => exact True.intro
          | im r a => exact z1
          | ow r xs =>
            obtain ⟨q, vs, e, e2, e3, e4⟩ := z1
            subst e
            have : q ≠ p := fun z => n1 (by rw [z]; simp [ownOf])
            exact ⟨q, vs, rfl, e2, by rw [upd_ne this]; exact e3, e4⟩
          | iv d0 o0 =>
            obtain ⟨q, o2, e, e2, e3, e4⟩ := z1
            subst e
            have : q ≠ p := fun z => n1 (by rw [z]; simp [ownOf])
            exact ⟨q, o2, rfl, e2, by rw [upd_ne this]; exact e3, e4⟩
          | ob q0 a0 =>
            obtain ⟨q, o2, e, e2, e3, e4⟩ := z1
            subst e
            have : q ≠ p := fun z => n1 (by rw [z]; simp [ownOf])
            exact ⟨q, o2, rfl, e2, by rw [upd_ne this]; exact e3, e4⟩
    exact key np b
  | v :: σ, u :: env, i + 1, p, o, s, t, ⟨a, b⟩, nd, h1, h2, h3, h4 => by
    have m : p ∈ owns σ env := owns_mem_get i (by simpa using h1) (by simpa using h2) h3
    have nd' := nd
    unfold owns at nd'
    have n1 : p ∉ ownOf v u := fun z => (List.nodup_append.mp nd').2.2 p z p m rfl
    refine ⟨?_, SlAll.mutOne b (List.nodup_append.mp nd').2.1 (by simpa using h1) (by simpa using h2) h3 h4⟩
    cases u with
    | un => exact True.intro
    | im r a => exact a
    | ow r xs =>
      obtain ⟨q, vs, e, e2, e3, e4⟩ := a
      subst e
      have : q ≠ p := fun z => n1 (by rw [z]; simp [ownOf])
      exact ⟨q, vs, rfl, e2, by rw [upd_ne this]; exact e3, e4⟩
    | iv d0 o0 =>
      obtain ⟨q, o2, e, e2, e3, e4⟩ := a
      subst e
      have : q ≠ p := fun z => n1 (by rw [z]; simp [ownOf])
      exact ⟨q, o2, rfl, e2, by rw [upd_ne this]; exact e3, e4⟩
    | ob q0 a0 =>
      obtain ⟨q, o2, e, e2, e3, e4⟩ := a
      subst e
      have : q ≠ p := fun z => n1 (by rw [z]; simp [ownOf])
      exact ⟨q, o2, rfl, e2, by rw [upd_ne this]; exact e3, e4⟩
  | [], _, _, _, _, _, _, _, _, _, h2, _, _ => by simp at h2
  | _ :: _, [], _, _, _, _, _, _, _, h1, _, _, _ => by simp at h1
theorem owns_same : ∀ {σ : St} {env : List Sl} {i : Nat} {p : Addr} {s t : Sl}, env[i]? = some s → σ[i]? = some (some (.ref p)) → ownOf (some (.ref p)) s = [p] → ownOf (some (.ref p)) t = [p] → owns σ (env.set i t) = owns σ env
  | v :: σ, u :: env, 0, p, s, t, h1, h2, h3, h4 => by
    simp at h1 h2
    subst h1 h2
    simp only [List.set_cons_zero, owns]
    rw [h3, h4]
  | v :: σ, u :: env, i + 1, p, s, t, h1, h2, h3, h4 => by
    simp only [List.set_cons_succ, owns]
    rw [owns_same (by simpa using h1) (by simpa using h2) h3 h4]
  | [], _, _, _, _, _, _, h2, _, _ => by simp at h2
  | _ :: _, [], _, _, _, _, h1, _, _, _ => by simp at h1
/-- a list of the def's own is changed -/
theorem Fr.write (F : Fr C S H σ env) {i : Nat} {α : Type} {r : Rp α} {xs ys : List α} {p : Addr} {vs : List V} (hi : env[i]? = some (.ow r xs)) (hp : σ[i]? = some (some (.ref p))) (h : All2 (r.p S) vs ys) :
    Fr C S (upd H p (.lst vs)) σ (env.set i (.ow r ys)) := by
  have m : p ∈ owns σ env := owns_mem_get i hi hp rfl
  obtain ⟨sp, o, ho⟩ := F.sl.own m
  have eo : owns σ (env.set i (.ow r ys)) = owns σ env := owns_same hi hp rfl rfl
  refine ⟨F.e0, F.e1.mut sp, fun b u e n => ?_, F.nw, fun b h0 => ?_, F.sl.mutOne F.nd hi hp rfl ⟨p, vs, rfl, sp, upd_same, h⟩, by rw [eo]; exact F.ow, by rw [eo]; exact F.nd, F.tc.up fun _ z => nomatch z⟩
  · have nb : b ≠ p := fun z => by
      subst z
      rcases F.ow b m with q | q
      · rw [q] at e
        cases e
      · exact n q
    rw [upd_ne nb]
    exact F.e2 b u e n
  · by_cases z : b = p
    · rw [z, upd_same]
      exact fun z => nomatch z
    · rw [upd_ne z]
      exact F.al b h0
theorem owns_less : ∀ {σ : St} {env : List Sl} {i : Nat} {p : Addr} {s t : Sl}, env[i]? = some s → σ[i]? = some (some (.ref p)) → ownOf (some (.ref p)) s = [p] → ownOf (some (.ref p)) t = [] → (owns σ env).Nodup → p ∉ owns σ (env.set i t) ∧ (owns σ (env.set i t)).Nodup ∧ ∀ q ∈ owns σ (env.set i t), q ∈ owns σ env
  | v :: σ, u :: env, 0, p, s, t, h1, h2, h3, h4, nd => by
    simp at h1 h2
    subst h1 h2
    simp only [List.set_cons_zero, owns] at nd ⊢
    rw [h3] at nd ⊢
    rw [h4]
    have q := List.nodup_cons.mp (show (p :: owns σ env).Nodup by simpa using nd)
    exact ⟨by simpa using q.1, by simpa using q.2, fun q hq => List.mem_append_right _ (by simpa using hq)⟩
  | v :: σ, u :: env, i + 1, p, s, t, h1, h2, h3, h4, nd => by
    have m : p ∈ owns σ env := owns_mem_get i (by simpa using h1) (by simpa using h2) h3
    simp only [List.set_cons_succ, owns] at nd ⊢
    obtain ⟨a, b, c⟩ := owns_less (i := i) (t := t) (by simpa using h1) (by simpa using h2) h3 h4 (List.nodup_append.mp nd).2.1
    have nd2 := List.nodup_append.mp nd
    refine ⟨fun z => ?_, List.nodup_append.mpr ⟨nd2.1, b, fun x hx y hy e => nd2.2.2 x hx y (c y hy) e⟩, fun q hq => ?_⟩
    · rcases List.mem_append.mp z with z | z
      · exact nd2.2.2 p z p m rfl
      · exact a z
    · rcases List.mem_append.mp hq with z | z
      · exact List.mem_append_left _ z
      · exact List.mem_append_right _ (c q z)
  | [], _, _, _, _, _, _, h2, _, _, _ => by simp at h2
  | _ :: _, [], _, _, _, _, h1, _, _, _, _ => by simp at h1
/-- a list of the def's own is changed no more -/
theorem Fr.freeze (F : Fr C S H σ env) {i : Nat} {α : Type} {r : Rp α} {xs : List α} (hi : env[i]? = some (.ow r xs)) (h0 : ∀ p, σ[i]? = some (some (.ref p)) → p ∉ C.A0) :
    ∃ S', Ex S S' ∧ Fr C S' H σ (env.set i (.im (qL r) xs)) := by
  obtain ⟨v, e, p, vs, rfl, sp, hp, h⟩ := F.sl.get i hi
  have m : p ∈ owns σ env := owns_mem_get i hi e rfl
  obtain ⟨l1, l2, l3⟩ := owns_less (t := .im (qL r) xs) hi e rfl rfl F.nd
  have eS : Ex S (upd S p (.lst vs)) := Ex.new sp
  have eH : Ex (upd S p (.lst vs)) H := fun b u q => by
    by_cases z : b = p
    · subst z
      rw [upd_same] at q
      rw [hp]
      exact q
    · rw [upd_ne z] at q
      exact F.e1 b u q
  refine ⟨upd S p (.lst vs), eS, F.e0.trans eS, eH, F.e2, fun b s0 h0' => ?_, F.al, ?_, fun q hq => F.ow q (l3 q hq), l2, F.tc.grow eS⟩
  · by_cases z : b = p
    · subst z
      rcases F.ow b m with q | q
      · exact absurd q h0'
      · exact absurd q (h0 b e)
    · rw [upd_ne z]
      exact F.nw b s0 h0'
  · obtain ⟨u1, u2, u3⟩ := owns_less (t := .un) hi e rfl (by simp [ownOf]) F.nd
    have z0 : SlAll S H σ (env.set i .un) := F.sl.setEnv i e True.intro
    have z1 : SlAll (upd S p (.lst vs)) H σ (env.set i .un) := z0.mono eS (Ex.refl H) fun q hq => by
      have nq : q ≠ p := fun z => u1 (by rw [← z]; exact hq)
      rw [upd_ne nq]
      exact (z0.own hq).1
    have z2 := z1.setEnv (t := .im (qL r) xs) i e ⟨.ref p, rfl, p, vs, rfl, by rw [upd_same]; rfl, h.mono fun _ _ z => r.mono eS z⟩
    rw [List.set_set] at z2
    exact z2
/-- an object of another kind, of the def's own: made, changed, changed no more -/
theorem Fr.setOb (F : Fr C S H σ env) (i : Nat) {α : Type} {q : Og α} {p : Addr} {u : HO} {a : α} (hp : H p = none) (h : q.p S u a) (nt : ∀ vs, u ≠ .tup vs) :
    Fr C S (upd H p u) (σ.set i (some (.ref p))) (env.set i (.ob q a)) := by
  have sp : S p = none := F.e1.back hp
  have hp0 : C.H0 p = none := by
    cases q : C.H0 p with
    | none => rfl
    | some u => exact absurd hp (F.al p (by rw [q]; exact fun z => nomatch z))
  have sl : SlAll S (upd H p u) σ env := F.sl.mono (Ex.refl S) (Ex.new hp) fun q hq => (F.sl.own hq).1
  refine ⟨F.e0, F.e1.trans (Ex.new hp), fun b u e n => Ex.new hp _ _ (F.e2 b u e n), F.nw, fun b h0 => ?_, sl.set i ⟨p, u, rfl, sp, upd_same, h⟩, fun q hq => ?_, owns_set_nd i F.nd (fun q hq z => ?_), F.tc.up nt⟩
  · by_cases z : b = p
    · rw [z, upd_same]
      exact fun z => nomatch z
    · rw [upd_ne z]
      exact F.al b h0
  · rcases owns_set i hq with z | z
    · exact F.ow q z
    · rw [List.mem_singleton.mp (show q ∈ [p] from z)]
      exact .inl hp0
  · rw [List.mem_singleton.mp (show q ∈ [p] from hq)] at z
    obtain ⟨_, o, e⟩ := F.sl.own z
    rw [hp] at e
    cases e
theorem Fr.writeOb (F : Fr C S H σ env) {i : Nat} {α : Type} {q : Og α} {a b : α} {p : Addr} {u : HO} (hi : env[i]? = some (.ob q a)) (hp : σ[i]? = some (some (.ref p))) (h : q.p S u b) (nt : ∀ vs, u ≠ .tup vs) :
    Fr C S (upd H p u) σ (env.set i (.ob q b)) := by
  have m : p ∈ owns σ env := owns_mem_get i hi hp rfl
  obtain ⟨sp, o, ho⟩ := F.sl.own m
  have eo : owns σ (env.set i (.ob q b)) = owns σ env := owns_same hi hp rfl rfl
  refine ⟨F.e0, F.e1.mut sp, fun b u e n => ?_, F.nw, fun b h0 => ?_, F.sl.mutOne F.nd hi hp rfl ⟨p, u, rfl, sp, upd_same, h⟩, by rw [eo]; exact F.ow, by rw [eo]; exact F.nd, F.tc.up nt⟩
  · have nb : b ≠ p := fun z => by
      subst z
      rcases F.ow b m with q | q
      · rw [q] at e
        cases e
      · exact n q
    rw [upd_ne nb]
    exact F.e2 b u e n
  · by_cases z : b = p
    · rw [z, upd_same]
      exact fun z => nomatch z
    · rw [upd_ne z]
      exact F.al b h0
def qOb {α : Type} (q : Og α) : Rp α := ⟨fun H v a => ∃ p u, v = .ref p ∧ H p = some u ∧ q.p H u a, fun e ⟨p, u, h1, h2, h3⟩ => ⟨p, u, h1, e _ _ h2, q.mono e h3⟩⟩
theorem Fr.freezeOb (F : Fr C S H σ env) {i : Nat} {α : Type} {q : Og α} {a : α} (hi : env[i]? = some (.ob q a)) (h0 : ∀ p, σ[i]? = some (some (.ref p)) → p ∉ C.A0) :
    ∃ S', Ex S S' ∧ Fr C S' H σ (env.set i (.im (qOb q) a)) := by
  obtain ⟨v, e, p, u, rfl, sp, hp, h⟩ := F.sl.get i hi
  have m : p ∈ owns σ env := owns_mem_get i hi e rfl
  obtain ⟨l1, l2, l3⟩ := owns_less (t := .im (qOb q) a) hi e rfl rfl F.nd
  have eS : Ex S (upd S p u) := Ex.new sp
  have eH : Ex (upd S p u) H := fun b u2 q2 => by
    by_cases z : b = p
    · subst z
      rw [upd_same] at q2
      rw [hp]
      exact q2
    · rw [upd_ne z] at q2
      exact F.e1 b u2 q2
  refine ⟨upd S p u, eS, F.e0.trans eS, eH, F.e2, fun b s0 h0' => ?_, F.al, ?_, fun q hq => F.ow q (l3 q hq), l2, F.tc.grow eS⟩
  · by_cases z : b = p
    · subst z
      rcases F.ow b m with q | q
      · exact absurd q h0'
      · exact absurd q (h0 b e)
    · rw [upd_ne z]
      exact F.nw b s0 h0'
  · obtain ⟨u1, u2, u3⟩ := owns_less (t := .un) hi e rfl (by simp [ownOf]) F.nd
    have z0 : SlAll S H σ (env.set i .un) := F.sl.setEnv i e True.intro
    have z1 : SlAll (upd S p u) H σ (env.set i .un) := z0.mono eS (Ex.refl H) fun q hq => by
      have nq : q ≠ p := fun z => u1 (by rw [← z]; exact hq)
      rw [upd_ne nq]
      exact (z0.own hq).1
    have z2 := z1.setEnv (t := .im (qOb q) a) i e ⟨.ref p, rfl, p, u, rfl, by rw [upd_same], q.mono eS h⟩
    rw [List.set_set] at z2
    exact z2
end
end Rt

set_option maxRecDepth 100000
set_option maxHeartbeats 4000000
/-! Rt2: expressions that give data. -/
namespace Rt
open PySem L2

/-! ### readings in another dress -/
/-- the lists and tuples that stand are no longer than the line -/
def Lens (H : Hp) : Prop := ∀ a k vs, H a = some (oSeq k vs) → vs.length ≤ sizeLine
section
variable {X : Cx} {e : Expr} {te te' : TE} {tt tt' : TT} {ta ta' : TA} {ts ts' : TS} {st : Stmt} {ss : List Stmt}
theorem Lens.of {pins : List (Addr × Obj)} {σ : St} {H : Hp} {s : Shared} (I : Inv X pins σ H s) : Lens H := fun a k vs h => by
  cases k with
  | true => exact (show vs.length ≤ sizeLine ∧ _ from I.hok a (.lst vs) h).1
  | false => exact (show vs.length ≤ sizeLine ∧ _ from I.hok a (.tup vs) h).1
theorem pe_imp (h : PE X e te) (hi : ∀ σ H Q, Lens H → te' σ H Q → te σ H (fun v H' => Lens H' → Q v H')) : PE X e te' := ⟨fun pins s σ H Q I q =>
  thn (h.run pins s σ H _ I (hi σ H Q (Lens.of I) q)) fun _ _ ⟨v, H', I', r, z⟩ => ⟨v, H', I', r, z (Lens.of I')⟩⟩
theorem pt_imp (h : PT X e tt) (hi : ∀ σ H Q, Lens H → tt' σ H Q → tt σ H (fun v H' => Lens H' → Q v H')) : PT X e tt' := ⟨fun pins s σ H Q I q =>
  thn (h.run pins s σ H _ I (hi σ H Q (Lens.of I) q)) fun _ _ ⟨H', I', z⟩ => ⟨H', I', z (Lens.of I')⟩⟩
theorem pss_imp (h : PSs X ss ts) (hi : ∀ D σ H, Lens H → ts' D σ H → ts D σ H) : PSs X ss ts' := ⟨fun pins s σ H D I q => h.run pins s σ H D I (hi D σ H (Lens.of I) q)⟩
theorem ps_imp (h : PS X st ts) (hi : ∀ D σ H, Lens H → ts' D σ H → ts D σ H) : PS X st ts' := ⟨fun pins s σ H D I q => h.run pins s σ H D I (hi D σ H (Lens.of I) q)⟩
theorem pss_ex {α : Sort _} {ts : α → TS} (h : ∀ a, PSs X ss (ts a)) : PSs X ss (fun D σ H => ∃ a, ts a D σ H) := ⟨fun pins s σ H D I ⟨a, q⟩ => (h a).run pins s σ H D I q⟩
theorem pe_ex {α : Sort _} {te : α → TE} (h : ∀ a, PE X e (te a)) : PE X e (fun σ H Q => ∃ a, te a σ H Q) := ⟨fun pins s σ H Q I ⟨a, q⟩ => (h a).run pins s σ H Q I q⟩
theorem pt_ex {α : Sort _} {te : α → TT} (h : ∀ a, PT X e (te a)) : PT X e (fun σ H Q => ∃ a, te a σ H Q) := ⟨fun pins s σ H Q I ⟨a, q⟩ => (h a).run pins s σ H Q I q⟩
theorem pe_and2 {P : Prop} (h : P → PE X e te) : PE X e (fun σ H Q => P ∧ te σ H Q) := ⟨fun pins s σ H Q I ⟨p, q⟩ => (h p).run pins s σ H Q I q⟩
end


/-! ### what may come of a thing: what has to hold before, for what is wanted behind -/
/-- the items of the object that more than one def changes -/
abbrev Gh := List Int
def W (α : Type) : Type := (g : Gh) → (α → Gh → Prop) → Prop
def W.ret {α : Type} (a : α) : W α := fun g P => P a g
def W.bind {α β : Type} (w : W α) (f : α → W β) : W β := fun g P => w g fun a g1 => f a g1 P
/-- what is reckoned -/
def ofO {α : Type} (o : Option α) : W α := fun g P => ∃ a, o = some a ∧ P a g
def W.get : W Gh := fun g P => P g g
def W.put (g : Gh) : W Unit := fun _ P => P () g
theorem ofO_some {α : Type} (a : α) : ofO (some a) = W.ret a := by
  funext g P
  exact propext (Iff.intro (fun ⟨b, e, h⟩ => (Option.some.inj e) ▸ h) fun h => ⟨a, rfl, h⟩)
theorem ofO_none {α : Type} {g : Gh} {P : α → Gh → Prop} : ¬ ofO (none : Option α) g P := fun ⟨_, e, _⟩ => nomatch e
theorem ofO_bind {α β : Type} (o : Option α) (f : α → Option β) : ofO (o.bind f) = (ofO o).bind fun a => ofO (f a) := by
  funext g P
  apply propext
  cases o with
  | none => exact Iff.intro (fun ⟨_, e, _⟩ => nomatch e) (fun ⟨_, e, _⟩ => nomatch e)
  | some a => exact Iff.intro (fun h => ⟨a, rfl, h⟩) (fun ⟨b, e, h⟩ => (Option.some.inj e) ▸ h)
theorem ofO_if {α : Type} (b : Bool) (x y : Option α) : ofO (if b = true then x else y) = if b = true then ofO x else ofO y := by cases b <;> rfl
theorem W.ret_bind {α β : Type} (a : α) (f : α → W β) : (W.ret a).bind f = f a := rfl
theorem W.bind_ret {α : Type} (w : W α) : w.bind W.ret = w := rfl
theorem W.bind_assoc {α β γ : Type} (w : W α) (f : α → W β) (g : β → W γ) : (w.bind f).bind g = w.bind fun a => (f a).bind g := rfl

/-! ### judgements -/
section
variable (C : Cs) (env : Gh → List Sl)
def tE {α : Type} (r : Rp α) (m : W α) : TE := fun σ H Q => ∃ S g P, Fr C S H σ (env g) ∧ m g P ∧ ∀ a g', P a g' → ∀ v S' H', Fr C S' H' σ (env g') → Ex S S' → r.p S' v a → Q v H'
def tT (m : W Bool) : TT := fun σ H Q => ∃ S g P, Fr C S H σ (env g) ∧ m g P ∧ ∀ b g', P b g' → ∀ S' H', Fr C S' H' σ (env g') → Ex S S' → Q b H'
/-- a list (k) or a tuple, to be read as long as the frame's data stand -/
def Rdb (k : Bool) {α : Type} (r : Rp α) (xs : List α) (σ : St) (S : Hp) (p : Addr) : Prop := ∀ g S2 H2, Fr C S2 H2 σ (env g) → Ex S S2 → ∃ vs, H2 p = some (oSeq k vs) ∧ All2 (r.p S2) vs xs
def tQ (k : Bool) {α : Type} (r : Rp α) (m : W (List α)) : TE := fun σ H Q => ∃ S g P, Fr C S H σ (env g) ∧ m g P ∧ ∀ xs g', P xs g' → ∀ p S' H', Fr C S' H' σ (env g') → Ex S S' → Rdb C env k r xs σ S' p → Q (.ref p) H'
/-- a new list -/
def tN {α : Type} (r : Rp α) (m : W (List α)) : TE := fun σ H Q => ∃ S g P, Fr C S H σ (env g) ∧ m g P ∧ ∀ xs g', P xs g' → ∀ p vs S' H', Fr C S' H' σ (env g') → Ex S S' → H' p = none → All2 (r.p S') vs xs → Q (.ref p) (upd H' p (.lst vs))
end
section
variable {X : Cx} {C : Cs} {env : Gh → List Sl} {e a b c : Expr} {pos : Pos} {α β γ : Type} {r ra : Rp α} {rb : Rp β} {rc : Rp γ} {ma : W α} {mb : W β} {k : Bool}

theorem tE_len {m : W α} (h : PE X e (tE C env r m)) : PE X e (fun σ H Q => tE C env r m σ H (fun v H' => Lens H' → Q v H')) := pe_imp h fun σ H Q _ ⟨S, g0, P, F, em, q⟩ => ⟨S, g0, P, F, em, fun a g' pa v S' H' F' eS hr l => q a _ pa v S' H' F' eS hr l⟩
theorem tQ_len {m : W (List α)} (h : PE X e (tQ C env k r m)) : PE X e (fun σ H Q => tQ C env k r m σ H (fun v H' => Lens H' → Q v H')) := pe_imp h fun σ H Q _ ⟨S, g0, P, F, em, q⟩ => ⟨S, g0, P, F, em, fun a g' pa v S' H' F' eS hr l => q a _ pa v S' H' F' eS hr l⟩
theorem xe_N {m : W (List α)} (h : PE X e (tN C env r m)) : PE X e (tE C env (qL r) m) := pe_imp h fun σ H Q _ ⟨S, g0, P, F, em, q⟩ => ⟨S, g0, P, F, em, fun xs g' px p vs S' H' F' eS hp ha _ => by
  have sp : S' p = none := F'.e1.back hp
  refine q xs _ px _ _ _ (F'.new (o := .lst vs) hp) (eS.trans (Ex.new sp)) ⟨p, vs, rfl, upd_same, ha.mono fun _ _ z => r.mono (Ex.new sp) z⟩⟩
theorem xq_im {m : W (List α)} (h : PE X e (tE C env (qSeq k r) m)) : PE X e (tQ C env k r m) := pe_imp h fun σ H Q _ ⟨S, g0, P, F, em, q⟩ => ⟨S, g0, P, F, em, fun xs g' px v S' H' F' eS ⟨p, vs, ev, hp, ha⟩ _ => by
  subst ev
  exact q xs _ px p S' H' F' eS fun _ S2 H2 F2 e2 => ⟨vs, F2.e1 _ _ (e2 _ _ hp), ha.mono fun _ _ z => r.mono e2 z⟩⟩
theorem xq_own {i : Nat} {xs : List α} {x : Str} (h : PE X (.Name x pos) (tVar i)) (he : ∀ g, (env g)[i]? = some (.ow r xs) := by intro _; rfl) : PE X (.Name x pos) (tQ C env true r (.ret xs)) := pe_imp h fun σ H Q _ ⟨S, g0, P, F, em, q⟩ => by
  obtain ⟨v, ev, p, vs, e1, _, e3, ha⟩ := F.sl.get i (he _)
  subst e1
  refine ⟨.ref p, ev, fun _ => q xs _ em p S H F (Ex.refl S) fun _ S2 H2 F2 e2 => ?_⟩
  obtain ⟨v2, ev2, p2, vs2, e12, _, e32, ha2⟩ := F2.sl.get i (he _)
  subst e12
  rw [ev] at ev2
  cases ev2
  exact ⟨vs2, e32, ha2⟩

/-! ### names, constants -/
theorem xe_var {i : Nat} {x : Str} {a : α} (h : PE X (.Name x pos) (tVar i)) (he : ∀ g, (env g)[i]? = some (.im r a) := by intro _; rfl) : PE X (.Name x pos) (tE C env r (.ret a)) := pe_imp h fun σ H Q _ ⟨S, g0, P, F, em, q⟩ => by
  obtain ⟨v, ev, x, e1, hr⟩ := F.sl.get i (he _)
  subst e1
  exact ⟨x, ev, fun _ => q a _ em x S H F (Ex.refl S) hr⟩
theorem xe_c {v : V} {a : α} (h : PE X e (tC v)) (hr : ∀ H, r.p H v a) : PE X e (tE C env r (.ret a)) := pe_imp h fun σ H Q _ ⟨S, g0, P, F, em, q⟩ => fun _ => q a _ em v S H F (Ex.refl S) (hr S)
theorem xe_int {i : Int} {j : Nat} : PE X (.Constant (.int i) j pos) (tE C env qI (.ret i)) := xe_c pe_int fun _ => rfl
theorem xe_bl {b : Bool} {j : Nat} : PE X (.Constant (.bool b) j pos) (tE C env qB (.ret b)) := xe_c pe_bl fun _ => rfl
theorem xe_str {x : Str} {j : Nat} : PE X (.Constant (.str x) j pos) (tE C env qS (.ret x)) := xe_c pe_str fun _ => rfl
theorem xe_non {j : Nat} : PE X (.Constant .none j pos) (tE C env qN (.ret ())) := xe_c pe_non fun _ => rfl
theorem xe_gint {x : Str} {i : Int} {t : Tok} (hg : Gl X x) (hm : X.mg x = some (.int i t)) (hd : (x == ("__debug__" : Str)) = false := by decide) : PE X (.Name x pos) (tE C env qI (.ret i)) := xe_c (pe_glob (v := .int i) hg hm ⟨t, rfl⟩ hd) fun _ => rfl

/-! ### operators -/
theorem xe_op {op : Operator} {R : R2} {f : α → β → Option γ} (ho : OpR X (binaryOp op) R) (ha : PE X a (tE C env ra ma)) (hb : PE X b (tE C env rb mb))
    (hr : ∀ (e0 : List Sl) S H σ x y p q z Q, Fr C S H σ e0 → Lens H → ra.p S x p → rb.p S y q → f p q = some z → (∀ v S' H', Fr C S' H' σ e0 → Ex S S' → rc.p S' v z → Q v H') → R x y H Q) :
    PE X (.BinOp a op b pos) (tE C env rc (ma.bind fun p => mb.bind fun q => ofO (f p q))) :=
  pe_imp (pe_op ho ha (tE_len hb)) fun σ H Q _ ⟨S, g0, P, F, em, q⟩ =>
    ⟨S, g0, _, F, em, fun p g1 hp x S1 H1 F1 e1 hx => ⟨S1, g1, _, F1, hp, fun w g2 ⟨z, ez, pz⟩ y S2 H2 F2 e2 hy l2 =>
      hr _ S2 H2 σ x y p w z _ F2 l2 (ra.mono e2 hx) hy ez fun v S' H' F' e' hv _ => q z _ pz v S' H' F' (e1.trans (e2.trans e')) hv⟩⟩
/-- ints in, an int or a bool out -/
theorem xe_opI {op : Operator} {g : Int → Int → γ} {G : Int → Int → V} {ma mb : W Int} (ho : OpR X (binaryOp op) (rI0 G)) (ha : PE X a (tE C env qI ma)) (hb : PE X b (tE C env qI mb)) (hg : ∀ H i j, rc.p H (G i j) (g i j)) :
    PE X (.BinOp a op b pos) (tE C env rc (ma.bind fun p => mb.bind fun q => .ret (g p q))) :=
  pe_imp (pe_op ho ha hb) fun σ H Q _ ⟨S, g0, P, F, em, q⟩ =>
    ⟨S, g0, _, F, em, fun p g1 hp x S1 H1 F1 e1 hx => ⟨S1, g1, _, F1, hp, fun w g2 pz y S2 H2 F2 e2 hy => ⟨p, w, hx, hy, fun _ => q _ _ pz _ S2 H2 F2 (e1.trans e2) (hg S2 p w)⟩⟩⟩
theorem xe_opC {op : Operator} {Cd : Int → Int → Prop} {g : Int → Int → Option γ} {G : Int → Int → V} {ma mb : W Int} (ho : OpR X (binaryOp op) (rI Cd G)) (ha : PE X a (tE C env qI ma)) (hb : PE X b (tE C env qI mb))
    (hg : ∀ H i j z, g i j = some z → Cd i j ∧ rc.p H (G i j) z) : PE X (.BinOp a op b pos) (tE C env rc (ma.bind fun p => mb.bind fun q => ofO (g p q))) :=
  xe_op ho ha hb fun _ S H σ x y p q z Q F _ hx hy ez k => ⟨p, q, hx, hy, (hg S p q z ez).1, k _ S H F (Ex.refl S) (hg S p q z ez).2⟩
/-- products of together less than a million bits -/
def mulC (i j : Int) : Option Int := if i.natAbs.log2 + j.natAbs.log2 < 1000000 then some (i * j) else none
/-- quotients by a divisor below 2 ^ 9000 -/
def divC (i j : Int) : Option Int := if 0 < j ∧ j.natAbs.log2 < 9000 then some (i / j) else if j < 0 ∧ j.natAbs.log2 < 9000 then some (i.fdiv j) else none
def modC (i j : Int) : Option Int := if 0 < j then some (i % j) else if j < 0 then some (i.fmod j) else none
def powC (i j : Int) : Option Int := if 0 ≤ j ∧ j ≤ 1000000 ∧ i.natAbs < 2 ^ 64 then some (i ^ j.toNat) else none
theorem op_fdivA : OpR X (binaryOp .FloorDiv) (rI (fun _ j => j ≠ 0 ∧ j.natAbs.log2 < 9000) fun i j => .int (i.fdiv j)) := opI fun i j _ _ _ _ _ hc q => PyProof.Rows.floordiv_int hc.1 q (.inl (PyProof.noPylong_of_log2 hc.2))
variable {mi mj : W Int}
theorem xe_add (ha : PE X a (tE C env qI mi)) (hb : PE X b (tE C env qI mj)) : PE X (.BinOp a .Add b pos) (tE C env qI (mi.bind fun p => mj.bind fun q => .ret (p + q))) := xe_opI op_add ha hb fun _ _ _ => rfl
theorem xe_sub (ha : PE X a (tE C env qI mi)) (hb : PE X b (tE C env qI mj)) : PE X (.BinOp a .Sub b pos) (tE C env qI (mi.bind fun p => mj.bind fun q => .ret (p - q))) := xe_opI op_sub ha hb fun _ _ _ => rfl
theorem xe_mul (ha : PE X a (tE C env qI mi)) (hb : PE X b (tE C env qI mj)) : PE X (.BinOp a .Mult b pos) (tE C env qI (mi.bind fun p => mj.bind fun q => ofO (mulC p q))) := xe_opC op_mulW ha hb fun H i j z ez => by
  unfold mulC at ez
  split at ez
  · rename_i h
    cases ez
    exact ⟨h, rfl⟩
  · cases ez
theorem xe_fdiv (ha : PE X a (tE C env qI mi)) (hb : PE X b (tE C env qI mj)) : PE X (.BinOp a .FloorDiv b pos) (tE C env qI (mi.bind fun p => mj.bind fun q => ofO (divC p q))) := xe_opC op_fdivA ha hb fun H i j z ez => by
  unfold divC at ez
  split at ez
  · rename_i h
    cases ez
    refine ⟨⟨by omega, h.2⟩, ?_⟩
    show V.int (i.fdiv j) = V.int (i / j)
    rw [Int.fdiv_eq_ediv_of_nonneg i (by omega)]
  · split at ez
    · rename_i h
      cases ez
      exact ⟨⟨by omega, h.2⟩, rfl⟩
    · cases ez
theorem xe_mod (ha : PE X a (tE C env qI mi)) (hb : PE X b (tE C env qI mj)) : PE X (.BinOp a .Mod b pos) (tE C env qI (mi.bind fun p => mj.bind fun q => ofO (modC p q))) := xe_opC op_modN ha hb fun H i j z ez => by
  unfold modC at ez
  split at ez
  · rename_i h
    cases ez
    refine ⟨by omega, ?_⟩
    show V.int (i.fmod j) = V.int (i % j)
    rw [Int.fmod_eq_emod_of_nonneg i (by omega)]
  · split at ez
    · cases ez
      exact ⟨by omega, rfl⟩
    · cases ez
theorem xe_pow (ha : PE X a (tE C env qI mi)) (hb : PE X b (tE C env qI mj)) : PE X (.BinOp a .Pow b pos) (tE C env qI (mi.bind fun p => mj.bind fun q => ofO (powC p q))) := xe_opC op_pow ha hb fun H i j z ez => by
  unfold powC at ez
  split at ez
  · rename_i h
    cases ez
    exact ⟨h, rfl⟩
  · cases ez
theorem xe_neg (ha : PE X a (tE C env qI mi)) : PE X (.UnaryOp .USub a pos) (tE C env qI (mi.bind fun p => .ret (-p))) := pe_imp (pe_un un_neg ha) fun σ H Q _ ⟨S, g0, P, F, em, q⟩ =>
  ⟨S, g0, _, F, em, fun p g1 hp v S1 H1 F1 e1 hv => ⟨p, hv, fun _ => q _ _ hp _ S1 H1 F1 e1 rfl⟩⟩

/-! ### comparisons: as values, as tests -/
theorem xe_cmp {op : CmpOp} {R : R2} {f : α → β → Option Bool} (ho : OpR X (compareOp op) R) (ha : PE X a (tE C env ra ma)) (hb : PE X b (tE C env rb mb)) (hm : behindInMarks op b = false)
    (hr : ∀ (e0 : List Sl) S H σ x y p q z Q, Fr C S H σ e0 → Lens H → ra.p S x p → rb.p S y q → f p q = some z → (∀ S' H', Fr C S' H' σ e0 → Ex S S' → Q (.bl z) H') → R x y H Q) :
    PE X (.Compare a [op] [b] pos) (tE C env qB (ma.bind fun p => mb.bind fun q => ofO (f p q))) :=
  pe_imp (pe_cmpR ho ha (tE_len hb) hm) fun σ H Q _ ⟨S, g0, P, F, em, q⟩ =>
    ⟨S, g0, _, F, em, fun p g1 hp x S1 H1 F1 e1 hx => ⟨S1, g1, _, F1, hp, fun w g2 ⟨z, ez, pz⟩ y S2 H2 F2 e2 hy l2 =>
      hr _ S2 H2 σ x y p w z _ F2 l2 (ra.mono e2 hx) hy ez fun S' H' F' e' _ => q z _ pz _ S' H' F' (e1.trans (e2.trans e')) rfl⟩⟩
theorem xt_cmp {op : CmpOp} {R : R2} {f : α → β → Option Bool} (ho : OpR X (compareOp op) R) (ha : PE X a (tE C env ra ma)) (hb : PE X b (tE C env rb mb)) (hm : behindInMarks op b = false)
    (hr : ∀ (e0 : List Sl) S H σ x y p q z Q, Fr C S H σ e0 → Lens H → ra.p S x p → rb.p S y q → f p q = some z → (∀ S' H', Fr C S' H' σ e0 → Ex S S' → Q (.bl z) H') → R x y H Q) :
    PT X (.Compare a [op] [b] pos) (tT C env (ma.bind fun p => mb.bind fun q => ofO (f p q))) :=
  pt_imp (pt_cmpR ho ha (tE_len hb) hm) fun σ H Q _ ⟨S, g0, P, F, em, q⟩ =>
    ⟨S, g0, _, F, em, fun p g1 hp x S1 H1 F1 e1 hx => ⟨S1, g1, _, F1, hp, fun w g2 ⟨z, ez, pz⟩ y S2 H2 F2 e2 hy l2 =>
      hr _ S2 H2 σ x y p w z _ F2 l2 (ra.mono e2 hx) hy ez fun S' H' F' e' => ⟨z, rfl, fun _ => q z _ pz S' H' F' (e1.trans (e2.trans e'))⟩⟩⟩
/-- a comparison of data by its rule: what it asks, what it answers -/
def CmpD (X : Cx) (C : Cs) (op : CmpOp) (ra : Rp α) (rb : Rp β) (f : α → β → Option Bool) : Prop := ∃ R, OpR X (compareOp op) R ∧
  ∀ (e0 : List Sl) S H σ x y p q z Q, Fr C S H σ e0 → Lens H → ra.p S x p → rb.p S y q → f p q = some z → (∀ S' H', Fr C S' H' σ e0 → Ex S S' → Q (.bl z) H') → R x y H Q
theorem xe_cmpD {op : CmpOp} {f : α → β → Option Bool} (h : CmpD X C op ra rb f) (ha : PE X a (tE C env ra ma)) (hb : PE X b (tE C env rb mb)) (hm : behindInMarks op b = false) : PE X (.Compare a [op] [b] pos) (tE C env qB (ma.bind fun p => mb.bind fun q => ofO (f p q))) :=
  let ⟨_, h1, h2⟩ := h
  xe_cmp h1 ha hb hm h2
theorem xt_cmpD {op : CmpOp} {f : α → β → Option Bool} (h : CmpD X C op ra rb f) (ha : PE X a (tE C env ra ma)) (hb : PE X b (tE C env rb mb)) (hm : behindInMarks op b = false) : PT X (.Compare a [op] [b] pos) (tT C env (ma.bind fun p => mb.bind fun q => ofO (f p q))) :=
  let ⟨_, h1, h2⟩ := h
  xt_cmp h1 ha hb hm h2
theorem cd_I {op : CmpOp} {g : Int → Int → Bool} (ho : OpR X (compareOp op) (rI0 fun i j => .bl (g i j))) : CmpD X C op qI qI fun i j => some (g i j) :=
  ⟨_, ho, fun _ S H σ x y p q z Q F _ hx hy ez k => ⟨p, q, hx, hy, by cases ez; exact k S H F (Ex.refl S)⟩⟩
theorem cd_lt : CmpD X C .Lt qI qI fun i j => some (decide (i < j)) := cd_I op_lt
theorem cd_le : CmpD X C .LtE qI qI fun i j => some (decide (i ≤ j)) := cd_I op_le
theorem cd_gt : CmpD X C .Gt qI qI fun i j => some (decide (j < i)) := cd_I op_gt
theorem cd_ge : CmpD X C .GtE qI qI fun i j => some (decide (j ≤ i)) := cd_I op_ge
theorem cd_eqI : CmpD X C .Eq qI qI fun i j => some (decide (i = j)) := ⟨_, op_eq, fun _ S H σ x y p q z Q F _ hx hy ez k => by
  rw [show x = V.int p from hx, show y = V.int q from hy]
  refine ⟨rfl, ?_⟩
  cases ez
  have e : decide (V.int p = V.int q) = decide (p = q) := by
    rw [Bool.eq_iff_iff]
    simp
  rw [e]
  exact k S H F (Ex.refl S)⟩
theorem cd_neI : CmpD X C .NotEq qI qI fun i j => some (!decide (i = j)) := ⟨_, op_ne, fun _ S H σ x y p q z Q F _ hx hy ez k => by
  rw [show x = V.int p from hx, show y = V.int q from hy]
  refine ⟨rfl, ?_⟩
  cases ez
  have e : decide (V.int p = V.int q) = decide (p = q) := by
    rw [Bool.eq_iff_iff]
    simp
  rw [e]
  exact k S H F (Ex.refl S)⟩

/-! ### truth, and, or, not, if -/
theorem xt_val {m : W Bool} (h : PE X e (tE C env qB m)) (he : ∀ whole, isTrue e X.env whole = (do let v ← whole; standAt e.pos; holding [v] (truthy v)) := by intro _; rfl) : PT X e (tT C env m) :=
  pt_imp (pt_val h he) fun σ H Q _ ⟨S, g0, P, F, em, q⟩ => ⟨S, g0, P, F, em, fun b g' pb v S' H' F' eS hv => ⟨b, hv, fun _ => q b _ pb S' H' F' eS⟩⟩
theorem xt_not {m : W Bool} (h : PT X e (tT C env m)) : PT X (.UnaryOp .Not e pos) (tT C env (m.bind fun b => .ret !b)) := pt_imp (pt_not h) fun σ H Q _ ⟨S, g0, P, F, em, q⟩ =>
  ⟨S, g0, _, F, em, fun b g' pb S' H' F' eS _ => q _ _ pb S' H' F' eS⟩
theorem xe_not {m : W Bool} (h : PE X e (tE C env qB m)) : PE X (.UnaryOp .Not e pos) (tE C env qB (m.bind fun b => .ret !b)) := pe_imp (pe_not h) fun σ H Q _ ⟨S, g0, P, F, em, q⟩ =>
  ⟨S, g0, _, F, em, fun b g' pb v S' H' F' eS hv => ⟨b, hv, fun _ => q _ _ pb _ S' H' F' eS rfl⟩⟩
variable {es : List Expr} {m1 m2 : W Bool}
/-- a chain of and, or: as tests -/
theorem xw_and1 (ha : PT X a (tT C env m1)) : PW X (.BoolOp .And [a] pos) (tT C env m1) := pw_and1 ha
theorem xw_or1 (ha : PT X a (tT C env m1)) : PW X (.BoolOp .Or [a] pos) (tT C env m1) := pw_or1 ha
theorem pw_imp {tt tt' : TT} (h : PW X e tt) (hi : ∀ σ H Q, Lens H → tt' σ H Q → tt σ H (fun v H' => Lens H' → Q v H')) : PW X e tt' := ⟨fun w pins s σ H Q I q =>
  thn (h.run w pins s σ H _ I (hi σ H Q (Lens.of I) q)) fun _ _ ⟨H', I', z⟩ => ⟨H', I', z (Lens.of I')⟩⟩
theorem xw_and (ha : PT X a (tT C env m1)) (hb : PW X (.BoolOp .And (b :: es) pos) (tT C env m2)) : PW X (.BoolOp .And (a :: b :: es) pos) (tT C env (m1.bind fun p => if p = true then m2 else .ret false)) :=
  pw_imp (pw_and ha hb) fun σ H Q _ ⟨S, g0, P, F, em, q⟩ => ⟨S, g0, _, F, em, fun p g' hp S' H' F' eS => by
    cases p with
    | true => exact ⟨S', g', _, F', hp, fun b g2 pb S2 H2 F2 e2 _ => q b _ pb S2 H2 F2 (eS.trans e2)⟩
    | false => exact fun _ => q _ _ hp S' H' F' eS⟩
theorem xw_or (ha : PT X a (tT C env m1)) (hb : PW X (.BoolOp .Or (b :: es) pos) (tT C env m2)) : PW X (.BoolOp .Or (a :: b :: es) pos) (tT C env (m1.bind fun p => if p = true then .ret true else m2)) :=
  pw_imp (pw_or ha hb) fun σ H Q _ ⟨S, g0, P, F, em, q⟩ => ⟨S, g0, _, F, em, fun p g' hp S' H' F' eS => by
    cases p with
    | false => exact ⟨S', g', _, F', hp, fun b g2 pb S2 H2 F2 e2 _ => q b _ pb S2 H2 F2 (eS.trans e2)⟩
    | true => exact fun _ => q _ _ hp S' H' F' eS⟩
/-- .. as values: all but the last a bool -/
theorem xe_and {m3 : W α} {f : Bool → α} (ha : PE X a (tE C env qB m1)) (hb : PE X (.BoolOp .And (b :: es) pos) (tE C env r m3)) (h0 : ∀ H, r.p H (.bl false) (f false)) : PE X (.BoolOp .And (a :: b :: es) pos) (tE C env r (m1.bind fun p => if p = true then m3 else .ret (f false))) :=
  pe_imp (pe_and ha hb) fun σ H Q _ ⟨S, g0, P, F, em, q⟩ => ⟨S, g0, _, F, em, fun p g' hp v S' H' F' eS hv => ⟨p, hv, by
    cases p with
    | true => exact ⟨S', g', _, F', hp, fun b g2 pb v S2 H2 F2 e2 hv _ => q b _ pb v S2 H2 F2 (eS.trans e2) hv⟩
    | false => exact fun _ => q _ _ hp _ S' H' F' eS (h0 S')⟩⟩
theorem xe_andB (ha : PE X a (tE C env qB m1)) (hb : PE X (.BoolOp .And (b :: es) pos) (tE C env qB m2)) : PE X (.BoolOp .And (a :: b :: es) pos) (tE C env qB (m1.bind fun p => if p = true then m2 else .ret false)) := xe_and (f := id) ha hb fun _ => rfl
theorem xe_orB (ha : PE X a (tE C env qB m1)) (hb : PE X (.BoolOp .Or (b :: es) pos) (tE C env qB m2)) : PE X (.BoolOp .Or (a :: b :: es) pos) (tE C env qB (m1.bind fun p => if p = true then .ret true else m2)) :=
  pe_imp (pe_or ha hb) fun σ H Q _ ⟨S, g0, P, F, em, q⟩ => ⟨S, g0, _, F, em, fun p g' hp v S' H' F' eS hv => ⟨p, hv, by
    cases p with
    | false => exact ⟨S', g', _, F', hp, fun b g2 pb v S2 H2 F2 e2 hv _ => q b _ pb v S2 H2 F2 (eS.trans e2) hv⟩
    | true => exact fun _ => q _ _ hp _ S' H' F' eS rfl⟩⟩
theorem xe_one {op : BoolOp} {m : W α} (h : PE X a (tE C env r m)) : PE X (.BoolOp op [a] pos) (tE C env r m) := pe_one h
/-- a if c else b -/
theorem xe_if {m3 m4 : W α} (hc : PT X c (tT C env m1)) (ha : PE X a (tE C env r m3)) (hb : PE X b (tE C env r m4)) : PE X (.IfExp c a b pos) (tE C env r (m1.bind fun p => if p = true then m3 else m4)) :=
  pe_imp (pe_ifExp hc ha hb) fun σ H Q _ ⟨S, g0, P, F, em, q⟩ => ⟨S, g0, _, F, em, fun p g' hp S' H' F' eS => by
    cases p with
    | false => exact ⟨S', g', _, F', hp, fun b g2 pb v S2 H2 F2 e2 hv _ => q b _ pb v S2 H2 F2 (eS.trans e2) hv⟩
    | true => exact ⟨S', g', _, F', hp, fun b g2 pb v S2 H2 F2 e2 hv _ => q b _ pb v S2 H2 F2 (eS.trans e2) hv⟩⟩
/-- a op b op' c -/
theorem xe_chainD {op op' : CmpOp} {f : α → β → Option Bool} {g : β → γ → Option Bool} {mc : W γ} (d1 : CmpD X C op ra rb f) (d2 : CmpD X C op' rb rc g) (ha : PE X a (tE C env ra ma)) (hb : PE X b (tE C env rb mb)) (hc : PE X c (tE C env rc mc))
    (hm : lastMarks [op, op'] [b, c] = false := by with_unfolding_all rfl) : PE X (.Compare a [op, op'] [b, c] pos) (tE C env qB (ma.bind fun p => mb.bind fun q => (ofO (f p q)).bind fun t => if t = true then mc.bind fun w => ofO (g q w) else .ret false)) := by
  obtain ⟨R, h1, hr⟩ := d1
  obtain ⟨R', h2, hr'⟩ := d2
  refine pe_imp (pe_chain h1 h2 ha (tE_len hb) (tE_len hc) hm) fun σ H Q _ ⟨S, g0, P, F, em, q⟩ => ?_
  refine ⟨S, g0, _, F, em, fun p g1 hp x S1 H1 F1 e1 hx => ⟨S1, g1, _, F1, hp, fun w g2 ⟨t, et, ht⟩ y S2 H2 F2 e2 hy l2 => ?_⟩⟩
  refine hr _ S2 H2 σ x y p w t _ F2 l2 (ra.mono e2 hx) hy et fun S3 H3 F3 e3 => ⟨t, rfl, ?_⟩
  cases t with
  | false => exact fun _ => q _ _ ht _ S3 H3 F3 (e1.trans (e2.trans e3)) rfl
  | true =>
    refine ⟨S3, _, _, F3, ht, fun u g4 ⟨z, ez, pz⟩ y' S4 H4 F4 e4 hy' l4 => ?_⟩
    exact hr' _ S4 H4 σ y y' w u z _ F4 l4 (rb.mono (e3.trans e4) hy) hy' ez fun S5 H5 F5 e5 _ => q z _ pz _ S5 H5 F5 (e1.trans (e2.trans (e3.trans (e4.trans e5)))) rfl
end
end Rt

set_option maxRecDepth 100000
set_option maxHeartbeats 4000000
/-! Rt3: sequences, calls. -/
namespace Rt
open PySem L2

/-! ### arguments -/
structure Ra (α : Type) where
  p : Hp → List V → α → Prop
  mono : ∀ {H H' : Hp} {v : List V} {a : α}, Ex H H' → p H v a → p H' v a
def q0 : Ra Unit := ⟨fun _ vs _ => vs = [], fun _ h => h⟩
def qC {α β : Type} (r : Rp α) (q : Ra β) : Ra (α × β) := ⟨fun H vs a => ∃ v ws, vs = v :: ws ∧ r.p H v a.1 ∧ q.p H ws a.2, fun e ⟨v, ws, h1, h2, h3⟩ => ⟨v, ws, h1, r.mono e h2, q.mono e h3⟩⟩
def qAll {α : Type} (r : Rp α) : Ra (List α) := ⟨fun H vs xs => All2 (r.p H) vs xs, fun e h => h.mono fun _ _ z => r.mono e z⟩
def tA (C : Cs) (env : Gh → List Sl) {α : Type} (r : Ra α) (m : W α) : TA := fun σ H Q => ∃ S g P, Fr C S H σ (env g) ∧ m g P ∧ ∀ a g', P a g' → ∀ vs S' H', Fr C S' H' σ (env g') → Ex S S' → r.p S' vs a → Q vs H'
section
variable {X : Cx} {C : Cs} {env : Gh → List Sl} {e a b c : Expr} {es : List Expr} {pos : Pos} {α β γ δ : Type} {r ra : Rp α} {rb : Rp β} {rc : Rp γ} {m ma : W α} {mb : W β} {mc : W γ} {k : Bool} {q : Ra β} {ta ta' : TA}
theorem pa_imp (h : PA X es ta) (hi : ∀ σ H Q, Lens H → ta' σ H Q → ta σ H (fun v H' => Lens H' → Q v H')) : PA X es ta' := ⟨fun pos pins s σ H Q I q =>
  thn (h.run pos pins s σ H _ I (hi σ H Q (Lens.of I) q)) fun _ _ ⟨v, H', I', r, z⟩ => ⟨v, H', I', r, z (Lens.of I')⟩⟩
theorem xa_nil : PA X [] (tA C env q0 (.ret ())) := pa_imp pa_nil fun σ H Q _ ⟨S, g0, P, F, em, k⟩ => fun _ => k () _ em [] S H F (Ex.refl S) rfl
theorem xa_cons {mq : W β} (h : PE X e (tE C env r m)) (hr : PA X es (tA C env q mq)) (hs : starEach (e :: es) X.env = (false, eval e X.env) :: starEach es X.env := by rfl) : PA X (e :: es) (tA C env (qC r q) (m.bind fun x => mq.bind fun y => .ret (x, y))) :=
  pa_imp (pa_cons h hr hs) fun σ H Q _ ⟨S, g0, P, F, em, k⟩ => ⟨S, g0, _, F, em, fun x g1 hx v S1 H1 F1 x1 hv => ⟨S1, g1, _, F1, hx, fun y g2 py vs S2 H2 F2 x2 hvs _ => k _ _ py (v :: vs) S2 H2 F2 (x1.trans x2) ⟨v, vs, rfl, r.mono x2 hv, hvs⟩⟩⟩
theorem xa_nilL : PA X [] (tA C env (qAll r) (.ret [])) := pa_imp pa_nil fun σ H Q _ ⟨S, g0, P, F, em, k⟩ => fun _ => k _ _ em [] S H F (Ex.refl S) True.intro
theorem xa_consL {mq : W (List α)} (h : PE X e (tE C env r m)) (hr : PA X es (tA C env (qAll r) mq)) (hs : starEach (e :: es) X.env = (false, eval e X.env) :: starEach es X.env := by rfl) : PA X (e :: es) (tA C env (qAll r) (m.bind fun x => mq.bind fun y => .ret (x :: y))) :=
  pa_imp (pa_cons h hr hs) fun σ H Q _ ⟨S, g0, P, F, em, k⟩ => ⟨S, g0, _, F, em, fun x g1 hx v S1 H1 F1 x1 hv => ⟨S1, g1, _, F1, hx, fun y g2 py vs S2 H2 F2 x2 hvs _ => k _ _ py (v :: vs) S2 H2 F2 (x1.trans x2) ⟨r.mono x2 hv, hvs⟩⟩⟩
theorem pe_eq {m m' : W α} (h : PE X e (tE C env r m)) (he : m = m') : PE X e (tE C env r m') := he ▸ h
theorem pa_eq {m m' : W β} (h : PA X es (tA C env q m)) (he : m = m') : PA X es (tA C env q m') := he ▸ h

/-! ### displays -/
def lenK {α : Type} (xs : List α) : Option (List α) := if xs.length ≤ 1000000 then some xs else none
theorem lenK_some {α : Type} {xs z : List α} (h : lenK xs = some z) : xs = z ∧ xs.length ≤ 1000000 := by
  unfold lenK at h
  split at h
  · rename_i hl
    exact ⟨Option.some.inj h, hl⟩
  · cases h
theorem xe_tupL {k1 : Nat} {m : W (List α)} (h : PA X es (tA C env (qAll r) m)) : PE X (.Tuple es k1 pos) (tE C env (qT r) (m.bind fun xs => ofO (lenK xs))) := pe_imp (pe_tup h) fun σ H Q _ ⟨S, g0, P, F, em, k⟩ =>
  ⟨S, g0, _, F, em, fun xs g1 ⟨z, ez, pz⟩ vs S1 H1 F1 x1 hv => by
    obtain ⟨rfl, hl⟩ := lenK_some ez
    refine ⟨by rw [All2.length hv, sizeLine_eq]; omega, fun p hp _ => ?_⟩
    exact k _ _ pz _ _ _ (F1.new (o := .tup vs) hp) (x1.trans (Ex.new (F1.e1.back hp))) ⟨p, vs, rfl, upd_same, All2.mono (fun _ _ z => r.mono (Ex.new (F1.e1.back hp)) z) hv⟩⟩
theorem xn_lst {m : W (List α)} (h : PA X es (tA C env (qAll r) m)) : PE X (.List es pos) (tN C env r (m.bind fun xs => ofO (lenK xs))) := pe_imp (pe_lst h) fun σ H Q _ ⟨S, g0, P, F, em, k⟩ =>
  ⟨S, g0, _, F, em, fun xs g1 ⟨z, ez, pz⟩ vs S1 H1 F1 x1 hv => by
    obtain ⟨rfl, hl⟩ := lenK_some ez
    exact ⟨by rw [All2.length hv, sizeLine_eq]; omega, fun p hp _ => k _ _ pz p vs S1 H1 F1 x1 hp hv⟩⟩
theorem xn_nil : PE X (.List [] pos) (tN C env r (.ret [])) := pe_imp (pe_lst (xa_nilL (C := C) (env := env) (r := r))) fun σ H Q _ ⟨S, g0, P, F, em, k⟩ =>
  ⟨S, g0, fun xs g => xs = [] ∧ g = g0, F, ⟨rfl, rfl⟩, fun xs g1 hx vs S1 H1 F1 x1 hv => by
    obtain ⟨rfl, rfl⟩ := hx
    exact ⟨by rw [All2.length hv]; exact Nat.zero_le _, fun p hp _ => k [] _ em p vs S1 H1 F1 x1 hp hv⟩⟩
theorem xe_tup0 {k1 : Nat} : PE X (.Tuple [] k1 pos) (tE C env (qT r) (.ret [])) := pe_imp (pe_tup (xa_nilL (C := C) (env := env) (r := r))) fun σ H Q _ ⟨S, g0, P, F, em, k⟩ =>
  ⟨S, g0, fun xs g => xs = [] ∧ g = g0, F, ⟨rfl, rfl⟩, fun xs g1 hx vs S1 H1 F1 x1 hv => by
    obtain ⟨rfl, rfl⟩ := hx
    refine ⟨by rw [All2.length hv]; exact Nat.zero_le _, fun p hp _ => ?_⟩
    exact k [] _ em _ _ _ (F1.new (o := .tup vs) hp) (x1.trans (Ex.new (F1.e1.back hp))) ⟨p, vs, rfl, upd_same, All2.mono (fun _ _ z => r.mono (Ex.new (F1.e1.back hp)) z) hv⟩⟩
theorem xe_tup1 {k1 : Nat} {m : W α} (h : PE X a (tE C env r m)) (hs : starEach [a] X.env = (false, eval a X.env) :: starEach [] X.env := by rfl) : PE X (.Tuple [a] k1 pos) (tE C env (qT r) (m.bind fun x => .ret [x])) :=
  pe_imp (xe_tupL (xa_consL h xa_nilL hs)) fun σ H Q _ ⟨S, g0, P, F, em, k⟩ => ⟨S, g0, P, F, (by
    have e : (m.bind fun x => W.ret [x]) = ((m.bind fun x => (W.ret ([] : List α)).bind fun y => W.ret (x :: y)).bind fun xs => ofO (lenK xs)) := by
      funext g P
      show m g _ = m g _
      congr 1
      funext x g1
      exact propext (Iff.intro (fun h => ⟨[x], rfl, h⟩) fun ⟨z, ez, h⟩ => by cases ez; exact h)
    rw [← e]
    exact em), fun xs g' px v S' H' F' x1 hv _ => k xs _ px v S' H' F' x1 hv⟩
theorem xe_tup2 {k1 : Nat} (ha : PE X a (tE C env ra ma)) (hb : PE X b (tE C env rb mb)) (hs : starEach [a, b] X.env = (false, eval a X.env) :: starEach [b] X.env := by rfl) (hs2 : starEach [b] X.env = (false, eval b X.env) :: starEach [] X.env := by rfl) :
    PE X (.Tuple [a, b] k1 pos) (tE C env (qP ra rb) (ma.bind fun x => mb.bind fun y => .ret (x, y))) := pe_imp (pe_tup (xa_cons ha (xa_cons hb xa_nil hs2) hs)) fun σ H Q _ ⟨S, g0, P, F, em, k⟩ =>
  ⟨S, g0, fun z g => P (z.1, z.2.1) g, F, em, fun z g1 pz vs S1 H1 F1 x1 ⟨v, ws, ev, h1, w, us, ew, h2, eu⟩ => by
    have eu : us = [] := eu
    subst ev ew eu
    refine ⟨by show 2 ≤ sizeLine; decide, fun p hp _ => ?_⟩
    have ex := Ex.new (o := .tup [v, w]) (F1.e1.back hp)
    exact k _ _ pz _ _ _ (F1.new hp) (x1.trans ex) ⟨p, v, w, rfl, upd_same, ra.mono ex h1, rb.mono ex h2⟩⟩
theorem xe_tup3 {k1 : Nat} (ha : PE X a (tE C env ra ma)) (hb : PE X b (tE C env rb mb)) (hc : PE X c (tE C env rc mc)) (hs : starEach [a, b, c] X.env = (false, eval a X.env) :: starEach [b, c] X.env := by rfl) (hs2 : starEach [b, c] X.env = (false, eval b X.env) :: starEach [c] X.env := by rfl)
    (hs3 : starEach [c] X.env = (false, eval c X.env) :: starEach [] X.env := by rfl) :
    PE X (.Tuple [a, b, c] k1 pos) (tE C env (qP3 ra rb rc) (ma.bind fun x => mb.bind fun y => mc.bind fun z => .ret (x, y, z))) := pe_imp (pe_tup (xa_cons ha (xa_cons hb (xa_cons hc xa_nil hs3) hs2) hs)) fun σ H Q _ ⟨S, g0, P, F, em, k⟩ =>
  ⟨S, g0, fun z g => P (z.1, z.2.1, z.2.2.1) g, F, em, fun z g1 pz vs S1 H1 F1 x1 ⟨v, ws, ev, h1, w2, us, ew, h2, w3, ts, et, h3, eu⟩ => by
    have eu : ts = [] := eu
    subst ev ew et eu
    refine ⟨by show 3 ≤ sizeLine; decide, fun p hp _ => ?_⟩
    have ex := Ex.new (o := .tup [v, w2, w3]) (F1.e1.back hp)
    exact k _ _ pz _ _ _ (F1.new hp) (x1.trans ex) ⟨p, v, w2, w3, rfl, upd_same, ra.mono ex h1, rb.mono ex h2, rc.mono ex h3⟩⟩

/-! ### subscripts, lengths -/
theorem All2.atI {R : V → α → Prop} {vs : List V} {xs : List α} {i : Int} {x : α} (h : All2 R vs xs) (e : L2.atI xs i = some x) : ∃ v, L2.atI vs i = some v ∧ R v x := by
  unfold L2.atI at e ⊢
  rw [← All2.length h] at e
  cases q : ixN vs.length i with
  | none => rw [q] at e; cases e
  | some j =>
    rw [q] at e
    exact All2.get j h e
theorem rd_sq {K : PySem.W.Frag} {H : Hp} {p : Addr} {vs : List V} (h : H p = some (oSeq k vs)) : SqL K H p vs ∨ SqT K H p vs := sq_seq h
theorem xe_ix {mx : W (List α)} {mi : W Int} (ha : PE X a (tQ C env k r mx)) (hb : PE X b (tE C env qI mi)) (hs : PlainIx b := by intro _ _; rfl) : PE X (.Subscript a b pos) (tE C env r (mx.bind fun xs => mi.bind fun i => ofO (L2.atI xs i))) := by
  have go : ∀ {R : R2}, IxR X R → (∀ H p vs i v Q, H p = some (oSeq k vs) → L2.atI vs i = some v → Q v H → R (.ref p) (.int i) H Q) → PE X (.Subscript a b pos) (tE C env r (mx.bind fun xs => mi.bind fun i => ofO (L2.atI xs i))) := fun {R} hR hr =>
    pe_imp (pe_ix hR ha hb hs) fun σ H Q _ ⟨S, g0, P, F, em, k⟩ => ⟨S, g0, _, F, em, fun xs g1 hx p S1 H1 F1 x1 rd => ⟨S1, g1, _, F1, hx, fun i g2 ⟨z, ez, pz⟩ y S2 H2 F2 x2 hy => by
      have hy : y = .int i := hy
      subst hy
      obtain ⟨vs, hp, h2⟩ := rd _ S2 H2 F2 x2
      obtain ⟨v, ev, hv⟩ := h2.atI ez
      exact hr H2 p vs i v _ hp ev fun _ => k _ _ pz v S2 H2 F2 (x1.trans x2) hv⟩⟩
  cases k with
  | true => exact go ix_list fun H p vs i v Q hp ev q => ⟨p, vs, i, v, rfl, rfl, SqL.of hp, ev, q⟩
  | false => exact go ix_tup fun H p vs i v Q hp ev q => ⟨p, vs, i, v, rfl, rfl, SqT.of hp, ev, q⟩
theorem xe_len {mx : W (List α)} {p : Pos} (hg : Gl X "len") (hm : X.mg "len" = none) (ha : PE X a (tQ C env k r mx)) (hs : starEach [a] X.env = (false, eval a X.env) :: starEach [] X.env := by rfl) :
    PE X (.Call (.Name "len" p) [a] [] pos) (tE C env qI (mx.bind fun xs => .ret (xs.length : Int))) :=
  pe_imp (pe_callB call_len_seq hg hm PySem.boot_len (pa_cons ha pa_nil hs) (by decide) (by decide) hs (by rfl)) fun σ H Q _ ⟨S, g0, P, F, em, k⟩ => ⟨S, g0, _, F, em, fun xs g1 px p S1 H1 F1 x1 rd => by
    obtain ⟨vs, hp, h2⟩ := rd _ S1 H1 F1 (Ex.refl S1)
    exact ⟨p, vs, rfl, sq_seq hp, fun _ => k _ _ px _ S1 H1 F1 x1 (by rw [All2.length h2]; rfl)⟩⟩
/-- the items of xs[lo:hi] -/
def cutL {α : Type} (xs : List α) (lo hi : Option Int) : List α := (xs.drop (HT.sIx xs.length 0 lo)).take (HT.sIx xs.length xs.length hi - HT.sIx xs.length 0 lo)
theorem cutL_all {R : V → α → Prop} {vs : List V} {xs : List α} (h : All2 R vs xs) (lo hi : Option Int) : All2 R (cutV vs lo hi) (cutL xs lo hi) := by
  unfold cutV cutL
  rw [All2.length h]
  exact (h.drop _).take _
/-- a slice's end -/
def tO (C : Cs) (env : Gh → List Sl) (m : W (Option Int)) : TO := fun σ H Q => ∃ S g P, Fr C S H σ (env g) ∧ m g P ∧ ∀ a g', P a g' → ∀ S' H', Fr C S' H' σ (env g') → Ex S S' → Q a H'
theorem po_imp {e : Option Expr} {t t' : TO} (h : PO X e t) (hi : ∀ σ H Q, Lens H → t' σ H Q → t σ H Q) : PO X e t' := ⟨fun pins s σ H Q I q => h.run pins s σ H Q I (hi σ H Q (Lens.of I) q)⟩
theorem xo_none : PO X none (tO C env (.ret none)) := po_imp po_none fun σ H Q _ ⟨S, g0, P, F, em, k⟩ => k _ _ em S H F (Ex.refl S)
theorem xo_some {mi : W Int} (h : PE X e (tE C env qI mi)) : PO X (some e) (tO C env (mi.bind fun i => .ret (some i))) := po_imp (po_some h) fun σ H Q _ ⟨S, g0, P, F, em, k⟩ =>
  ⟨S, g0, _, F, em, fun i g1 pi v S1 H1 F1 x1 hv => ⟨i, hv, k _ _ pi S1 H1 F1 x1⟩⟩
theorem xe_slT {lo hi : Option Expr} {p2 : Pos} {mx : W (List α)} {ml mh : W (Option Int)} (ha : PE X a (tE C env (qT r) mx)) (hl : PO X lo (tO C env ml)) (hh : PO X hi (tO C env mh)) :
    PE X (.Subscript a (.Slice lo hi none p2) pos) (tE C env (qT r) (mx.bind fun xs => ml.bind fun l => mh.bind fun h => .ret (cutL xs l h))) :=
  pe_imp (pe_slice sl_tupA ha hl hh) fun σ H Q _ ⟨S, g0, P, F, em, k⟩ => ⟨S, g0, _, F, em, fun xs g1 hx v S1 H1 F1 x1 ⟨p, vs, ev, hp, h2⟩ => ⟨S1, g1, _, F1, hx, fun l g2 hl S2 H2 F2 x2 => ⟨S2, g2, _, F2, hl, fun h g3 ph S3 H3 F3 x3 => by
    subst ev
    have hp3 : S3 p = some (.tup vs) := x3 _ _ (x2 _ _ hp)
    have h3 : All2 (r.p S3) vs xs := h2.mono fun _ _ z => r.mono (x2.trans x3) z
    refine ⟨p, vs, rfl, SqT.of (F3.e1 _ _ hp3), fun hw _ => ?_, fun _ t ht _ => ?_⟩
    · have e : cutL xs l h = xs := by
        unfold cutL
        rw [← All2.length h2, hw.1, hw.2]
        simp
        rw [All2.length h2]
        exact List.take_length
      exact k _ _ ph _ S3 H3 F3 (x1.trans (x2.trans x3)) ⟨p, vs, rfl, hp3, by rw [e]; exact h3⟩
    · have ex := Ex.new (o := .tup (cutV vs l h)) (F3.e1.back ht)
      exact k _ _ ph _ _ _ (F3.new ht) ((x1.trans (x2.trans x3)).trans ex) ⟨t, _, rfl, upd_same, (cutL_all h3 l h).mono fun _ _ z => r.mono ex z⟩⟩⟩⟩
theorem xn_slL {lo hi : Option Expr} {p2 : Pos} {mx : W (List α)} {ml mh : W (Option Int)} (ha : PE X a (tQ C env true r mx)) (hl : PO X lo (tO C env ml)) (hh : PO X hi (tO C env mh)) :
    PE X (.Subscript a (.Slice lo hi none p2) pos) (tN C env r (mx.bind fun xs => ml.bind fun l => mh.bind fun h => .ret (cutL xs l h))) :=
  pe_imp (pe_slice sl_list ha hl hh) fun σ H Q _ ⟨S, g0, P, F, em, k⟩ => ⟨S, g0, _, F, em, fun xs g1 hx p S1 H1 F1 x1 rd => ⟨S1, g1, _, F1, hx, fun l g2 hl S2 H2 F2 x2 => ⟨S2, g2, _, F2, hl, fun h g3 ph S3 H3 F3 x3 => by
    obtain ⟨vs, hp, h2⟩ := rd _ S3 H3 F3 (x2.trans x3)
    exact ⟨p, vs, rfl, SqL.of hp, fun t ht _ => k _ _ ph t _ S3 H3 F3 (x1.trans (x2.trans x3)) ht (cutL_all h2 l h)⟩⟩⟩⟩
/-- xs[::-1] of a list -/
theorem xn_rev {j : Nat} {p1 p2 p3 : Pos} {mx : W (List α)} (ha : PE X a (tQ C env true r mx)) : PE X (.Subscript a (.Slice none none (some (.UnaryOp .USub (.Constant (.int 1) j p1) p2)) p3) pos) (tN C env r (mx.bind fun xs => .ret xs.reverse)) :=
  pe_imp (pe_revL ha) fun σ H Q _ ⟨S, g0, P, F, em, k⟩ => ⟨S, g0, _, F, em, fun xs g1 px p S1 H1 F1 x1 rd => by
    obtain ⟨vs, hp, h2⟩ := rd _ S1 H1 F1 (Ex.refl S1)
    exact ⟨p, vs, rfl, SqL.of hp, fun t ht _ => k _ _ px t _ S1 H1 F1 x1 ht h2.reverse⟩⟩

/-! ### one behind the other -/
def catC {α : Type} (xs ys : List α) : Option (List α) := if xs.length + ys.length ≤ 1000000 then some (xs ++ ys) else none
theorem xe_catT {mx my : W (List α)} (ha : PE X a (tE C env (qT r) mx)) (hb : PE X b (tE C env (qT r) my)) : PE X (.BinOp a .Add b pos) (tE C env (qT r) (mx.bind fun xs => my.bind fun ys => ofO (catC xs ys))) :=
  xe_op op_catA ha hb fun _ S H σ x y xs ys z Q F _ ⟨p, vs, e1, h1, h2⟩ ⟨t, ws, e3, h3, h4⟩ ez k => by
    unfold catC at ez
    split at ez
    · rename_i hl
      cases ez
      refine ⟨p, t, vs, ws, e1, e3, SqT.of (F.e1 _ _ h1), SqT.of (F.e1 _ _ h3), by rw [All2.length h2, All2.length h4, sizeLine_eq]; omega, fun n => ?_, fun _ n => ?_, fun _ _ u hu => ?_⟩
      · subst n
        have : xs = [] := List.eq_nil_of_length_eq_zero (by rw [← All2.length h2]; rfl)
        subst this
        exact k _ S H F (Ex.refl S) ⟨t, ws, rfl, h3, h4⟩
      · subst n
        have : ys = [] := List.eq_nil_of_length_eq_zero (by rw [← All2.length h4]; rfl)
        subst this
        exact k _ S H F (Ex.refl S) ⟨p, vs, rfl, h1, by rw [List.append_nil]; exact h2⟩
      · have ex := Ex.new (o := .tup (vs ++ ws)) (F.e1.back hu)
        exact k _ _ _ (F.new hu) ex ⟨u, _, rfl, upd_same, (h2.append h4).mono fun _ _ z => r.mono ex z⟩
    · cases ez
end
end Rt

set_option maxRecDepth 100000
set_option maxHeartbeats 4000000
/-! Rt4: data as data (==, in, repr), built-in functions over sequences. -/
namespace Rt
open PySem L2

/-! ### what the data are -/
structure Dt {α : Type} (r : Rp α) where
  d : α → PyData
  dep : Nat
  rep : ∀ {K : PySem.W.Frag} {H : Hp} {v : V} {a : α}, r.p H v a → Dp K H v (d a)
  lay : ∀ a, (d a).canLay0 = true
  le : ∀ a, (d a).depth ≤ dep
theorem canLayAll_map {α : Type} {f : α → PyData} (h : ∀ a, (f a).canLay0 = true) : ∀ xs : List α, PyData.canLayAll0 (xs.map f) = true
  | [] => by simp [PyData.canLayAll0]
  | x :: xs => by simp [PyData.canLayAll0, h x, canLayAll_map h xs]
theorem depthAll_map {α : Type} {f : α → PyData} {n : Nat} (h : ∀ a, (f a).depth ≤ n) : ∀ xs : List α, PyData.depthAll (xs.map f) ≤ n
  | [] => by simp [PyData.depthAll]
  | x :: xs => by
    have h1 := h x
    have h2 := depthAll_map h xs
    simp [PyData.depthAll]
    omega
theorem dpAll {α : Type} {r : Rp α} {f : α → PyData} {K : PySem.W.Frag} {H : Hp} (h : ∀ {v : V} {a : α}, r.p H v a → Dp K H v (f a)) : ∀ {vs : List V} {xs : List α}, All2 (r.p H) vs xs → DpAll K H vs (xs.map f)
  | [], [], _ => .nil
  | v :: vs, x :: xs, ⟨a, b⟩ => .cons (h a) (dpAll h b)
  | [], _ :: _, z => z.elim
  | _ :: _, [], z => z.elim
def dI : Dt qI := ⟨.int, 0, fun {K H v a} h => by rw [show v = .int a from h]; exact .int a, fun _ => by simp [PyData.canLay0], fun _ => by simp [PyData.depth]⟩
def dB : Dt qB := ⟨.bool, 0, fun {K H v a} h => by rw [show v = .bl a from h]; exact .bl a, fun _ => by simp [PyData.canLay0], fun _ => by simp [PyData.depth]⟩
def dN : Dt qN := ⟨fun _ => .none, 0, fun {K H v a} h => by rw [show v = .non from h]; exact .non, fun _ => by simp [PyData.canLay0], fun _ => by simp [PyData.depth]⟩
def dT {α : Type} {r : Rp α} (D : Dt r) : Dt (qT r) := ⟨fun xs => .tuple (xs.map D.d), D.dep + 1, fun {K H v a} ⟨p, vs, e, hp, h⟩ => by rw [e]; exact .tup (SqT.of hp) (dpAll D.rep h), fun xs => by simp [PyData.canLay0, canLayAll_map D.lay], fun xs => by
  have := depthAll_map D.le xs
  simp [PyData.depth]
  omega⟩
def dL {α : Type} {r : Rp α} (D : Dt r) : Dt (qL r) := ⟨fun xs => .list (xs.map D.d), D.dep + 1, fun {K H v a} ⟨p, vs, e, hp, h⟩ => by rw [e]; exact .lst (SqL.of hp) (dpAll D.rep h), fun xs => by simp [PyData.canLay0, canLayAll_map D.lay], fun xs => by
  have := depthAll_map D.le xs
  simp [PyData.depth]
  omega⟩
def dP {α β : Type} {r : Rp α} {q : Rp β} (D : Dt r) (E : Dt q) : Dt (qP r q) := ⟨fun a => .tuple [D.d a.1, E.d a.2], max D.dep E.dep + 1, fun {K H v a} ⟨p, x, y, e, hp, h1, h2⟩ => by rw [e]; exact .tup (SqT.of hp) (.cons (D.rep h1) (.cons (E.rep h2) .nil)),
  fun a => by simp [PyData.canLay0, PyData.canLayAll0, D.lay, E.lay], fun a => by
  have h1 := D.le a.1
  have h2 := E.le a.2
  simp [PyData.depth, PyData.depthAll]
  omega⟩
def dP3 {α β γ : Type} {r : Rp α} {q : Rp β} {t : Rp γ} (D : Dt r) (E : Dt q) (G : Dt t) : Dt (qP3 r q t) := ⟨fun a => .tuple [D.d a.1, E.d a.2.1, G.d a.2.2], max D.dep (max E.dep G.dep) + 1, fun {K H v a} ⟨p, x, y, z, e, hp, h1, h2, h3⟩ => by rw [e]; exact .tup (SqT.of hp) (.cons (D.rep h1) (.cons (E.rep h2) (.cons (G.rep h3) .nil))),
  fun a => by simp [PyData.canLay0, PyData.canLayAll0, D.lay, E.lay, G.lay], fun a => by
  have h1 := D.le a.1
  have h2 := E.le a.2.1
  have h3 := G.le a.2.2
  simp [PyData.depth, PyData.depthAll]
  omega⟩
theorem Dt.shaped {α : Type} {r : Rp α} (D : Dt r) (h : D.dep ≤ 64) (a : α) : SeqAt.shaped (D.d a) = true := by
  have := D.le a
  unfold SeqAt.shaped
  rw [D.lay a]
  simp
  omega
/-- any data, by the data alone -/
def qD (K : PySem.W.Frag) : Rp PyData := ⟨fun H v d => Dp K H v d, fun {H H' v a} e h => by
  have key : ∀ (d : PyData) (v : V), Dp K H v d → Dp K H' v d := by
    intro d
    refine PyData.rec (motive_1 := fun d => ∀ v, Dp K H v d → Dp K H' v d) (motive_2 := fun ds => ∀ vs, DpAll K H vs ds → DpAll K H' vs ds) (motive_3 := fun _ => True) (motive_4 := fun _ => True) ?_ ?_ ?_ ?_ ?_ ?_ ?_ ?_ ?_ ?_ ?_ ?_ d
    · intro v h; cases h; exact .non
    · intro b v h; cases h; exact .bl b
    · intro i v h; cases h; exact .int i
    · intro x v h; cases h; exact .str x
    · intro xs ih v h
      cases h with
      | lst hs ha =>
        refine .lst ?_ (ih _ ha)
        rcases hs with (hs | ⟨o, hs⟩) | hs
        · exact .inl (.inl (e _ _ hs))
        · exact .inl (.inr ⟨o, e _ _ hs⟩)
        · exact .inr hs
    · intro xs ih v h
      cases h with
      | tup hs ha =>
        refine .tup ?_ (ih _ ha)
        rcases hs with (hs | ⟨o, hs⟩) | hs
        · exact .inl (.inl (e _ _ hs))
        · exact .inl (.inr ⟨o, e _ _ hs⟩)
        · exact .inr hs
    · intro kvs _ v h; cases h
    · intro vs h; cases h; exact .nil
    · intro d ds h1 h2 vs h
      cases h with
      | cons a b => exact .cons (h1 _ a) (h2 _ b)
    · exact True.intro
    · intros; exact True.intro
    · intros; exact True.intro
  exact key a v h⟩
section
variable {X : Cx} {C : Cs} {env : Gh → List Sl} {e a b c : Expr} {es : List Expr} {pos : Pos} {α β γ δ : Type} {r ra : Rp α} {rb : Rp β} {rc : Rp γ} {m ma : W α} {mb : W β} {mc : W γ} {k : Bool}
/-- in another dress -/
theorem xe_as {f : α → β} (hf : ∀ H v a, r.p H v a → rb.p H v (f a)) (h : PE X e (tE C env r m)) : PE X e (tE C env rb (m.bind fun x => .ret (f x))) := pe_imp h fun σ H Q _ ⟨S, g0, P, F, em, k⟩ =>
  ⟨S, g0, _, F, em, fun x g1 px v S1 H1 F1 x1 hv _ => k _ _ px v S1 H1 F1 x1 (hf S1 v x hv)⟩
theorem xe_data (D : Dt r) (h : PE X e (tE C env r m)) : PE X e (tE C env (qD X.K) (m.bind fun x => .ret (D.d x))) := xe_as (rb := qD X.K) (fun H v a h => D.rep h) h
theorem Dp.up {K : PySem.W.Frag} {S H : Hp} (e : Ex S H) {d : PyData} {v : V} (h : Dp K S v d) : Dp K H v d := (qD K).mono e h
theorem cd_eq (D : Dt ra) (E : Dt rb) (hu : X.A.units + 64 < cLine) (h1 : D.dep ≤ 64 := by decide) (h2 : E.dep ≤ 64 := by decide) : CmpD X C .Eq ra rb fun x y => some (PyData.eqv (D.d x) (E.d y)) :=
  ⟨_, op_eqD hu, fun _ S H σ x y p q z Q F _ hx hy ez k => ⟨_, _, Dp.up F.e1 (D.rep hx), Dp.up F.e1 (E.rep hy), D.shaped h1 p, E.shaped h2 q, by cases ez; exact k S H F (Ex.refl S)⟩⟩
theorem cd_ne (D : Dt ra) (E : Dt rb) (hu : X.A.units + 64 < cLine) (h1 : D.dep ≤ 64 := by decide) (h2 : E.dep ≤ 64 := by decide) : CmpD X C .NotEq ra rb fun x y => some (!PyData.eqv (D.d x) (E.d y)) :=
  ⟨_, op_neD hu, fun _ S H σ x y p q z Q F _ hx hy ez k => ⟨_, _, Dp.up F.e1 (D.rep hx), Dp.up F.e1 (E.rep hy), D.shaped h1 p, E.shaped h2 q, by cases ez; exact k S H F (Ex.refl S)⟩⟩
def eqC (d e : PyData) : Option Bool := if SeqAt.shaped d = true ∧ SeqAt.shaped e = true then some (PyData.eqv d e) else none
theorem cd_eqD (hu : X.A.units + 64 < cLine) : CmpD X C .Eq (qD X.K) (qD X.K) eqC :=
  ⟨_, op_eqD hu, fun _ S H σ x y p q z Q F _ hx hy ez k => by
    unfold eqC at ez
    split at ez
    · rename_i h
      cases ez
      exact ⟨_, _, Dp.up F.e1 hx, Dp.up F.e1 hy, h.1, h.2, k S H F (Ex.refl S)⟩
    · cases ez⟩
theorem cd_neD (hu : X.A.units + 64 < cLine) : CmpD X C .NotEq (qD X.K) (qD X.K) fun d e => (eqC d e).bind fun b => some !b :=
  ⟨_, op_neD hu, fun _ S H σ x y p q z Q F _ hx hy ez k => by
    have ez : ((eqC p q).bind fun b => some !b) = some z := ez
    unfold eqC at ez
    split at ez
    · rename_i h
      cases ez
      exact ⟨_, _, Dp.up F.e1 hx, Dp.up F.e1 hy, h.1, h.2, k S H F (Ex.refl S)⟩
    · cases ez⟩
/-- is None -/
theorem xe_isN {j : Nat} {p1 : Pos} (h : PE X a (tE C env r m)) {f : α → Bool} (hf : ∀ H v x, r.p H v x → decide (v = .non) = f x) : PE X (.Compare a [.Is] [.Constant .none j p1] pos) (tE C env qB (m.bind fun x => .ret (f x))) :=
  pe_imp (pe_cmp (pc_isN h) rfl) fun σ H Q _ ⟨S, g0, P, F, em, k⟩ => ⟨S, g0, _, F, em, fun x g1 px v S1 H1 F1 x1 hv _ => k _ _ px _ S1 H1 F1 x1 (by rw [hf S1 v x hv]; rfl)⟩

/-! ### in -/
theorem flat_ints {H : Hp} : ∀ {vs : List V} {xs : List Int}, All2 (qI.p H) vs xs → vs = xs.map V.int := fun {vs xs} h => All2.map_eq (f := V.int) h
theorem flat_bls {H : Hp} : ∀ {vs : List V} {xs : List Bool}, All2 (qB.p H) vs xs → vs = xs.map V.bl := fun {vs xs} h => All2.map_eq (f := V.bl) h
theorem all_flat (xs : List Int) : (xs.map V.int).all flatV = true := by
  rw [List.all_map, List.all_eq_true]
  intro x _
  rfl
theorem inV_int (i : Int) : ∀ xs : List Int, inV (.int i) (xs.map V.int) = xs.any fun y => decide (y = i)
  | [] => rfl
  | x :: xs => by
    have ih := inV_int i xs
    unfold inV at ih ⊢
    rw [List.map_cons, List.any_cons, List.any_cons, ih]
    have : eqV (.int x) (.int i) = decide (x = i) := by
      show (x == i) = decide (x = i)
      rfl
    rw [this]
theorem cq_in {op : CmpOp} {neg : Bool} {mi : W Int} {mx : W (List Int)} (ho : OpR X (compareOp op) (rIn X.K neg)) (ha : PE X a (tE C env qI mi)) (hb : PE X b (tQ C env k qI mx)) (hm : behindInMarks op b = false) :
    PE X (.Compare a [op] [b] pos) (tE C env qB (mi.bind fun i => mx.bind fun xs => .ret (if neg then !(xs.any fun y => decide (y = i)) else xs.any fun y => decide (y = i)))) :=
  pe_imp (pe_cmpR ho ha hb hm) fun σ H Q _ ⟨S, g0, P, F, em, kk⟩ => ⟨S, g0, _, F, em, fun i g1 hi v S1 H1 F1 x1 hv => ⟨S1, g1, _, F1, hi, fun xs g2 px p S2 H2 F2 x2 rd => by
    obtain ⟨vs, hp, h2⟩ := rd _ S2 H2 F2 (Ex.refl S2)
    have ev : vs = xs.map V.int := flat_ints h2
    have hv : v = .int i := hv
    subst ev hv
    exact ⟨p, _, rfl, sq_seq hp, rfl, all_flat xs, fun _ => kk _ _ px _ S2 H2 F2 (x1.trans x2) (by rw [inV_int]; rfl)⟩⟩⟩
theorem xe_in {mi : W Int} {mx : W (List Int)} (ha : PE X a (tE C env qI mi)) (hb : PE X b (tQ C env k qI mx)) (hm : behindInMarks .In b = false := by with_unfolding_all rfl) : PE X (.Compare a [.In] [b] pos) (tE C env qB (mi.bind fun i => mx.bind fun xs => .ret (xs.any fun y => decide (y = i)))) := cq_in op_in_seq ha hb hm
theorem xe_nin {mi : W Int} {mx : W (List Int)} (ha : PE X a (tE C env qI mi)) (hb : PE X b (tQ C env k qI mx)) (hm : behindInMarks .NotIn b = false := by with_unfolding_all rfl) : PE X (.Compare a [.NotIn] [b] pos) (tE C env qB (mi.bind fun i => mx.bind fun xs => .ret !(xs.any fun y => decide (y = i)))) := cq_in op_notIn_seq ha hb hm
/-- data among data -/
def rInT (K : PySem.W.Frag) (neg : Bool) : R2 := fun x y H Q => ∃ d ds, Dp K H x d ∧ (Dp K H y (.list ds) ∧ SeqAt.shaped (.list ds) = true ∨ Dp K H y (.tuple ds) ∧ SeqAt.shaped (.tuple ds) = true) ∧ SeqAt.shaped d = true ∧ Q (.bl (if neg then !ds.any fun z => PyData.eqv z d else ds.any fun z => PyData.eqv z d)) H
theorem shaped_lt {ds : List PyData} (h : SeqAt.shaped (.list ds) = true) : SeqAt.shaped (.tuple ds) = true := by
  unfold SeqAt.shaped at h ⊢
  simpa [PyData.canLay0, PyData.depth] using h
theorem shaped_tl {ds : List PyData} (h : SeqAt.shaped (.tuple ds) = true) : SeqAt.shaped (.list ds) = true := by
  unfold SeqAt.shaped at h ⊢
  simpa [PyData.canLay0, PyData.depth] using h
theorem op_inT (hu : X.A.units + 65 < cLine) : OpR X (compareOp .In) (rInT X.K false) := by
  intro pins s σ H x y v u Q I rx ry h
  obtain ⟨d, ds, hd, he, sd, q⟩ := h
  obtain ⟨as, r1⟩ := Dp.reads I d x v hd rx
  rcases he with ⟨he, se⟩ | ⟨he, se⟩
  · obtain ⟨bs, r2⟩ := Dp.reads I (.list ds) y u he ry
    exact SeqAt.in_list_reads r2 r1 (SeqAt.canLay_of_shaped se) (SeqAt.canLay_of_shaped sd) (PyProof.Rows.room_in_shaped sd hu) ⟨.bl _, H, I, rfl, q⟩
  · obtain ⟨bs, r2⟩ := Dp.reads I (.tuple ds) y u he ry
    exact SeqAt.in_tuple_reads r2 r1 (SeqAt.canLay_of_shaped se) (SeqAt.canLay_of_shaped sd) (PyProof.Rows.room_in_shaped sd hu) ⟨.bl _, H, I, rfl, q⟩
theorem op_ninT (hu : X.A.units + 65 < cLine) : OpR X (compareOp .NotIn) (rInT X.K true) := by
  intro pins s σ H x y v u Q I rx ry h
  obtain ⟨d, ds, hd, he, sd, q⟩ := h
  obtain ⟨as, r1⟩ := Dp.reads I d x v hd rx
  rcases he with ⟨he, se⟩ | ⟨he, se⟩
  · obtain ⟨bs, r2⟩ := Dp.reads I (.list ds) y u he ry
    exact SeqAt.notIn_list_reads r2 r1 (SeqAt.canLay_of_shaped se) (SeqAt.canLay_of_shaped sd) (PyProof.Rows.room_in_shaped sd hu) ⟨.bl _, H, I, rfl, q⟩
  · obtain ⟨bs, r2⟩ := Dp.reads I (.tuple ds) y u he ry
    exact SeqAt.notIn_tuple_reads r2 r1 (SeqAt.canLay_of_shaped se) (SeqAt.canLay_of_shaped sd) (PyProof.Rows.room_in_shaped sd hu) ⟨.bl _, H, I, rfl, q⟩
theorem cq_inD {op : CmpOp} {neg : Bool} {mx : W (List β)} (D : Dt ra) (E : Dt rb) (ho : OpR X (compareOp op) (rInT X.K neg)) (ha : PE X a (tE C env ra ma)) (hb : PE X b (tQ C env k rb mx)) (hm : behindInMarks op b = false) (h1 : D.dep ≤ 64 := by decide) (h2 : E.dep < 64 := by decide) :
    PE X (.Compare a [op] [b] pos) (tE C env qB (ma.bind fun i => mx.bind fun xs => .ret (if neg then !(xs.any fun y => PyData.eqv (E.d y) (D.d i)) else xs.any fun y => PyData.eqv (E.d y) (D.d i)))) :=
  pe_imp (pe_cmpR ho ha hb hm) fun σ H Q _ ⟨S, g0, P, F, em, kk⟩ => ⟨S, g0, _, F, em, fun i g1 hi v S1 H1 F1 x1 hv => ⟨S1, g1, _, F1, hi, fun xs g2 px p S2 H2 F2 x2 rd => by
    obtain ⟨vs, hp, h3⟩ := rd _ S2 H2 F2 (Ex.refl S2)
    refine ⟨D.d i, xs.map E.d, Dp.up (x2.trans F2.e1) (D.rep hv), ?_, D.shaped h1 i, fun _ => kk _ _ px _ S2 H2 F2 (x1.trans x2) (by rw [List.any_map]; rfl)⟩
    have hall : DpAll X.K H2 vs (xs.map E.d) := dpAll (r := rb) (f := E.d) (fun h => E.rep h) (h3.mono fun _ _ z => rb.mono F2.e1 z)
    cases k with
    | true => exact .inl ⟨.lst (SqL.of hp) hall, (dL E).shaped (by show E.dep + 1 ≤ 64; omega) xs⟩
    | false => exact .inr ⟨.tup (SqT.of hp) hall, (dT E).shaped (by show E.dep + 1 ≤ 64; omega) xs⟩⟩⟩
theorem xe_inD {mx : W (List β)} (D : Dt ra) (E : Dt rb) (hu : X.A.units + 65 < cLine) (ha : PE X a (tE C env ra ma)) (hb : PE X b (tQ C env k rb mx)) (hm : behindInMarks .In b = false := by with_unfolding_all rfl) (h1 : D.dep ≤ 64 := by decide) (h2 : E.dep < 64 := by decide) :
    PE X (.Compare a [.In] [b] pos) (tE C env qB (ma.bind fun i => mx.bind fun xs => .ret (xs.any fun y => PyData.eqv (E.d y) (D.d i)))) := cq_inD D E (op_inT hu) ha hb hm h1 h2
theorem xe_ninD {mx : W (List β)} (D : Dt ra) (E : Dt rb) (hu : X.A.units + 65 < cLine) (ha : PE X a (tE C env ra ma)) (hb : PE X b (tQ C env k rb mx)) (hm : behindInMarks .NotIn b = false := by with_unfolding_all rfl) (h1 : D.dep ≤ 64 := by decide) (h2 : E.dep < 64 := by decide) :
    PE X (.Compare a [.NotIn] [b] pos) (tE C env qB (ma.bind fun i => mx.bind fun xs => .ret !(xs.any fun y => PyData.eqv (E.d y) (D.d i)))) := cq_inD D E (op_ninT hu) ha hb hm h1 h2

/-! ### built-in functions -/
/-- a call of a built-in function with one sequence -/
theorem xe_b1 {id : String} {R : List V → Hp → VK → Prop} {x : Str} {p : Pos} {mx : W (List α)} {f : List α → Option β} (hc : CallR X (.builtin id) R) (hv : bootBuiltins x = some (.builtin id)) (hg : Gl X x) (hm : X.mg x = none) (ha : PE X a (tQ C env k ra mx))
    (hr : ∀ (e0 : List Sl) S H σ p vs xs z Q, Fr C S H σ e0 → Lens H → H p = some (oSeq k vs) → All2 (ra.p S) vs xs → f xs = some z → (∀ v S' H', Fr C S' H' σ e0 → Ex S S' → rb.p S' v z → Q v H') → R [.ref p] H Q)
    (hs : starEach [a] X.env = (false, eval a X.env) :: starEach [] X.env := by rfl) (hn : x ≠ "__name__" := by decide) (hdb : (x == ("__debug__" : Str)) = false := by decide) (hpl : (backTo pos (starEach [] X.env)).any (·.1) = false := by rfl) :
    PE X (.Call (.Name x p) [a] [] pos) (tE C env rb (mx.bind fun xs => ofO (f xs))) :=
  pe_imp (pe_callB hc hg hm hv (pa_cons (tQ_len ha) pa_nil hs) hn hdb hs hpl) fun σ H Q _ ⟨S, g0, P, F, em, kk⟩ => ⟨S, g0, _, F, em, fun xs g1 ⟨z, ez, pz⟩ p S1 H1 F1 x1 rd l1 => by
    obtain ⟨vs, hp, h2⟩ := rd _ S1 H1 F1 (Ex.refl S1)
    exact hr _ S1 H1 σ p vs xs z _ F1 l1 hp h2 ez fun v S' H' F' e' hv _ => kk z _ pz v S' H' F' (x1.trans e') hv⟩
theorem xe_t1 {id : String} {R : List V → Hp → VK → Prop} {x : Str} {p : Pos} {mx : W (List α)} {f : List α → Option β} (hc : CallR X (.type id) R) (hv : bootBuiltins x = some (.type id)) (hg : Gl X x) (hm : X.mg x = none) (ha : PE X a (tQ C env k ra mx))
    (hr : ∀ (e0 : List Sl) S H σ p vs xs z Q, Fr C S H σ e0 → Lens H → H p = some (oSeq k vs) → All2 (ra.p S) vs xs → f xs = some z → (∀ v S' H', Fr C S' H' σ e0 → Ex S S' → rb.p S' v z → Q v H') → R [.ref p] H Q)
    (hs : starEach [a] X.env = (false, eval a X.env) :: starEach [] X.env := by rfl) (hn : x ≠ "__name__" := by decide) (hdb : (x == ("__debug__" : Str)) = false := by decide) (hpl : (backTo pos (starEach [] X.env)).any (·.1) = false := by rfl) :
    PE X (.Call (.Name x p) [a] [] pos) (tE C env rb (mx.bind fun xs => ofO (f xs))) :=
  pe_imp (pe_callTy hc hg hm hv (pa_cons (tQ_len ha) pa_nil hs) hn hdb hs hpl) fun σ H Q _ ⟨S, g0, P, F, em, kk⟩ => ⟨S, g0, _, F, em, fun xs g1 ⟨z, ez, pz⟩ p S1 H1 F1 x1 rd l1 => by
    obtain ⟨vs, hp, h2⟩ := rd _ S1 H1 F1 (Ex.refl S1)
    exact hr _ S1 H1 σ p vs xs z _ F1 l1 hp h2 ez fun v S' H' F' e' hv _ => kk z _ pz v S' H' F' (x1.trans e') hv⟩
/-- .. of one that can't fail -/
theorem tE_tot {f : α → β} (h : PE X e (tE C env rb (m.bind fun x => ofO (some (f x))))) : PE X e (tE C env rb (m.bind fun x => .ret (f x))) := by
  have e1 : (m.bind fun x => ofO (some (f x))) = (m.bind fun x => W.ret (f x)) := by
    funext g P
    show m g _ = m g _
    congr 1
    funext x g1
    exact congrFun (congrFun (ofO_some (f x)) g1) P
  rw [← e1]
  exact h
/-- sum of a tuple of ints -/
def rSumT (K : PySem.W.Frag) : List V → Hp → VK → Prop := fun vs H Q => ∃ (a : Addr) (ns : List Int), vs = [V.ref a] ∧ (SqL K H a (ns.map V.int) ∨ SqT K H a (ns.map V.int)) ∧ Q (.int ns.sum) H
theorem cr_sumT (hc : X.calm = true) : CallR X (.builtin "sum") (rSumT X.K) := by
  intro pins s σ H vs us Q I r h
  obtain ⟨a, ns, rfl, hs, q⟩ := h
  rcases hs with hs | hs
  · exact cr_sum hc pins s σ H _ us Q I r ⟨a, ns, rfl, hs, q⟩
  · obtain ⟨its, rv, hl, _⟩ := I.tuple hs
    rw [Vals.ref1 r]
    have hi := rv.ints
    obtain ⟨xs, e⟩ := hi.allInts.items
    have hn : numsOf (PySem.intItems xs).toList = ns := by rw [← e]; exact hi.numsOf
    rw [PySem.nums_intItems] at hn
    have hl' : s.heap.IsTuple a its.toArray := hl
    rw [e] at hl'
    refine PySem.W.ktm_sumG (I.ok.hd hc) hl' fun h' tk t' hk => ?_
    have := PySem.preSum_eq xs xs.size
    rw [PySem.preSum_eq, List.take_of_length_le (by simp), hn]
    exact ⟨.int _, H, I.kept hk, ⟨_, rfl⟩, q⟩
theorem xe_sum {p : Pos} {mx : W (List Int)} (hc : X.calm = true) (hg : Gl X "sum") (hm : X.mg "sum" = none) (ha : PE X a (tQ C env k qI mx)) (hs : starEach [a] X.env = (false, eval a X.env) :: starEach [] X.env := by rfl) :
    PE X (.Call (.Name "sum" p) [a] [] pos) (tE C env qI (mx.bind fun xs => .ret xs.sum)) :=
  tE_tot (xe_b1 (f := fun xs => some xs.sum) (cr_sumT hc) (by decide +kernel) hg hm ha (fun _ S H σ p vs xs z Q F _ hp h2 ez kk => ⟨p, xs, rfl, by rw [← flat_ints h2]; exact sq_seq hp, kk _ S H F (Ex.refl S) (by cases ez; rfl)⟩) hs)
theorem xe_all {p : Pos} {mx : W (List Bool)} (hc : X.calm = true) (hg : Gl X "all") (hm : X.mg "all" = none) (ha : PE X a (tQ C env true qB mx)) (hs : starEach [a] X.env = (false, eval a X.env) :: starEach [] X.env := by rfl) :
    PE X (.Call (.Name "all" p) [a] [] pos) (tE C env qB (mx.bind fun xs => .ret (xs.all id))) :=
  tE_tot (xe_b1 (f := fun xs => some (xs.all id)) (cr_all hc) (by decide +kernel) hg hm ha (fun _ S H σ p vs xs z Q F _ hp h2 ez kk => ⟨p, xs, rfl, by rw [← flat_bls h2]; exact SqL.of hp, kk _ S H F (Ex.refl S) (by cases ez; rfl)⟩) hs)
/-- tuple(xs) -/
theorem xe_tuple {p : Pos} {mx : W (List α)} (hg : Gl X "tuple") (hm : X.mg "tuple" = none) (ha : PE X a (tQ C env true ra mx)) (hs : starEach [a] X.env = (false, eval a X.env) :: starEach [] X.env := by rfl) :
    PE X (.Call (.Name "tuple" p) [a] [] pos) (tE C env (qT ra) mx) :=
  tE_tot (f := id) (xe_t1 (rb := qT ra) (f := some) call_tuple_of (by decide +kernel) hg hm ha (fun _ S H σ p vs xs z Q F _ hp h2 ez kk => ⟨p, vs, rfl, .inl ⟨SqL.of hp, fun l hl => by
    cases ez
    have ex := Ex.new (o := .tup vs) (F.e1.back hl)
    exact kk _ _ _ (F.new hl) ex ⟨l, vs, rfl, upd_same, h2.mono fun _ _ z => ra.mono ex z⟩⟩⟩) hs)
/-- list(xs), a new list -/
theorem xn_list {p : Pos} {mx : W (List α)} (hg : Gl X "list") (hm : X.mg "list" = none) (ha : PE X a (tQ C env k ra mx)) (hs : starEach [a] X.env = (false, eval a X.env) :: starEach [] X.env := by rfl) :
    PE X (.Call (.Name "list" p) [a] [] pos) (tN C env ra mx) :=
  pe_imp (pe_callTy call_list_of hg hm (by decide +kernel) (pa_cons ha pa_nil hs) (by decide) (by decide) hs (by rfl)) fun σ H Q _ ⟨S, g0, P, F, em, kk⟩ => ⟨S, g0, _, F, em, fun xs g1 px p S1 H1 F1 x1 rd => by
    obtain ⟨vs, hp, h2⟩ := rd _ S1 H1 F1 (Ex.refl S1)
    exact ⟨p, vs, rfl, sq_seq hp, fun l hl _ => kk _ _ px l vs S1 H1 F1 x1 hl h2⟩⟩
/-! ints: abs, int, max, min of two -/
theorem xe_int1 {p : Pos} {mi : W Int} (hg : Gl X "int") (hm : X.mg "int" = none) (ha : PE X a (tE C env qI mi)) (hs : starEach [a] X.env = (false, eval a X.env) :: starEach [] X.env := by rfl) :
    PE X (.Call (.Name "int" p) [a] [] pos) (tE C env qI mi) :=
  pe_imp (pe_callTy call_int1 hg hm (by decide +kernel) (pa_cons ha pa_nil hs) (by decide) (by decide) hs (by rfl)) fun σ H Q _ ⟨S, g0, P, F, em, kk⟩ => ⟨S, g0, _, F, em, fun i g1 pi v S1 H1 F1 x1 hv => .inl ⟨i, by rw [show v = .int i from hv], fun _ => kk _ _ pi _ S1 H1 F1 x1 rfl⟩⟩
def b2 (b : Bool) : Int := if b = true then 1 else 0
theorem xe_intB {p : Pos} {mi : W Bool} (hg : Gl X "int") (hm : X.mg "int" = none) (ha : PE X a (tE C env qB mi)) (hs : starEach [a] X.env = (false, eval a X.env) :: starEach [] X.env := by rfl) :
    PE X (.Call (.Name "int" p) [a] [] pos) (tE C env qI (mi.bind fun b => .ret (b2 b))) :=
  pe_imp (pe_callTy call_int1 hg hm (by decide +kernel) (pa_cons ha pa_nil hs) (by decide) (by decide) hs (by rfl)) fun σ H Q _ ⟨S, g0, P, F, em, kk⟩ =>
    ⟨S, g0, _, F, em, fun b g1 pb v S1 H1 F1 x1 hv => .inr ⟨b, by rw [show v = .bl b from hv], fun _ => kk _ _ pb _ S1 H1 F1 x1 rfl⟩⟩
theorem xe_abs {p : Pos} {mi : W Int} (hg : Gl X "abs") (hm : X.mg "abs" = none) (ha : PE X a (tE C env qI mi)) (hs : starEach [a] X.env = (false, eval a X.env) :: starEach [] X.env := by rfl) :
    PE X (.Call (.Name "abs" p) [a] [] pos) (tE C env qI (mi.bind fun i => .ret (i.natAbs : Int))) :=
  pe_imp (pe_callB call_abs hg hm (by decide +kernel) (pa_cons ha pa_nil hs) (by decide) (by decide) hs (by rfl)) fun σ H Q _ ⟨S, g0, P, F, em, kk⟩ =>
    ⟨S, g0, _, F, em, fun i g1 pi v S1 H1 F1 x1 hv => ⟨i, by rw [show v = .int i from hv], fun _ => kk _ _ pi _ S1 H1 F1 x1 (by
      show V.int _ = V.int _
      congr 1
      split <;> omega)⟩⟩
theorem xe_two {id : String} {x : Str} {p : Pos} {mi mj : W Int} {g : Int → Int → Int} (hc : CallR X (.builtin id) (fun xs H Q => ∃ i j, xs = [.int i, .int j] ∧ Q (.int (g i j)) H)) (hv : bootBuiltins x = some (.builtin id)) (hg : Gl X x) (hm : X.mg x = none) (ha : PE X a (tE C env qI mi)) (hb : PE X b (tE C env qI mj))
    (hs : starEach [a, b] X.env = (false, eval a X.env) :: starEach [b] X.env := by rfl) (hs2 : starEach [b] X.env = (false, eval b X.env) :: starEach [] X.env := by rfl) (hn : x ≠ "__name__" := by decide) (hdb : (x == ("__debug__" : Str)) = false := by decide) (hpl : (backTo pos (starEach [b] X.env)).any (·.1) = false := by rfl) :
    PE X (.Call (.Name x p) [a, b] [] pos) (tE C env qI (mi.bind fun i => mj.bind fun j => .ret (g i j))) :=
  pe_imp (pe_callB hc hg hm hv (pa_cons ha (pa_cons hb pa_nil hs2) hs) hn hdb hs hpl) fun σ H Q _ ⟨S, g0, P, F, em, kk⟩ =>
    ⟨S, g0, _, F, em, fun i g1 hi v S1 H1 F1 x1 hv => ⟨S1, g1, _, F1, hi, fun j g2 pj w S2 H2 F2 x2 hw => ⟨i, j, by rw [show v = .int i from hv, show w = .int j from hw], fun _ => kk _ _ pj _ S2 H2 F2 (x1.trans x2) rfl⟩⟩⟩
theorem xe_max2 {p : Pos} {mi mj : W Int} (hc : X.calm = true) (hg : Gl X "max") (hm : X.mg "max" = none) (ha : PE X a (tE C env qI mi)) (hb : PE X b (tE C env qI mj))
    (hs : starEach [a, b] X.env = (false, eval a X.env) :: starEach [b] X.env := by rfl) (hs2 : starEach [b] X.env = (false, eval b X.env) :: starEach [] X.env := by rfl) (hpl : (backTo pos (starEach [b] X.env)).any (·.1) = false := by rfl) : PE X (.Call (.Name "max" p) [a, b] [] pos) (tE C env qI (mi.bind fun i => mj.bind fun j => .ret (if j > i then j else i))) :=
  xe_two (call_max2 hc) (by decide +kernel) hg hm ha hb hs hs2 (by decide) (by decide) hpl
theorem xe_min2 {p : Pos} {mi mj : W Int} (hc : X.calm = true) (hg : Gl X "min") (hm : X.mg "min" = none) (ha : PE X a (tE C env qI mi)) (hb : PE X b (tE C env qI mj))
    (hs : starEach [a, b] X.env = (false, eval a X.env) :: starEach [b] X.env := by rfl) (hs2 : starEach [b] X.env = (false, eval b X.env) :: starEach [] X.env := by rfl) (hpl : (backTo pos (starEach [b] X.env)).any (·.1) = false := by rfl) : PE X (.Call (.Name "min" p) [a, b] [] pos) (tE C env qI (mi.bind fun i => mj.bind fun j => .ret (if j < i then j else i))) :=
  xe_two (call_min2 hc) (by decide +kernel) hg hm ha hb hs hs2 (by decide) (by decide) hpl
/-! isinstance, the class a built-in one -/
/-- the type of what stands for data -/
structure Ty {α : Type} (r : Rp α) (t : String) : Prop where
  ty : ∀ {K : PySem.W.Frag} {H : Hp} {v : V} {a : α}, r.p H v a → TyOf K H v (.type t)
theorem tyI : Ty qI "int" := ⟨fun {K H v a} h => by rw [show v = .int a from h]; exact .int a⟩
theorem tyB : Ty qB "bool" := ⟨fun {K H v a} h => by rw [show v = .bl a from h]; exact .bl a⟩
theorem tyN : Ty qN "NoneType" := ⟨fun {K H v a} h => by rw [show v = .non from h]; exact .non⟩
theorem tyS : Ty qS "str" := ⟨fun {K H v a} h => by rw [show v = .str a from h]; exact .str a⟩
theorem tyT : Ty (qT r) "tuple" := ⟨fun {K H v a} ⟨p, vs, e, hp, _⟩ => by rw [e]; exact .tup hp⟩
theorem tyL : Ty (qL r) "list" := ⟨fun {K H v a} ⟨p, vs, e, hp, _⟩ => by rw [e]; exact .lst hp⟩
theorem tyP : Ty (qP ra rb) "tuple" := ⟨fun {K H v a} ⟨p, x, y, e, hp, _⟩ => by rw [e]; exact .tup hp⟩
theorem tyP3 : Ty (qP3 ra rb rc) "tuple" := ⟨fun {K H v a} ⟨p, x, y, z, e, hp, _⟩ => by rw [e]; exact .tup hp⟩
theorem xe_isi {t n : String} {ans : Bool} {x : Str} {p p2 : Pos} (T : Ty r t) (hg : Gl X "isinstance") (hm : X.mg "isinstance" = none) (ha : PE X a (tE C env r m)) (hgx : Gl X x) (hmx : X.mg x = none) (hv : bootBuiltins x = some (.type n)) (hk : kitB t n = some ans)
    (hn : x ≠ "__name__" := by decide) (hdb : (x == ("__debug__" : Str)) = false := by decide) (hs : starEach [a, .Name x p2] X.env = (false, eval a X.env) :: starEach [.Name x p2] X.env := by rfl) (hs2 : starEach [.Name x p2] X.env = (false, eval (.Name x p2) X.env) :: starEach [] X.env := by rfl) (hpl : (backTo pos (starEach [.Name x p2] X.env)).any (·.1) = false := by rfl) :
    PE X (.Call (.Name "isinstance" p) [a, .Name x p2] [] pos) (tE C env qB (m.bind fun _ => .ret ans)) :=
  pe_imp (pe_callB call_isi hg hm (by decide +kernel) (pa_cons ha (pa_cons (pe_bltn (v := .ty n) hgx hmx hv rfl hn hdb) pa_nil hs2) hs) (by decide) (by decide) hs hpl) fun σ H Q _ ⟨S, g0, P, F, em, kk⟩ =>
    ⟨S, g0, _, F, em, fun y g1 py v S1 H1 F1 x1 hv => ⟨v, .ty n, .type t, .type n, ans, rfl, .ty n, .base (T.ty (r.mono F1.e1 hv)), kit_ty hk, fun _ => kk _ _ py _ S1 H1 F1 x1 rfl⟩⟩
/-! sorted of ints -/
def insI (x : Int) : List Int → List Int
  | [] => [x]
  | y :: ys => if x ≤ y then x :: y :: ys else y :: insI x ys
def sortI : List Int → List Int
  | [] => []
  | x :: xs => insI x (sortI xs)
theorem insI_perm (x : Int) : ∀ ys : List Int, (insI x ys).Perm (x :: ys)
  | [] => .refl _
  | y :: ys => by
    unfold insI
    split
    · exact .refl _
    · exact ((insI_perm x ys).cons y).trans (.swap x y ys)
theorem sortI_perm : ∀ xs : List Int, (sortI xs).Perm xs
  | [] => .refl _
  | x :: xs => (insI_perm x (sortI xs)).trans ((sortI_perm xs).cons x)
theorem insI_sorted (x : Int) : ∀ ys : List Int, ys.Pairwise (· ≤ ·) → (insI x ys).Pairwise (· ≤ ·)
  | [], _ => by simp [insI]
  | y :: ys, h => by
    unfold insI
    have h' := List.pairwise_cons.mp h
    split
    · rename_i hxy
      refine List.pairwise_cons.mpr ⟨fun z hz => ?_, h⟩
      rcases List.mem_cons.mp hz with e | hz
      · rw [e]; exact hxy
      · exact Int.le_trans hxy (h'.1 z hz)
    · rename_i hxy
      refine List.pairwise_cons.mpr ⟨fun z hz => ?_, insI_sorted x ys h'.2⟩
      rcases List.mem_cons.mp ((insI_perm x ys).mem_iff.mp hz) with e | hz
      · rw [e]; omega
      · exact h'.1 z hz
theorem sortI_sorted : ∀ xs : List Int, (sortI xs).Pairwise (· ≤ ·)
  | [] => .nil
  | x :: xs => insI_sorted x _ (sortI_sorted xs)
theorem sorted_unique : ∀ {xs ys : List Int}, xs.Perm ys → xs.Pairwise (· ≤ ·) → ys.Pairwise (· ≤ ·) → xs = ys
  | [], ys, h, _, _ => (List.Perm.nil_eq h)
  | x :: xs, [], h, _, _ => absurd h.length_eq (by simp)
  | x :: xs, y :: ys, h, h1, h2 => by
    have a1 := List.pairwise_cons.mp h1
    have a2 := List.pairwise_cons.mp h2
    have e : x = y := by
      have m1 : x ∈ y :: ys := h.mem_iff.mp List.mem_cons_self
      have m2 : y ∈ x :: xs := h.mem_iff.mpr List.mem_cons_self
      have l1 : y ≤ x := by
        rcases List.mem_cons.mp m1 with e | m
        · omega
        · exact a2.1 x m
      have l2 : x ≤ y := by
        rcases List.mem_cons.mp m2 with e | m
        · omega
        · exact a1.1 y m
      omega
    subst e
    rw [sorted_unique (List.Perm.cons_inv h) a1.2 a2.2]
def rSortT (K : PySem.W.Frag) : List V → Hp → VK → Prop := fun vs H Q => ∃ (a : Addr) (ns : List Int), vs = [V.ref a] ∧ SqL K H a (ns.map V.int) ∧ ∀ (p : Addr), H p = none → Q (.ref p) (upd H p (.lst ((sortI ns).map V.int)))
theorem cr_sortL : CallR X (.builtin "sorted") (rSortT X.K) := by
  intro pins s σ H vs us Q I r h
  obtain ⟨a, ns, rfl, hs, q⟩ := h
  exact cr_sortedI pins s σ H _ us Q I r ⟨a, ns, rfl, hs, fun ns' p h1 h2 hp => by
    rw [sorted_unique (h1.trans (sortI_perm ns).symm) h2 (sortI_sorted ns)]
    exact q p hp⟩
theorem xn_sorted {p : Pos} {mx : W (List Int)} (hg : Gl X "sorted") (hm : X.mg "sorted" = none) (ha : PE X a (tQ C env true qI mx)) (hs : starEach [a] X.env = (false, eval a X.env) :: starEach [] X.env := by rfl) :
    PE X (.Call (.Name "sorted" p) [a] [] pos) (tN C env qI (mx.bind fun xs => .ret (sortI xs))) :=
  pe_imp (pe_callB cr_sortL hg hm (by decide +kernel) (pa_cons ha pa_nil hs) (by decide) (by decide) hs (by rfl)) fun σ H Q _ ⟨S, g0, P, F, em, kk⟩ => ⟨S, g0, _, F, em, fun xs g1 px p S1 H1 F1 x1 rd => by
    obtain ⟨vs, hp, h2⟩ := rd _ S1 H1 F1 (Ex.refl S1)
    exact ⟨p, xs, rfl, by rw [← flat_ints h2]; exact SqL.of hp, fun l hl _ => kk _ _ px l _ S1 H1 F1 x1 hl (All2.of_map _)⟩⟩
end
end Rt

set_option maxRecDepth 100000
set_option maxHeartbeats 4000000
/-! RtE: enumerate of a tuple. -/
namespace RtE
open PySem PySem.Spec PySem.Calls PyProof.Rows L2
abbrev itT (l : Addr) : Obj := { cls := .type "tuple_iterator", data := .fields #[.ref l, .int 0 0] }
abbrev enO (n : Addr) : Obj := { cls := .type "enumerate", data := .fields #[.none, .bool false, .ref n, rawInt 0, .none, .none] }
theorem new_meets (l : Addr) (its : Array Value) :
    Meets (Builtin.«enumerate.__new__» ⟨[.type "enumerate", .ref l], []⟩) (fun _ R s => s.heap.IsTuple l its ∧
      R (.ok (.ret (.ref (s.heap.push (itT l)).objs.size))) { s with heap := (s.heap.push (itT l)).push (enO s.heap.objs.size) }) :=
  .of_wp fun prog w A R s hs => by
    obtain ⟨hp, g, d, tk, os⟩ := s
    obtain ⟨hL, h⟩ := hs
    obtain ⟨o, hl, hc, n, hd⟩ := id hL
    have hsub := sub_enumerate
    wp_walk
    refine wpAny_stack_any fun st => wpAny_pure ?_
    split
    · rename_i c _ _ _ _ _
      cases (c == Value.type "enumerate")
      · wp_walk using AutoSeq1.wpAny_loadPart' hl, wpAny_pyIter_tuple hL
        exact ⟨_, rfl, h⟩
      · wp_walk using AutoSeq1.wpAny_loadPart' hl, wpAny_pyIter_tuple hL
        exact ⟨_, rfl, h⟩
    · wp_walk using AutoSeq1.wpAny_loadPart' hl, wpAny_pyIter_tuple hL
      exact ⟨_, rfl, h⟩
section
variable {prog : Program} {w : World} {A : Around} {E : Value → Shared → Prop} {s : Shared}
theorem call_en {l : Addr} {its : Array Value} {Q : Value → Shared → Prop} (hL : s.heap.IsTuple l its)
    (h : ∀ h', IsEnum h' (s.heap.objs.size + 1) s.heap.objs.size 0 .none → h'.IsTupleIter s.heap.objs.size l 0 → h'.objs.size = s.heap.objs.size + 2 →
      (∀ b o, s.heap.get? b = some o → h'.get? b = some o) → Q (.ref (s.heap.objs.size + 1)) { s with heap := h' }) :
    wpAny (model prog w) A (call (.type "enumerate") [.ref l]) Q E s := by
  refine callType_new F.called_enumerate (by decide) (F.typeCall_enumerate_1 _) (F.newCall_enumerate_1 _) (fun obj => F.args_object_init_2 obj _) F.entry_enumerate_new (new_meets l its) ⟨hL, ?_⟩
  have hz : (s.heap.push (itT l)).objs.size = s.heap.objs.size + 1 := Heap.size_push ..
  show _ ∧ _
  rw [hz]
  have he : IsEnum ((s.heap.push (itT l)).push (enO s.heap.objs.size)) (s.heap.objs.size + 1) s.heap.objs.size 0 .none := by
    have := Heap.get?_push_size (s.heap.push (itT l)) (o := enO s.heap.objs.size) rfl
    rw [hz] at this
    exact this
  exact ⟨⟨_, he, rfl⟩, h _ he ⟨_, Heap.get?_push_of_some _ (Heap.get?_push_size _ rfl), rfl, rfl⟩ (by rw [Heap.size_push, hz]) fun b o x => Heap.get?_push_of_some _ (Heap.get?_push_of_some _ x)⟩
end
/-- a tuple's items, each in a new pair with its number -/
def ItT (K : PySem.W.Frag) (a : Addr) : It where
  go i H := ∃ (xs : List V) (x : V), SqT K H a xs ∧ xs[i]? = some x
  yld i H v H' := ∃ T x, v = .ref T ∧ H T = none ∧ H' = upd H T (.tup [.int (i : Nat), x]) ∧ ∀ xs, SqT K H a xs → xs[i]? = some x
  stop i H := ∃ xs : List V, SqT K H a xs ∧ xs.length ≤ i
theorem turn {P : Program} {w : World} {K : PySem.W.Frag} {elts : List Expr} {kk : Nat} {tpos : Pos} (a e it : Addr) :
    Turn P w K (.Tuple elts kk tpos) (ItT K a) [e, it] e (fun i h => (∃ old, IsEnum h e it ((i : Nat) : Int) old) ∧ h.IsTupleIter it a i ∧ e ≠ it) where
  mem := by simp
  obj := fun i h st b hb => by
    obtain ⟨⟨old, he⟩, ⟨o, ho, hc, hd⟩, _⟩ := st
    rcases (show b = e ∨ b = it by simpa using hb) with z | z
    · rw [z]
      exact ⟨_, he, fun v q => nomatch q⟩
    · rw [z]
      exact ⟨o, ho, fun v q => by rw [hd] at q; cases q⟩
  keep := fun i h h' st k => let ⟨⟨old, he⟩, hi, hne⟩ := st; ⟨⟨old, k e (by simp) _ he⟩, hi.at fun o q => k it (by simp) o q, hne⟩
  item := by
    intro X hP hw hK hc i pins s σ H E I hf st hg
    subst hP hw hK
    obtain ⟨⟨old, he⟩, hit, hne⟩ := st
    obtain ⟨xs, x, hq, hx⟩ := hg
    obtain ⟨its, rv, p, hz⟩ := I.tuple hq
    obtain ⟨u, hu, ru⟩ := rv.get hx
    have hel : e < s.heap.objs.size := Heap.lt_size he
    have hil : it < s.heap.objs.size := let ⟨_, q, _⟩ := hit; Heap.lt_size q
    have p' : s.heap.IsTuple a its.toArray := p
    have hat : a ≠ it := fun z => by
      obtain ⟨o1, q1, q2, _⟩ := hit
      obtain ⟨o2, q3, q4, _⟩ := p'
      rw [z, q1] at q3
      cases q3
      rw [q2] at q4
      exact absurd q4 (by decide)
    have hea : e ≠ a := fun z => by
      obtain ⟨o2, q3, q4, _⟩ := p'
      rw [← z, show s.heap.get? e = _ from he] at q3
      cases q3
      exact absurd q4 (by show ¬ (Value.type "enumerate" = Value.type "tuple"); decide)
    have D := Draws.tuple (prog := X.prog) (w := X.w) (A := X.A.in1) (I.ok.hd hc) it a hat its.toArray
    have hlt : i < its.toArray.size := by
      have := (List.getElem?_eq_some_iff.mp hu).1
      simpa using this
    refine wpAny_pyNext_enum_itemD D he ⟨hit, p'⟩ hlt hne (by simp [hne, hea]) fun x' h' tk hx' ho hst hT hsz hk => ?_
    have ex : x' = u := by
      have : its.toArray[i]? = some u := by simpa using hu
      rw [this] at hx'
      exact (Option.some.inj hx').symm
    subst ex
    refine ⟨_, rfl, wpAny_letOwnedTupleGo_enum (s := { s with heap := h', toks := tk + 1 }) ho fun h'' he' sb => ?_⟩
    have hT2 := (sb.2 _ (Nat.ne_of_gt hel)).trans hT
    have new : ObjOk X.prog X.w (upd H s.heap.objs.size (.tup [.int (i : Nat), x])) h'' s.heap.objs.size (.tup [.int (i : Nat), x]) :=
      ⟨by show 2 ≤ sizeLine; decide, [.int i tk, x'], .cons ⟨_, rfl⟩ (.cons ru .nil), ⟨_, hT2, rfl, _, rfl⟩⟩
    have I1 : Inv X pins σ (upd H s.heap.objs.size (.tup [.int (i : Nat), x])) { s with heap := h'', toks := tk + 1 } :=
      I.turnedNew (ch := [e, it]) (fun b ob hb q => (sb.2 b (fun z => hb (by simp [z]))).trans (hk b ob (fun z => hb (by simp [z])) (fun z => hb (by simp [z])) q)) hf (Nat.le_refl _) new
    refine ⟨.ref s.heap.objs.size, _, I1, rfl, ⟨_, x, rfl, I.hok.fresh (Nat.le_refl _), rfl, fun ys hy => by rw [I.tuple_inj hy hq]; exact hx⟩, ⟨⟨x', ?_⟩, hst.1.at fun o q => (sb.2 it (Ne.symm hne)).trans q, hne⟩, fun b hb => ?_⟩
    · rw [show ((i + 1 : Nat) : Int) = (i : Int) + 1 by omega]
      exact he'
    · have hb' : b < s.heap.objs.size := by
        rcases (show b = e ∨ b = it by simpa using hb) with z | z
        · rw [z]; exact hel
        · rw [z]; exact hil
      rw [upd_ne (Nat.ne_of_lt hb')]
      exact (hf b hb).1
  done := by
    intro X hP hw hK hc i pins s σ H E I hf st hg
    subst hP hw hK
    obtain ⟨⟨old, he⟩, hit, hne⟩ := st
    obtain ⟨xs, hq, hx⟩ := hg
    obtain ⟨its, rv, p, hz⟩ := I.tuple hq
    obtain ⟨f0, f1, f2, f3, f4, f5⟩ := hf it (by simp)
    have hl := rv.length
    have p' : s.heap.IsTuple a its.toArray := p
    have hat : a ≠ it := fun z => by
      obtain ⟨o1, q1, q2, _⟩ := hit
      obtain ⟨o2, q3, q4, _⟩ := p'
      rw [z, q1] at q3
      cases q3
      rw [q2] at q4
      exact absurd q4 (by decide)
    -- the iterator stands behind the last item, or at it
    have D0 : Draws X.prog X.w X.A.in1 it [it, a] i (fun _ _ => False) (fun j h => j = i ∧ h.IsTupleIter it a i ∧ h.IsTuple a its.toArray) := by
      have D := Draws.tuple (prog := X.prog) (w := X.w) (A := X.A.in1) (I.ok.hd hc) it a hat its.toArray
      refine ⟨fun j h st => D.live i h st.2, fun j h h' st k => ⟨st.1, D.frame i h h' st.2 k⟩, fun j s' Q E' hj st _ => absurd st.1 (Nat.ne_of_lt hj), fun s' Q E' st hQ => ?_⟩
      exact wpAny_nextOf_tuple_end (I.ok.hd hc) st.2.1 st.2.2 (by simp; omega) hQ
    exact wpAny_pyNext_enum_endD D0 he ⟨rfl, hit, p'⟩ fun h' eb => ⟨rfl, I.turned (t' := s.toks) (fun b o hb q => eb b o hb q) f0 f1 f3 f4 f5⟩
  self := fun A i s Q E st h => let ⟨⟨_, he⟩, _⟩ := st; wpAny_pyIter_enum he h
def iEnT (K : PySem.W.Frag) (ta : TA) : TI := fun σ H R => ta σ H fun vs H1 => ∃ a xs, vs = [.ref a] ∧ SqT K H1 a xs ∧ R (ItT K a) H1
theorem pi_en {X : Cx} {e : Expr} {ta : TA} {p pos tpos : Pos} {elts : List Expr} {kk : Nat} (hg : Gl X "enumerate") (hm : X.mg "enumerate" = none) (ha : PA X [e] ta) (hs : starEach [e] X.env = [(false, eval e X.env)] := by rfl) :
    PI X (.Tuple elts kk tpos) (.Call (.Name "enumerate" p) [e] [] pos) (iEnT X.K ta) := by
  refine ⟨fun pins s σ H R I h => ?_⟩
  refine Call_ (ld_blt I hg hm boot_enumerate (PyProof.Rows.callWith_type1 (thn (ha.run pos pins s σ H _ I h) fun us s1 ⟨vs, H1, I1, r1, q1⟩ => ?_) hs rfl))
  obtain ⟨a, xs, ex, hq, q⟩ := q1
  subst ex
  cases r1 with
  | cons r rr =>
    cases rr
    cases r
    obtain ⟨its, rv, p', hz⟩ := I1.tuple hq
    refine call_en (show s1.heap.IsTuple a its.toArray from p') fun h' he hit hsz hk => wpAny_pyIter_enum he ?_
    have I2 : Inv X pins σ H1 { s1 with heap := h' } := I1.kept (t' := s1.toks) hk
    refine ⟨s1.heap.objs.size + 1, [s1.heap.objs.size + 1, s1.heap.objs.size], _, _, H1, rfl, I2, turn a (s1.heap.objs.size + 1) s1.heap.objs.size, ⟨⟨.none, he⟩, hit, Nat.succ_ne_self _⟩, fun b hb => ?_, q⟩
    have hle : s1.heap.objs.size ≤ b := by
      rcases (show b = s1.heap.objs.size + 1 ∨ b = s1.heap.objs.size by simpa using hb) with z | z
      · rw [z]; exact Nat.le_add_right _ _
      · rw [z]; exact Nat.le_refl _
    exact I1.fpOk hle (I1.hok.fresh hle)
end RtE

set_option maxRecDepth 100000
set_option maxHeartbeats 4000000
/-! Rt5: what is walked, where it goes, comprehensions, calls of the text's own defs. -/
namespace Rt
open PySem L2

/-! ### frames, further -/
section
variable {C : Cs} {S S' H H' : Hp} {σ : St} {env : List Sl}
theorem Fr.H0none (F : Fr C S H σ env) {p : Addr} (hp : H p = none) : C.H0 p = none := by
  cases q : C.H0 p with
  | none => rfl
  | some u => exact absurd hp (F.al p (by rw [q]; exact fun z => nomatch z))
/-- a new thing, not of the data -/
theorem Fr.add (F : Fr C S H σ env) {p : Addr} {o : HO} (hp : H p = none) (nt : ∀ vs, o ≠ .tup vs := by intro _ z; cases z) : Fr C S (upd H p o) σ env := by
  refine ⟨F.e0, F.e1.trans (Ex.new hp), fun b u e n => Ex.new hp _ _ (F.e2 b u e n), F.nw, fun b h0 => ?_, F.sl.mono (Ex.refl S) (Ex.new hp) fun q hq => (F.sl.own hq).1, F.ow, F.nd, F.tc.up nt⟩
  by_cases z : b = p
  · rw [z, upd_same]
    exact fun z => nomatch z
  · rw [upd_ne z]
    exact F.al b h0
/-- a base of its own for a part of the way -/
def Cs.at (S H : Hp) (σ : St) (env : List Sl) : Cs := ⟨owns σ env, S, H⟩
theorem Fr.here (F : Fr C S H σ env) : Fr (Cs.at S H σ env) S H σ env :=
  ⟨Ex.refl S, F.e1, fun _ _ e _ => e, fun _ e _ => e, fun _ h => h, F.sl, fun p hp => .inr hp, F.nd, F.tc⟩
theorem Fr.back (F : Fr C S H σ env) (G : Fr (Cs.at S H σ env) S' H' σ env) : Fr C S' H' σ env := by
  refine ⟨F.e0.trans G.e0, G.e1, fun b o e n => ?_, fun b s0 h0 => G.nw b (F.nw b s0 h0) (F.al b h0), fun b h0 => G.al b (F.al b h0), G.sl, F.ow, G.nd, G.tc⟩
  refine G.e2 b o (F.e2 b o e n) fun hb => ?_
  rcases F.ow b hb with z | z
  · rw [z] at e
    cases e
  · exact n z
/-- other slots that hold the same: a base at which other own things are -/
theorem Fr.back2 {σ2 : St} {env2 : List Sl} (F : Fr C S H σ env) (hs : ∀ p ∈ owns σ2 env2, p ∈ owns σ env) (G : Fr (Cs.at S H σ2 env2) S' H' σ2 env2) (hsl : SlAll S' H' σ env) : Fr C S' H' σ env := by
  refine ⟨F.e0.trans G.e0, G.e1, fun b o e n => ?_, fun b s0 h0 => G.nw b (F.nw b s0 h0) (F.al b h0), fun b h0 => G.al b (F.al b h0), hsl, F.ow, F.nd, G.tc⟩
  refine G.e2 b o (F.e2 b o e n) fun hb => ?_
  rcases F.ow b (hs b hb) with z | z
  · rw [z] at e
    cases e
  · exact n z
/-- a thing outside of the data changes -/
theorem Fr.other (F : Fr C S H σ env) {p : Addr} {o o' : HO} (hp : H p = some o) (hs : S p = none) (h0 : C.H0 p = none) (ho : p ∉ owns σ env) (nt : ∀ vs, o' ≠ .tup vs := by intro _ z; cases z) : Fr C S (upd H p o') σ env := by
  refine ⟨F.e0, F.e1.mut hs, fun b u e n => ?_, F.nw, fun b h => ?_, ?_, F.ow, F.nd, F.tc.up nt⟩
  · have nb : b ≠ p := fun z => by
      rw [z, h0] at e
      cases e
    rw [upd_ne nb]
    exact F.e2 b u e n
  · by_cases z : b = p
    · rw [z, upd_same]
      exact fun z => nomatch z
    · rw [upd_ne z]
      exact F.al b h
  · have key : ∀ {σ : St} {env : List Sl}, p ∉ owns σ env → SlAll S H σ env → SlAll S (upd H p o') σ env := by
      intro σ
      induction σ with
      | nil => intro env n z; cases env with | nil => exact True.intro | cons _ _ => exact z.elim
      | cons w σ ih => intro env n z; cases env with | nil => exact z.elim | cons s env =>
          obtain ⟨z1, z2⟩ := z
          unfold owns at n
          refine ⟨?_, ih (fun q => n (List.mem_append_right _ q)) z2⟩
          have n1 : p ∉ ownOf w s := fun q => n (List.mem_append_left _ q)
          cases s with
          | un => exact True.intro
          | im r a => exact z1
          | ow r xs =>
            obtain ⟨q, vs, e, e2, e3, e4⟩ := z1
            subst e
            have : q ≠ p := fun z => n1 (by rw [z]; simp [ownOf])
            exact ⟨q, vs, rfl, e2, by rw [upd_ne this]; exact e3, e4⟩
          | iv d0 o0 =>
            obtain ⟨q, o2, e, e2, e3, e4⟩ := z1
            subst e
            have : q ≠ p := fun z => n1 (by rw [z]; simp [ownOf])
            exact ⟨q, o2, rfl, e2, by rw [upd_ne this]; exact e3, e4⟩
          | ob q0 a0 =>
            obtain ⟨q, o2, e, e2, e3, e4⟩ := z1
            subst e
            have : q ≠ p := fun z => n1 (by rw [z]; simp [ownOf])
            exact ⟨q, o2, rfl, e2, by rw [upd_ne this]; exact e3, e4⟩
    exact key ho F.sl
/-- behind a call of a def that changes nothing -/
theorem Fr.call (F : Fr C S H σ env) (eS : Ex S S') (e1 : Ex S' H') (eH : Ex H H') (n : ∀ b, S b = none → H b ≠ none → S' b = none) (t : Tc S' H') : Fr C S' H' σ env := by
  refine ⟨F.e0.trans eS, e1, fun b o e m => eH _ _ (F.e2 b o e m), fun b s0 h0 => n b (F.nw b s0 h0) (F.al b h0), fun b h0 => ?_, F.sl.mono eS eH fun p hp => ?_, F.ow, F.nd, t⟩
  · have := F.al b h0
    cases q : H b with
    | none => exact absurd q this
    | some u => rw [eH _ _ q]; exact fun z => nomatch z
  · obtain ⟨a, o, e⟩ := F.sl.own hp
    exact n p a (by rw [e]; exact fun z => nomatch z)
end

/-! ### what is walked -/
structure Wk {α : Type} (J : It) (re : Rp α) (xs : List α) (S0 : Hp) : Prop where
  len : xs.length ≤ sizeLine
  go : ∀ {C S H σ env} (i : Nat), i < xs.length → Fr C S H σ env → Ex S0 S → J.go i H
  yld : ∀ {C S H σ env} (i : Nat) (x : V) (H' : Hp) (a : α), Fr C S H σ env → Ex S0 S → J.yld i H x H' → xs[i]? = some a → ∃ S', Fr C S' H' σ env ∧ Ex S S' ∧ Ex H H' ∧ (∀ b, S b = none → H b ≠ none → S' b = none) ∧ re.p S' x a
  stop : ∀ {C S H σ env} (i : Nat), xs.length ≤ i → Fr C S H σ env → Ex S0 S → J.stop i H
def tS (C : Cs) (env : Gh → List Sl) {α : Type} (re : Rp α) (m : W (List α)) : TI := fun σ H R => ∃ S g P, Fr C S H σ (env g) ∧ m g P ∧ ∀ xs g', P xs g' → ∀ J S' H', Fr C S' H' σ (env g') → Ex S S' → Wk J re xs S' → R J H'
/-- what a target does to the data -/
structure Up (α : Type) where
  f : α → List Sl → List Sl
  js : List Nat
  ok : ∀ a env i, i ∉ js → (f a env)[i]? = env[i]?
section
variable {X : Cx} {C : Cs} {env : Gh → List Sl} {e a b c tg iter : Expr} {es : List Expr} {pos : Pos} {α β γ δ : Type} {r ra re : Rp α} {rb : Rp β} {rc : Rp γ} {m ma : W α} {mb : W β} {mc : W γ} {k : Bool}
theorem pi_imp {wi wi' : TI} (h : PI X tg e wi) (hi : ∀ σ H R, Lens H → wi' σ H R → wi σ H R) : PI X tg e wi' := ⟨fun pins s σ H R I q => h.run pins s σ H R I (hi σ H R (Lens.of I) q)⟩
/-- a list, a tuple that nobody changes -/
theorem wk_seq {K : PySem.W.Frag} {p : Addr} {vs : List V} {xs : List α} {S0 : Hp} (hl : vs.length ≤ sizeLine) (hp : S0 p = some (oSeq k vs)) (h : All2 (re.p S0) vs xs) : Wk (if k = true then Itl K p else Itt K p) re xs S0 := by
  have uq : ∀ {H : Hp} {ys : List V}, H p = some (oSeq k vs) → (if k = true then SqL K H p ys else SqT K H p ys) → (∀ o, K.lookup p = some o → False) → ys = vs := by
    intro H ys h1 h2 hk
    cases k with
    | true =>
      rcases h2 with (h2 | ⟨o, h2⟩) | ⟨o, _, _, h2, _⟩
      · rw [h1] at h2; cases h2; rfl
      · rw [h1] at h2; cases h2
      · exact (hk o h2).elim
    | false =>
      rcases h2 with (h2 | ⟨o, h2⟩) | ⟨o, _, _, h2, _⟩
      · rw [h1] at h2; cases h2; rfl
      · rw [h1] at h2; cases h2
      · exact (hk o h2).elim
  have at_ : ∀ {C S H σ env}, Fr C S H σ env → Ex S0 S → H p = some (oSeq k vs) := fun F e => F.e1 _ _ (e _ _ hp)
  have l := All2.length h
  refine ⟨by rw [← l]; exact hl, fun {C S H σ env} i hi F e => ?_, fun {C S H σ env} i x H' y F e hy ha => ?_, fun {C S H σ env} i hi F e => ?_⟩
  · have hv : i < vs.length := by omega
    cases k with
    | true => exact ⟨vs, vs[i], SqL.of (at_ F e), by simp [hv]⟩
    | false => exact ⟨vs, vs[i], SqT.of (at_ F e), by simp [hv]⟩
  · obtain ⟨v, hv, hr⟩ := All2.get i h ha
    cases k with
    | true =>
      obtain ⟨eH, hq⟩ := hy
      have q := hq vs (SqL.of (at_ F e))
      rw [hv] at q
      cases q
      subst eH
      exact ⟨S, F, Ex.refl S, Ex.refl _, fun _ z _ => z, re.mono e hr⟩
    | false =>
      obtain ⟨eH, hq⟩ := hy
      have q := hq vs (SqT.of (at_ F e))
      rw [hv] at q
      cases q
      subst eH
      exact ⟨S, F, Ex.refl S, Ex.refl _, fun _ z _ => z, re.mono e hr⟩
  · cases k with
    | true => exact ⟨vs, SqL.of (at_ F e), by omega⟩
    | false => exact ⟨vs, SqT.of (at_ F e), by omega⟩
theorem xi_seq {mx : W (List α)} (h : PE X iter (tE C env (qSeq k re) mx)) : PI X tg iter (tS C env re mx) := by
  have h' := tE_len h
  cases k with
  | true =>
    refine pi_imp (pi_list h') fun σ H R _ ⟨S, g0, P, F, em, q⟩ => ⟨S, g0, P, F, em, fun xs g' px v S' H' F' eS ⟨p, vs, ev, hp, ha⟩ l => ⟨p, ev, ⟨vs, SqL.of (F'.e1 _ _ hp)⟩, ?_⟩⟩
    exact q xs _ px _ S' H' F' eS (wk_seq (k := true) (l p true vs (F'.e1 _ _ hp)) hp ha)
  | false =>
    refine pi_imp (pi_tup h') fun σ H R _ ⟨S, g0, P, F, em, q⟩ => ⟨S, g0, P, F, em, fun xs g' px v S' H' F' eS ⟨p, vs, ev, hp, ha⟩ l => ⟨p, ev, ⟨vs, SqT.of (F'.e1 _ _ hp)⟩, ?_⟩⟩
    exact q xs _ px _ S' H' F' eS (wk_seq (k := false) (l p false vs (F'.e1 _ _ hp)) hp ha)
/-- ranges -/
def irange (a b : Int) : List Int := (List.range (b - a).toNat).map fun i => a + (i : Nat)
def rngC (a b : Int) : Option (List Int) := if -1000000 ≤ a ∧ a ≤ 1000000 ∧ -1000000 ≤ b ∧ b ≤ 1000000 then some (irange a b) else none
theorem irange_length (a b : Int) : (irange a b).length = (b - a).toNat := by unfold irange; rw [List.length_map, List.length_range]
theorem irange_get {a b : Int} {i : Nat} {x : Int} (h : (irange a b)[i]? = some x) : x = a + (i : Nat) := by
  unfold irange at h
  rw [List.getElem?_map] at h
  cases q : (List.range (b - a).toNat)[i]? with
  | none => rw [q] at h; cases h
  | some j =>
    rw [q] at h
    have : j = i := by
      obtain ⟨h1, h2⟩ := List.getElem?_eq_some_iff.mp q
      simpa using h2.symm
    subst this
    exact (Option.some.inj h).symm
theorem wk_rng {lo hi : Int} {n : Nat} {S0 : Hp} (hn : n = (hi - lo).toNat) (hl : n ≤ sizeLine) : Wk (Itr lo n) qI (irange lo hi) S0 := by
  have l := irange_length lo hi
  refine ⟨by rw [l, ← hn]; exact hl, fun {C S H σ env} i hi' F e => ?_, fun {C S H σ env} i x H' y F e hy ha => ?_, fun {C S H σ env} i hi' F e => ?_⟩
  · show i < n
    omega
  · obtain ⟨eH, ex⟩ := hy
    subst eH
    refine ⟨S, F, Ex.refl S, Ex.refl _, fun _ z _ => z, ?_⟩
    show x = V.int y
    rw [ex, irange_get ha]
  · show n ≤ i
    omega
theorem rngC_some {i j : Int} {xs : List Int} (h : rngC i j = some xs) : xs = irange i j ∧ -1000000 ≤ i ∧ i ≤ 1000000 ∧ -1000000 ≤ j ∧ j ≤ 1000000 := by
  unfold rngC at h
  split at h
  · rename_i hc
    exact ⟨(Option.some.inj h).symm, hc⟩
  · cases h
theorem xi_rng1 {mi : W Int} {p : Pos} (hg : Gl X "range") (hm : X.mg "range" = none) (ha : PE X a (tE C env qI mi)) (hs : starEach [a] X.env = (false, eval a X.env) :: starEach [] X.env := by rfl) (hs' : starEach [a] X.env = [(false, eval a X.env)] := by rfl) :
    PI X tg (.Call (.Name "range" p) [a] [] pos) (tS C env qI (mi.bind fun i => ofO (rngC 0 i))) :=
  pi_imp (pi_range1 hg hm (pa_cons ha pa_nil hs) hs') fun σ H R _ ⟨S, g0, P, F, em, q⟩ => ⟨S, g0, _, F, em, fun i g1 ⟨z, ez, pz⟩ v S1 H1 F1 x1 hv => by
    obtain ⟨rfl, h1, h2, h3, h4⟩ := rngC_some ez
    refine ⟨i, by rw [show v = .int i from hv], by omega, by omega, ?_⟩
    exact q _ _ pz _ S1 H1 F1 x1 (wk_rng (by omega) (by rw [sizeLine_eq]; omega))⟩
theorem xi_rng2 {mi mj : W Int} {p : Pos} (hg : Gl X "range") (hm : X.mg "range" = none) (ha : PE X a (tE C env qI mi)) (hb : PE X b (tE C env qI mj)) (hs : starEach [a, b] X.env = (false, eval a X.env) :: starEach [b] X.env := by rfl) (hsb : starEach [b] X.env = (false, eval b X.env) :: starEach [] X.env := by rfl)
    (hs' : starEach [a, b] X.env = [(false, eval a X.env), (false, eval b X.env)] := by rfl) (hs2 : starEach [b] X.env = [(false, eval b X.env)] := by rfl) :
    PI X tg (.Call (.Name "range" p) [a, b] [] pos) (tS C env qI (mi.bind fun i => mj.bind fun j => ofO (rngC i j))) :=
  pi_imp (pi_range2 hg hm (pa_cons ha (pa_cons hb pa_nil hsb) hs) hs' hs2) fun σ H R _ ⟨S, g0, P, F, em, q⟩ => ⟨S, g0, _, F, em, fun i g1 hi v S1 H1 F1 x1 hv => ⟨S1, g1, _, F1, hi, fun j g2 ⟨z, ez, pz⟩ w S2 H2 F2 x2 hw => by
    obtain ⟨rfl, h1, h2, h3, h4⟩ := rngC_some ez
    refine ⟨i, j, by rw [show v = .int i from hv, show w = .int j from hw], by omega, ?_⟩
    exact q _ _ pz _ S2 H2 F2 (x1.trans x2) (wk_rng rfl (by rw [sizeLine_eq]; omega))⟩⟩
/-- enumerate -/
def enumI {α : Type} (xs : List α) : List (Int × α) := xs.zipIdx.map fun p => ((p.2 : Nat), p.1)
theorem enumI_get {xs : List α} {i : Nat} {y : Int × α} (h : (enumI xs)[i]? = some y) : y.1 = (i : Nat) ∧ xs[i]? = some y.2 := by
  unfold enumI at h
  rw [List.getElem?_map, List.getElem?_zipIdx] at h
  cases q : xs[i]? with
  | none => rw [q] at h; cases h
  | some x =>
    rw [q] at h
    have := Option.some.inj h
    subst this
    simp
theorem enumI_len (xs : List α) : (enumI xs).length = xs.length := by unfold enumI; rw [List.length_map, List.length_zipIdx]
theorem wk_new {J : It} {xs : List α} {S0 : Hp} (hl : xs.length ≤ sizeLine) (hg : ∀ {C S H σ env} (i : Nat), i < xs.length → Fr C S H σ env → Ex S0 S → J.go i H) (hs : ∀ {C S H σ env} (i : Nat), xs.length ≤ i → Fr C S H σ env → Ex S0 S → J.stop i H)
    (hy : ∀ {C S H σ env} (i : Nat) (x : V) (H' : Hp) (a : α), Fr C S H σ env → Ex S0 S → J.yld i H x H' → xs[i]? = some a → ∃ T o, x = .ref T ∧ H T = none ∧ H' = upd H T o ∧ re.p (upd S T o) x a) : Wk J re xs S0 :=
  ⟨hl, hg, fun {C S H σ env} i x H' a F e hj ha => by
    obtain ⟨T, o, ex, hT, eH, hr⟩ := hy i x H' a F e hj ha
    subst eH
    refine ⟨_, F.new hT, Ex.new (F.e1.back hT), Ex.new hT, fun b z1 z2 => ?_, hr⟩
    rw [upd_ne (fun z => z2 (by rw [z]; exact hT))]
    exact z1, hs⟩
theorem xi_enT {elts : List Expr} {kk : Nat} {tpos p : Pos} {mx : W (List α)} (hg : Gl X "enumerate") (hm : X.mg "enumerate" = none) (ha : PE X a (tE C env (qT re) mx)) (hs : starEach [a] X.env = (false, eval a X.env) :: starEach [] X.env := by rfl) (hs' : starEach [a] X.env = [(false, eval a X.env)] := by rfl) :
    PI X (.Tuple elts kk tpos) (.Call (.Name "enumerate" p) [a] [] pos) (tS C env (qP qI re) (mx.bind fun xs => .ret (enumI xs))) := by
  refine pi_imp (RtE.pi_en hg hm (pa_cons (tE_len ha) pa_nil hs) hs') fun σ H R _ ⟨S, g0, P, F, em, q⟩ => ?_
  refine ⟨S, g0, _, F, em, fun xs g1 px v S1 H1 F1 x1 ⟨p, vs, ev, hp, h2⟩ l => ?_⟩
  subst ev
  have at_ : ∀ {C S H σ env}, Fr C S H σ env → Ex S1 S → H p = some (.tup vs) := fun F e => F.e1 _ _ (e _ _ hp)
  have ll := All2.length h2
  refine ⟨p, vs, rfl, SqT.of (F1.e1 _ _ hp), q _ _ px _ S1 H1 F1 x1 (wk_new (by rw [enumI_len, ← ll]; exact l p false vs (F1.e1 _ _ hp)) (fun {C S H σ env} i hi F e => ?_) (fun {C S H σ env} i hi F e => ?_) fun {C S H σ env} i x H' y F e hy ha => ?_)⟩
  · rw [enumI_len] at hi
    have hv : i < vs.length := by omega
    exact ⟨vs, vs[i], SqT.of (at_ F e), by simp [hv]⟩
  · rw [enumI_len] at hi
    exact ⟨vs, SqT.of (at_ F e), by omega⟩
  · obtain ⟨T, v, ev, hT, eH, hq⟩ := hy
    obtain ⟨y1, y2⟩ := enumI_get ha
    obtain ⟨w, hw, hr⟩ := All2.get i h2 y2
    have := hq vs (SqT.of (at_ F e))
    rw [hw] at this
    cases this
    exact ⟨T, _, ev, hT, eH, T, .int (i : Nat), _, ev, upd_same, by rw [y1]; rfl, re.mono (e.trans (Ex.new (F.e1.back hT))) hr⟩
theorem xi_enL {elts : List Expr} {kk : Nat} {tpos p : Pos} {mx : W (List α)} (hg : Gl X "enumerate") (hm : X.mg "enumerate" = none) (ha : PE X a (tE C env (qL re) mx)) (hs : starEach [a] X.env = (false, eval a X.env) :: starEach [] X.env := by rfl) (hs' : starEach [a] X.env = [(false, eval a X.env)] := by rfl) :
    PI X (.Tuple elts kk tpos) (.Call (.Name "enumerate" p) [a] [] pos) (tS C env (qP qI re) (mx.bind fun xs => .ret (enumI xs))) := by
  refine pi_imp (pi_enum hg hm (pa_cons (tE_len ha) pa_nil hs) hs') fun σ H R _ ⟨S, g0, P, F, em, q⟩ => ?_
  refine ⟨S, g0, _, F, em, fun xs g1 px v S1 H1 F1 x1 ⟨p, vs, ev, hp, h2⟩ l => ?_⟩
  subst ev
  have at_ : ∀ {C S H σ env}, Fr C S H σ env → Ex S1 S → H p = some (.lst vs) := fun F e => F.e1 _ _ (e _ _ hp)
  have ll := All2.length h2
  refine ⟨p, vs, rfl, SqL.of (F1.e1 _ _ hp), q _ _ px _ S1 H1 F1 x1 (wk_new (by rw [enumI_len, ← ll]; exact l p true vs (F1.e1 _ _ hp)) (fun {C S H σ env} i hi F e => ?_) (fun {C S H σ env} i hi F e => ?_) fun {C S H σ env} i x H' y F e hy ha => ?_)⟩
  · rw [enumI_len] at hi
    have hv : i < vs.length := by omega
    exact ⟨vs, vs[i], SqL.of (at_ F e), by simp [hv]⟩
  · rw [enumI_len] at hi
    exact ⟨vs, SqL.of (at_ F e), by omega⟩
  · obtain ⟨T, v, ev, hT, eH, hq⟩ := hy
    obtain ⟨y1, y2⟩ := enumI_get ha
    obtain ⟨w, hw, hr⟩ := All2.get i h2 y2
    have := hq vs (SqL.of (at_ F e))
    rw [hw] at this
    cases this
    exact ⟨T, _, ev, hT, eH, T, .int (i : Nat), _, ev, upd_same, by rw [y1]; rfl, re.mono (e.trans (Ex.new (F.e1.back hT))) hr⟩
/-! ### where it goes -/
def tG (re : Rp α) (up : Up α) : TG := fun v σ H Q => ∃ C S env a, Fr C S H σ env ∧ re.p S v a ∧ ∀ σ', σ'.length = σ.length → (∀ i, i ∉ up.js → σ'[i]? = σ[i]?) → Fr C S H σ' (up.f a env) → Q σ' H
def uN (i : Nat) (re : Rp α) : Up α := ⟨fun a env => env.set i (.im re a), [i], fun a env j hj => by simp at hj; exact List.getElem?_set_ne (Ne.symm hj)⟩
def uP (u1 : Up α) (u2 : Up β) : Up (α × β) := ⟨fun x env => u2.f x.2 (u1.f x.1 env), u1.js ++ u2.js, fun x env j hj => by
  simp at hj
  rw [u2.ok _ _ j hj.2, u1.ok _ _ j hj.1]⟩
def uP3 (u1 : Up α) (u2 : Up β) (u3 : Up γ) : Up (α × β × γ) := uP u1 (uP u2 u3)
theorem xg_name {i : Nat} (h : PG X tg (gName i)) : PG X tg (tG re (uN i re)) := ⟨fun pins s σ H v u Q I r ⟨C, S, env, a, F, hr, q⟩ =>
  h.run pins s σ H v u Q I r (q _ (List.length_set ..) (fun j hj => List.getElem?_set_ne (fun z => hj (by rw [← z]; exact List.mem_singleton.mpr rfl))) (F.setIm i hr))⟩
theorem pgs_imp {es : List Expr} {t t' : TGs} (h : PGs X es t) (hi : ∀ vs σ H Q, t' vs σ H Q → t vs σ H Q) : PGs X es t' := ⟨fun pins s σ H vs us Q I r q => h.run pins s σ H vs us Q I r (hi _ _ _ _ q)⟩
theorem pg_imp {t t' : TG} (h : PG X tg t) (hi : ∀ v σ H Q, t' v σ H Q → t v σ H Q) : PG X tg t' := ⟨fun pins s σ H v u Q I r q => h.run pins s σ H v u Q I r (hi _ _ _ _ q)⟩
variable {up1 : Up α} {up2 : Up β} {up3 : Up γ}
theorem xg_pair {kk : Nat} (hc : X.calm = true) (h1 : PG X a (tG ra up1)) (h2 : PG X b (tG rb up2))
    (hs : (assignEach [a, b] X.env).map (·.2) = assign a X.env :: (assignEach [b] X.env).map (·.2) := by rfl) (hs2 : (assignEach [b] X.env).map (·.2) = assign b X.env :: (assignEach [] X.env).map (·.2) := by rfl)
    (hn : (assignEach [a, b] X.env).length = 2 := by rfl) (hst : (assignEach [a, b] X.env).findIdx? (·.1) = none := by rfl) :
    PG X (.Tuple [a, b] kk pos) (tG (qP ra rb) (uP up1 up2)) :=
  pg_imp (pg_tup hc (pgs_cons h1 (pgs_cons h2 pgs_nil hs2) hs) hn hst) fun v σ H Q ⟨C, S, env, x, F, ⟨p, v1, v2, ev, hp, r1, r2⟩, q⟩ =>
    ⟨p, [v1, v2], ev, SqT.of (F.e1 _ _ hp), rfl, v1, [v2], rfl, C, S, env, x.1, F, r1, fun σ1 l1 n1 F1 => ⟨v2, [], rfl, C, S, _, x.2, F1, r2, fun σ2 l2 n2 F2 => ⟨rfl, q σ2 (l2.trans l1) (fun i hi => by
      have hi : i ∉ up1.js ++ up2.js := hi
      simp at hi
      rw [n2 i hi.2, n1 i hi.1]) F2⟩⟩⟩
theorem xg_triple {kk : Nat} (hc : X.calm = true) (h1 : PG X a (tG ra up1)) (h2 : PG X b (tG rb up2)) (h3 : PG X c (tG rc up3))
    (hs : (assignEach [a, b, c] X.env).map (·.2) = assign a X.env :: (assignEach [b, c] X.env).map (·.2) := by rfl) (hs2 : (assignEach [b, c] X.env).map (·.2) = assign b X.env :: (assignEach [c] X.env).map (·.2) := by rfl) (hs3 : (assignEach [c] X.env).map (·.2) = assign c X.env :: (assignEach [] X.env).map (·.2) := by rfl)
    (hn : (assignEach [a, b, c] X.env).length = 3 := by rfl) (hst : (assignEach [a, b, c] X.env).findIdx? (·.1) = none := by rfl) :
    PG X (.Tuple [a, b, c] kk pos) (tG (qP3 ra rb rc) (uP3 up1 up2 up3)) :=
  pg_imp (pg_tup hc (pgs_cons h1 (pgs_cons h2 (pgs_cons h3 pgs_nil hs3) hs2) hs) hn hst) fun v σ H Q ⟨C, S, env, x, F, ⟨p, v1, v2, v3, ev, hp, r1, r2, r3⟩, q⟩ =>
    ⟨p, [v1, v2, v3], ev, SqT.of (F.e1 _ _ hp), rfl, v1, [v2, v3], rfl, C, S, env, x.1, F, r1, fun σ1 l1 n1 F1 => ⟨v2, [v3], rfl, C, S, _, x.2.1, F1, r2, fun σ2 l2 n2 F2 => ⟨v3, [], rfl, C, S, _, x.2.2, F2, r3, fun σ3 l3 n3 F3 => ⟨rfl, q σ3 (l3.trans (l2.trans l1)) (fun i hi => by
      have hi : i ∉ up1.js ++ (up2.js ++ up3.js) := hi
      simp at hi
      rw [n3 i hi.2.2, n2 i hi.2.1, n1 i hi.1]) F3⟩⟩⟩⟩

/-! ### comprehensions -/
def wipeE (env : List Sl) : List Nat → List Sl
  | [] => env
  | v :: vs => (wipeE env vs).set v .un
theorem owns_wipe {σ : St} {env : List Sl} : ∀ (vs : List Nat) {p : Addr}, p ∈ owns (wipe σ vs) (wipeE env vs) → p ∈ owns σ env
  | [], _, h => h
  | v :: vs, p, h => by
    unfold wipe wipeE at h
    rcases owns_set v h with h | h
    · exact owns_wipe vs h
    · cases h
theorem Fr.wipe {S H : Hp} {σ : St} {env : List Sl} (F : Fr C S H σ env) : ∀ vs : List Nat, Fr C S H (wipe σ vs) (wipeE env vs)
  | [] => F
  | v :: vs => by
    unfold L2.wipe wipeE
    exact (Fr.wipe F vs).setUn v none
theorem wipe_in {σ : St} {x : Option V} {i : Nat} : ∀ {vs : List Nat}, i ∈ vs → wipe (σ.set i x) vs = wipe σ vs
  | v :: vs, h => by
    unfold L2.wipe
    by_cases hv : i ∈ vs
    · rw [wipe_in hv]
    · have e : i = v := (List.mem_cons.mp h).resolve_right hv
      subst e
      have key : ∀ vs : List Nat, (wipe (σ.set i x) vs).set i none = (wipe σ vs).set i none := by
        intro vs
        induction vs with
        | nil => simp [L2.wipe]
        | cons w ws ih =>
          unfold L2.wipe
          by_cases hw : w = i
          · subst hw
            rw [List.set_set, List.set_set, ih]
          · rw [List.set_comm _ _ hw, List.set_comm _ _ hw, ih]
      exact key vs
/-- slots that are the same but for some that are wiped -/
theorem wipe_same {σ σ' : St} {vs : List Nat} (hl : σ'.length = σ.length) (h : ∀ i, i ∉ vs → σ'[i]? = σ[i]?) : wipe σ' vs = wipe σ vs := by
  refine List.ext_getElem? fun i => ?_
  have key : ∀ (τ : St) (vs : List Nat), (wipe τ vs)[i]? = if i ∈ vs ∧ i < τ.length then some none else τ[i]? := by
    intro τ vs
    induction vs with
    | nil => simp [L2.wipe]
    | cons w ws ih =>
      unfold L2.wipe
      by_cases hw : w = i
      · subst hw
        by_cases hi : w < τ.length
        · rw [List.getElem?_set_self (by rw [wipe_length]; exact hi)]
          simp [hi]
        · rw [List.getElem?_eq_none (by rw [List.length_set, wipe_length]; omega)]
          simp [hi]
      · rw [List.getElem?_set_ne hw, ih]
        have : i ∈ w :: ws ↔ i ∈ ws := by
          simp
          exact fun z => absurd z.symm hw
        simp only [this]
  rw [key, key, hl]
  by_cases hi : i ∈ vs
  · by_cases hl2 : i < σ.length
    · simp [hi, hl2]
    · have h1 : σ.length ≤ i := by omega
      simp [hi, hl2, List.getElem?_eq_none h1, List.getElem?_eq_none (show σ'.length ≤ i by rw [hl]; exact h1)]
  · simp [hi]
    exact h i hi
/-- [f x for x in xs if c x] -/
def lcW {α β : Type} (c : α → W Bool) (f : α → W β) : List α → W (List β)
  | [] => .ret []
  | x :: xs => (c x).bind fun b => if b = true then (f x).bind fun y => (lcW c f xs).bind fun ys => .ret (y :: ys) else lcW c f xs
/-- .. reckoned -/
def lcO {α β : Type} (c : α → Option Bool) (f : α → Option β) : List α → Option (List β)
  | [] => some []
  | x :: xs => (c x).bind fun b => if b = true then (f x).bind fun y => (lcO c f xs).bind fun ys => some (y :: ys) else lcO c f xs
theorem ofO_lc {α β : Type} (c : α → Option Bool) (f : α → Option β) : ∀ xs : List α, ofO (lcO c f xs) = lcW (fun x => ofO (c x)) (fun x => ofO (f x)) xs
  | [] => ofO_some []
  | x :: xs => by
    unfold lcO lcW
    rw [ofO_bind]
    congr 1
    funext b
    rw [ofO_if]
    congr 1
    · rw [ofO_bind]
      congr 1
      funext y
      rw [ofO_bind, ofO_lc c f xs]
      congr 1
      funext ys
      exact ofO_some _
    · exact ofO_lc c f xs
/-- the slots that are wiped hold no own things -/
def wipeOk (env : List Sl) (vs : List Nat) : Bool := vs.all fun i => match env[i]? with
  | some (.ow _ _) => false
  | some (.iv _ _) => false
  | some (.ob _ _) => false
  | _ => true
theorem SlAll.of_get {S H : Hp} : ∀ {σ : St} {env : List Sl}, σ.length = env.length → (∀ (i : Nat) v s, σ[i]? = some v → env[i]? = some s → SlOk S H v s) → SlAll S H σ env
  | [], [], _, _ => True.intro
  | v :: σ, s :: env, h, f => ⟨f 0 v s rfl rfl, SlAll.of_get (by simpa using h) fun i v s h1 h2 => f (i + 1) v s (by simpa using h1) (by simpa using h2)⟩
  | [], _ :: _, h, _ => by simp at h
  | _ :: _, [], h, _ => by simp at h
/-- the same but for what the shared object holds -/
inductive Gs : List Sl → List Sl → Prop
  | nil : Gs [] []
  | keep {s : Sl} {a b : List Sl} : Gs a b → Gs (s :: a) (s :: b)
  | gh {d : Addr} {o o' : HO} {a b : List Sl} : Gs a b → Gs (.iv d o :: a) (.iv d o' :: b)
theorem Gs.owns {a b : List Sl} (h : Gs a b) : ∀ σ : St, owns σ a = owns σ b := by
  induction h with
  | nil => intro σ; rfl
  | keep h ih => intro σ; cases σ with
    | nil => rfl
    | cons v σ => show ownOf v _ ++ Rt.owns σ _ = ownOf v _ ++ Rt.owns σ _; rw [ih σ]
  | gh h ih => intro σ; cases σ with
    | nil => rfl
    | cons v σ => show ownOf v _ ++ Rt.owns σ _ = ownOf v _ ++ Rt.owns σ _; rw [ih σ]; cases v with
      | none => rfl
      | some v => cases v <;> rfl
theorem Gs.get {a b : List Sl} (h : Gs a b) : ∀ i : Nat, a[i]? = b[i]? ∨ ∃ d o o', a[i]? = some (.iv d o) ∧ b[i]? = some (.iv d o') := by
  induction h with
  | nil => intro i; exact .inl rfl
  | keep h ih => intro i; cases i with
    | zero => exact .inl rfl
    | succ i => simpa using ih i
  | gh h ih => intro i; cases i with
    | zero => exact .inr ⟨_, _, _, rfl, rfl⟩
    | succ i => simpa using ih i
theorem Gs.length {a b : List Sl} (h : Gs a b) : a.length = b.length := by
  induction h with
  | nil => rfl
  | keep h ih => simp [ih]
  | gh h ih => simp [ih]
theorem Fr.backG {C : Cs} {S H S' H' : Hp} {σ : St} {env env' : List Sl} (F : Fr C S H σ env) (e : owns σ env' = owns σ env) (G : Fr (Cs.at S H σ env) S' H' σ env') : Fr C S' H' σ env' := by
  refine ⟨F.e0.trans G.e0, G.e1, fun b o e n => ?_, fun b s0 h0 => G.nw b (F.nw b s0 h0) (F.al b h0), fun b h0 => G.al b (F.al b h0), G.sl, fun p hp => F.ow p (e ▸ hp), G.nd, G.tc⟩
  refine G.e2 b o (F.e2 b o e n) fun hb => ?_
  rcases F.ow b hb with z | z
  · rw [z] at e
    cases e
  · exact n z
theorem Fr.unwipe {C : Cs} {S H S' H' : Hp} {σ σ2 : St} {env env' env2 : List Sl} {vs : List Nat} (F : Fr C S H σ env) (hG : Gs env env') (hv : wipeOk env vs = true) (G : Fr (Cs.at S H σ env) S' H' σ2 env2) (hσ : ∀ i, i ∉ vs → σ2[i]? = σ[i]?) (he : ∀ i, i ∉ vs → env2[i]? = env'[i]?) : Fr C S' H' σ env' := by
  have eo := (hG.owns σ).symm
  refine F.backG eo ⟨G.e0, G.e1, G.e2, G.nw, G.al, SlAll.of_get (F.sl.len.trans hG.length) fun i v s h1 h2 => ?_, fun p hp => .inr (by show p ∈ owns σ env; rw [← eo]; exact hp), by rw [eo]; exact F.nd, G.tc⟩
  by_cases hi : i ∈ vs
  · have q := List.all_eq_true.mp hv i hi
    rcases hG.get i with e | ⟨d0, o0, o1, e1, e2⟩
    · have h2' : env[i]? = some s := e.trans h2
      obtain ⟨v', e', r⟩ := F.sl.get i h2'
      rw [h1] at e'
      cases e'
      rw [h2'] at q
      cases s with
      | un => exact True.intro
      | im r' a =>
        obtain ⟨x, e, z⟩ := r
        exact ⟨x, e, r'.mono G.e0 z⟩
      | ow _ _ => cases q
      | iv _ _ => cases q
      | ob _ _ => cases q
    · rw [e1] at q
      cases q
  · obtain ⟨v', e', r⟩ := G.sl.get i ((he i hi).trans h2)
    rw [hσ i hi, h1] at e'
    cases e'
    exact r
/-- a thing outside of the data, taken out -/
def del (H : Hp) (p : Addr) : Hp := fun b => if b = p then none else H b
theorem Tc.del1 {S H : Hp} (t : Tc S H) (p : Addr) : Tc S (del H p) := fun b vs e => by
  unfold del at e
  by_cases z : b = p
  · rw [if_pos z] at e
    cases e
  · rw [if_neg z] at e
    exact t b vs e
theorem Tc.del2 {S H : Hp} (t : Tc S H) (p : Addr) : Tc (del S p) (del H p) := fun b vs e => by
  unfold del at e ⊢
  by_cases z : b = p
  · rw [if_pos z] at e
    cases e
  · rw [if_neg z] at e ⊢
    exact t b vs e
theorem upd_del {H : Hp} {p : Addr} {o : HO} (h : H p = some o) : upd (del H p) p o = H := by
  funext b
  unfold upd del
  by_cases z : b = p
  · subst z
    simp [h]
  · simp [z]
theorem Fr.del {S H : Hp} {σ : St} {env : List Sl} (F : Fr C S H σ env) {p : Addr} (hs : S p = none) (h0 : C.H0 p = none) (ho : p ∉ owns σ env) : Fr C S (del H p) σ env := by
  have ne : ∀ b, b ≠ p → Rt.del H p b = H b := fun b hb => by unfold Rt.del; rw [if_neg hb]
  have nS : ∀ {b u}, S b = some u → b ≠ p := fun {b u} e z => by rw [z, hs] at e; cases e
  have n0 : ∀ {b}, C.H0 b ≠ none → b ≠ p := fun {b} e z => e (by rw [z]; exact h0)
  refine ⟨F.e0, fun b u e => by rw [ne b (nS e)]; exact F.e1 b u e, fun b u e n => by rw [ne b (n0 (by rw [e]; exact fun z => nomatch z))]; exact F.e2 b u e n, F.nw, fun b h => by rw [ne b (n0 h)]; exact F.al b h, SlAll.of_get F.sl.len fun i v s h1 h2 => ?_, F.ow, F.nd, F.tc.del1 p⟩
  obtain ⟨v', e', r⟩ := F.sl.get i h2
  rw [h1] at e'
  cases e'
  cases s with
  | un => exact True.intro
  | im r' a => exact r
  | ow r' xs =>
    obtain ⟨q, vs, e, e2, e3, e4⟩ := r
    subst e
    have : q ≠ p := fun z => ho (by rw [← z]; exact owns_mem_get i h2 h1 rfl)
    exact ⟨q, vs, rfl, e2, by rw [ne q this]; exact e3, e4⟩
  | iv d0 o0 =>
    obtain ⟨q, o, e, e2, e3, e4⟩ := r
    subst e
    have : q ≠ p := fun z => ho (by rw [← z]; exact owns_mem_get i h2 h1 rfl)
    exact ⟨q, o, rfl, e2, by rw [ne q this]; exact e3, e4⟩
  | ob q0 a0 =>
    obtain ⟨q, o, e, e2, e3, e4⟩ := r
    subst e
    have : q ≠ p := fun z => ho (by rw [← z]; exact owns_mem_get i h2 h1 rfl)
    exact ⟨q, o, rfl, e2, by rw [ne q this]; exact e3, e4⟩
theorem wipeE_get {env : List Sl} {i : Nat} : ∀ {vs : List Nat}, i ∉ vs → (wipeE env vs)[i]? = env[i]?
  | [], _ => rfl
  | v :: vs, h => by
    unfold wipeE
    simp at h
    rw [List.getElem?_set_ne (Ne.symm h.1), wipeE_get h.2]
theorem wipe_get {σ : St} {i : Nat} : ∀ {vs : List Nat}, i ∉ vs → (wipe σ vs)[i]? = σ[i]?
  | [], _ => rfl
  | v :: vs, h => by
    unfold L2.wipe
    simp at h
    rw [List.getElem?_set_ne (Ne.symm h.1), wipe_get h.2]
theorem wipe_wipe {σ : St} (vs : List Nat) : wipe (wipe σ vs) vs = wipe σ vs := wipe_same (wipe_length σ vs) fun i hi => wipe_get hi
theorem drop_cons {xs : List α} {i : Nat} {a : α} (h : xs[i]? = some a) : xs.drop i = a :: xs.drop (i + 1) := by
  obtain ⟨h1, h2⟩ := List.getElem?_eq_some_iff.mp h
  rw [List.drop_eq_getElem_cons h1, h2]
theorem tN_of_E {m : W (List α)} {σ : St} {H : Hp} {Q : VK} (h : tE C env (qL r) m σ H Q) : tN C env r m σ H Q :=
  let ⟨S, g0, P, F, em, q⟩ := h
  ⟨S, g0, P, F, em, fun xs g1 px p vs S' H' F' eS hp ha => by
    have sp : S' p = none := F'.e1.back hp
    exact q xs g1 px _ _ _ (F'.new (o := .lst vs) hp) (eS.trans (Ex.new sp)) ⟨p, vs, rfl, upd_same, ha.mono fun _ _ z => r.mono (Ex.new sp) z⟩⟩
theorem lc_use {own : List (Str × Nat)} {mx : W (List α)} {up : Up α} {cf : α → W Bool} {ef : α → W β} (hjs : (up.js.all fun j => (own.map (·.2)).contains j) = true) (hw : ∀ g, wipeOk (env g) (own.map (·.2)) = true) (hE : ∀ g g', Gs (env g) (env g'))
    {σ : St} {H : Hp} {Q : VK} (h : tN C env rb (mx.bind fun xs => lcW cf ef xs) σ H Q) :
    tLc (tS C env re mx) (tG re up) (fun σ H Q => ∃ p : Cs × α, tT p.1 (fun g => up.f p.2 (wipeE (env g) (own.map (·.2)))) (cf p.2) σ H Q) (fun σ H Q => ∃ p : Cs × α, tE p.1 (fun g => up.f p.2 (wipeE (env g) (own.map (·.2)))) rb (ef p.2) σ H Q) (own.map (·.2)) σ H Q := by
  have hjs' : ∀ j, j ∉ own.map (·.2) → j ∉ up.js := fun j hj z => hj (by
    have := List.all_eq_true.mp hjs j z
    simpa using this)
  obtain ⟨S, g0, P, F, em, q⟩ := h
  refine ⟨S, g0, _, F, em, fun xs g1 em J S1 H1 F1 x1 W1 D hD => ?_⟩
  have dS : S1 D = none := F1.e1.back hD
  have d0 : C.H0 D = none := F1.H0none hD
  have dO1 : D ∉ owns σ (env g1) := fun z => by
    obtain ⟨_, o, e⟩ := F1.sl.own z
    rw [hD] at e
    cases e
  have dO : ∀ g, D ∉ owns σ (env g) := fun g z => dO1 ((hE g g1).owns σ ▸ z)
  refine ⟨fun i m H => m = xs.length - i ∧ i ≤ xs.length ∧ ∃ S g acc ys, Fr C S H σ (env g) ∧ Ex S1 S ∧ H D = some (.lst acc) ∧ S D = none ∧ lcW cf ef (xs.drop i) g (fun zs => P (ys ++ zs)) ∧ All2 (rb.p S) acc ys ∧ ys.length ≤ i,
    ⟨xs.length, rfl, Nat.zero_le _, S1, g1, [], [], F1.add hD, Ex.refl S1, upd_same, dS, em, True.intro, Nat.le_refl _⟩, ?_⟩
  rintro i m H2 ⟨rfl, hi2, S2, g2, acc, ys, F2, x2, hD2, sD2, hz, ha, hy⟩
  by_cases hlt : i < xs.length
  · have hxi : xs[i]? = some xs[i] := List.getElem?_eq_getElem hlt
    have hz' := hz
    rw [drop_cons hxi] at hz'
    unfold lcW at hz'
    refine .inr ⟨W1.go i hlt F2 x2, fun H' => ∃ S g acc ys, Fr C S H' σ (env g) ∧ Ex S1 S ∧ H' D = some (.lst acc) ∧ S D = none ∧ lcW cf ef (xs.drop (i + 1)) g (fun zs => P (ys ++ zs)) ∧ All2 (rb.p S) acc ys ∧ ys.length ≤ i + 1,
      fun H' h' => ⟨xs.length - (i + 1), by omega, rfl, hlt, h'⟩, fun x H3 hy3 => ?_⟩
    have Fb := F2.here.wipe (own.map (·.2))
    obtain ⟨S3, F3, x3, xH3, n3, r3⟩ := W1.yld i x H3 xs[i] Fb x2 hy3 hxi
    refine ⟨Cs.at S2 H2 σ (env g2), S3, _, xs[i], F3, r3, fun σ4 l4 n4 F4 => ?_⟩
    have hσ4 : ∀ j, j ∉ own.map (·.2) → σ4[j]? = σ[j]? := fun j hj => (n4 j (hjs' j hj)).trans (wipe_get hj)
    have hev : ∀ g j, j ∉ own.map (·.2) → (up.f xs[i] (wipeE (env g) (own.map (·.2))))[j]? = (env g)[j]? := fun g j hj => (up.ok _ _ j (hjs' j hj)).trans (wipeE_get hj)
    have hlen4 : σ4.length = σ.length := l4.trans (wipe_length _ _)
    refine ⟨wipe_same hlen4 hσ4, (Cs.at S2 H2 σ (env g2), xs[i]), ?_⟩
    have keepD : ∀ {S' H' g}, Fr (Cs.at S2 H2 σ (env g2)) S' H' σ4 (up.f xs[i] (wipeE (env g) (own.map (·.2)))) → H' D = some (.lst acc) ∧ S' D = none ∧ Ex S2 S' ∧ Fr C S' H' σ (env g) := fun {S' H' g} G =>
      ⟨G.e2 D _ hD2 (dO g2), G.nw D sD2 (by show H2 D ≠ none; rw [hD2]; exact fun z => nomatch z), G.e0, F2.unwipe (hE g2 g) (hw g2) G hσ4 (hev g)⟩
    refine ⟨S3, g2, _, F4, hz', fun b g5 hb S5 H5 F5 x5 => ?_⟩
    cases b with
    | false =>
      obtain ⟨k1, k2, k3, k4⟩ := keepD F5
      exact ⟨S5, g5, acc, ys, k4, x2.trans k3, k1, k2, hb, ha.mono fun _ _ z => rb.mono k3 z, by omega⟩
    | true =>
      refine ⟨(Cs.at S2 H2 σ (env g2), xs[i]), S5, g5, _, F5, hb, fun y g6 hyw v S6 H6 F6 x6 hv => ?_⟩
      obtain ⟨k1, k2, k3, k4⟩ := keepD F6
      have l1 := All2.length ha
      have e1 : (fun ws => P (ys ++ (y :: ws))) = (fun zs => P ((ys ++ [y]) ++ zs)) := by
        funext zs
        rw [List.append_assoc]
        rfl
      have hyw : lcW cf ef (xs.drop (i + 1)) g6 (fun ws => P (ys ++ (y :: ws))) := hyw
      rw [e1] at hyw
      exact ⟨acc, k1, by rw [l1]; exact Nat.lt_of_le_of_lt hy (Nat.lt_of_lt_of_le hlt W1.len), S6, g6, acc ++ [v], ys ++ [y], k4.other k1 k2 d0 (dO g6), x2.trans k3, upd_same, k2, hyw, (ha.mono fun _ _ z => rb.mono k3 z).snoc hv, by simp; omega⟩
  · have e : i = xs.length := by omega
    subst e
    rw [List.drop_length] at hz
    have hz : P (ys ++ []) g2 := hz
    rw [List.append_nil] at hz
    refine .inl ⟨W1.stop _ (Nat.le_refl _) F2 x2, ?_⟩
    have := q ys g2 hz D acc S2 (del H2 D) (F2.del sD2 d0 (dO g2)) (x1.trans x2) (by unfold del; simp) ha
    rw [upd_del hD2] at this
    exact this
theorem xn_lc {scope : Scope} {own : List (Str × Nat)} {ifs : List Expr} {elt : Expr} {mx : W (List α)} {up : Up α} {cf : α → W Bool} {ef : α → W β} (hc : X.calm = true) (hN : X.N.Nodup) (hi : PI X tg iter (tS C env re mx)) (ok : BlkOk X.N X.env.scope scope own)
    (hjs : (up.js.all fun j => (own.map (·.2)).contains j) = true) (hw : ∀ g, wipeOk (env g) (own.map (·.2)) = true)
    (hg : ∀ (s : Shared) (H : Hp) (C0 : Addr) (cl : List (Str × Addr)) (fp : List Addr), PG (X.blk s H scope (compEnvC scope cl C0 X.env) fp) tg (tG re up))
    (ht : ∀ (s : Shared) (H : Hp) (C0 : Addr) (cl : List (Str × Addr)) (fp : List Addr) (C' : Cs) (a : α), PTs (X.blk s H scope (compEnvC scope cl C0 X.env) fp) ifs (tT C' (fun g => up.f a (wipeE (env g) (own.map (·.2)))) (cf a)))
    (he : ∀ (s : Shared) (H : Hp) (C0 : Addr) (cl : List (Str × Addr)) (fp : List Addr) (C' : Cs) (a : α), PE (X.blk s H scope (compEnvC scope cl C0 X.env) fp) elt (tE C' (fun g => up.f a (wipeE (env g) (own.map (·.2)))) rb (ef a)))
    (hs : ∀ x, foldedSetIterable iter X.env x = pure x := by intro _; rfl) (hE : ∀ g g', Gs (env g) (env g') := by intro _ _; repeat (first | exact Gs.nil | apply Gs.keep | apply Gs.gh)) :
    PE X (.ListComp elt [⟨tg, iter, ifs, 0⟩] scope pos) (tN C env rb (mx.bind fun xs => lcW cf ef xs)) := by
  refine pe_imp (pe_lc (tt := fun σ H Q => ∃ p : Cs × α, tT p.1 (fun g => up.f p.2 (wipeE (env g) (own.map (·.2)))) (cf p.2) σ H Q) (te := fun σ H Q => ∃ p : Cs × α, tE p.1 (fun g => up.f p.2 (wipeE (env g) (own.map (·.2)))) rb (ef p.2) σ H Q) hc hN hi ok hg
    (fun s H C0 cl fp => ⟨fun pins s' σ H' Q I ⟨p, q⟩ => (ht s H C0 cl fp p.1 p.2).run pins s' σ H' Q I q⟩) (fun s H C0 cl fp => pe_ex fun p => he s H C0 cl fp p.1 p.2) hs) fun σ H Q _ h => lc_use hjs hw hE (by
      obtain ⟨S, g0, P, F, em, q⟩ := h
      exact ⟨S, g0, P, F, em, fun xs g1 px p vs S' H' F' eS hp ha _ => q xs g1 px p vs S' H' F' eS hp ha⟩)
/-- as long as there is room -/
def roomW {β : Type} (n : Nat) (w : W β) : W β := fun g P => n < 1000000 ∧ w g P
def roomO {β : Type} (n : Nat) (o : Option β) : Option β := if n < 1000000 then o else none
theorem ofO_room {β : Type} (n : Nat) (o : Option β) : ofO (roomO n o) = roomW n (ofO o) := by
  funext g P
  apply propext
  unfold roomO roomW
  split
  · rename_i h
    exact Iff.intro (fun z => ⟨h, z⟩) fun z => z.2
  · rename_i h
    exact Iff.intro (fun ⟨_, e, _⟩ => nomatch e) fun z => absurd z.1 h
/-- acc and [f y for y in ys if c y] -/
def lcWa {α β : Type} (c : α → W Bool) (f : α → W β) : List α → List β → W (List β)
  | [], acc => .ret acc
  | y :: ys, acc => (c y).bind fun b => if b = true then (f y).bind fun v => roomW acc.length (lcWa c f ys (acc ++ [v])) else lcWa c f ys acc
def lcOa {α β : Type} (c : α → Option Bool) (f : α → Option β) : List α → List β → Option (List β)
  | [], acc => some acc
  | y :: ys, acc => (c y).bind fun b => if b = true then (f y).bind fun v => roomO acc.length (lcOa c f ys (acc ++ [v])) else lcOa c f ys acc
theorem ofO_lca {α β : Type} (c : α → Option Bool) (f : α → Option β) : ∀ (ys : List α) (acc : List β), ofO (lcOa c f ys acc) = lcWa (fun x => ofO (c x)) (fun x => ofO (f x)) ys acc
  | [], acc => ofO_some acc
  | y :: ys, acc => by
    unfold lcOa lcWa
    rw [ofO_bind]
    congr 1
    funext b
    rw [ofO_if]
    congr 1
    · rw [ofO_bind]
      congr 1
      funext v
      rw [ofO_room, ofO_lca c f ys]
    · exact ofO_lca c f ys acc
/-- [f x y for x in xs if c x for y in ..]: h x adds to what there is -/
def lcW2 {α β : Type} (c : α → W Bool) (h : α → List β → W (List β)) : List α → List β → W (List β)
  | [], acc => .ret acc
  | x :: xs, acc => (c x).bind fun b => if b = true then (h x acc).bind fun acc' => lcW2 c h xs acc' else lcW2 c h xs acc
def lcO2 {α β : Type} (c : α → Option Bool) (h : α → List β → Option (List β)) : List α → List β → Option (List β)
  | [], acc => some acc
  | x :: xs, acc => (c x).bind fun b => if b = true then (h x acc).bind fun acc' => lcO2 c h xs acc' else lcO2 c h xs acc
theorem ofO_lc2 {α β : Type} (c : α → Option Bool) (h : α → List β → Option (List β)) : ∀ (xs : List α) (acc : List β), ofO (lcO2 c h xs acc) = lcW2 (fun x => ofO (c x)) (fun x acc => ofO (h x acc)) xs acc
  | [], acc => ofO_some acc
  | x :: xs, acc => by
    unfold lcO2 lcW2
    rw [ofO_bind]
    congr 1
    funext b
    rw [ofO_if]
    congr 1
    · rw [ofO_bind]
      congr 1
      funext acc'
      exact ofO_lc2 c h xs acc'
    · exact ofO_lc2 c h xs acc
theorem Fr.unwipeD {C : Cs} {S H S' H' : Hp} {σ σ2 : St} {env env' env2 : List Sl} {vs : List Nat} {D : Addr} (F : Fr C S H σ env) (d0 : C.H0 D = none) (hG : Gs env env') (hv : wipeOk env vs = true) (G : Fr ⟨owns σ env, S, Rt.del H D⟩ S' H' σ2 env2) (hσ : ∀ i, i ∉ vs → σ2[i]? = σ[i]?) (he : ∀ i, i ∉ vs → env2[i]? = env'[i]?) : Fr C S' H' σ env' := by
  have eo := (hG.owns σ).symm
  have nD : ∀ {b}, C.H0 b ≠ none → Rt.del H D b = H b := fun {b} e => by
    have : b ≠ D := fun z => e (by rw [z]; exact d0)
    unfold Rt.del
    rw [if_neg this]
  refine ⟨F.e0.trans G.e0, G.e1, fun b o e n => ?_, fun b s0 h0 => G.nw b (F.nw b s0 h0) (by show Rt.del H D b ≠ none; rw [nD h0]; exact F.al b h0), fun b h0 => G.al b (by show Rt.del H D b ≠ none; rw [nD h0]; exact F.al b h0), SlAll.of_get (σ := σ) (env := env') (F.sl.len.trans hG.length) fun i v s h1 h2 => ?_, fun p hp => F.ow p (by rw [← eo]; exact hp), by rw [eo]; exact F.nd, G.tc⟩
  · refine G.e2 b o (by show Rt.del H D b = some o; rw [nD (by rw [e]; exact fun z => nomatch z)]; exact F.e2 b o e n) fun hb => ?_
    rcases F.ow b hb with z | z
    · rw [z] at e
      cases e
    · exact n z
  · by_cases hi : i ∈ vs
    · have q := List.all_eq_true.mp hv i hi
      rcases hG.get i with e | ⟨d0, o0, o1, e1, e2⟩
      · have h2' : env[i]? = some s := e.trans h2
        obtain ⟨v', e', r⟩ := F.sl.get i h2'
        rw [h1] at e'
        cases e'
        rw [h2'] at q
        cases s with
        | un => exact True.intro
        | im r' a =>
          obtain ⟨x, e, z⟩ := r
          exact ⟨x, e, r'.mono G.e0 z⟩
        | ow _ _ => cases q
        | iv _ _ => cases q
        | ob _ _ => cases q
      · rw [e1] at q
        cases q
    · obtain ⟨v', e', r⟩ := G.sl.get i ((he i hi).trans h2)
      rw [hσ i hi, h1] at e'
      cases e'
      exact r
theorem Fr.hereD {C : Cs} {S H : Hp} {σ : St} {env : List Sl} (F : Fr C S H σ env) (D : Addr) : Fr ⟨owns σ env, S, Rt.del H D⟩ S H σ env := by
  have nD : ∀ {b}, Rt.del H D b ≠ none → Rt.del H D b = H b := fun {b} e => by
    unfold Rt.del at e ⊢
    split
    · rename_i z
      rw [if_pos z] at e
      exact absurd rfl e
    · rfl
  exact ⟨Ex.refl S, F.e1, fun b o e _ => by rw [← nD (by show Rt.del H D b ≠ none; rw [show Rt.del H D b = some o from e]; exact fun z => nomatch z)]; exact e, fun _ e _ => e, fun b h => by rw [← nD h]; exact h, F.sl, fun p hp => .inr hp, F.nd, F.tc⟩
theorem xn_lc2 {scope : Scope} {own : List (Str × Nat)} {vs1 : List Nat} {ifs ifs1 : List Expr} {elt tg1 iter1 : Expr} {mx : W (List α)} {up : Up α} {up1 : Up γ} {cf : α → W Bool} {mi : α → W (List γ)} {cf1 : α → γ → W Bool} {ef : α → γ → W β} (hc : X.calm = true) (hN : X.N.Nodup) (hi : PI X tg iter (tS C env re mx)) (ok : BlkOk X.N X.env.scope scope own) (hv1 : ∀ i ∈ vs1, i ∈ own.map (·.2))
    (hjs : (up.js.all fun j => (own.map (·.2)).contains j) = true) (hjs1 : (up1.js.all fun j => vs1.contains j) = true) (hw : ∀ g, wipeOk (env g) (own.map (·.2)) = true) (hw1 : ∀ g a, wipeOk (up.f a (wipeE (env g) (own.map (·.2)))) vs1 = true) (hw2 : ∀ g a, wipeOk (up.f a (wipeE (env g) (own.map (·.2)))) (own.map (·.2)) = true)
    (hg : ∀ (s : Shared) (H : Hp) (C0 : Addr) (cl : List (Str × Addr)) (fp : List Addr), PG (X.blk s H scope (compEnvC scope cl C0 X.env) fp) tg (tG re up))
    (ht : ∀ (s : Shared) (H : Hp) (C0 : Addr) (cl : List (Str × Addr)) (fp : List Addr) (C' : Cs) (a : α), PTs (X.blk s H scope (compEnvC scope cl C0 X.env) fp) ifs (tT C' (fun g => up.f a (wipeE (env g) (own.map (·.2)))) (cf a)))
    (hi1 : ∀ (s : Shared) (H : Hp) (C0 : Addr) (cl : List (Str × Addr)) (fp : List Addr) (C' : Cs) (a : α), PI (X.blk s H scope (compEnvC scope cl C0 X.env) fp) tg1 iter1 (tS C' (fun g => up.f a (wipeE (env g) (own.map (·.2)))) rc (mi a)))
    (hg1 : ∀ (s : Shared) (H : Hp) (C0 : Addr) (cl : List (Str × Addr)) (fp : List Addr), PG (X.blk s H scope (compEnvC scope cl C0 X.env) fp) tg1 (tG rc up1))
    (ht1 : ∀ (s : Shared) (H : Hp) (C0 : Addr) (cl : List (Str × Addr)) (fp : List Addr) (C' : Cs) (a : α) (b : γ), PTs (X.blk s H scope (compEnvC scope cl C0 X.env) fp) ifs1 (tT C' (fun g => up1.f b (wipeE (up.f a (wipeE (env g) (own.map (·.2)))) vs1)) (cf1 a b)))
    (he : ∀ (s : Shared) (H : Hp) (C0 : Addr) (cl : List (Str × Addr)) (fp : List Addr) (C' : Cs) (a : α) (b : γ), PE (X.blk s H scope (compEnvC scope cl C0 X.env) fp) elt (tE C' (fun g => up1.f b (wipeE (up.f a (wipeE (env g) (own.map (·.2)))) vs1)) rb (ef a b)))
    (hs : ∀ x, foldedSetIterable iter X.env x = pure x := by intro _; rfl) (hs1 : ∀ env x, foldedSetIterable iter1 env x = pure x := by intro _ _; rfl)
    (hE : ∀ g g', Gs (env g) (env g') := by intro _ _; repeat (first | exact Gs.nil | apply Gs.keep | apply Gs.gh)) (hE1 : ∀ g g' a, Gs (up.f a (wipeE (env g) (own.map (·.2)))) (up.f a (wipeE (env g') (own.map (·.2)))) := by intro _ _ _; repeat (first | exact Gs.nil | apply Gs.keep | apply Gs.gh)) :
    PE X (.ListComp elt [⟨tg, iter, ifs, 0⟩, ⟨tg1, iter1, ifs1, 0⟩] scope pos) (tN C env rb (mx.bind fun xs => lcW2 cf (fun a acc => (mi a).bind fun ys => lcWa (cf1 a) (ef a) ys acc) xs [])) := by
  have hjs' : ∀ j, j ∉ own.map (·.2) → j ∉ up.js := fun j hj z => hj (by
    have := List.all_eq_true.mp hjs j z
    simpa using this)
  have hjs1' : ∀ j, j ∉ vs1 → j ∉ up1.js := fun j hj z => hj (by
    have := List.all_eq_true.mp hjs1 j z
    simpa using this)
  refine pe_imp (pe_lc2 (tt := fun σ H Q => ∃ p : Cs × α, tT p.1 (fun g => up.f p.2 (wipeE (env g) (own.map (·.2)))) (cf p.2) σ H Q)
    (wi1 := fun σ H Q => ∃ p : Cs × α, tS p.1 (fun g => up.f p.2 (wipeE (env g) (own.map (·.2)))) rc (mi p.2) σ H Q)
    (tt1 := fun σ H Q => ∃ p : Cs × α × γ, tT p.1 (fun g => up1.f p.2.2 (wipeE (up.f p.2.1 (wipeE (env g) (own.map (·.2)))) vs1)) (cf1 p.2.1 p.2.2) σ H Q)
    (te := fun σ H Q => ∃ p : Cs × α × γ, tE p.1 (fun g => up1.f p.2.2 (wipeE (up.f p.2.1 (wipeE (env g) (own.map (·.2)))) vs1)) rb (ef p.2.1 p.2.2) σ H Q) hc hN hi ok hv1 hg
    (fun s H C0 cl fp => ⟨fun pins s' σ H' Q I ⟨p, q⟩ => (ht s H C0 cl fp p.1 p.2).run pins s' σ H' Q I q⟩)
    (fun s H C0 cl fp => ⟨fun pins s' σ H' Q I ⟨p, q⟩ => (hi1 s H C0 cl fp p.1 p.2).run pins s' σ H' Q I q⟩) hg1
    (fun s H C0 cl fp => ⟨fun pins s' σ H' Q I ⟨p, q⟩ => (ht1 s H C0 cl fp p.1 p.2.1 p.2.2).run pins s' σ H' Q I q⟩) (fun s H C0 cl fp => pe_ex fun p => he s H C0 cl fp p.1 p.2.1 p.2.2) hs hs1) fun σ H Q _ ⟨S, g0, P, F, em, q⟩ => ?_
  refine ⟨S, g0, _, F, em, fun xs g1 em J S1 H1 F1 x1 W1 D hD => ?_⟩
  have d0 : C.H0 D = none := F1.H0none hD
  have dO1 : D ∉ owns σ (env g1) := fun z => by
    obtain ⟨_, o, e⟩ := F1.sl.own z
    rw [hD] at e
    cases e
  have dO : ∀ g, D ∉ owns σ (env g) := fun g z => dO1 ((hE g g1).owns σ ▸ z)
  have dS : S1 D = none := F1.e1.back hD
  refine ⟨fun i m H => m = xs.length - i ∧ i ≤ xs.length ∧ ∃ S g acc ys, Fr C S H σ (env g) ∧ Ex S1 S ∧ H D = some (.lst acc) ∧ S D = none ∧ lcW2 cf (fun a acc => (mi a).bind fun ys => lcWa (cf1 a) (ef a) ys acc) (xs.drop i) ys g P ∧ All2 (rb.p S) acc ys,
    ⟨xs.length, rfl, Nat.zero_le _, S1, g1, [], [], F1.add hD, Ex.refl S1, upd_same, dS, em, True.intro⟩, ?_⟩
  rintro i m H2 ⟨rfl, hi2, S2, g2, acc, ys, F2, x2, hD2, sD2, hz, ha⟩
  by_cases hlt : i < xs.length
  · have hxi : xs[i]? = some xs[i] := List.getElem?_eq_getElem hlt
    have hz' := hz
    rw [drop_cons hxi] at hz'
    unfold lcW2 at hz'
    refine .inr ⟨W1.go i hlt F2 x2, fun H' => ∃ S g acc ys, Fr C S H' σ (env g) ∧ Ex S1 S ∧ H' D = some (.lst acc) ∧ S D = none ∧ lcW2 cf (fun a acc => (mi a).bind fun ys => lcWa (cf1 a) (ef a) ys acc) (xs.drop (i + 1)) ys g P ∧ All2 (rb.p S) acc ys,
      fun H' h' => ⟨xs.length - (i + 1), by omega, rfl, hlt, h'⟩, fun x H3 hy3 => ?_⟩
    let C' : Cs := ⟨owns σ (env g2), S2, Rt.del H2 D⟩
    have c0 : C'.H0 D = none := by
      show Rt.del H2 D D = none
      unfold Rt.del
      simp
    have F2' : Fr C' S2 H2 σ (env g2) := F2.hereD D
    have Fb := F2'.wipe (own.map (·.2))
    obtain ⟨S3, F3, x3, xH3, n3, r3⟩ := W1.yld i x H3 xs[i] Fb x2 hy3 hxi
    have hD3 : H3 D = some (.lst acc) := xH3 _ _ hD2
    have sD3 : S3 D = none := n3 D sD2 (by rw [hD2]; exact fun z => nomatch z)
    refine ⟨C', S3, _, xs[i], F3, r3, fun σ4 l4 n4 F4 => ?_⟩
    have hσ4 : ∀ j, j ∉ own.map (·.2) → σ4[j]? = σ[j]? := fun j hj => (n4 j (hjs' j hj)).trans (wipe_get hj)
    have hev : ∀ g j, j ∉ own.map (·.2) → (up.f xs[i] (wipeE (env g) (own.map (·.2))))[j]? = (env g)[j]? := fun g j hj => (up.ok _ _ j (hjs' j hj)).trans (wipeE_get hj)
    have hlen4 : σ4.length = σ.length := l4.trans (wipe_length _ _)
    refine ⟨wipe_same hlen4 hσ4, (Cs.at S3 H3 σ4 (up.f xs[i] (wipeE (env g2) (own.map (·.2)))), xs[i]), ?_⟩
    -- back at the outer one
    have back : ∀ {S' H' g}, Fr C' S' H' σ4 (up.f xs[i] (wipeE (env g) (own.map (·.2)))) → Fr C S' H' σ (env g) := fun {S' H' g} G => F2.unwipeD d0 (hE g2 g) (hw g2) G hσ4 (hev g)
    -- D is none of the own ones
    have dO4 : ∀ {S' H' g}, Fr C' S' H' σ4 (up.f xs[i] (wipeE (env g) (own.map (·.2)))) → D ∉ owns σ4 (up.f xs[i] (wipeE (env g) (own.map (·.2)))) := fun {S' H' g} G z => by
      have G2 := back G
      obtain ⟨j, s, e1, e2, e3⟩ := owns_of z
      by_cases hj : j ∈ own.map (·.2)
      · have q := List.all_eq_true.mp (hw2 g xs[i]) j hj
        rw [e1] at q
        cases s with
        | un => cases e3
        | im _ _ => cases e3
        | ow _ _ => cases q
        | iv _ _ => cases q
        | ob _ _ => cases q
      · have : D ∈ owns σ (env g) := owns_mem_get j ((hev g j hj).symm.trans e1) ((hσ4 j hj).symm.trans e2) e3
        exact dO g this
    have keep : ∀ {S' H' S'' H'' g g'}, Fr C' S' H' σ4 (up.f xs[i] (wipeE (env g) (own.map (·.2)))) → H' D = some (.lst acc) → S' D = none → Fr (Cs.at S' H' σ4 (up.f xs[i] (wipeE (env g) (own.map (·.2))))) S'' H'' σ4 (up.f xs[i] (wipeE (env g') (own.map (·.2)))) →
        Fr C' S'' H'' σ4 (up.f xs[i] (wipeE (env g') (own.map (·.2)))) ∧ H'' D = some (.lst acc) ∧ S'' D = none ∧ Ex S' S'' := fun {S' H' S'' H'' g g'} G h1 h2 G' =>
      ⟨G.backG ((hE1 g' g xs[i]).owns σ4) G', G'.e2 D _ h1 (dO4 G), G'.nw D h2 (by show H' D ≠ none; rw [h1]; exact fun z => nomatch z), G'.e0⟩
    refine ⟨S3, g2, _, F4.here, hz', fun b g5 hb S5 H5 F5 x5 => ?_⟩
    obtain ⟨G5, hD5, sD5, _⟩ := keep F4 hD3 sD3 F5
    cases b with
    | false => exact ⟨S5, g5, acc, ys, back G5, x2.trans (x3.trans x5), hD5, sD5, hb, ha.mono fun _ _ z => rb.mono (x3.trans x5) z⟩
    | true =>
      refine ⟨(Cs.at S5 H5 σ4 _, xs[i]), S5, g5, _, G5.here, hb, fun zs1 g6 hz6 J1 S6 H6 F6 x6 W2 => ?_⟩
      obtain ⟨G6, hD6, sD6, _⟩ := keep G5 hD5 sD5 F6
      refine ⟨fun j k H => k = zs1.length - j ∧ j ≤ zs1.length ∧ ∃ S g acc ys, Fr C' S H σ4 (up.f xs[i] (wipeE (env g) (own.map (·.2)))) ∧ Ex S6 S ∧ H D = some (.lst acc) ∧ S D = none ∧
          lcWa (cf1 xs[i]) (ef xs[i]) (zs1.drop j) ys g (fun acc' g' => lcW2 cf (fun a acc => (mi a).bind fun ys => lcWa (cf1 a) (ef a) ys acc) (xs.drop (i + 1)) acc' g' P) ∧ All2 (rb.p S) acc ys,
        ⟨zs1.length, rfl, Nat.zero_le _, S6, g6, acc, ys, G6, Ex.refl S6, hD6, sD6, hz6, ha.mono fun _ _ z => rb.mono (x3.trans (x5.trans x6)) z⟩, ?_⟩
      rintro j k H7 ⟨rfl, hj2, S7, g7, acc7, ys7, G7, x7, hD7, sD7, hz7, ha7⟩
      by_cases hlt1 : j < zs1.length
      · have hxj : zs1[j]? = some zs1[j] := List.getElem?_eq_getElem hlt1
        have hz8 := hz7
        rw [drop_cons hxj] at hz8
        unfold lcWa at hz8
        refine .inr ⟨W2.go j hlt1 G7 x7, fun H => ∃ S g acc ys, Fr C' S H σ4 (up.f xs[i] (wipeE (env g) (own.map (·.2)))) ∧ Ex S6 S ∧ H D = some (.lst acc) ∧ S D = none ∧
          lcWa (cf1 xs[i]) (ef xs[i]) (zs1.drop (j + 1)) ys g (fun acc' g' => lcW2 cf (fun a acc => (mi a).bind fun ys => lcWa (cf1 a) (ef a) ys acc) (xs.drop (i + 1)) acc' g' P) ∧ All2 (rb.p S) acc ys,
          fun H' h' => ⟨zs1.length - (j + 1), by omega, rfl, hlt1, h'⟩, fun y H8 hy8 => ?_⟩
        have Gb := G7.here.wipe vs1
        obtain ⟨S8, F8, x8, xH8, n8, r8⟩ := W2.yld j y H8 zs1[j] Gb x7 hy8 hxj
        refine ⟨Cs.at S7 H7 σ4 (up.f xs[i] (wipeE (env g7) (own.map (·.2)))), S8, _, zs1[j], F8, r8, fun σ5 l5 n5 F9 => ?_⟩
        have hσ5 : ∀ j, j ∉ vs1 → σ5[j]? = σ4[j]? := fun j hj => (n5 j (hjs1' j hj)).trans (wipe_get hj)
        have hev1 : ∀ g j', j' ∉ vs1 → (up1.f zs1[j] (wipeE (up.f xs[i] (wipeE (env g) (own.map (·.2)))) vs1))[j']? = (up.f xs[i] (wipeE (env g) (own.map (·.2))))[j']? := fun g j' hj => (up1.ok _ _ j' (hjs1' j' hj)).trans (wipeE_get hj)
        have hlen5 : σ5.length = σ4.length := l5.trans (wipe_length _ _)
        refine ⟨wipe_same hlen5 hσ5, (Cs.at S7 H7 σ4 (up.f xs[i] (wipeE (env g7) (own.map (·.2)))), xs[i], zs1[j]), ?_⟩
        have keep1 : ∀ {S' H' g}, Fr (Cs.at S7 H7 σ4 (up.f xs[i] (wipeE (env g7) (own.map (·.2))))) S' H' σ5 (up1.f zs1[j] (wipeE (up.f xs[i] (wipeE (env g) (own.map (·.2)))) vs1)) →
            H' D = some (.lst acc7) ∧ S' D = none ∧ Ex S7 S' ∧ Fr C' S' H' σ4 (up.f xs[i] (wipeE (env g) (own.map (·.2)))) := fun {S' H' g} G =>
          ⟨G.e2 D _ hD7 (dO4 G7), G.nw D sD7 (by show H7 D ≠ none; rw [hD7]; exact fun z => nomatch z), G.e0, G7.unwipe (hE1 g7 g xs[i]) (hw1 g7 xs[i]) G hσ5 (hev1 g)⟩
        refine ⟨S8, g7, _, F9, hz8, fun b g10 hb10 S10 H10 F10 x10 => ?_⟩
        cases b with
        | false =>
          obtain ⟨k1, k2, k3, k4⟩ := keep1 F10
          exact ⟨S10, g10, acc7, ys7, k4, x7.trans k3, k1, k2, hb10, ha7.mono fun _ _ z => rb.mono k3 z⟩
        | true =>
          refine ⟨(Cs.at S7 H7 σ4 (up.f xs[i] (wipeE (env g7) (own.map (·.2)))), xs[i], zs1[j]), S10, g10, _, F10, hb10, fun v g11 ⟨hroom, hv11⟩ u S11 H11 F11 x11 hu => ?_⟩
          obtain ⟨k1, k2, k3, k4⟩ := keep1 F11
          have l1 := All2.length ha7
          exact ⟨acc7, k1, by rw [l1, sizeLine_eq]; omega, S11, g11, acc7 ++ [u], ys7 ++ [v], k4.other k1 k2 c0 (dO4 k4), x7.trans k3, upd_same, k2, hv11, (ha7.mono fun _ _ z => rb.mono k3 z).snoc hu⟩
      · have e : j = zs1.length := by omega
        subst e
        rw [List.drop_length] at hz7
        exact .inl ⟨W2.stop _ (Nat.le_refl _) G7 x7, S7, g7, acc7, ys7, back G7, x2.trans (x3.trans (x5.trans (x6.trans x7))), hD7, sD7, hz7, ha7⟩
  · have e : i = xs.length := by omega
    subst e
    rw [List.drop_length] at hz
    have hz : P ys g2 := hz
    refine .inl ⟨W1.stop _ (Nat.le_refl _) F2 x2, ?_⟩
    have := q ys g2 hz D acc S2 (del H2 D) (F2.del sD2 d0 (dO g2)) (x1.trans x2) (by unfold del; simp) ha
    rw [upd_del hD2] at this
    exact fun _ => this
theorem xts_nil {env' : Gh → List Sl} {C' : Cs} : PTs X [] (tT C' env' (.ret true)) := ⟨fun pins s σ H Q I ⟨S, g0, P, F, em, q⟩ => pts_nil.run pins s σ H Q I (q _ _ em S H F (Ex.refl S))⟩
theorem xts_one {env' : Gh → List Sl} {C' : Cs} {m : W Bool} (h : PT X a (tT C' env' m)) : PTs X [a] (tT C' env' m) := pts_one h
end

/-! ### the text's own defs -/
def Post {ρ : Type} (S H : Hp) (r : Rp ρ) (o : ρ) (Q : VK) : Prop := ∀ v S' H', Ex S S' → Ex S' H' → Ex H H' → (∀ b, S b = none → H b ≠ none → S' b = none) → Tc S' H' → r.p S' v o → Q v H'
/-- f(..) gives what f gives, and changes nothing -/
def SpF {α ρ : Type} (ra : Ra α) (r : Rp ρ) (f : α → Option ρ) : Sp := fun vs H Q _ => ∃ S a o, Ex S H ∧ Tc S H ∧ ra.p S vs a ∧ f a = some o ∧ Post S H r o Q
section
variable {X : Cx} {C : Cs} {env : Gh → List Sl} {e : Expr} {es : List Expr} {pos p : Pos} {α ρ : Type} {ra : Ra α} {r : Rp ρ} {f : α → Option ρ} {m : W α}
theorem xe_call {k : Nat} {fa : Addr} {fd : FuncData} {ps : List Str} {x : Str} (F : FnOk X.prog X.w X.K X.mg X.base CX0 k fa fd ps (SpF ra r f)) (hr : Room k X.A) (hg : Gl X x) (hm : X.mg x = some (.ref fa)) (hk : PySem.W.keepIn X.K (.ref fa) = true) (hb : Binds X.K fd ps [])
    (ha : PA X (e :: es) (tA C env ra m)) (hdb : (x == ("__debug__" : Str)) = false := by decide) (he : starEach (e :: es) X.env = (false, eval e X.env) :: starEach es X.env := by rfl) (hpl : (backTo pos (starEach es X.env)).any (·.1) = false := by rfl) :
    PE X (.Call (.Name x p) (e :: es) [] pos) (tE C env r (m.bind fun a => ofO (f a))) :=
  pe_imp (pe_call F hr hg hm hk hb .nil pass0 ha hdb he hpl) fun σ H Q _ ⟨S, g0, P, Fr1, em, q⟩ => ⟨S, g0, _, Fr1, em, fun a g1 ⟨o, eo, po⟩ vs S1 H1 F1 x1 hv => by
    show SpF ra r f (vs ++ []) H1 _ E0
    rw [List.append_nil]
    exact ⟨S1, a, o, F1.e1, F1.tc, hv, eo, fun v S' H' eS eH eHH n t hr' _ => q o g1 po v S' H' (F1.call eS eH eHH n t) (x1.trans eS) hr'⟩⟩
end
end Rt

set_option maxRecDepth 100000
set_option maxHeartbeats 4000000
/-! Rt6: statements over data, defs. -/
namespace Rt
open PySem L2

/-- how a block ends: it goes on with data, gives a value back, breaks, goes on with the next turn -/
inductive Fl (ρ β γ : Type) where
  | nx (b : β) | rt (a : ρ) | br (c : γ) | ct (c : γ)
def Fl.up {ρ β γ : Type} : Fl ρ Empty γ → Fl ρ β γ
  | .nx b => nomatch b
  | .rt a => .rt a
  | .br c => .br c
  | .ct c => .ct c
def W.no {α : Type} : W α := fun _ _ => False
theorem ofO_no {α : Type} : ofO (none : Option α) = W.no := by
  funext g P
  exact propext (Iff.intro (fun ⟨_, e, _⟩ => nomatch e) fun h => h.elim)
def upF {ρ β γ : Type} (o : W (Fl ρ Empty γ)) : W (Fl ρ β γ) := o.bind fun x => .ret x.up
def bindK {ρ β β' γ : Type} (k : β → W (Fl ρ β' γ)) : Fl ρ β γ → W (Fl ρ β' γ)
  | .nx b => k b
  | .rt a => .ret (.rt a)
  | .br c => .ret (.br c)
  | .ct c => .ret (.ct c)
def bindF {ρ β β' γ : Type} (o : W (Fl ρ β γ)) (k : β → W (Fl ρ β' γ)) : W (Fl ρ β' γ) := o.bind (bindK k)
/-- how a turn ends -/
def turnK {ρ γ γ' : Type} (k : γ → W (Fl ρ γ γ')) : Fl ρ γ γ → W (Fl ρ γ γ')
  | .nx s => k s
  | .ct s => k s
  | .br s => .ret (.nx s)
  | .rt a => .ret (.rt a)
/-- a loop over a list, from s on -/
def forL {ρ α γ γ' : Type} (f : γ → α → W (Fl ρ γ γ)) : List α → γ → W (Fl ρ γ γ')
  | [], s => .ret (.nx s)
  | x :: xs, s => (f s x).bind (turnK (forL f xs))
def whileL {ρ γ γ' : Type} (c : γ → W Bool) (f : γ → W (Fl ρ γ γ)) : Nat → γ → W (Fl ρ γ γ')
  | 0, _ => .no
  | n + 1, s => (c s).bind fun b => if b = true then (f s).bind (turnK (whileL c f n)) else .ret (.nx s)
/-- what a def gives -/
def rtK {ρ β γ : Type} : Fl ρ β γ → W ρ
  | .rt a => .ret a
  | _ => .no
def rtOf {ρ β γ : Type} (o : W (Fl ρ β γ)) : W ρ := o.bind rtK
/-- .. a def that gives None -/
def rtKN {β γ : Type} : Fl Unit β γ → W Unit
  | .rt a => .ret a
  | .nx _ => .ret ()
  | _ => .no
def rtN {β γ : Type} (o : W (Fl Unit β γ)) : W Unit := o.bind rtKN

/-! the same, reckoned -/
def upO {ρ β γ : Type} (o : Option (Fl ρ Empty γ)) : Option (Fl ρ β γ) := o.bind fun x => some x.up
def bindKO {ρ β β' γ : Type} (k : β → Option (Fl ρ β' γ)) : Fl ρ β γ → Option (Fl ρ β' γ)
  | .nx b => k b
  | .rt a => some (.rt a)
  | .br c => some (.br c)
  | .ct c => some (.ct c)
def bindFO {ρ β β' γ : Type} (o : Option (Fl ρ β γ)) (k : β → Option (Fl ρ β' γ)) : Option (Fl ρ β' γ) := o.bind (bindKO k)
def turnKO {ρ γ γ' : Type} (k : γ → Option (Fl ρ γ γ')) : Fl ρ γ γ → Option (Fl ρ γ γ')
  | .nx s => k s
  | .ct s => k s
  | .br s => some (.nx s)
  | .rt a => some (.rt a)
def forO {ρ α γ γ' : Type} (f : γ → α → Option (Fl ρ γ γ)) : List α → γ → Option (Fl ρ γ γ')
  | [], s => some (.nx s)
  | x :: xs, s => (f s x).bind (turnKO (forO f xs))
def whileO {ρ γ γ' : Type} (c : γ → Option Bool) (f : γ → Option (Fl ρ γ γ)) : Nat → γ → Option (Fl ρ γ γ')
  | 0, _ => none
  | n + 1, s => (c s).bind fun b => if b = true then (f s).bind (turnKO (whileO c f n)) else some (.nx s)
def rtKO {ρ β γ : Type} : Fl ρ β γ → Option ρ
  | .rt a => some a
  | _ => none
def rtO {ρ β γ : Type} (o : Option (Fl ρ β γ)) : Option ρ := o.bind rtKO
def rtKNO {β γ : Type} : Fl Unit β γ → Option Unit
  | .rt a => some a
  | .nx _ => some ()
  | _ => none
def rtNO {β γ : Type} (o : Option (Fl Unit β γ)) : Option Unit := o.bind rtKNO
theorem ofO_up {ρ β γ : Type} (o : Option (Fl ρ Empty γ)) : ofO (upO (β := β) o) = upF (ofO o) := by
  unfold upO upF
  rw [ofO_bind]
  congr 1
  funext x
  exact ofO_some _
theorem ofO_bindK {ρ β β' γ : Type} (k : β → Option (Fl ρ β' γ)) (x : Fl ρ β γ) : ofO (bindKO k x) = bindK (fun b => ofO (k b)) x := by
  cases x with
  | nx b => rfl
  | rt a => exact ofO_some _
  | br c => exact ofO_some _
  | ct c => exact ofO_some _
theorem ofO_bindF {ρ β β' γ : Type} (o : Option (Fl ρ β γ)) (k : β → Option (Fl ρ β' γ)) : ofO (bindFO o k) = bindF (ofO o) fun b => ofO (k b) := by
  unfold bindFO bindF
  rw [ofO_bind]
  congr 1
  funext x
  exact ofO_bindK k x
theorem ofO_turnK {ρ γ γ' : Type} (k : γ → Option (Fl ρ γ γ')) (x : Fl ρ γ γ) : ofO (turnKO k x) = turnK (fun b => ofO (k b)) x := by
  cases x with
  | nx b => rfl
  | ct b => rfl
  | rt a => exact ofO_some _
  | br c => exact ofO_some _
theorem ofO_for {ρ α γ γ' : Type} (f : γ → α → Option (Fl ρ γ γ)) : ∀ (xs : List α) (s : γ), ofO (forO (γ' := γ') f xs s) = forL (fun s x => ofO (f s x)) xs s
  | [], s => ofO_some _
  | x :: xs, s => by
    unfold forO forL
    rw [ofO_bind]
    congr 1
    funext o
    rw [ofO_turnK]
    congr 1
    funext s'
    exact ofO_for f xs s'
theorem ofO_while {ρ γ γ' : Type} (c : γ → Option Bool) (f : γ → Option (Fl ρ γ γ)) : ∀ (n : Nat) (s : γ), ofO (whileO (γ' := γ') c f n s) = whileL (fun s => ofO (c s)) (fun s => ofO (f s)) n s
  | 0, s => ofO_no
  | n + 1, s => by
    unfold whileO whileL
    rw [ofO_bind]
    congr 1
    funext b
    rw [ofO_if, ofO_bind, ofO_some]
    congr 1
    congr 1
    funext o
    rw [ofO_turnK]
    congr 1
    funext s'
    exact ofO_while c f n s'
theorem ofO_rt {ρ β γ : Type} (o : Option (Fl ρ β γ)) : ofO (rtO o) = rtOf (ofO o) := by
  unfold rtO rtOf
  rw [ofO_bind]
  congr 1
  funext x
  cases x with
  | rt a => exact ofO_some _
  | nx b => exact ofO_no
  | br c => exact ofO_no
  | ct c => exact ofO_no
theorem ofO_rtN {β γ : Type} (o : Option (Fl Unit β γ)) : ofO (rtNO o) = rtN (ofO o) := by
  unfold rtNO rtN
  rw [ofO_bind]
  congr 1
  funext x
  cases x with
  | rt a => exact ofO_some _
  | nx b => exact ofO_some _
  | br c => exact ofO_no
  | ct c => exact ofO_no

/-- the shared object: a list of ints -/
def oD (g : Gh) : HO := .lst (g.map V.int)
/-- the ends, by the data; kp: what is known still where a value is given back -/
def EndF (C : Cs) (S : Hp) {ρ β γ : Type} (kp : Gh → List Sl) (pn : β → Gh → List Sl) (pl : γ → Gh → List Sl) (r : Rp ρ) (D : Ends) (g : Gh) : Fl ρ β γ → Prop
  | .nx b => ∀ S' H' σ', Fr C S' H' σ' (pn b g) → Ex S S' → D.nx σ' H'
  | .rt a => ∀ v S' H' σ', Fr C S' H' σ' (kp g) → Ex S S' → r.p S' v a → D.rt v H'
  | .br c => ∀ S' H' σ', Fr C S' H' σ' (pl c g) → Ex S S' → D.bk σ' H'
  | .ct c => ∀ S' H' σ', Fr C S' H' σ' (pl c g) → Ex S S' → D.ct σ' H'
def tF (C : Cs) (env : Gh → List Sl) {ρ β γ : Type} (m : W (Fl ρ β γ)) (pn : β → Gh → List Sl) (pl : γ → Gh → List Sl) (kp : Gh → List Sl) (r : Rp ρ) : TS := fun D σ H => ∃ S g P, Fr C S H σ (env g) ∧ m g P ∧ ∀ o g', P o g' → EndF C S kp pn pl r D g' o
theorem EndF.mono {C : Cs} {S S2 : Hp} {ρ β γ : Type} {kp : Gh → List Sl} {pn : β → Gh → List Sl} {pl : γ → Gh → List Sl} {r : Rp ρ} {D : Ends} {g : Gh} {o : Fl ρ β γ} (e : Ex S S2) (h : EndF C S kp pn pl r D g o) : EndF C S2 kp pn pl r D g o := by
  cases o with
  | nx b => exact fun S' H' σ' F x => h S' H' σ' F (e.trans x)
  | rt a => exact fun v S' H' σ' F x q => h v S' H' σ' F (e.trans x) q
  | br c => exact fun S' H' σ' F x => h S' H' σ' F (e.trans x)
  | ct c => exact fun S' H' σ' F x => h S' H' σ' F (e.trans x)
/-- less is known -/
inductive Le : List Sl → List Sl → Prop
  | nil : Le [] []
  | keep {s : Sl} {a b : List Sl} : Le a b → Le (s :: a) (s :: b)
  | drop {s : Sl} {a b : List Sl} : Le a b → Le (s :: a) (.un :: b)
theorem Le.refl : ∀ a : List Sl, Le a a
  | [] => .nil
  | _ :: a => .keep (Le.refl a)
theorem Le.sl {S H : Hp} : ∀ {σ : St} {a b : List Sl}, Le a b → SlAll S H σ a → SlAll S H σ b
  | [], _, _, .nil, _ => True.intro
  | _ :: _, _, _, .keep l, ⟨x, y⟩ => ⟨x, Le.sl l y⟩
  | _ :: _, _, _, .drop l, ⟨_, y⟩ => ⟨True.intro, Le.sl l y⟩
  | _ :: _, _, _, .nil, h => h.elim
  | [], _, _, .keep _, h => h.elim
  | [], _, _, .drop _, h => h.elim
theorem Le.owns : ∀ {σ : St} {a b : List Sl}, Le a b → (owns σ b).Sublist (owns σ a)
  | [], _, _, _ => by simp [Rt.owns]
  | _ :: _, _, _, .nil => by simp [Rt.owns]
  | v :: _, _, _, .keep l => by
    unfold Rt.owns
    exact (List.Sublist.refl _).append (Le.owns l)
  | v :: _, s :: _, _, .drop l => by
    unfold Rt.owns
    have : ownOf v Sl.un = [] := by cases v with | none => rfl | some v => cases v <;> rfl
    rw [this, List.nil_append]
    exact (Le.owns l).trans (List.sublist_append_right _ _)
theorem Fr.le {C : Cs} {S H : Hp} {σ : St} {a b : List Sl} (F : Fr C S H σ a) (l : Le a b) : Fr C S H σ b :=
  ⟨F.e0, F.e1, F.e2, F.nw, F.al, l.sl F.sl, fun p hp => F.ow p (l.owns.subset hp), F.nd.sublist l.owns, F.tc⟩
theorem SlAll.take {S H : Hp} : ∀ (n : Nat) {σ : St} {a : List Sl}, SlAll S H σ a → SlAll S H (σ.take n) (a.take n)
  | 0, _, _, _ => by simp [SlAll]
  | n + 1, [], [], _ => True.intro
  | n + 1, _ :: _, _ :: _, h => ⟨h.1, SlAll.take n h.2⟩
  | _ + 1, [], _ :: _, h => h.elim
  | _ + 1, _ :: _, [], h => h.elim
theorem owns_take : ∀ (n : Nat) {σ : St} {a : List Sl}, (Rt.owns (σ.take n) (a.take n)).Sublist (Rt.owns σ a)
  | 0, _, _ => by simp [Rt.owns]
  | n + 1, [], _ => by simp [Rt.owns]
  | n + 1, _ :: _, [] => by simp [Rt.owns]
  | n + 1, v :: σ, s :: a => by
    show (ownOf v s ++ Rt.owns (σ.take n) (a.take n)).Sublist (ownOf v s ++ Rt.owns σ a)
    exact (List.Sublist.refl _).append (owns_take n)
theorem Fr.take {C : Cs} {S H : Hp} {σ : St} {a : List Sl} (n : Nat) (F : Fr C S H σ a) : Fr C S H (σ.take n) (a.take n) :=
  ⟨F.e0, F.e1, F.e2, F.nw, F.al, F.sl.take n, fun p hp => F.ow p ((owns_take n).subset hp), F.nd.sublist (owns_take n), F.tc⟩
/-- what is kept: the first slots -/
def Kp (env kp : Gh → List Sl) : Prop := ∃ n, ∀ g, kp g = (env g).take n
theorem Fr.kp {C : Cs} {S H : Hp} {σ : St} {env kp : Gh → List Sl} {g : Gh} (k : Kp env kp) (F : Fr C S H σ (env g)) : ∃ σ', Fr C S H σ' (kp g) := by
  obtain ⟨n, e⟩ := k
  exact ⟨σ.take n, by rw [e g]; exact F.take n⟩

section
variable {X : Cx} {C : Cs} {env kp : Gh → List Sl} {e a b c tg iter : Expr} {es : List Expr} {A B rest : List Stmt} {st : Stmt} {pos : Pos} {α β γ δ ρ τ : Type} {r : Rp ρ} {ra re : Rp α} {rb : Rp β} {ma : W α} {mb : W β} {k : Bool} {pn : β → Gh → List Sl} {pl : γ → Gh → List Sl} {pt : τ → Gh → List Sl}
/-! ### blocks -/
theorem xs_nil {v : β} (l : ∀ g, Le (env g) (pn v g)) : PSs X [] (tF C env (.ret (.nx v)) pn pl kp r) := pss_imp pss_nil fun D σ H _ ⟨S, g0, P, F, em, q⟩ => q _ _ em S H σ (F.le (l _)) (Ex.refl S)
theorem xs_ret {m : W ρ} (h : PE X e (tE C env r m)) (hk : Kp env kp := by first | exact ⟨0, fun _ => rfl⟩ | exact ⟨1, fun _ => rfl⟩) : PSs X (.Return (some e) pos :: rest) (tF C env (m.bind fun x => .ret (.rt x)) pn pl kp r) := pss_imp (pss_cons (ps_ret h) pss_never) fun D σ H _ ⟨S, g0, P, F, em, q⟩ =>
  ⟨S, g0, _, F, em, fun x g1 px v S1 H1 F1 x1 hv => let ⟨σ', F'⟩ := F1.kp hk; q _ _ px v S1 H1 σ' F' x1 hv⟩
theorem xs_brk {v : γ} (l : ∀ g, Le (env g) (pl v g)) : PSs X (.Break pos :: rest) (tF C env (.ret (.br v)) pn pl kp r) := pss_imp (pss_cons ps_break pss_never) fun D σ H _ ⟨S, g0, P, F, em, q⟩ => q _ _ em S H σ (F.le (l _)) (Ex.refl S)
theorem xs_cont {v : γ} (l : ∀ g, Le (env g) (pl v g)) : PSs X (.Continue pos :: rest) (tF C env (.ret (.ct v)) pn pl kp r) := pss_imp (pss_cons ps_continue pss_never) fun D σ H _ ⟨S, g0, P, F, em, q⟩ => q _ _ em S H σ (F.le (l _)) (Ex.refl S)
/-- what isn't come to -/
theorem xs_never : PSs X A (tF C env (.no : W (Fl ρ β γ)) pn pl kp r) := pss_imp pss_never fun D σ H _ ⟨S, g0, P, F, em, q⟩ => em.elim
/-- name = e -/
theorem xs_set {i : Nat} {x : Str} {py : Pos} {m : W α} {K : α → W (Fl ρ β γ)} (h : PE X e (tE C env re m)) (hr : ∀ a, PSs X rest (tF C (fun g => (env g).set i (.im re a)) (K a) pn pl kp r)) (hN : X.N.Nodup) (hi : X.N[i]? = some x) (hx : Loc X.env.scope x) (hs : swapsWith e (some (.Name x py)) pos.line X.env = pure false)
    (hf : X.fn x = true) : PSs X (.Assign [.Name x py] e pos :: rest) (tF C env (m.bind K) pn pl kp r) :=
  pss_imp (pss_cons (ps_set hN hi hx h hs (.inl hf)) (pss_ex hr)) fun D σ H _ ⟨S, g0, P, F, em, q⟩ =>
    ⟨S, g0, _, F, em, fun a g1 pa v S1 H1 F1 x1 hv => ⟨a, S1, _, P, F1.setIm i hv, pa, fun o g9 po => (q o g9 po).mono x1⟩⟩
/-- name = a new list, the def's own -/
theorem xs_setN {i : Nat} {x : Str} {py : Pos} {m : W (List α)} {K : List α → W (Fl ρ β γ)} (h : PE X e (tN C env re m)) (hr : ∀ a, PSs X rest (tF C (fun g => (env g).set i (.ow re a)) (K a) pn pl kp r)) (hN : X.N.Nodup) (hi : X.N[i]? = some x) (hx : Loc X.env.scope x) (hs : swapsWith e (some (.Name x py)) pos.line X.env = pure false)
    (hf : X.fn x = true) : PSs X (.Assign [.Name x py] e pos :: rest) (tF C env (m.bind K) pn pl kp r) :=
  pss_imp (pss_cons (ps_set hN hi hx h hs (.inl hf)) (pss_ex hr)) fun D σ H _ ⟨S, g0, P, F, em, q⟩ =>
    ⟨S, g0, _, F, em, fun xs g1 px p vs S1 H1 F1 x1 hp hv => ⟨xs, S1, _, P, F1.setOw i hp hv, px, fun o g9 po => (q o g9 po).mono x1⟩⟩
/-- any target -/
theorem xs_asg {m : W α} {up : Up α} {K : α → W (Fl ρ β γ)} (h : PE X e (tE C env re m)) (hg : PG X tg (tG re up)) (hr : ∀ a, PSs X rest (tF C (fun g => up.f a (env g)) (K a) pn pl kp r)) (hs : swapsWithSole [tg] e pos.line X.env = pure false := by rfl) (hw : swappedStores [tg] e X.env = pure none := by rfl)
    (h1 : (assignEach [tg] X.env).map (·.2) = [assign tg X.env] := by rfl) : PSs X (.Assign [tg] e pos :: rest) (tF C env (m.bind K) pn pl kp r) :=
  pss_imp (pss_cons (ps_asg h hg hs hw h1) (pss_ex hr)) fun D σ H _ ⟨S, g0, P, F, em, q⟩ =>
    ⟨S, g0, _, F, em, fun a g1 pa v S1 H1 F1 x1 hv => ⟨C, S1, _, a, F1, hv, fun σ' _ _ F2 => ⟨a, S1, _, P, F2, pa, fun o g9 po => (q o g9 po).mono x1⟩⟩⟩
/-- x, y = a, b of two locals -/
theorem xs_par {i j : Nat} {x y : Str} {px py pt0 : Pos} {kt k2 : Nat} {pt2 : Pos} {α1 α2 : Type} {r1 : Rp α1} {r2 : Rp α2} {m1 : W α1} {m2 : W α2} {K : α1 → α2 → W (Fl ρ β γ)} (ha : PE X a (tE C env r1 m1)) (hb : PE X b (tE C env r2 m2)) (hr : ∀ a b, PSs X rest (tF C (fun g => ((env g).set i (.im r1 a)).set j (.im r2 b)) (K a b) pn pl kp r))
    (hc : X.calm = true) (hN : X.N.Nodup) (hi : X.N[i]? = some x) (hj : X.N[j]? = some y) (hij : i ≠ j) (hx : X.env.scope.names.lookup x = some .local) (hy : X.env.scope.names.lookup y = some .local)
    (hw : swappedStores [.Tuple [.Name x px, .Name y py] kt pt0] (.Tuple [a, b] k2 pt2) X.env = pure (some [x, y])) (hs : swapsWithSole [.Tuple [.Name x px, .Name y py] kt pt0] (.Tuple [a, b] k2 pt2) pos.line X.env = pure false := by rfl)
    (h1 : starEach [a, b] X.env = (false, eval a X.env) :: starEach [b] X.env := by rfl) (h2 : starEach [b] X.env = (false, eval b X.env) :: starEach [] X.env := by rfl) :
    PSs X (.Assign [.Tuple [.Name x px, .Name y py] kt pt0] (.Tuple [a, b] k2 pt2) pos :: rest) (tF C env (m1.bind fun a => m2.bind fun b => K a b) pn pl kp r) :=
  pss_imp (pss_cons (ps_par hc hN hi hj hij hx hy (pa_cons ha (pa_cons hb pa_nil h2) h1) hw hs) (pss_ex fun p : α1 × α2 => hr p.1 p.2)) fun D σ H _ ⟨S, g0, P, F, em, q⟩ =>
    ⟨S, g0, _, F, em, fun u g1 pu v S1 H1 F1 x1 hv => ⟨S1, g1, _, F1, pu, fun w g2 pw v2 S2 H2 F2 x2 hv2 => ⟨v, v2, rfl, (u, w), S2, _, P, (F2.setIm i (r1.mono x2 hv)).setIm j hv2, pw, fun o g9 po => (q o g9 po).mono (x1.trans x2)⟩⟩⟩
/-- .. the second one a new list -/
theorem xs_parN {i j : Nat} {x y : Str} {px py pt0 : Pos} {kt k2 : Nat} {pt2 : Pos} {α1 α2 : Type} {r1 : Rp α1} {r2 : Rp α2} {m1 : W α1} {m2 : W (List α2)} {K : α1 → List α2 → W (Fl ρ β γ)} (ha : PE X a (tE C env r1 m1)) (hb : PE X b (tN C env r2 m2)) (hr : ∀ a b, PSs X rest (tF C (fun g => ((env g).set i (.im r1 a)).set j (.ow r2 b)) (K a b) pn pl kp r))
    (hc : X.calm = true) (hN : X.N.Nodup) (hi : X.N[i]? = some x) (hj : X.N[j]? = some y) (hij : i ≠ j) (hx : X.env.scope.names.lookup x = some .local) (hy : X.env.scope.names.lookup y = some .local)
    (hw : swappedStores [.Tuple [.Name x px, .Name y py] kt pt0] (.Tuple [a, b] k2 pt2) X.env = pure (some [x, y])) (hs : swapsWithSole [.Tuple [.Name x px, .Name y py] kt pt0] (.Tuple [a, b] k2 pt2) pos.line X.env = pure false := by rfl)
    (h1 : starEach [a, b] X.env = (false, eval a X.env) :: starEach [b] X.env := by rfl) (h2 : starEach [b] X.env = (false, eval b X.env) :: starEach [] X.env := by rfl) :
    PSs X (.Assign [.Tuple [.Name x px, .Name y py] kt pt0] (.Tuple [a, b] k2 pt2) pos :: rest) (tF C env (m1.bind fun a => m2.bind fun b => K a b) pn pl kp r) :=
  pss_imp (pss_cons (ps_par hc hN hi hj hij hx hy (pa_cons ha (pa_cons hb pa_nil h2) h1) hw hs) (pss_ex fun p : α1 × List α2 => hr p.1 p.2)) fun D σ H _ ⟨S, g0, P, F, em, q⟩ =>
    ⟨S, g0, _, F, em, fun u g1 pu v S1 H1 F1 x1 hv => ⟨S1, g1, _, F1, pu, fun w g2 pw p vs S2 H2 F2 x2 hp hv2 => ⟨v, .ref p, rfl, (u, w), S2, _, P, (F2.setIm i (r1.mono x2 hv)).setOw j hp hv2, pw, fun o g9 po => (q o g9 po).mono (x1.trans x2)⟩⟩⟩
/-- an expression whose value is dropped -/
theorem xs_exp {m : W α} {K : α → W (Fl ρ β γ)} (h : PE X e (tE C env re m)) (hr : ∀ a, PSs X rest (tF C env (K a) pn pl kp r)) (hs : swapsWith e none pos.line X.env = pure false := by rfl) : PSs X (.Expr e pos :: rest) (tF C env (m.bind K) pn pl kp r) :=
  pss_imp (pss_cons (ps_expr h hs) (pss_ex hr)) fun D σ H _ ⟨S, g0, P, F, em, q⟩ =>
    ⟨S, g0, _, F, em, fun a g1 pa v S1 H1 F1 x1 hv => ⟨a, S1, _, P, F1, pa, fun o g9 po => (q o g9 po).mono x1⟩⟩
theorem xs_pass {mc : W (Fl ρ β γ)} (hr : PSs X rest (tF C env mc pn pl kp r)) : PSs X (.Pass pos :: rest) (tF C env mc pn pl kp r) := pss_imp (pss_cons ps_pass hr) fun D σ H _ h => h
theorem xs_doc {x : Str} {j : Nat} {pos' : Pos} {mc : W (Fl ρ β γ)} (hr : PSs X rest (tF C env mc pn pl kp r)) : PSs X (.Expr (.Constant (.str x) j pos) pos' :: rest) (tF C env mc pn pl kp r) := pss_imp (pss_cons ps_doc hr) fun D σ H _ h => h
/-! ### if -/
/-- if c: a block that doesn't go on; and the rest -/
theorem xs_ifx {m : W Bool} {MA : W (Fl ρ Empty γ)} {MR : W (Fl ρ β γ)} (hc : PT X c (tT C env m)) (hA : PSs X A (tF C env MA (fun z _ => nomatch z) pl kp r)) (hR : PSs X rest (tF C env MR pn pl kp r)) :
    PSs X (.If c A [] pos :: rest) (tF C env (m.bind fun b => if b = true then upF MA else MR) pn pl kp r) :=
  pss_imp (pss_cons (ps_if hc hA pss_nil) hR) fun D σ H _ ⟨S, g0, P, F, em, q⟩ => ⟨S, g0, _, F, em, fun x g1 px S1 H1 F1 x1 => by
    cases x with
    | true =>
      refine ⟨S1, g1, _, F1, px, fun w g9 pw => ?_⟩
      have q := (q _ _ pw).mono x1
      cases w with
      | nx z => exact nomatch z
      | rt a => exact q
      | br c => exact q
      | ct c => exact q
    | false => exact ⟨S1, g1, P, F1, px, fun o g9 po => (q o g9 po).mono x1⟩⟩
/-- if with both ways, the last statement -/
theorem xs_ifT {m : W Bool} {MA MB : W (Fl ρ β γ)} (hc : PT X c (tT C env m)) (hA : PSs X A (tF C env MA pn pl kp r)) (hB : PSs X B (tF C env MB pn pl kp r)) :
    PSs X [.If c A B pos] (tF C env (m.bind fun b => if b = true then MA else MB) pn pl kp r) :=
  pss_imp (pss_one (ps_if hc hA hB)) fun D σ H _ ⟨S, g0, P, F, em, q⟩ => ⟨S, g0, _, F, em, fun x g1 px S1 H1 F1 x1 => by
    cases x with
    | true => exact ⟨S1, g1, P, F1, px, fun o g9 po => (q o g9 po).mono x1⟩
    | false => exact ⟨S1, g1, P, F1, px, fun o g9 po => (q o g9 po).mono x1⟩⟩
/-- if, and the rest behind where they meet -/
theorem xs_if {m : W Bool} {MA MB : W (Fl ρ τ γ)} {MR : τ → W (Fl ρ β γ)} (hc : PT X c (tT C env m)) (hA : PSs X A (tF C env MA pt pl kp r)) (hB : PSs X B (tF C env MB pt pl kp r)) (hR : ∀ t, PSs X rest (tF C (pt t) (MR t) pn pl kp r)) :
    PSs X (.If c A B pos :: rest) (tF C env (m.bind fun b => bindF (if b = true then MA else MB) MR) pn pl kp r) :=
  pss_imp (pss_cons (ps_if hc hA hB) (pss_ex hR)) fun D σ H _ ⟨S, g0, P, F, em, q⟩ => ⟨S, g0, _, F, em, fun x g1 px S1 H1 F1 x1 => by
    have go : ∀ M : W (Fl ρ τ γ), bindF M MR g1 P → tF C env M pt pl kp r { D with nx := fun σ H => ∃ t, tF C (pt t) (MR t) pn pl kp r D σ H } σ H1 := fun M hM => ⟨S1, g1, _, F1, hM, fun w g9 pw => by
      cases w with
      | nx t => exact fun S2 H2 σ2 F2 x2 => ⟨t, S2, _, P, F2, pw, fun o g9 po => (q o g9 po).mono (x1.trans x2)⟩
      | rt a => exact fun v S2 H2 σ2 F2 x2 hv => q _ _ pw v S2 H2 σ2 F2 (x1.trans x2) hv
      | br c => exact fun S2 H2 σ2 F2 x2 => q _ _ pw S2 H2 σ2 F2 (x1.trans x2)
      | ct c => exact fun S2 H2 σ2 F2 x2 => q _ _ pw S2 H2 σ2 F2 (x1.trans x2)⟩
    cases x with
    | true => exact go MA px
    | false => exact go MB px⟩
/-! ### loops -/
theorem xs_for {up : Up α} {mx : W (List α)} {s0 : τ} {f : τ → α → W (Fl ρ τ τ)} {MR : τ → W (Fl ρ β γ)} (hp : PassesOwn (model X.prog X.w) X.A X.env X.xe) (hc : X.calm = true) (hi : PI X tg iter (tS C env re mx)) (hg : PG X tg (tG re up)) (l0 : ∀ g, Le (env g) (pt s0 g))
    (hb : ∀ s a, PSs X A (tF C (fun g => up.f a (pt s g)) (f s a) pt pt kp r)) (hR : ∀ s, PSs X rest (tF C (pt s) (MR s) pn pl kp r)) (hs : ∀ x, foldedSetIterable iter X.env x = pure x := by intro _; rfl) :
    PSs X (.For tg iter A [] pos :: rest) (tF C env (mx.bind fun xs => bindF (forL f xs s0) MR) pn pl kp r) :=
  pss_imp (pss_cons (ps_for hp hc hi hg (pss_ex fun p : τ × α => hb p.1 p.2) hs) (pss_ex hR)) fun D σ H _ ⟨S, g0, P, F, em, q⟩ => ⟨S, g0, _, F, em, fun xs g1 em J S1 H1 F1 x1 W1 => by
    refine ⟨fun i m σ H => m = xs.length - i ∧ i ≤ xs.length ∧ ∃ S g s, Fr C S H σ (pt s g) ∧ Ex S1 S ∧ bindF (forL f (xs.drop i) s) MR g P, ⟨xs.length, rfl, Nat.zero_le _, S1, g1, s0, F1.le (l0 _), Ex.refl S1, em⟩, ?_⟩
    rintro i m σ2 H2 ⟨rfl, hi2, S2, g2, s, F2, x2, h2⟩
    by_cases hlt : i < xs.length
    · have hxi : xs[i]? = some xs[i] := List.getElem?_eq_getElem hlt
      rw [drop_cons hxi] at h2
      unfold forL at h2
      refine .inr ⟨W1.go i hlt F2 x2, fun σ' H' => ∃ S g s, Fr C S H' σ' (pt s g) ∧ Ex S1 S ∧ bindF (forL f (xs.drop (i + 1)) s) MR g P, fun σ' H' h' => ⟨xs.length - (i + 1), by omega, rfl, hlt, h'⟩, fun x H3 hy3 => ?_⟩
      obtain ⟨S3, F3, x3, _, _, r3⟩ := W1.yld i x H3 xs[i] F2 x2 hy3 hxi
      refine ⟨C, S3, _, xs[i], F3, r3, fun σ4 _ _ F4 => ⟨(s, xs[i]), S3, g2, _, F4, h2, fun w g9 pw => ?_⟩⟩
      cases w with
      | nx t => exact fun S5 H5 σ5 F5 x5 => ⟨S5, g9, t, F5, x2.trans (x3.trans x5), pw⟩
      | ct t => exact fun S5 H5 σ5 F5 x5 => ⟨S5, g9, t, F5, x2.trans (x3.trans x5), pw⟩
      | br t => exact fun S5 H5 σ5 F5 x5 => ⟨t, S5, _, P, F5, pw, fun o g9 po => (q o g9 po).mono (x1.trans (x2.trans (x3.trans x5)))⟩
      | rt a => exact fun v S5 H5 σ5 F5 x5 hv => q _ _ pw v S5 H5 σ5 F5 (x1.trans (x2.trans (x3.trans x5))) hv
    · have e : i = xs.length := by omega
      subst e
      rw [List.drop_length] at h2
      exact .inl ⟨W1.stop _ (Nat.le_refl _) F2 x2, s, S2, _, P, F2, h2, fun o g9 po => (q o g9 po).mono (x1.trans x2)⟩⟩
theorem xs_while {s0 : τ} {n : Nat} {cf : τ → W Bool} {f : τ → W (Fl ρ τ τ)} {MR : τ → W (Fl ρ β γ)} (hp : PassesOwn (model X.prog X.w) X.A X.env X.xe) (l0 : ∀ g, Le (env g) (pt s0 g)) (hc : ∀ s, PT X c (tT C (pt s) (cf s)))
    (hb : ∀ s, PSs X A (tF C (pt s) (f s) pt pt kp r)) (hR : ∀ s, PSs X rest (tF C (pt s) (MR s) pn pl kp r)) :
    PSs X (.While c A [] pos :: rest) (tF C env (bindF (whileL cf f n s0) MR) pn pl kp r) :=
  pss_imp (pss_cons (ps_while hp (pt_ex hc) (pss_ex hb)) (pss_ex hR)) fun D σ H _ ⟨S, g0, P, F, em, q⟩ => by
    refine ⟨fun m σ H => ∃ S2 g s, Fr C S2 H σ (pt s g) ∧ Ex S S2 ∧ bindF (whileL cf f m s) MR g P, ⟨n, S, g0, s0, F.le (l0 _), Ex.refl S, em⟩, ?_⟩
    rintro m σ2 H2 ⟨S2, g2, s, F2, x2, h2⟩
    cases m with
    | zero => exact h2.elim
    | succ m =>
      unfold whileL at h2
      refine ⟨s, S2, g2, _, F2, h2, fun b g3 pb S3 H3 F3 x3 => ?_⟩
      cases b with
      | false => exact ⟨s, S3, _, P, F3, pb, fun o g9 po => (q o g9 po).mono (x2.trans x3)⟩
      | true =>
        refine ⟨fun σ' H' => ∃ S2 g s, Fr C S2 H' σ' (pt s g) ∧ Ex S S2 ∧ bindF (whileL cf f m s) MR g P, fun σ' H' h' => ⟨m, Nat.lt_succ_self m, h'⟩, s, S3, g3, _, F3, pb, fun w g9 pw => ?_⟩
        cases w with
        | nx t => exact fun S5 H5 σ5 F5 x5 => ⟨S5, g9, t, F5, x2.trans (x3.trans x5), pw⟩
        | ct t => exact fun S5 H5 σ5 F5 x5 => ⟨S5, g9, t, F5, x2.trans (x3.trans x5), pw⟩
        | br t => exact fun S5 H5 σ5 F5 x5 => ⟨t, S5, _, P, F5, pw, fun o g9 po => (q o g9 po).mono (x2.trans (x3.trans x5))⟩
        | rt a => exact fun v S5 H5 σ5 F5 x5 hv => q _ _ pw v S5 H5 σ5 F5 (x2.trans (x3.trans x5)) hv
/-! ### lists of the def's own -/
def addO {α : Type} (xs : List α) (v : α) : Option (List α) := if xs.length ≤ 1000000 then some (xs ++ [v]) else none
theorem xs_app {i : Nat} {x : Str} {px pa pe : Pos} {xs : List α} {m : W α} {K : List α → W (Fl ρ β γ)} (hv : PE X (.Name x px) (tVar i)) (h : PE X e (tE C env re m)) (hr : ∀ ys, PSs X rest (tF C (fun g => (env g).set i (.ow re ys)) (K ys) pn pl kp r)) (hi : ∀ g, (env g)[i]? = some (.ow re xs) := by intro _; rfl)
    (hs : swapsWith (.Call (.Attribute (.Name x px) "append" pa) [e] [] pe) none pos.line X.env = pure false := by rfl) (h1 : starEach [e] X.env = (false, eval e X.env) :: starEach [] X.env := by rfl)
    (hb : PE X (.Call (.Attribute (.Name x px) "append" pa) [e] [] pe) (tBM X.K "list" rAppend (tVar i) (tCons (tE C env re m) tNil))) :
    PSs X (.Expr (.Call (.Attribute (.Name x px) "append" pa) [e] [] pe) pos :: rest) (tF C env (m.bind fun v => (ofO (addO xs v)).bind K) pn pl kp r) :=
  pss_imp (pss_cons (ps_expr hb hs) (pss_ex hr)) fun D σ H _ ⟨S, g0, P, F, em, q⟩ => by
    obtain ⟨w, ew, p, vs, e2, sp, hp, ha⟩ := F.sl.get i (hi _)
    subst e2
    refine ⟨.ref p, ew, .inl ⟨rfl, vs, SqL.of hp⟩, S, g0, _, F, em, fun v g1 ⟨zs, ez, pv⟩ u S1 H1 F1 x1 hu => ?_⟩
    unfold addO at ez
    split at ez
    case isFalse => cases ez
    rename_i hl
    cases ez
    obtain ⟨w1, ew1, p1, vs1, e21, sp1, hp1, ha1⟩ := F1.sl.get i (hi _)
    subst e21
    rw [ew] at ew1
    cases ew1
    refine ⟨p, vs1, u, rfl, rfl, hp1, by rw [All2.length ha1, sizeLine_eq]; omega, xs ++ [v], S1, _, P, ?_, pv, fun o g9 po => (q o g9 po).mono x1⟩
    exact F1.write (hi _) ew (ha1.snoc hu)
/-- a list of the def's own changes no more -/
theorem xs_frz (i : Nat) {xs : List α} {m : W (Fl ρ β γ)} (hA : C.A0 = []) (hr : PSs X A (tF C (fun g => (env g).set i (.im (qL re) xs)) m pn pl kp r)) (hi : ∀ g, (env g)[i]? = some (.ow re xs) := by intro _; rfl) : PSs X A (tF C env m pn pl kp r) :=
  pss_imp hr fun D σ H _ ⟨S, g0, P, F, em, q⟩ => by
    obtain ⟨S', x1, F1⟩ := F.freeze (hi _) fun p _ => by rw [hA]; simp
    exact ⟨S', g0, P, F1, em, fun o g9 po => (q o g9 po).mono x1⟩
end

/-! ### defs -/
section
variable {α ρ : Type} {ra : Ra α} {r : Rp ρ}
/-- a frame at the entry -/
theorem Fr.entry {S H : Hp} {σ : St} {env : List Sl} (e : Ex S H) (t : Tc S H) (h : SlAll S H σ env) (ho : owns σ env = []) : Fr ⟨[], S, H⟩ S H σ env :=
  ⟨Ex.refl S, e, fun _ _ h _ => h, fun _ h _ => h, fun _ h => h, h, fun p hp => (by rw [ho] at hp; cases hp), by rw [ho]; exact List.nodup_nil, t⟩
theorem Fr.post {S H S' H' : Hp} {σ : St} {env : List Sl} {Q : VK} {o : ρ} (h : Post S H r o Q) (F : Fr ⟨[], S, H⟩ S' H' σ env) {v : V} (hv : r.p S' v o) : Q v H' :=
  h v S' H' F.e0 F.e1 (fun b u e => F.e2 b u e (by simp)) F.nw F.tc hv
theorem body_of {X : Cx} {body : List Stmt} {N : List Str} {β γ : Type} {f : α → Option ρ} {env : α → List Sl} {m : α → W (Fl ρ β γ)} {pn : β → Gh → List Sl} {pl : γ → Gh → List Sl} {kp : Gh → List Sl} {vs : List V} {H : Hp} {Q : VK} {E : XK} (h : SpF ra r f vs H Q E) (hg : ∀ a, ofO (f a) = rtOf (m a))
    (hs : ∀ S H a, ra.p S vs a → SlAll S H (start N vs) (env a) ∧ owns (start N vs) (env a) = []) (hb : ∀ (C : Cs) (a : α), C.A0 = [] → PSs X body (tF C (fun _ => env a) (m a) pn pl kp r)) :
    ∃ t, PSs X body t ∧ t { nx := fun _ H' => Q .non H', rt := Q } (start N vs) H := by
  obtain ⟨S, a, o, e, t, hv, eo, k⟩ := h
  obtain ⟨s1, s2⟩ := hs S H a hv
  have hm : rtOf (m a) [] (fun x _ => x = o) := by
    rw [← hg a]
    exact ⟨o, eo, rfl⟩
  refine ⟨_, hb ⟨[], S, H⟩ a rfl, S, [], _, Fr.entry e t s1 s2, hm, fun w g' pw => ?_⟩
  cases w with
  | rt x =>
    have pw : x = o := pw
    subst pw
    exact fun v S' H' σ' F _ hv => F.post k hv
  | nx _ => exact pw.elim
  | br _ => exact pw.elim
  | ct _ => exact pw.elim
theorem body_ofN {X : Cx} {body : List Stmt} {N : List Str} {β γ : Type} {f : α → Option Unit} {env : α → List Sl} {m : α → W (Fl Unit β γ)} {pn : β → Gh → List Sl} {pl : γ → Gh → List Sl} {kp : Gh → List Sl} {vs : List V} {H : Hp} {Q : VK} {E : XK} (h : SpF ra qN f vs H Q E) (hg : ∀ a, ofO (f a) = rtN (m a))
    (hs : ∀ S H a, ra.p S vs a → SlAll S H (start N vs) (env a) ∧ owns (start N vs) (env a) = []) (hb : ∀ (C : Cs) (a : α), C.A0 = [] → PSs X body (tF C (fun _ => env a) (m a) pn pl kp qN)) :
    ∃ t, PSs X body t ∧ t { nx := fun _ H' => Q .non H', rt := Q } (start N vs) H := by
  obtain ⟨S, a, o, e, t, hv, eo, k⟩ := h
  obtain ⟨s1, s2⟩ := hs S H a hv
  have hm : rtN (m a) [] (fun x _ => x = o) := by
    rw [← hg a]
    exact ⟨o, eo, rfl⟩
  refine ⟨_, hb ⟨[], S, H⟩ a rfl, S, [], _, Fr.entry e t s1 s2, hm, fun w g' pw => ?_⟩
  cases w with
  | rt x => exact fun v S' H' σ' F _ hv => F.post k hv
  | nx _ => exact fun S' H' σ' F _ => F.post k (show qN.p S' .non () from rfl)
  | br _ => exact pw.elim
  | ct _ => exact pw.elim
/-- behind a call that changes the shared object -/
def PostD {ρ : Type} (d : Addr) (S H : Hp) (r : Rp ρ) (o : ρ) (g : Gh) (Q : VK) : Prop := ∀ v S' H', Ex S S' → Ex S' H' → (∀ b u, H b = some u → b ≠ d → H' b = some u) → H' d = some (oD g) → S' d = none → (∀ b, S b = none → H b ≠ none → S' b = none) → Tc S' H' → r.p S' v o → Q v H'
/-- f(object, ..) gives what f gives, and changes the object alone -/
def SpD {α ρ : Type} (ra : Ra α) (r : Rp ρ) (f : α → W ρ) : Sp := fun vs H Q _ => ∃ S a d ws g P, vs = .ref d :: ws ∧ Ex S H ∧ Tc S H ∧ S d = none ∧ H d = some (oD g) ∧ ra.p S ws a ∧ f a g P ∧ ∀ o g', P o g' → PostD d S H r o g' Q
theorem Fr.entryD {S H : Hp} {σ : St} {env : List Sl} {d : Addr} {g : Gh} (e : Ex S H) (t : Tc S H) (sd : S d = none) (hd : H d = some (oD g)) (h : SlAll S H σ env) (ho : owns σ env = []) : Fr ⟨[d], S, H⟩ S H (some (.ref d) :: σ) (.iv d (oD g) :: env) := by
  have eo : owns (some (.ref d) :: σ) (.iv d (oD g) :: env) = [d] := by
    show ownOf (some (.ref d)) (Sl.iv d (oD g)) ++ owns σ env = [d]
    rw [ho]
    rfl
  exact ⟨Ex.refl S, e, fun _ _ h _ => h, fun _ h _ => h, fun _ h => h, ⟨⟨d, _, rfl, sd, hd, rfl, rfl⟩, h⟩, fun p hp => .inr (by rw [eo] at hp; exact hp), by rw [eo]; simp, t⟩
theorem Fr.postD {S H S' H' : Hp} {σ : St} {Q : VK} {o : ρ} {d : Addr} {g : Gh} (h : PostD d S H r o g Q) (F : Fr ⟨[d], S, H⟩ S' H' σ [.iv d (oD g)]) {v : V} (hv : r.p S' v o) : Q v H' := by
  obtain ⟨x, e, p, u, e1, sp, hp, e2, e3⟩ := F.sl.get 0 (s := .iv d (oD g)) rfl
  subst e2 e3
  exact h v S' H' F.e0 F.e1 (fun b u e n => F.e2 b u e (by simpa using n)) hp sp F.nw F.tc hv
theorem body_ofD {X : Cx} {body : List Stmt} {N : List Str} {x0 : Str} {β γ : Type} {f : α → W ρ} {env : α → List Sl} {m : α → W (Fl ρ β γ)} {pn : β → Gh → List Sl} {pl : γ → Gh → List Sl} {vs : List V} {H : Hp} {Q : VK} {E : XK} (h : SpD ra r f vs H Q E) (hg : ∀ a, f a = rtOf (m a))
    (hs : ∀ S H ws a, ra.p S ws a → SlAll S H (start N ws) (env a) ∧ owns (start N ws) (env a) = []) (hb : ∀ (C : Cs) (d : Addr) (a : α), C.A0 = [d] → PSs X body (tF C (fun g => .iv d (oD g) :: env a) (m a) pn pl (fun g => [.iv d (oD g)]) r)) :
    ∃ t, PSs X body t ∧ t { nx := fun _ H' => Q .non H', rt := Q } (start (x0 :: N) vs) H := by
  obtain ⟨S, a, d, ws, g, P, ev, e, t, sd, hd, hv, eo, k⟩ := h
  subst ev
  obtain ⟨s1, s2⟩ := hs S H ws a hv
  rw [hg a] at eo
  have es : start (x0 :: N) (.ref d :: ws) = some (.ref d) :: start N ws := by
    unfold L2.start
    simp
  rw [es]
  refine ⟨_, hb ⟨[d], S, H⟩ d a rfl, S, g, _, Fr.entryD e t sd hd s1 s2, eo, fun w g' pw => ?_⟩
  cases w with
  | rt x => exact fun v S' H' σ' F _ hv => Fr.postD (k x g' pw) F hv
  | nx _ => exact pw.elim
  | br _ => exact pw.elim
  | ct _ => exact pw.elim
/-- parameters: what they stand for, their slots -/
structure Pr (α : Type) where
  ra : Ra α
  n : Nat
  sl : α → List Sl
  ok : ∀ {S H : Hp} {vs : List V} {a : α}, ra.p S vs a → SlAll S H (vs.map some) (sl a) ∧ owns (vs.map some) (sl a) = [] ∧ vs.length = n
def p0 : Pr Unit := ⟨q0, 0, fun _ => [], fun {S H vs a} h => by
  rw [show vs = [] from h]
  exact ⟨True.intro, rfl, rfl⟩⟩
def pC {β : Type} (r : Rp α) (p : Pr β) : Pr (α × β) := ⟨qC r p.ra, p.n + 1, fun a => .im r a.1 :: p.sl a.2, fun {S H vs a} ⟨v, ws, e, h1, h2⟩ => by
  obtain ⟨q1, q2, q3⟩ := p.ok (H := H) h2
  rw [e]
  refine ⟨⟨⟨v, rfl, h1⟩, q1⟩, ?_, by rw [List.length_cons, q3]⟩
  show ownOf (some v) (Sl.im r a.1) ++ owns (ws.map some) (p.sl a.2) = []
  rw [q2]
  cases v <;> rfl⟩
theorem SlAll.unN {S H : Hp} : ∀ n : Nat, SlAll S H (List.replicate n none) (List.replicate n .un) ∧ owns (List.replicate n none) (List.replicate n Sl.un) = []
  | 0 => ⟨True.intro, rfl⟩
  | n + 1 => by
    obtain ⟨a, b⟩ := SlAll.unN (S := S) (H := H) n
    refine ⟨⟨True.intro, a⟩, ?_⟩
    show ownOf none Sl.un ++ owns (List.replicate n none) (List.replicate n Sl.un) = []
    rw [b]
    rfl
theorem SlAll.cat {S H : Hp} : ∀ {σ τ : St} {a b : List Sl}, SlAll S H σ a → SlAll S H τ b → SlAll S H (σ ++ τ) (a ++ b)
  | [], _, [], _, _, h => h
  | _ :: _, _, _ :: _, _, h1, h2 => ⟨h1.1, SlAll.cat h1.2 h2⟩
  | [], _, _ :: _, _, h, _ => h.elim
  | _ :: _, _, [], _, h, _ => h.elim
theorem owns_cat {S H : Hp} : ∀ {σ τ : St} {a b : List Sl}, SlAll S H σ a → owns (σ ++ τ) (a ++ b) = owns σ a ++ owns τ b
  | [], _, [], _, _ => rfl
  | v :: σ, τ, s :: a, b, h => by
    show ownOf v s ++ owns (σ ++ τ) (a ++ b) = (ownOf v s ++ owns σ a) ++ owns τ b
    rw [owns_cat h.2, List.append_assoc]
  | [], _, _ :: _, _, h => h.elim
  | _ :: _, _, [], _, h => h.elim
theorem Pr.start {p : Pr α} {N : List Str} {j : Nat} (hN : N.length = p.n + j) {S H : Hp} {vs : List V} {a : α} (h : p.ra.p S vs a) : SlAll S H (L2.start N vs) (p.sl a ++ List.replicate j .un) ∧ owns (L2.start N vs) (p.sl a ++ List.replicate j .un) = [] := by
  obtain ⟨q1, q2, q3⟩ := p.ok (H := H) h
  obtain ⟨u1, u2⟩ := SlAll.unN (S := S) (H := H) j
  have e : N.length - vs.length = j := by omega
  unfold L2.start
  rw [e]
  refine ⟨q1.cat u1, ?_⟩
  rw [owns_cat q1, q2, u2]
  rfl
section
variable {P : Program} {w : World} {K : PySem.W.Frag} {mg : Str → Option Value} {base : Heap} {p : Pr α} {N ps : List Str} {k : Nat} {st : Stmt} {x qual : Str} {f : Addr} {fd : FuncData} {β γ : Type}
/-- a def, by what its body gives -/
theorem fn_okF {g : α → Option ρ} {env : α → List Sl} {m : α → W (Fl ρ β γ)} {pn : β → Gh → List Sl} {pl : γ → Gh → List Sl} (j : Nat) (F : Fun K x qual st f fd) (S : FnScope N ps (defScope st)) (hn : p.n = ps.length) (hN : N.length = ps.length + j) (he : ∀ a, env a = p.sl a ++ List.replicate j .un)
    (hb : ∀ (cdv : Value) (A : Around) (outer : List Env) (s : Shared) (H : Hp) (E : XK), Room k (A.deeper (PyProof.Rows.envOfC qual (defScope st) s.heap.objs.size f cdv)) → ∀ (C : Cs) (a : α), C.A0 = [] → PSs (cxOf CX0 P w K mg base N qual (defScope st) f cdv A outer s H E).nox (defBody st) (tF C (fun _ => env a) (m a) pn pl (fun _ => []) r))
    (hg : ∀ a, ofO (g a) = rtOf (m a)) : FnOk P w K mg base CX0 (k + 1) f fd ps (SpF p.ra r g) := by
  refine F.ok S (fun vs H Q E h => ?_) (fun cdv A outer s H vs Q E hr h => ?_)
  · obtain ⟨_, _, _, _, _, hv, _⟩ := h
    rw [(p.ok (H := H) hv).2.2, hn]
  · exact body_of (E := E) h hg (fun S H a hv => by rw [he a]; exact p.start (by rw [hN, hn]) hv) (hb cdv A outer s H E hr)
theorem fn_okN {g : α → Option Unit} {env : α → List Sl} {m : α → W (Fl Unit β γ)} {pn : β → Gh → List Sl} {pl : γ → Gh → List Sl} (j : Nat) (F : Fun K x qual st f fd) (S : FnScope N ps (defScope st)) (hn : p.n = ps.length) (hN : N.length = ps.length + j) (he : ∀ a, env a = p.sl a ++ List.replicate j .un)
    (hb : ∀ (cdv : Value) (A : Around) (outer : List Env) (s : Shared) (H : Hp) (E : XK), Room k (A.deeper (PyProof.Rows.envOfC qual (defScope st) s.heap.objs.size f cdv)) → ∀ (C : Cs) (a : α), C.A0 = [] → PSs (cxOf CX0 P w K mg base N qual (defScope st) f cdv A outer s H E).nox (defBody st) (tF C (fun _ => env a) (m a) pn pl (fun _ => []) qN))
    (hg : ∀ a, ofO (g a) = rtN (m a)) : FnOk P w K mg base CX0 (k + 1) f fd ps (SpF p.ra qN g) := by
  refine F.ok S (fun vs H Q E h => ?_) (fun cdv A outer s H vs Q E hr h => ?_)
  · obtain ⟨_, _, _, _, _, hv, _⟩ := h
    rw [(p.ok (H := H) hv).2.2, hn]
  · exact body_ofN (E := E) h hg (fun S H a hv => by rw [he a]; exact p.start (by rw [hN, hn]) hv) (hb cdv A outer s H E hr)
/-- .. whose first parameter is the shared object -/
theorem fn_okD {x0 : Str} {g : α → W ρ} {env : α → List Sl} {m : α → W (Fl ρ β γ)} {pn : β → Gh → List Sl} {pl : γ → Gh → List Sl} (j : Nat) (F : Fun K x qual st f fd) (S : FnScope (x0 :: N) (x0 :: ps) (defScope st)) (hn : p.n = ps.length) (hN : N.length = ps.length + j) (he : ∀ a, env a = p.sl a ++ List.replicate j .un)
    (hb : ∀ (cdv : Value) (A : Around) (outer : List Env) (s : Shared) (H : Hp) (E : XK), Room k (A.deeper (PyProof.Rows.envOfC qual (defScope st) s.heap.objs.size f cdv)) → ∀ (C : Cs) (d : Addr) (a : α), C.A0 = [d] → PSs (cxOf CX0 P w K mg base (x0 :: N) qual (defScope st) f cdv A outer s H E).nox (defBody st) (tF C (fun g => .iv d (oD g) :: env a) (m a) pn pl (fun g => [.iv d (oD g)]) r))
    (hg : ∀ a, g a = rtOf (m a)) : FnOk P w K mg base CX0 (k + 1) f fd (x0 :: ps) (SpD p.ra r g) := by
  refine F.ok S (fun vs H Q E h => ?_) (fun cdv A outer s H vs Q E hr h => ?_)
  · obtain ⟨_, _, _, ws, _, _, ev, _, _, _, _, hv, _⟩ := h
    rw [ev, List.length_cons, List.length_cons, (p.ok (H := H) hv).2.2, hn]
  · exact body_ofD (E := E) h hg (fun S H ws a hv => by rw [he a]; exact p.start (by rw [hN, hn]) hv) (hb cdv A outer s H E hr)
end
end
end Rt

set_option maxRecDepth 100000
set_option maxHeartbeats 4000000
/-! Rt7: the shared object, more of lists, the end. -/
namespace Rt
open PySem L2

/-! ### the end of a proof -/
/-- as walk_of, where what the written part says of loose names is known -/
theorem walk_ofX {l : PySem.W.OpenLaw} {n k : Nat} {q : Program} {loose : List Str} {XP : (Str → Option Value) → Heap → Prop} {YP : World → Heap → Prop} {d : DefRec} {K : Params → PySem.W.Frag} {CX : World → CXT} {sp : World → Sp} {x : Str}
    (hn : l.most = some n) (hn2 : n ≤ sizeLine) (hdf : d.params.defaults = []) (hr : Room k callerA)
    (hY : ∀ (w : World) (h : Heap), YP w h → (K w.params).In h)
    (F : ∀ (w : World) (mg : Str → Option Value) (fa : Addr) (h : Heap), (K w.params).In h → h.Ns mainGlobals mg → mg d.name = some (.ref fa) → XP mg h →
      ∃ fd : FuncData, (∀ (s : Shared) (u : Value), BindsTo s fd ⟨[u], []⟩ [(x, u)]) ∧
        ∀ base : Heap, (K w.params).In base → base.Ns mainGlobals mg → FnOk l.prog w (K w.params) mg base (CX w) k fa fd [x] (sp w))
    (hsp : ∀ (w : World) (H : Hp) (a : Addr) (ns : List Int), ns.length ≤ n → Only H → SqL (K w.params) H a (ns.map V.int) → sp w [.ref a] H (fun v _ => v = .bl true) fun _ _ _ => False)
    (hCX : ∀ (w : World) (H : Hp) (s : Shared) (e : Value) (s' : Shared), CX w [] H s (fun _ _ _ => False) e s' → False) :
    PySem.W.WalkO q loose XP YP l.row.toRowW d [] (fun f vs => PySem.call f vs) := by
  refine Att.attach_call hn hdf fun w s₀ s₁ mg mb fa o pm cd doc a vs ns G Y ho hd hcd hmg hobj hints hlen hg => ?_
  have KX := hY w _ Y
  obtain ⟨fd, hb, hF⟩ := F w mg fa _ KX G.T.g hmg G.X
  exact law_call KX G.T.g G.T.b G.T.builtins G.T.nolimit hg hobj hints (Nat.le_trans hlen hn2) hr hF hb (fun H hO hS => hsp w H a ns hlen hO hS) fun H e s' => hCX w H s₁ e s'
theorem gint_of {p : Program} {lv : List (Str × PySem.W.WData)} {mg : Str → Option Value} {h : Heap} {x : Str} {n : Int} (X : PySem.W.XL p lv mg h) (hm : (x, PySem.W.WData.int n) ∈ lv) : ∃ t, mg x = some (.int n t) := by
  obtain ⟨v, e, r⟩ := X.2.val _ hm
  cases r
  exact ⟨_, e⟩

/-! ### the object that more than one def changes -/
theorem Fr.writeIv {C : Cs} {S H : Hp} {σ : St} {env : List Sl} (F : Fr C S H σ env) {i : Nat} {d : Addr} {o o' : HO} (hi : env[i]? = some (.iv d o)) (nt : ∀ vs, o' ≠ .tup vs := by intro _ z; cases z) : Fr C S (upd H d o') σ (env.set i (.iv d o')) := by
  obtain ⟨v, hp, p, u, e1, sp, ho, e2, e3⟩ := F.sl.get i hi
  subst e1 e2 e3
  have m : p ∈ owns σ env := owns_mem_get i hi hp rfl
  have eo : owns σ (env.set i (.iv p o')) = owns σ env := owns_same hi hp rfl rfl
  refine ⟨F.e0, F.e1.mut sp, fun b u' e n => ?_, F.nw, fun b h0 => ?_, F.sl.mutOne F.nd hi hp rfl ⟨p, o', rfl, sp, upd_same, rfl, rfl⟩, by rw [eo]; exact F.ow, by rw [eo]; exact F.nd, F.tc.up nt⟩
  · have nb : b ≠ p := fun z => by
      subst z
      rcases F.ow b m with q | q
      · rw [q] at e
        cases e
      · exact n q
    rw [upd_ne nb]
    exact F.e2 b u' e n
  · by_cases z : b = p
    · rw [z, upd_same]
      exact fun z => nomatch z
    · rw [upd_ne z]
      exact F.al b h0
theorem Fr.iv {C : Cs} {S H : Hp} {σ : St} {env : List Sl} (F : Fr C S H σ env) {i : Nat} {d : Addr} {o : HO} (hi : env[i]? = some (.iv d o)) : σ[i]? = some (some (.ref d)) ∧ S d = none ∧ H d = some o := by
  obtain ⟨v, hp, p, u, e1, sp, ho, e2, e3⟩ := F.sl.get i hi
  subst e1 e2 e3
  exact ⟨hp, sp, ho⟩
section
variable {X : Cx} {C : Cs} {env kp : Gh → List Sl} {e a b c tg iter : Expr} {es : List Expr} {A B rest : List Stmt} {pos p px : Pos} {α β γ ρ τ : Type} {r : Rp ρ} {ra re : Rp α} {rb : Rp β} {ma : W α} {mb : W β} {k : Bool} {pn : β → Gh → List Sl} {pl : γ → Gh → List Sl} {d : Addr} {i : Nat}
/-- a call that hands the object on -/
theorem xe_callD {ra : Ra α} {f : α → W ρ} {m : W α} {k : Nat} {fa : Addr} {fd : FuncData} {ps : List Str} {x xd : Str} (F : FnOk X.prog X.w X.K X.mg X.base CX0 k fa fd ps (SpD ra r f)) (hr : Room k X.A) (hg : Gl X x) (hm : X.mg x = some (.ref fa)) (hk : PySem.W.keepIn X.K (.ref fa) = true) (hb : Binds X.K fd ps [])
    (hd : PE X (.Name xd px) (tVar i)) (ha : PA X es (tA C env ra m)) (hi : ∀ g, (env g)[i]? = some (.iv d (oD g)) := by intro _; rfl) (hE : ∀ g g', env g' = (env g).set i (.iv d (oD g')) := by intro _ _; rfl)
    (hdb : (x == ("__debug__" : Str)) = false := by decide) (he : starEach (.Name xd px :: es) X.env = (false, eval (.Name xd px) X.env) :: starEach es X.env := by rfl) (hpl : (backTo pos (starEach es X.env)).any (·.1) = false := by rfl) :
    PE X (.Call (.Name x p) (.Name xd px :: es) [] pos) (tE C env r (m.bind f)) :=
  pe_imp (pe_call F hr hg hm hk hb .nil pass0 (pa_cons hd ha he) hdb he hpl) fun σ H Q _ ⟨S, g0, P, Fr1, em, q⟩ => by
    obtain ⟨s0, _, _⟩ := Fr1.iv (hi g0)
    refine ⟨.ref d, s0, S, g0, _, Fr1, em, fun a g1 pa vs S1 H1 F1 x1 hv => ?_⟩
    show SpD ra r f ((.ref d :: vs) ++ []) H1 _ E0
    rw [List.append_nil]
    obtain ⟨_, sp, hp⟩ := F1.iv (hi g1)
    refine ⟨S1, a, d, vs, g1, P, rfl, F1.e1, F1.tc, sp, hp, hv, pa, fun o g' po v S' H' eS eH eHH hd' sd' n t hr' _ => ?_⟩
    have F2 := F1.writeIv (hi g1) (o' := oD g')
    rw [← hE g1 g'] at F2
    refine q o g' po v S' H' (F2.call eS eH (fun b u hb => ?_) (fun b s0 h0 => ?_) t) (x1.trans eS) hr'
    · by_cases z : b = d
      · subst z
        rw [upd_same] at hb
        cases hb
        exact hd'
      · rw [upd_ne z] at hb
        exact eHH b u hb z
    · by_cases z : b = d
      · rw [z]
        exact sd'
      · rw [upd_ne z] at h0
        exact n b s0 h0
/-- the object's item -/
theorem xe_gix {xd : Str} {mi : W Int} (hd : PE X (.Name xd px) (tVar i)) (hb : PE X b (tE C env qI mi)) (hi : ∀ g, (env g)[i]? = some (.iv d (oD g)) := by intro _; rfl) (hs : PlainIx b := by intro _ _; rfl) :
    PE X (.Subscript (.Name xd px) b pos) (tE C env qI (mi.bind fun j => W.get.bind fun g => ofO (L2.atI g j))) :=
  pe_imp (pe_ix ix_list hd hb hs) fun σ H Q _ ⟨S, g0, P, F, em, q⟩ => by
    obtain ⟨s0, _, _⟩ := F.iv (hi g0)
    refine ⟨.ref d, s0, S, g0, _, F, em, fun j g1 ⟨z, ez, pz⟩ y S1 H1 F1 x1 hy => ?_⟩
    obtain ⟨_, _, hp⟩ := F1.iv (hi g1)
    have hy : y = .int j := hy
    subst hy
    obtain ⟨v, ev, hv⟩ := (All2.of_map (f := V.int) g1).atI ez
    exact ⟨d, _, j, v, rfl, rfl, SqL.of hp, ev, fun _ => q _ _ pz v S1 H1 F1 x1 hv⟩
/-- object[j] = e -/
def W.gset (j v : Int) : W Unit := fun g P => ∃ n, ixN g.length j = some n ∧ P () (g.set n v)
theorem xs_gset {xd : Str} {ps : Pos} {mv mi : W Int} {K : W (Fl ρ β γ)} (hv : PE X e (tE C env qI mv)) (hd : PE X (.Name xd px) (tVar i)) (hb : PE X b (tE C env qI mi)) (hr : PSs X rest (tF C env K pn pl kp r)) (hi : ∀ g, (env g)[i]? = some (.iv d (oD g)) := by intro _; rfl) (hE : ∀ g g', env g' = (env g).set i (.iv d (oD g')) := by intro _ _; rfl)
    (ha : ∀ v, assign (.Subscript (.Name xd px) b ps) X.env v = (do
      let ov ← holding [v] (eval (.Name xd px) X.env)
      let iv ← holding [v, ov] (eval b X.env)
      standAt ps
      holding [v, ov, iv] (setItem ov iv v)
      release [v, ov, iv] []) := by intro _; rfl)
    (hs : swapsWithSole [.Subscript (.Name xd px) b ps] e pos.line X.env = pure false := by rfl) (hw : swappedStores [.Subscript (.Name xd px) b ps] e X.env = pure none := by rfl) (h1 : (assignEach [.Subscript (.Name xd px) b ps] X.env).map (·.2) = [assign (.Subscript (.Name xd px) b ps) X.env] := by rfl) :
    PSs X (.Assign [.Subscript (.Name xd px) b ps] e pos :: rest) (tF C env (mv.bind fun v => mi.bind fun j => (W.gset j v).bind fun _ => K) pn pl kp r) :=
  pss_imp (pss_cons (ps_asg hv (pg_sub hd hb set_list ha) hs hw h1) hr) fun D σ H _ ⟨S, g0, P, F, em, q⟩ => ⟨S, g0, _, F, em, fun v g1 pv u S1 H1 F1 x1 hu => by
    obtain ⟨s1, _, _⟩ := F1.iv (hi g1)
    refine ⟨.ref d, s1, S1, g1, _, F1, pv, fun j g2 ⟨n, en, pn⟩ y S2 H2 F2 x2 hy => ?_⟩
    obtain ⟨_, _, hp⟩ := F2.iv (hi g2)
    have hy : y = .int j := hy
    have hu : u = .int v := hu
    subst hy hu
    refine ⟨d, _, j, n, rfl, rfl, hp, by rw [List.length_map]; exact en, ?_⟩
    have F3 := F2.writeIv (hi g2) (o' := oD (g2.set n v))
    rw [← hE g2 (g2.set n v)] at F3
    have eo : oD (g2.set n v) = .lst ((g2.map V.int).set n (.int v)) := by
      unfold oD
      rw [List.map_set]
    rw [eo] at F3
    exact ⟨S2, g2.set n v, P, F3, pn, fun o g9 po => (q o g9 po).mono (x1.trans x2)⟩⟩
/-- a list of ints of the def's own becomes the object -/
theorem xs_gh (i : Nat) {xs : List Int} {m : W (Fl ρ β γ)} (hr : ∀ d, PSs X A (tF C (fun g => (env g).set i (.iv d (oD g))) m pn pl kp r)) (hi : ∀ g, (env g)[i]? = some (.ow qI xs) := by intro _; rfl) (hE : ∀ g g', env g = env g' := by intro _ _; rfl) :
    PSs X A (tF C env ((W.put xs).bind fun _ => m) pn pl kp r) :=
  pss_imp (pss_ex hr) fun D σ H _ ⟨S, g0, P, F, em, q⟩ => by
    obtain ⟨v, ev, p, vs, e1, sp, hp, ha⟩ := F.sl.get i (hi g0)
    subst e1
    have hvs : vs = xs.map V.int := flat_ints ha
    subst hvs
    have eo : owns σ ((env g0).set i (.iv p (oD xs))) = owns σ (env g0) := owns_same (hi g0) ev rfl rfl
    refine ⟨p, S, xs, P, ?_, em, q⟩
    show Fr C S H σ ((env xs).set i (.iv p (oD xs)))
    rw [hE xs g0]
    exact ⟨F.e0, F.e1, F.e2, F.nw, F.al, F.sl.setEnv i ev ⟨p, _, rfl, sp, hp, rfl, rfl⟩, by rw [eo]; exact F.ow, by rw [eo]; exact F.nd, F.tc⟩

/-! ### in another dress, where it can be worn -/
theorem xe_asO {f : α → Option β} {m : W α} (hf : ∀ H v a b, ra.p H v a → f a = some b → rb.p H v b) (h : PE X e (tE C env ra m)) : PE X e (tE C env rb (m.bind fun x => ofO (f x))) := pe_imp h fun σ H Q _ ⟨S, g0, P, F, em, k⟩ =>
  ⟨S, g0, _, F, em, fun x g1 ⟨z, ez, pz⟩ v S1 H1 F1 x1 hv _ => k _ _ pz v S1 H1 F1 x1 (hf S1 v x z hv ez)⟩
def two {α : Type} : List α → Option (α × α)
  | [x, y] => some (x, y)
  | _ => none
def three {α : Type} : List α → Option (α × α × α)
  | [x, y, z] => some (x, y, z)
  | _ => none
theorem as_two (H : Hp) (v : V) (a : List α) (b : α × α) (h : (qT ra).p H v a) (e : two a = some b) : (qP ra ra).p H v b := by
  obtain ⟨p, vs, ev, hp, h2⟩ := h
  match a, e with
  | [x, y], e =>
    cases e
    match vs, h2 with
    | [v1, v2], ⟨a1, a2, _⟩ => exact ⟨p, v1, v2, ev, hp, a1, a2⟩
theorem as_three (H : Hp) (v : V) (a : List α) (b : α × α × α) (h : (qT ra).p H v a) (e : three a = some b) : (qP3 ra ra ra).p H v b := by
  obtain ⟨p, vs, ev, hp, h2⟩ := h
  match a, e with
  | [x, y, z], e =>
    cases e
    match vs, h2 with
    | [v1, v2, v3], ⟨a1, a2, a3, _⟩ => exact ⟨p, v1, v2, v3, ev, hp, a1, a2, a3⟩
theorem xe_unT2 {m : W (List α)} (h : PE X e (tE C env (qT ra) m)) : PE X e (tE C env (qP ra ra) (m.bind fun x => ofO (two x))) := xe_asO as_two h
theorem xe_unT3 {m : W (List α)} (h : PE X e (tE C env (qT ra) m)) : PE X e (tE C env (qP3 ra ra ra) (m.bind fun x => ofO (three x))) := xe_asO as_three h
theorem xe_row2 {m : W (α × α)} (h : PE X e (tE C env (qP ra ra) m)) : PE X e (tE C env (qT ra) (m.bind fun x => .ret [x.1, x.2])) :=
  xe_as (r := qP ra ra) (rb := qT ra) (f := fun x => [x.1, x.2]) (fun H v a ⟨p, x, y, ev, hp, h1, h2⟩ => ⟨p, [x, y], ev, hp, h1, h2, True.intro⟩) h
theorem xe_row3 {m : W (α × α × α)} (h : PE X e (tE C env (qP3 ra ra ra) m)) : PE X e (tE C env (qT ra) (m.bind fun x => .ret [x.1, x.2.1, x.2.2])) :=
  xe_as (r := qP3 ra ra ra) (rb := qT ra) (f := fun x => [x.1, x.2.1, x.2.2]) (fun H v a ⟨p, x, y, z, ev, hp, h1, h2, h3⟩ => ⟨p, [x, y, z], ev, hp, h1, h2, h3, True.intro⟩) h

/-! ### lists of the def's own, further -/
/-- xs.extend(a new list) -/
theorem xs_ext {x : Str} {pa pe : Pos} {xs : List α} {m : W (List α)} {K : List α → W (Fl ρ β γ)} (hr : ∀ ys, PSs X rest (tF C (fun g => (env g).set i (.ow re ys)) (K ys) pn pl kp r))
    (hb : PE X (.Call (.Attribute (.Name x px) "extend" pa) [e] [] pe) (tBM X.K "list" rExtend (tVar i) (tCons (tN C env re m) tNil))) (hi : ∀ g, (env g)[i]? = some (.ow re xs) := by intro _; rfl)
    (hs : swapsWith (.Call (.Attribute (.Name x px) "extend" pa) [e] [] pe) none pos.line X.env = pure false := by rfl) :
    PSs X (.Expr (.Call (.Attribute (.Name x px) "extend" pa) [e] [] pe) pos :: rest) (tF C env (m.bind fun zs => (ofO (catC xs zs)).bind K) pn pl kp r) :=
  pss_imp (pss_cons (ps_expr hb hs) (pss_ex hr)) fun D σ H _ ⟨S, g0, P, F, em, q⟩ => by
    obtain ⟨w, ew, p, vs, e2, sp, hp, ha⟩ := F.sl.get i (hi _)
    subst e2
    refine ⟨.ref p, ew, .inl ⟨rfl, vs, SqL.of hp⟩, S, g0, _, F, em, fun zs g1 ⟨out, eo, po⟩ b ws S1 H1 F1 x1 hb hw => ?_⟩
    obtain ⟨w1, ew1, p1, vs1, e21, sp1, hp1, ha1⟩ := F1.sl.get i (hi _)
    subst e21
    rw [ew] at ew1
    cases ew1
    unfold catC at eo
    split at eo
    · rename_i hl
      cases eo
      have npb : p ≠ b := fun z => by
        rw [z, hb] at hp1
        cases hp1
      refine ⟨p, b, vs1, ws, rfl, rfl, by rw [upd_ne npb]; exact hp1, upd_same, by rw [All2.length ha1, All2.length hw, sizeLine_eq]; omega, xs ++ zs, S1, g1, P, ?_, po, fun o g9 po => (q o g9 po).mono x1⟩
      exact (F1.add hb).write (hi _) ew (ha1.append hw)
    · cases eo

/-! ### the greatest, the least one of a list, a tuple of ints -/
def maxL : List Int → Option Int
  | [] => none
  | x :: xs => some (xs.foldl max x)
def minL : List Int → Option Int
  | [] => none
  | x :: xs => some (xs.foldl min x)
def rExt (K : PySem.W.Frag) (f : Int → Int → Int) : List V → Hp → VK → Prop := fun vs H Q => ∃ (a : Addr) (n : Int) (ns : List Int), vs = [V.ref a] ∧ (SqL K H a ((n :: ns).map V.int) ∨ SqT K H a ((n :: ns).map V.int)) ∧ Q (.int (ns.foldl f n)) H
theorem alike_all (ns : List Int) : PySem.W.AlikeAll (ns.map PyData.int) := by
  refine ⟨fun x hx y hy => ?_, fun x hx => ?_⟩
  · obtain ⟨i, _, rfl⟩ := List.mem_map.mp hx
    obtain ⟨j, _, rfl⟩ := List.mem_map.mp hy
    simp only [PySem.W.alike]
  · obtain ⟨i, _, rfl⟩ := List.mem_map.mp hx
    exact fun z => nomatch z
theorem dep_ints (ns : List Int) : PyData.depthAll (ns.map PyData.int) ≤ 0 := depthAll_map (fun a => by simp [PyData.depth]) ns
theorem cr_maxQ (hc : X.calm = true) (hu : X.A.units + 64 < cLine) : CallR X (.builtin "max") (rExt X.K max) := by
  intro pins s σ H vs us Q I r h
  obtain ⟨a, n, ns, rfl, hs, q⟩ := h
  rw [Vals.ref1 r]
  have hd : DpAll X.K H ((n :: ns).map V.int) ((n :: ns).map PyData.int) := dpAll (r := qI) (f := PyData.int) (fun h => dI.rep h) (All2.of_map (f := V.int) (n :: ns))
  have h0 := dep_ints (n :: ns)
  rcases hs with hs | hs
  · obtain ⟨its, rv, hl, _⟩ := I.list hs
    obtain ⟨as, rd⟩ := Dp.readsAll I _ _ _ hd rv
    refine PySem.W.max_list_data (I.ok.hd hc) hl.isList rd (alike_all (n :: ns)) (by
      show X.A.units + 1 + PyData.depthAll ((n :: ns).map PyData.int) < cLine
      omega) fun i v h' tk bs hv hr hk => ?_
    rw [PySem.W.maxD_ints] at hr
    cases hr
    exact ⟨.int _, H, I.kept hk, ⟨_, rfl⟩, q⟩
  · obtain ⟨its, rv, hl, _⟩ := I.tuple hs
    obtain ⟨as, rd⟩ := Dp.readsAll I _ _ _ hd rv
    refine PySem.W.max_tuple_data (I.ok.hd hc) (show s.heap.IsTuple a its.toArray from hl) rd (alike_all (n :: ns)) (by
      show X.A.units + 1 + PyData.depthAll ((n :: ns).map PyData.int) < cLine
      omega) fun i v h' tk bs hv hr hk => ?_
    rw [PySem.W.maxD_ints] at hr
    cases hr
    exact ⟨.int _, H, I.kept hk, ⟨_, rfl⟩, q⟩
theorem cr_minQ (hc : X.calm = true) (hu : X.A.units + 64 < cLine) : CallR X (.builtin "min") (rExt X.K min) := by
  intro pins s σ H vs us Q I r h
  obtain ⟨a, n, ns, rfl, hs, q⟩ := h
  rw [Vals.ref1 r]
  have hd : DpAll X.K H ((n :: ns).map V.int) ((n :: ns).map PyData.int) := dpAll (r := qI) (f := PyData.int) (fun h => dI.rep h) (All2.of_map (f := V.int) (n :: ns))
  have h0 := dep_ints (n :: ns)
  rcases hs with hs | hs
  · obtain ⟨its, rv, hl, _⟩ := I.list hs
    obtain ⟨as, rd⟩ := Dp.readsAll I _ _ _ hd rv
    refine PySem.W.min_list_data (I.ok.hd hc) hl.isList rd (alike_all (n :: ns)) (by
      show X.A.units + 1 + PyData.depthAll ((n :: ns).map PyData.int) < cLine
      omega) fun i v h' tk bs hv hr hk => ?_
    rw [PySem.W.minD_ints] at hr
    cases hr
    exact ⟨.int _, H, I.kept hk, ⟨_, rfl⟩, q⟩
  · obtain ⟨its, rv, hl, _⟩ := I.tuple hs
    obtain ⟨as, rd⟩ := Dp.readsAll I _ _ _ hd rv
    refine PySem.W.min_tuple_data (I.ok.hd hc) (show s.heap.IsTuple a its.toArray from hl) rd (alike_all (n :: ns)) (by
      show X.A.units + 1 + PyData.depthAll ((n :: ns).map PyData.int) < cLine
      omega) fun i v h' tk bs hv hr hk => ?_
    rw [PySem.W.minD_ints] at hr
    cases hr
    exact ⟨.int _, H, I.kept hk, ⟨_, rfl⟩, q⟩
theorem xe_max1 {mx : W (List Int)} (hc : X.calm = true) (hu : X.A.units + 64 < cLine) (hg : Gl X "max") (hm : X.mg "max" = none) (ha : PE X a (tQ C env k qI mx)) (hs : starEach [a] X.env = (false, eval a X.env) :: starEach [] X.env := by rfl) :
    PE X (.Call (.Name "max" p) [a] [] pos) (tE C env qI (mx.bind fun xs => ofO (maxL xs))) :=
  xe_b1 (f := maxL) (cr_maxQ hc hu) (by decide +kernel) hg hm ha (fun _ S H σ p vs xs z Q F _ hp h2 ez kk => by
    cases xs with
    | nil => cases ez
    | cons n ns =>
      cases ez
      exact ⟨p, n, ns, rfl, by rw [← flat_ints h2]; exact sq_seq hp, kk _ S H F (Ex.refl S) rfl⟩) hs
theorem xe_min1 {mx : W (List Int)} (hc : X.calm = true) (hu : X.A.units + 64 < cLine) (hg : Gl X "min") (hm : X.mg "min" = none) (ha : PE X a (tQ C env k qI mx)) (hs : starEach [a] X.env = (false, eval a X.env) :: starEach [] X.env := by rfl) :
    PE X (.Call (.Name "min" p) [a] [] pos) (tE C env qI (mx.bind fun xs => ofO (minL xs))) :=
  xe_b1 (f := minL) (cr_minQ hc hu) (by decide +kernel) hg hm ha (fun _ S H σ p vs xs z Q F _ hp h2 ez kk => by
    cases xs with
    | nil => cases ez
    | cons n ns =>
      cases ez
      exact ⟨p, n, ns, rfl, by rw [← flat_ints h2]; exact sq_seq hp, kk _ S H F (Ex.refl S) rfl⟩) hs

/-! ### name = [..], the name a local -/
section
variable {δ : Type} {rd : Rp δ} {y : Str} {py spos : Pos} {elt : Expr} {ifs : List Expr} {scope : Scope} {own : List (Str × Nat)} {mx : W (List α)} {up : Up α} {cf : α → W Bool} {ef : α → W δ}
theorem xs_setLcN {K : List δ → W (Fl ρ β γ)} (hc : X.calm = true) (hN : X.N.Nodup) (hy : X.N[i]? = some y) (hyl : X.env.scope.names.lookup y = some .local) (hsw : swapsWith (.ListComp elt [⟨tg, iter, ifs, 0⟩] scope pos) (some (.Name y py)) spos.line X.env = pure true)
    (hi : PI X tg iter (tS C env re mx)) (ok : BlkOk X.N X.env.scope scope own) (hjs : (up.js.all fun j => (own.map (·.2)).contains j) = true) (hw : ∀ g, wipeOk (env g) (own.map (·.2)) = true)
    (hg : ∀ (s : Shared) (H : Hp) (C0 : Addr) (cl : List (Str × Addr)) (fp : List Addr), PG (X.blk s H scope (compEnvC scope cl C0 X.env) fp) tg (tG re up))
    (ht : ∀ (s : Shared) (H : Hp) (C0 : Addr) (cl : List (Str × Addr)) (fp : List Addr) (C' : Cs) (a : α), PTs (X.blk s H scope (compEnvC scope cl C0 X.env) fp) ifs (tT C' (fun g => up.f a (wipeE (env g) (own.map (·.2)))) (cf a)))
    (he : ∀ (s : Shared) (H : Hp) (C0 : Addr) (cl : List (Str × Addr)) (fp : List Addr) (C' : Cs) (a : α), PE (X.blk s H scope (compEnvC scope cl C0 X.env) fp) elt (tE C' (fun g => up.f a (wipeE (env g) (own.map (·.2)))) rd (ef a)))
    (hr : ∀ a, PSs X rest (tF C (fun g => (env g).set i (.ow rd a)) (K a) pn pl kp r))
    (hs : ∀ x, foldedSetIterable iter X.env x = pure x := by intro _; rfl) (hE : ∀ g g', Gs (env g) (env g') := by intro _ _; repeat (first | exact Gs.nil | apply Gs.keep | apply Gs.gh)) :
    PSs X (.Assign [.Name y py] (.ListComp elt [⟨tg, iter, ifs, 0⟩] scope pos) spos :: rest) (tF C env ((mx.bind fun xs => lcW cf ef xs).bind K) pn pl kp r) :=
  pss_imp (pss_cons (ps_setLc (tt := fun σ H Q => ∃ p : Cs × α, tT p.1 (fun g => up.f p.2 (wipeE (env g) (own.map (·.2)))) (cf p.2) σ H Q) (te := fun σ H Q => ∃ p : Cs × α, tE p.1 (fun g => up.f p.2 (wipeE (env g) (own.map (·.2)))) rd (ef p.2) σ H Q) hc hN hy hyl hsw hi ok hg
    (fun s H C0 cl fp => ⟨fun pins s' σ H' Q I ⟨p, q⟩ => (ht s H C0 cl fp p.1 p.2).run pins s' σ H' Q I q⟩) (fun s H C0 cl fp => pe_ex fun p => he s H C0 cl fp p.1 p.2) hs) (pss_ex hr)) fun D σ H _ ⟨S, g0, P, F, em, q⟩ =>
    lc_use (re := re) (rb := rd) (mx := mx) (up := up) (cf := cf) (ef := ef) (Q := fun x H1 => ∃ a, tF C (fun g => (env g).set i (.ow rd a)) (K a) pn pl kp r D (σ.set i (some x)) H1) hjs hw hE ⟨S, g0, _, F, em, fun xs g1 px p vs S' H' F' eS hp ha => ⟨xs, _, g1, P, F'.setOw i hp ha, px, fun o g9 po => (q o g9 po).mono eS⟩⟩
theorem xs_setLc {K : List δ → W (Fl ρ β γ)} (hc : X.calm = true) (hN : X.N.Nodup) (hy : X.N[i]? = some y) (hyl : X.env.scope.names.lookup y = some .local) (hsw : swapsWith (.ListComp elt [⟨tg, iter, ifs, 0⟩] scope pos) (some (.Name y py)) spos.line X.env = pure true)
    (hi : PI X tg iter (tS C env re mx)) (ok : BlkOk X.N X.env.scope scope own) (hjs : (up.js.all fun j => (own.map (·.2)).contains j) = true) (hw : ∀ g, wipeOk (env g) (own.map (·.2)) = true)
    (hg : ∀ (s : Shared) (H : Hp) (C0 : Addr) (cl : List (Str × Addr)) (fp : List Addr), PG (X.blk s H scope (compEnvC scope cl C0 X.env) fp) tg (tG re up))
    (ht : ∀ (s : Shared) (H : Hp) (C0 : Addr) (cl : List (Str × Addr)) (fp : List Addr) (C' : Cs) (a : α), PTs (X.blk s H scope (compEnvC scope cl C0 X.env) fp) ifs (tT C' (fun g => up.f a (wipeE (env g) (own.map (·.2)))) (cf a)))
    (he : ∀ (s : Shared) (H : Hp) (C0 : Addr) (cl : List (Str × Addr)) (fp : List Addr) (C' : Cs) (a : α), PE (X.blk s H scope (compEnvC scope cl C0 X.env) fp) elt (tE C' (fun g => up.f a (wipeE (env g) (own.map (·.2)))) rd (ef a)))
    (hr : ∀ a, PSs X rest (tF C (fun g => (env g).set i (.im (qL rd) a)) (K a) pn pl kp r))
    (hs : ∀ x, foldedSetIterable iter X.env x = pure x := by intro _; rfl) (hE : ∀ g g', Gs (env g) (env g') := by intro _ _; repeat (first | exact Gs.nil | apply Gs.keep | apply Gs.gh)) :
    PSs X (.Assign [.Name y py] (.ListComp elt [⟨tg, iter, ifs, 0⟩] scope pos) spos :: rest) (tF C env ((mx.bind fun xs => lcW cf ef xs).bind K) pn pl kp r) :=
  pss_imp (pss_cons (ps_setLc (tt := fun σ H Q => ∃ p : Cs × α, tT p.1 (fun g => up.f p.2 (wipeE (env g) (own.map (·.2)))) (cf p.2) σ H Q) (te := fun σ H Q => ∃ p : Cs × α, tE p.1 (fun g => up.f p.2 (wipeE (env g) (own.map (·.2)))) rd (ef p.2) σ H Q) hc hN hy hyl hsw hi ok hg
    (fun s H C0 cl fp => ⟨fun pins s' σ H' Q I ⟨p, q⟩ => (ht s H C0 cl fp p.1 p.2).run pins s' σ H' Q I q⟩) (fun s H C0 cl fp => pe_ex fun p => he s H C0 cl fp p.1 p.2) hs) (pss_ex hr)) fun D σ H _ ⟨S, g0, P, F, em, q⟩ =>
    lc_use (re := re) (rb := rd) (mx := mx) (up := up) (cf := cf) (ef := ef) (Q := fun x H1 => ∃ a, tF C (fun g => (env g).set i (.im (qL rd) a)) (K a) pn pl kp r D (σ.set i (some x)) H1) hjs hw hE (tN_of_E ⟨S, g0, _, F, em, fun xs g1 px v S' H' F' eS hv => ⟨xs, S', g1, P, F'.setIm i hv, px, fun o g9 po => (q o g9 po).mono eS⟩⟩)
end
end

/-! ### defs by their names -/
section
variable (P : Program) (w : World) (K : PySem.W.Frag) (mg : Str → Option Value) (base : Heap)
def Has (x : Str) (k : Nat) (ps : List Str) (sp : Sp) : Prop := ∃ fa fd, FnOk P w K mg base CX0 k fa fd ps sp ∧ mg x = some (.ref fa) ∧ PySem.W.keepIn K (.ref fa) = true ∧ Binds K fd ps []
end
section
variable {X : Cx} {C : Cs} {env kp : Gh → List Sl} {e a b : Expr} {es : List Expr} {A B rest : List Stmt} {pos p px : Pos} {α β γ ρ : Type} {r : Rp ρ} {pn : β → Gh → List Sl} {pl : γ → Gh → List Sl} {d : Addr} {i : Nat} {ra : Ra α}
theorem xe_callH {f : α → Option ρ} {m : W α} {j k : Nat} {ps : List Str} {x : Str} (h : Has X.prog X.w X.K X.mg X.base x j ps (SpF ra r f)) (hr : Room k X.A) (hj : j ≤ k) (hg : Gl X x)
    (ha : PA X (e :: es) (tA C env ra m)) (hdb : (x == ("__debug__" : Str)) = false := by decide) (he : starEach (e :: es) X.env = (false, eval e X.env) :: starEach es X.env := by rfl) (hpl : (backTo pos (starEach es X.env)).any (·.1) = false := by rfl) :
    PE X (.Call (.Name x p) (e :: es) [] pos) (tE C env r (m.bind fun a => ofO (f a))) :=
  let ⟨_, _, F, hm, hk, hb⟩ := h
  xe_call F (hr.mono hj) hg hm hk hb ha hdb he hpl
theorem xe_callDH {f : α → W ρ} {m : W α} {j k : Nat} {ps : List Str} {x xd : Str} (h : Has X.prog X.w X.K X.mg X.base x j ps (SpD ra r f)) (hr : Room k X.A) (hj : j ≤ k) (hg : Gl X x)
    (hd : PE X (.Name xd px) (tVar i)) (ha : PA X es (tA C env ra m)) (hi : ∀ g, (env g)[i]? = some (.iv d (oD g)) := by intro _; rfl) (hE : ∀ g g', env g' = (env g).set i (.iv d (oD g')) := by intro _ _; rfl)
    (hdb : (x == ("__debug__" : Str)) = false := by decide) (he : starEach (.Name xd px :: es) X.env = (false, eval (.Name xd px) X.env) :: starEach es X.env := by rfl) (hpl : (backTo pos (starEach es X.env)).any (·.1) = false := by rfl) :
    PE X (.Call (.Name x p) (.Name xd px :: es) [] pos) (tE C env r (m.bind f)) :=
  let ⟨_, _, F, hm, hk, hb⟩ := h
  xe_callD F (hr.mono hj) hg hm hk hb hd ha hi hE hdb he hpl
theorem xs_parN1 {i j : Nat} {x y : Str} {px py pt0 : Pos} {kt k2 : Nat} {pt2 : Pos} {α1 α2 : Type} {r1 : Rp α1} {r2 : Rp α2} {m1 : W (List α1)} {m2 : W α2} {K : List α1 → α2 → W (Fl ρ β γ)} (ha : PE X a (tN C env r1 m1)) (hb : ∀ C', PE X b (tE C' env r2 m2)) (hr : ∀ a b, PSs X rest (tF C (fun g => ((env g).set i (.ow r1 a)).set j (.im r2 b)) (K a b) pn pl kp r))
    (hc : X.calm = true) (hN : X.N.Nodup) (hi : X.N[i]? = some x) (hj : X.N[j]? = some y) (hij : i ≠ j) (hx : X.env.scope.names.lookup x = some .local) (hy : X.env.scope.names.lookup y = some .local)
    (hw : swappedStores [.Tuple [.Name x px, .Name y py] kt pt0] (.Tuple [a, b] k2 pt2) X.env = pure (some [x, y])) (hs : swapsWithSole [.Tuple [.Name x px, .Name y py] kt pt0] (.Tuple [a, b] k2 pt2) pos.line X.env = pure false := by rfl)
    (h1 : starEach [a, b] X.env = (false, eval a X.env) :: starEach [b] X.env := by rfl) (h2 : starEach [b] X.env = (false, eval b X.env) :: starEach [] X.env := by rfl) (hE : ∀ g g', Gs (env g) (env g') := by intro _ _; repeat (first | exact Gs.nil | apply Gs.keep | apply Gs.gh)) :
    PSs X (.Assign [.Tuple [.Name x px, .Name y py] kt pt0] (.Tuple [a, b] k2 pt2) pos :: rest) (tF C env (m1.bind fun a => m2.bind fun b => K a b) pn pl kp r) :=
  pss_imp (pss_cons (ps_par hc hN hi hj hij hx hy (pa_cons ha (pa_cons (pe_ex hb) pa_nil h2) h1) hw hs) (pss_ex fun p : List α1 × α2 => hr p.1 p.2)) fun D σ H _ ⟨S, g0, P, F, em, q⟩ => ⟨S, g0, _, F, em, fun xs g1 px p vs S1 H1 F1 x1 hp hv => by
    have G0 := F1.add hp (o := .lst vs)
    have np : ∀ g, p ∉ owns σ (env g) := fun g z => by
      obtain ⟨_, o, e⟩ := F1.sl.own ((hE g g1).owns σ ▸ z)
      rw [hp] at e
      cases e
    refine ⟨_, S1, g1, _, G0.here, px, fun w g2 pw v2 S2 H2 F2 x2 hv2 => ⟨.ref p, v2, rfl, (xs, w), S2, g2, P, ?_, pw, fun o g9 po => (q o g9 po).mono (x1.trans x2)⟩⟩
    have hp2 : H2 p = some (.lst vs) := F2.e2 p _ upd_same (np g1)
    have sp2 : S2 p = none := F2.nw p (F1.e1.back hp) (by show upd H1 p (.lst vs) p ≠ none; rw [upd_same]; exact fun z => nomatch z)
    have G2 : Fr C S2 H2 σ (env g2) := G0.backG ((hE g2 g1).owns σ) F2
    have G3 := (G2.del sp2 (F1.H0none hp) (np g2)).setOw i (r := r1) (p := p) (vs := vs) (xs := xs) (by unfold Rt.del; simp) (hv.mono fun _ _ z => r1.mono x2 z)
    rw [upd_del hp2] at G3
    exact G3.setIm j hv2⟩
theorem xe_gintE {x : Str} {i : Int} (hg : Gl X x) (hm : ∃ t, X.mg x = some (.int i t)) (hd : (x == ("__debug__" : Str)) = false := by decide) : PE X (.Name x pos) (tE C env qI (.ret i)) :=
  let ⟨_, h⟩ := hm
  xe_gint hg h hd
end
/-! ### defs that give a new list -/
theorem del_ne {H : Hp} {p b : Addr} (h : b ≠ p) : del H p b = H b := by
  unfold del
  rw [if_neg h]
theorem del_same {H : Hp} {p : Addr} : del H p p = none := by
  unfold del
  simp
theorem Ex.del {S S' : Hp} (p : Addr) (e : Ex S S') : Ex (Rt.del S p) (Rt.del S' p) := fun b u h => by
  by_cases z : b = p
  · rw [z, del_same] at h
    cases h
  · rw [del_ne z] at h ⊢
    exact e b u h
theorem Ex.toDel {S S' : Hp} {p : Addr} (e : Ex S S') (h : S p = none) : Ex S (Rt.del S' p) := fun b u hb => by
  have z : b ≠ p := fun z => by
    rw [z, h] at hb
    cases hb
  rw [del_ne z]
  exact e b u hb
theorem del_upd {S : Hp} {p : Addr} {o : HO} (h : S p = none) : del (upd S p o) p = S := by
  funext b
  by_cases z : b = p
  · rw [z, del_same, h]
  · rw [del_ne z, upd_ne z]
/-- a list that is new behind C -/
def qNew (C : Cs) {α : Type} (r : Rp α) : Rp (List α) := ⟨fun S v xs => ∃ p vs, v = .ref p ∧ S p = some (.lst vs) ∧ C.S0 p = none ∧ C.H0 p = none ∧ All2 (r.p (Rt.del S p)) vs xs, fun e ⟨p, vs, h1, h2, h3, h4, h5⟩ => ⟨p, vs, h1, e _ _ h2, h3, h4, h5.mono fun _ _ z => r.mono (e.del p) z⟩⟩
def SpN {α β : Type} (ra : Ra α) (r : Rp β) (f : α → Option (List β)) : Sp := fun vs H Q _ => ∃ S a o, Ex S H ∧ Tc S H ∧ ra.p S vs a ∧ f a = some o ∧
  ∀ p us S' H', Ex S S' → Ex S' H' → Ex H H' → (∀ b, S b = none → H b ≠ none → S' b = none) → Tc S' H' → H' p = none → All2 (r.p S') us o → Q (.ref p) (upd H' p (.lst us))
section
variable {X : Cx} {C : Cs} {env kp : Gh → List Sl} {e a b : Expr} {es : List Expr} {A B rest : List Stmt} {pos p : Pos} {α β γ δ : Type} {re : Rp δ} {pn : β → Gh → List Sl} {pl : γ → Gh → List Sl} {ra : Ra α}
theorem xs_retN {m : W (List δ)} (h : PE X e (tN C env re m)) (hk : Kp env kp := by first | exact ⟨0, fun _ => rfl⟩ | exact ⟨1, fun _ => rfl⟩) : PSs X (.Return (some e) pos :: rest) (tF C env (m.bind fun x => .ret (.rt x)) pn pl kp (qNew C re)) := pss_imp (pss_cons (ps_ret h) pss_never) fun D σ H _ ⟨S, g0, P, F, em, q⟩ =>
  ⟨S, g0, _, F, em, fun x g1 px p vs S1 H1 F1 x1 hp ha => by
    obtain ⟨σ', F'⟩ := (F1.new (o := .lst vs) hp).kp hk
    have sp : S1 p = none := F1.e1.back hp
    exact q _ _ px (.ref p) _ _ σ' F' (x1.trans (Ex.new sp)) ⟨p, vs, rfl, upd_same, F1.e0.back sp, F1.H0none hp, by rw [del_upd sp]; exact ha⟩⟩
theorem body_ofL {body : List Stmt} {N : List Str} {f : α → Option (List δ)} {env : α → List Sl} {m : α → W (Fl (List δ) β γ)} {vs : List V} {H : Hp} {Q : VK} {E : XK} (h : SpN ra re f vs H Q E) (hg : ∀ a, ofO (f a) = rtOf (m a))
    (hs : ∀ S H a, ra.p S vs a → SlAll S H (start N vs) (env a) ∧ owns (start N vs) (env a) = []) (hb : ∀ (C : Cs) (a : α), C.A0 = [] → PSs X body (tF C (fun _ => env a) (m a) pn pl kp (qNew C re))) :
    ∃ t, PSs X body t ∧ t { nx := fun _ H' => Q .non H', rt := Q } (start N vs) H := by
  obtain ⟨S, a, o, e, t, hv, eo, k⟩ := h
  obtain ⟨s1, s2⟩ := hs S H a hv
  have hm : rtOf (m a) [] (fun x _ => x = o) := by
    rw [← hg a]
    exact ⟨o, eo, rfl⟩
  refine ⟨_, hb ⟨[], S, H⟩ a rfl, S, [], _, Fr.entry e t s1 s2, hm, fun w g' pw => ?_⟩
  cases w with
  | rt x =>
    have pw : x = o := pw
    subst pw
    rintro v S' H' σ' F _ ⟨p, us, ev, sp, s0, h0, ha⟩
    subst ev
    have := k p us (Rt.del S' p) (Rt.del H' p) (F.e0.toDel s0) (F.e1.del p) (Ex.toDel (fun b u e => F.e2 b u e (by simp)) h0) (fun b z1 z2 => by
      by_cases z : b = p
      · rw [z]
        exact del_same
      · rw [del_ne z]
        exact F.nw b z1 z2) (F.tc.del2 p) del_same ha
    rw [upd_del (F.e1 _ _ sp)] at this
    exact this
  | nx _ => exact pw.elim
  | br _ => exact pw.elim
  | ct _ => exact pw.elim
theorem xe_callL {f : α → Option (List δ)} {m : W α} {j k : Nat} {ps : List Str} {x : Str} (h : Has X.prog X.w X.K X.mg X.base x j ps (SpN ra re f)) (hr : Room k X.A) (hj : j ≤ k) (hg : Gl X x)
    (ha : PA X (e :: es) (tA C env ra m)) (hdb : (x == ("__debug__" : Str)) = false := by decide) (he : starEach (e :: es) X.env = (false, eval e X.env) :: starEach es X.env := by rfl) (hpl : (backTo pos (starEach es X.env)).any (·.1) = false := by rfl) :
    PE X (.Call (.Name x p) (e :: es) [] pos) (tN C env re (m.bind fun a => ofO (f a))) := by
  obtain ⟨fa, fd, F, hm, hk, hb⟩ := h
  exact pe_imp (pe_call F (hr.mono hj) hg hm hk hb .nil pass0 ha hdb he hpl) fun σ H Q _ ⟨S, g0, P, Fr1, em, q⟩ => ⟨S, g0, _, Fr1, em, fun a g1 ⟨o, eo, po⟩ vs S1 H1 F1 x1 hv => by
    show SpN ra re f (vs ++ []) H1 _ E0
    rw [List.append_nil]
    exact ⟨S1, a, o, F1.e1, F1.tc, hv, eo, fun p us S' H' eS eH eHH n t hp ha _ => q o g1 po p us S' H' (F1.call eS eH eHH n t) (x1.trans eS) hp ha⟩⟩
end
section
variable {P : Program} {w : World} {K : PySem.W.Frag} {mg : Str → Option Value} {base : Heap} {α β γ δ : Type} {re : Rp δ} {p : Pr α} {N ps : List Str} {k : Nat} {st : Stmt} {x qual : Str} {f : Addr} {fd : FuncData}
theorem fn_okL {g : α → Option (List δ)} {env : α → List Sl} {m : α → W (Fl (List δ) β γ)} {pn : β → Gh → List Sl} {pl : γ → Gh → List Sl} (j : Nat) (F : Fun K x qual st f fd) (S : FnScope N ps (defScope st)) (hn : p.n = ps.length) (hN : N.length = ps.length + j) (he : ∀ a, env a = p.sl a ++ List.replicate j .un)
    (hb : ∀ (cdv : Value) (A : Around) (outer : List Env) (s : Shared) (H : Hp) (E : XK), Room k (A.deeper (PyProof.Rows.envOfC qual (defScope st) s.heap.objs.size f cdv)) → ∀ (C : Cs) (a : α), C.A0 = [] → PSs (cxOf CX0 P w K mg base N qual (defScope st) f cdv A outer s H E).nox (defBody st) (tF C (fun _ => env a) (m a) pn pl (fun _ => []) (qNew C re)))
    (hg : ∀ a, ofO (g a) = rtOf (m a)) : FnOk P w K mg base CX0 (k + 1) f fd ps (SpN p.ra re g) := by
  refine F.ok S (fun vs H Q E h => ?_) (fun cdv A outer s H vs Q E hr h => ?_)
  · obtain ⟨_, _, _, _, _, hv, _⟩ := h
    rw [(p.ok (H := H) hv).2.2, hn]
  · exact body_ofL (E := E) h hg (fun S H a hv => by rw [he a]; exact p.start (by rw [hN, hn]) hv) (hb cdv A outer s H E hr)
end

/-! ### defs within which a shared object is made -/
def SpW {α ρ : Type} (ra : Ra α) (r : Rp ρ) (f : α → W ρ) : Sp := fun vs H Q _ => ∃ S a P, Ex S H ∧ Tc S H ∧ ra.p S vs a ∧ f a [] P ∧ ∀ o g, P o g → Post S H r o Q
section
variable {P : Program} {w : World} {K : PySem.W.Frag} {mg : Str → Option Value} {base : Heap} {α β γ ρ : Type} {r : Rp ρ} {p : Pr α} {N ps : List Str} {k : Nat} {st : Stmt} {x qual : Str} {f : Addr} {fd : FuncData}
theorem fn_okW {g : α → W ρ} {env : α → List Sl} {m : α → W (Fl ρ β γ)} {pn : β → Gh → List Sl} {pl : γ → Gh → List Sl} (j : Nat) (F : Fun K x qual st f fd) (S : FnScope N ps (defScope st)) (hn : p.n = ps.length) (hN : N.length = ps.length + j) (he : ∀ a, env a = p.sl a ++ List.replicate j .un)
    (hb : ∀ (cdv : Value) (A : Around) (outer : List Env) (s : Shared) (H : Hp) (E : XK), Room k (A.deeper (PyProof.Rows.envOfC qual (defScope st) s.heap.objs.size f cdv)) → ∀ (C : Cs) (a : α), C.A0 = [] → PSs (cxOf CX0 P w K mg base N qual (defScope st) f cdv A outer s H E).nox (defBody st) (tF C (fun _ => env a) (m a) pn pl (fun _ => []) r))
    (hg : ∀ a, g a = rtOf (m a)) : FnOk P w K mg base CX0 (k + 1) f fd ps (SpW p.ra r g) := by
  refine F.ok S (fun vs H Q E h => ?_) (fun cdv A outer s H vs Q E hr h => ?_)
  · obtain ⟨_, _, _, _, _, hv, _⟩ := h
    rw [(p.ok (H := H) hv).2.2, hn]
  · obtain ⟨S, a, P', e, t, hv, eo, kk⟩ := h
    obtain ⟨s1, s2⟩ := p.start (N := N) (j := j) (by rw [hN, hn]) (H := H) hv
    rw [hg a] at eo
    refine ⟨_, hb cdv A outer s H E hr ⟨[], S, H⟩ a rfl, S, [], _, Fr.entry e t (by rw [he a]; exact s1) (by rw [he a]; exact s2), eo, fun w g' pw => ?_⟩
    cases w with
    | rt x => exact fun v S' H' σ' F _ hv => F.post (kk _ _ pw) hv
    | nx _ => exact pw.elim
    | br _ => exact pw.elim
    | ct _ => exact pw.elim
end

section
variable {X : Cx} {C : Cs} {env kp : Gh → List Sl} {A : List Stmt} {α β γ ρ : Type} {r : Rp ρ} {re : Rp α} {pn : β → Gh → List Sl} {pl : γ → Gh → List Sl}
/-- a list of the def's own changes no more, the shared object stands by -/
theorem xs_frzD (i : Nat) {d : Addr} {xs : List α} {m : W (Fl ρ β γ)} (hA : C.A0 = [d]) (hr : PSs X A (tF C (fun g => (env g).set i (.im (qL re) xs)) m pn pl kp r)) (hi : ∀ g, (env g)[i]? = some (.ow re xs) := by intro _; rfl) (h0 : ∀ g, (env g)[0]? = some (.iv d (oD g)) := by intro _; rfl) (hne : i ≠ 0 := by decide) : PSs X A (tF C env m pn pl kp r) :=
  pss_imp hr fun D σ H _ ⟨S, g0, P, F, em, q⟩ => by
    obtain ⟨s0, _, _⟩ := F.iv (h0 g0)
    obtain ⟨S', x1, F1⟩ := F.freeze (hi _) fun p hp z => by
      rw [hA] at z
      have z : p = d := by simpa using z
      subst z
      exact hne (owns_inj F.nd (hi g0) hp rfl (h0 g0) s0 rfl)
    exact ⟨S', g0, P, F1, em, fun o g9 po => (q o g9 po).mono x1⟩
end

/-! ### lists of data as data -/
theorem dpAllD {K : PySem.W.Frag} {H : Hp} : ∀ {vs : List V} {xs : List PyData}, All2 ((qD K).p H) vs xs → DpAll K H vs xs
  | [], [], _ => .nil
  | v :: vs, x :: xs, ⟨a, b⟩ => .cons a (dpAllD b)
  | [], _ :: _, z => z.elim
  | _ :: _, [], z => z.elim
section
variable {X : Cx} {C : Cs} {env : Gh → List Sl} {e : Expr} {m : W (List PyData)}
theorem xe_dataL (h : PE X e (tE C env (qL (qD X.K)) m)) : PE X e (tE C env (qD X.K) (m.bind fun xs => .ret (PyData.list xs))) :=
  xe_as (r := qL (qD X.K)) (rb := qD X.K) (f := PyData.list) (fun H v a ⟨p, vs, ev, hp, ha⟩ => by rw [ev]; exact .lst (SqL.of hp) (dpAllD ha)) h
theorem xe_dataT (h : PE X e (tE C env (qT (qD X.K)) m)) : PE X e (tE C env (qD X.K) (m.bind fun xs => .ret (PyData.tuple xs))) :=
  xe_as (r := qT (qD X.K)) (rb := qD X.K) (f := PyData.tuple) (fun H v a ⟨p, vs, ev, hp, ha⟩ => by rw [ev]; exact .tup (SqT.of hp) (dpAllD ha)) h
end
theorem units65 {k : Nat} {A : Around} (r : Room k A) : A.units + 65 < cLine := by
  have := r.un
  omega
end Rt

set_option maxRecDepth 100000
set_option maxHeartbeats 4000000
/-! Rt8: sorted(a tuple of ints). -/
namespace Rt
open PySem L2 PyProof.Rows
section
variable {prog : Program} {w : World} {A : Around} {E : Value → Shared → Prop} {s : Shared}
/-- the heap behind which a tuple's items stand in a list of their own -/
def gath (h : Heap) (its : List Value) : Heap := (h.push (seqObj "list" #[] 0)).update h.objs.size (Obj.mapSeq (· ++ its.toArray))
theorem gather {t : Addr} {its : List Value} {R : List Value → Shared → Prop} (ht : s.heap.IsTuple t its.toArray) (hn : its.length ≤ sizeLine) (k : R its { s with heap := gath s.heap its }) : wpAny (model prog w) A (collect (.ref t)) R E s := by
  obtain ⟨u, hu, cu, m, du⟩ := id ht
  unfold collect
  apply wpAny_bind
  apply wpAny_runValue
  apply codeAny_builtin entry_proto_collect'
  show wpAny _ _ (do
    again (.builtin "list.__iadd__" ⟨[← newList [], .ref t], []⟩)) _ _ s
  apply wpAny_bind
  refine wpAny_newList ?_
  apply wpAny_pure
  refine ⟨Code.quiet_builtin _ (by decide +kernel), codeAny_builtin entry_list_iadd' ?_⟩
  have hu1 : (s.heap.push (seqObj "list" #[] 0)).get? t = some u := Heap.get?_push_of_some _ hu
  have hL : (s.heap.push (seqObj "list" #[] 0)).get? s.heap.objs.size = some (seqObj "list" #[] 0) := Heap.get?_push_size _ rfl
  show wpAny _ _ (Builtin.List.listExtendWith (.ref s.heap.objs.size) (.ref t) (.ref s.heap.objs.size)) _ _ { s with
    heap := s.heap.push (seqObj "list" #[] 0) }
  unfold Builtin.List.listExtendWith
  apply wpAny_bind
  refine wpAny_typeOf (T := "tuple") ?_ ?_
  · exact ⟨u, hu1, cu⟩
  have e1 : (Value.type "tuple" == Value.type "tuple") = true := rfl
  rw [if_pos (by rw [e1, Bool.or_true])]
  apply wpAny_bind
  apply listItems_at hu1 du
  apply wpAny_bind
  apply listItems_at (xs := #[]) (n := 0) hL rfl
  rw [if_neg (by simp)]
  apply wpAny_bind
  refine listUpdate_at (xs := #[]) (n := 0) hL rfl ?_ (Nat.zero_le _) (by
    show (#[] ++ its.toArray).size ≤ sizeLine + 1
    rw [Array.size_append, List.size_toArray]
    show 0 + its.length ≤ sizeLine + 1
    omega)
  apply wpAny_pure
  show wpAny (model prog w) A (do
    let x ← load s.heap.objs.size
    match x.data with
    | .seq ys _ => pure ys.toList
    | _ => unsupported "internal:collect") R E { s with heap := gath s.heap its }
  apply wpAny_bind
  refine wpAny_load (get?_update_seq hL _) ?_
  show wpAny _ _ (pure ((#[] : Array Value) ++ its.toArray).toList) R E _
  rw [Array.toList_append, List.toList_toArray]
  exact wpAny_pure k
theorem sortedT_ord {t : Addr} {its : List Value} {lt : Value → Value → Bool} {R : Value → Shared → Prop} (O : SrtO.Swo lt) (ht : s.heap.IsTuple t its.toArray) (hn : its.length ≤ sizeLine)
    (hS : 2 ≤ its.length → ∀ (h1 : Heap) (a : Addr), SrtO.SortableO prog w A.in1.in1 { s with heap := h1 } a its lt)
    (k : ∀ out : List Value, SrtO.Srtd lt out → SrtO.Stb lt out its → R (.ref (s.heap.objs.size + 1)) { s with heap := sortedAll s.heap its out.toArray }) :
    wpAny (model prog w) A (call (.builtin "sorted") [.ref t]) R E s := by
  apply Calls.call_function_entry kind_sorted plain_sorted entry_sorted (args_sorted1 _)
  unfold Builtin.«sorted»
  refine wpAny_bind (m := checkCount "sorted" 1 1 _) (wpAny_pure ?_)
  apply wpAny_bind
  refine gather ht hn ?_
  apply wpAny_bind
  refine wpAny_newList ?_ hn
  have z : (gath s.heap its).objs.size = s.heap.objs.size + 1 := by
    unfold gath
    rw [Heap.size_update, size_push']
  have hq : ((gath s.heap its).push (seqObj "list" its.toArray 0)).get? (s.heap.objs.size + 1) = some (seqObj "list" its.toArray 0) := by
    rw [← z]
    exact Heap.get?_push_size _ rfl
  show wpAny _ _ _ _ _ { s with heap := (gath s.heap its).push (seqObj "list" its.toArray 0) }
  rw [z]
  apply wpAny_bind
  apply wpAny_holding
  refine wpAny_call_entry slot_list_sort ⟨_, hq, rfl⟩ entry_list_sort ?_ (args_list_sort _)
  refine SrtO.list_sort_ord O hq hn (fun h2 => hS h2 _ _) fun out hs hb => ?_
  exact ⟨_, rfl, wpAny_pure ⟨_, rfl, k out hs hb⟩⟩
end
section
variable {X : Cx} {C : Cs} {env : Gh → List Sl} {a : Expr} {pos p : Pos}
def rSortTI (K : PySem.W.Frag) : List V → Hp → VK → Prop := fun vs H Q => ∃ (a : Addr) (ns : List Int), vs = [V.ref a] ∧ SqT K H a (ns.map V.int) ∧ ∀ (p : Addr), H p = none → Q (.ref p) (upd H p (.lst ((sortI ns).map V.int)))
theorem cr_sortTI : CallR X (.builtin "sorted") (rSortTI X.K) := by
  intro pins s σ H vs us Q I r h
  obtain ⟨a, ns, rfl, hs, q⟩ := h
  obtain ⟨its, rv, hl, hz⟩ := I.tuple hs
  rw [Vals.ref1 r]
  have hi := rv.ints
  have hn : its.length ≤ sizeLine := by
    rw [← rv.length]
    exact hz
  refine sortedT_ord SrtO.swo_int (show s.heap.IsTuple a its.toArray from hl) hn (fun h2 _ _ => SrtO.ints_sortable hi h2) fun out h1 h2 => ?_
  obtain ⟨k1, k2, k3⟩ := SrtO.ints_out hi h1 h2
  have e : out.map SrtO.iv = sortI ns := sorted_unique (k2.trans (sortI_perm ns).symm) k3 (sortI_sorted ns)
  rw [e] at k1
  obtain ⟨ep, he⟩ := sortedAll_at s.heap its out.toArray
  have hlen : ((sortI ns).map V.int).length ≤ sizeLine := by
    rw [List.length_map, (sortI_perm ns).length_eq]
    rw [List.length_map] at hz
    exact hz
  refine ⟨.ref _, upd H (s.heap.objs.size + 1) (.lst ((sortI ns).map V.int)), ?_, rfl, q _ (I.hok.fresh (Nat.le_succ _))⟩
  exact I.laid (t' := s.toks) (fun _ _ => sortedAll_old) (Nat.le_succ _) ⟨hlen, out, ep, vals_of_ints k1, he⟩
theorem xn_sortedT {mx : W (List Int)} (hg : Gl X "sorted") (hm : X.mg "sorted" = none) (ha : PE X a (tQ C env false qI mx)) (hs : starEach [a] X.env = (false, eval a X.env) :: starEach [] X.env := by rfl) :
    PE X (.Call (.Name "sorted" p) [a] [] pos) (tN C env qI (mx.bind fun xs => .ret (sortI xs))) :=
  pe_imp (pe_callB cr_sortTI hg hm (by decide +kernel) (pa_cons ha pa_nil hs) (by decide) (by decide) hs (by rfl)) fun σ H Q _ ⟨S, g0, P, F, em, kk⟩ => ⟨S, g0, _, F, em, fun xs g1 px p S1 H1 F1 x1 rd => by
    obtain ⟨vs, hp, h2⟩ := rd _ S1 H1 F1 (Ex.refl S1)
    exact ⟨p, xs, rfl, by rw [← flat_ints h2]; exact SqT.of hp, fun l hl _ => kk _ _ px l _ S1 H1 F1 x1 hl (All2.of_map _)⟩⟩
end

/-! ### the script: a list of ints that nobody changes, laid before the law begins -/
def qX (K : PySem.W.Frag) : Rp (List Int) := ⟨fun H v xs => ∃ p, v = .ref p ∧ SqL K H p (xs.map V.int), fun e ⟨p, h1, h2⟩ => ⟨p, h1, by
  rcases h2 with (h2 | ⟨o, h2⟩) | h2
  · exact .inl (.inl (e _ _ h2))
  · exact .inl (.inr ⟨o, e _ _ h2⟩)
  · exact .inr h2⟩⟩
section
variable {X : Cx} {C : Cs} {env : Gh → List Sl} {a b : Expr} {pos p : Pos}
theorem xe_lenX {mx : W (List Int)} (hg : Gl X "len") (hm : X.mg "len" = none) (ha : PE X a (tE C env (qX X.K) mx)) (hs : starEach [a] X.env = (false, eval a X.env) :: starEach [] X.env := by rfl) :
    PE X (.Call (.Name "len" p) [a] [] pos) (tE C env qI (mx.bind fun xs => .ret (xs.length : Int))) :=
  pe_imp (pe_callB call_len_seq hg hm PySem.boot_len (pa_cons ha pa_nil hs) (by decide) (by decide) hs (by rfl)) fun σ H Q _ ⟨S, g0, P, F, em, k⟩ => ⟨S, g0, _, F, em, fun xs g1 px v S1 H1 F1 x1 hv => by
    obtain ⟨p, ev, h2⟩ := (qX X.K).mono F1.e1 hv
    exact ⟨p, _, by rw [ev], .inl h2, fun _ => k _ _ px _ S1 H1 F1 x1 (by rw [List.length_map]; rfl)⟩⟩
theorem xe_ixX {mx : W (List Int)} {mi : W Int} (ha : PE X a (tE C env (qX X.K) mx)) (hb : PE X b (tE C env qI mi)) (hs : PlainIx b := by intro _ _; rfl) : PE X (.Subscript a b pos) (tE C env qI (mx.bind fun xs => mi.bind fun i => ofO (L2.atI xs i))) :=
  pe_imp (pe_ix ix_list ha hb hs) fun σ H Q _ ⟨S, g0, P, F, em, k⟩ => ⟨S, g0, _, F, em, fun xs g1 hx v S1 H1 F1 x1 hv => ⟨S1, g1, _, F1, hx, fun i g2 ⟨z, ez, pz⟩ y S2 H2 F2 x2 hy => by
    have hy : y = .int i := hy
    subst hy
    obtain ⟨p, ev, h2⟩ := (qX X.K).mono (x2.trans F2.e1) hv
    obtain ⟨u, eu, hu⟩ := (All2.of_map (f := V.int) xs).atI ez
    exact ⟨p, _, i, u, ev, rfl, h2, eu, fun _ => k _ _ pz u S2 H2 F2 (x1.trans x2) hu⟩⟩⟩
end

/-! ### the law -/
/-- a def that the text has written -/
def Dfn (K : PySem.W.Frag) (x : Str) (st : Stmt) (f : Addr) : Prop := ∃ fd, Fun K x x st f fd
theorem law_end {K : PySem.W.Frag} {m : List Int × Unit → W Bool} (hm : ∀ ns : List Int, ns.length ≤ 63 → m (ns, ()) [] (fun b _ => b = true)) (H : Hp) (a : Addr) (ns : List Int) (hl : ns.length ≤ 63) (hS : SqL K H a (ns.map V.int)) :
    SpW (pC (qX K) p0).ra qB m [.ref a] H (fun v _ => v = .bl true) fun _ _ _ => False :=
  ⟨H, (ns, ()), _, Ex.refl H, (fun b vs e z => by rw [e] at z; cases z), ⟨.ref a, [], rfl, ⟨a, rfl, hS⟩, rfl⟩, hm ns hl, fun o g ho v S' H' _ _ _ _ _ hv => by
    have hv : v = .bl o := hv
    rw [hv, ho]⟩
end Rt

set_option maxRecDepth 100000
set_option maxHeartbeats 4000000
/-! RtS: sorted(a list of tuples of ints), of any length. -/
namespace Rt
open PySem L2 PyProof.Rows
section
variable {prog : Program} {w : World} {A : Around} {s : Shared}
theorem kat_ints : ∀ {vs ws : List Value} {ns ms : List Int} (i : Nat) {fin : Bool}, IntsAre vs ns → IntsAre ws ms → fin = decide (ns.length < ms.length) → PySem.W.KatLex prog w A true fin (fun r s' => s' = s ∧ r = HT.lexLt ns ms) (vs.zip ws) i s
  | _, _, _, _, i, fin, .nil, .nil, hf => by
    rw [List.zip_nil_left]
    refine PySem.W.kat_nil ⟨rfl, ?_⟩
    rw [hf, HT.lexLt_nil_nil]
    rfl
  | _, _, _, _, i, fin, .nil, .cons y u t, hf => by
    rw [List.zip_nil_left]
    refine PySem.W.kat_nil ⟨rfl, ?_⟩
    rw [hf, HT.lexLt_nil_cons]
    simp
  | _, _, _, _, i, fin, .cons x u t, .nil, hf => by
    rw [List.zip_nil_right]
    refine PySem.W.kat_nil ⟨rfl, ?_⟩
    rw [hf, HT.lexLt_cons_nil]
    simp
  | _, _, _, _, i, fin, .cons x u t, .cons y v t', hf => by
    rw [List.zip_cons_cons, HT.lexLt_cons]
    refine PySem.W.kat_cons (SeqAt.EqAt.int_int x u y v prog w _ _ ?_)
    refine PySem.W.kat_go (fun e1 => ?_) (fun e1 => ?_)
    · have ex : x = y := by simpa using e1
      rw [if_pos ex]
      refine PySem.W.kat_yes (kat_ints (i + 1) t t' ?_)
      rw [hf]
      simp
    · have ex : ¬ x = y := by simpa using e1
      rw [if_neg ex]
      refine PySem.W.kat_no ?_
      cases i with
      | zero => exact oneLt_int ⟨rfl, rfl⟩
      | succ i => exact PySem.W.kat_one _ _ (PyProof.Rows.lt_int ⟨rfl, rfl⟩)
theorem tups_cmp {vs : List Value} {k : Value → List Int} (hp : ∀ v ∈ vs, TS.TupInts s.heap v (k v)) : SrtO.Cmp prog w A s (tuples' true) (fun p => p.1 ∈ vs) (SrtO.lt2 fun v u => HT.lexLt (k v) (k u)) := by
  intro p q hm hm'
  have h1 := hp _ hm
  have h2 := hp _ hm'
  show wpAny (model prog w) A (keyLt' (tuples' true) p.1 q.1) (fun r s' => s' = s ∧ r = HT.lexLt (k p.1) (k q.1)) (fun _ _ => False) s
  generalize k p.1 = ns at h1 ⊢
  generalize k q.1 = ms at h2 ⊢
  obtain ⟨a, its, e, ⟨o, ho, hc, n, hd⟩, hi⟩ := h1
  obtain ⟨a', its', e', ⟨o', ho', hc', n', hd'⟩, hi'⟩ := h2
  rw [e, e']
  refine PySem.W.kat_lt ho hd ho' hd' (kat_ints 0 hi hi' ?_)
  rw [← hi.length, ← hi'.length]
  simp
theorem katTups_of : ∀ {vs : List Value} {k : Value → List Int}, (∀ v ∈ vs, TS.TupInts s.heap v (k v) ∧ k v ≠ []) → ∃ fs, PySem.W.KatTups s.heap vs fs ∧ fs.length = vs.length ∧ ∀ f ∈ fs, ∃ (x : Int) (t : Tok), f = Value.int x t
  | [], k, _ => ⟨[], PySem.W.KatTups.nil, rfl, fun f hf => absurd hf (by simp)⟩
  | v :: vs, k, h => by
    obtain ⟨fs, h1, h2, h3⟩ := katTups_of (vs := vs) fun u hu => h u (List.mem_cons_of_mem _ hu)
    obtain ⟨⟨a, its, e, ⟨o, ho, hc, n, hd⟩, hi⟩, hne⟩ := h v List.mem_cons_self
    subst e
    obtain ⟨x, t, hx⟩ : ∃ x t, its[0]? = some (Value.int x t) := by
      generalize hl : its.toList = l at hi
      generalize k (.ref a) = ns at hi hne
      cases hi with
      | nil => exact absurd rfl hne
      | cons x t _ =>
        refine ⟨x, t, ?_⟩
        rw [← Array.getElem?_toList, hl]
        rfl
    refine ⟨_ :: fs, PySem.W.KatTups.cons ho hc hd hx h1, by simp [h2], fun f hf => ?_⟩
    rcases List.mem_cons.mp hf with e | hf
    · exact ⟨x, t, e⟩
    · exact h3 f hf
theorem tups_sortableO {a : Addr} {vs : List Value} {k : Value → List Int} (h0 : 0 < vs.length) (hp : ∀ v ∈ vs, TS.TupInts s.heap v (k v) ∧ k v ≠ []) (ha : ∀ o, s.heap.get? a = some o → o.cls ≠ .type "tuple") : SrtO.SortableO prog w A s a vs fun v u => HT.lexLt (k v) (k u) := by
  intro h' keep
  have hp' : ∀ v ∈ vs, TS.TupInts h' v (k v) ∧ k v ≠ [] := fun v hm => ⟨(hp v hm).1.keeps fun b o e c => keep b o (fun z => by subst z; exact ha o e c) e, (hp v hm).2⟩
  obtain ⟨fs, h1, h2, h3⟩ := katTups_of (s := { s with heap := h' }) hp'
  refine ⟨tuples' true, fun Q E hq => ?_, tups_cmp (s := { s with heap := h' }) fun v hm => (hp' v hm).1⟩
  refine PySem.W.kat_kind (T := .type "int") h1 (by omega) (fun f hm => ?_) (by rfl) ?_
  · obtain ⟨x, t, rfl⟩ := h3 f hm
    exact PySem.W.Looks.now
  · have e : (Value.type "int" != Value.type "tuple") = true := by first | decide +kernel | rfl | decide
    rw [e]
    exact hq
theorem sorted_tupsO {l : Addr} {vs : List Value} {k : Value → List Int} {E : Value → Shared → Prop} {Q : Value → Shared → Prop} (hl : s.heap.IsList l vs.toArray) (hz : vs.length ≤ sizeLine) (hp : 2 ≤ vs.length → ∀ v ∈ vs, TS.TupInts s.heap v (k v) ∧ k v ≠ [])
    (h : ∀ out : List Value, SrtO.Srtd (fun v u => HT.lexLt (k v) (k u)) out → SrtO.Stb (fun v u => HT.lexLt (k v) (k u)) out vs → Q (.ref (s.heap.objs.size + 1)) { s with heap := sortedAll s.heap vs out.toArray }) :
    wpAny (model prog w) A (call (.builtin "sorted") [.ref l]) Q E s := by
  refine SrtO.sorted_ord (NtL.swo_lexL k) hl hz (fun h2 h₁ a ha kk => ?_) h
  refine tups_sortableO (s := { s with heap := h₁ }) (by omega) (fun v hm => ⟨(hp h2 v hm).1.keeps fun b o e _ => (kk b o e).2, (hp h2 v hm).2⟩) fun o e => ?_
  have e' : some o = some (seqObj "list" vs.toArray 0) := e.symm.trans ha
  cases e'
  intro c
  exact absurd (Value.type.inj c) (by decide)
end
/-! ### the data -/
def insX (x : List Int) : List (List Int) → List (List Int)
  | [] => [x]
  | y :: ys => if HT.lexLt y x = true then y :: insX x ys else x :: y :: ys
def sortX : List (List Int) → List (List Int)
  | [] => []
  | x :: xs => insX x (sortX xs)
theorem insX_perm (x : List Int) : ∀ ys, (insX x ys).Perm (x :: ys)
  | [] => .refl _
  | y :: ys => by
    unfold insX
    split
    · exact ((insX_perm x ys).cons y).trans (.swap x y ys)
    · exact .refl _
theorem sortX_perm : ∀ xs, (sortX xs).Perm xs
  | [] => .refl _
  | x :: xs => (insX_perm x (sortX xs)).trans ((sortX_perm xs).cons x)
def LeX (x y : List Int) : Prop := HT.lexLt y x = false
theorem LeX.trans {x y z : List Int} (a : LeX x y) (b : LeX y z) : LeX x z := NtL.lex_tr x y z a b
theorem lex_anti : ∀ {x y : List Int}, LeX x y → LeX y x → x = y
  | [], [], _, _ => rfl
  | [], y :: ys, h, h2 => by
    unfold LeX at h2
    rw [HT.lexLt_nil_cons] at h2
    cases h2
  | x :: xs, [], h, h2 => by
    unfold LeX at h
    rw [HT.lexLt_nil_cons] at h
    cases h
  | x :: xs, y :: ys, h, h2 => by
    unfold LeX at h h2
    rw [HT.lexLt_cons] at h h2
    by_cases e : x = y
    · subst e
      rw [if_pos rfl] at h h2
      rw [lex_anti (x := xs) (y := ys) h h2]
    · rw [if_neg e] at h2
      rw [if_neg (Ne.symm e)] at h
      have a := of_decide_eq_false h
      have b := of_decide_eq_false h2
      omega
theorem insX_sorted (x : List Int) : ∀ ys : List (List Int), ys.Pairwise LeX → (insX x ys).Pairwise LeX
  | [], _ => by simp [insX]
  | y :: ys, h => by
    unfold insX
    have h' := List.pairwise_cons.mp h
    split
    · rename_i hxy
      refine List.pairwise_cons.mpr ⟨fun z hz => ?_, insX_sorted x ys h'.2⟩
      rcases List.mem_cons.mp ((insX_perm x ys).mem_iff.mp hz) with e | hz
      · rw [e]
        exact NtL.lex_asym _ _ hxy
      · exact h'.1 z hz
    · rename_i hxy
      have hxy : LeX x y := by
        unfold LeX
        simpa using hxy
      refine List.pairwise_cons.mpr ⟨fun z hz => ?_, h⟩
      rcases List.mem_cons.mp hz with e | hz
      · rw [e]; exact hxy
      · exact hxy.trans (h'.1 z hz)
theorem sortX_sorted : ∀ xs : List (List Int), (sortX xs).Pairwise LeX
  | [] => .nil
  | x :: xs => insX_sorted x _ (sortX_sorted xs)
theorem sortedX_unique : ∀ {xs ys : List (List Int)}, xs.Perm ys → xs.Pairwise LeX → ys.Pairwise LeX → xs = ys
  | [], ys, h, _, _ => (List.Perm.nil_eq h)
  | x :: xs, [], h, _, _ => absurd h.length_eq (by simp)
  | x :: xs, y :: ys, h, h1, h2 => by
    have a1 := List.pairwise_cons.mp h1
    have a2 := List.pairwise_cons.mp h2
    have rf : ∀ z : List Int, LeX z z := fun z => by
      have := (NtL.swo_lexL (α := List Int) id).refl z
      exact this
    have e : x = y := by
      have m1 : x ∈ y :: ys := h.mem_iff.mp List.mem_cons_self
      have m2 : y ∈ x :: xs := h.mem_iff.mpr List.mem_cons_self
      have l1 : LeX y x := by
        rcases List.mem_cons.mp m1 with e | m
        · rw [e]; exact rf y
        · exact a2.1 x m
      have l2 : LeX x y := by
        rcases List.mem_cons.mp m2 with e | m
        · rw [e]; exact rf x
        · exact a1.1 y m
      exact lex_anti l2 l1
    subst e
    rw [sortedX_unique (List.Perm.cons_inv h) a1.2 a2.2]
theorem All2.memL {α β : Type} {R : α → β → Prop} : ∀ {as : List α} {bs : List β} {a : α}, All2 R as bs → a ∈ as → ∃ b, b ∈ bs ∧ R a b
  | a :: as, b :: bs, x, ⟨h, t⟩, m => by
    rcases List.mem_cons.mp m with e | m
    · exact ⟨b, List.mem_cons_self, e ▸ h⟩
    · obtain ⟨c, h1, h2⟩ := All2.memL t m
      exact ⟨c, List.mem_cons_of_mem _ h1, h2⟩
  | [], _, _, _, m => absurd m (by simp)
  | _ :: _, [], _, z, _ => z.elim
theorem All2.of_fn {α β : Type} {R : α → β → Prop} {f : α → β} : ∀ {as : List α}, (∀ a ∈ as, R a (f a)) → All2 R as (as.map f)
  | [], _ => True.intro
  | a :: as, h => ⟨h a List.mem_cons_self, All2.of_fn fun b hb => h b (List.mem_cons_of_mem _ hb)⟩
theorem All2.fn {α β : Type} {R : α → β → Prop} {f : α → β} (hf : ∀ a b, R a b → f a = b) : ∀ {as : List α} {bs : List β}, All2 R as bs → as.map f = bs
  | [], [], _ => rfl
  | a :: as, b :: bs, ⟨h, t⟩ => by rw [List.map_cons, hf a b h, All2.fn hf t]
  | [], _ :: _, z => z.elim
  | _ :: _, [], z => z.elim
def rSortTT (K : PySem.W.Frag) : List V → Hp → VK → Prop := fun vs H Q => ∃ (a : Addr) (xs : List V) (nss : List (List Int)) (R : V → List Int → Prop), vs = [V.ref a] ∧ SqL K H a xs ∧ All2 R xs nss ∧ (∀ x n, R x n → TupI K H x n) ∧ (2 ≤ nss.length → ∀ n ∈ nss, n ≠ []) ∧
  ∀ (ys : List V) (p : Addr), H p = none → All2 R ys (sortX nss) → Q (.ref p) (upd H p (.lst ys))
section
variable {X : Cx} {pins : List (Addr × Obj)} {σ : L2.St} {H : Hp} {s : Shared}
theorem bkv_back {t : Addr} : bkV (.ref t) = V.ref t := rfl
theorem cr_sortTT : CallR X (.builtin "sorted") (rSortTT X.K) := by
  intro pins s σ H vs us Q I r h
  obtain ⟨a, xs, nss, R, rfl, hs, hR, hT, hne, q⟩ := h
  obtain ⟨its, rv, hl, hz⟩ := I.list hs
  rw [Vals.ref1 r]
  obtain ⟨e1, e2⟩ := bkV_refs rv fun x m => by
    obtain ⟨n, _, h⟩ := hR.memL m
    obtain ⟨t, e, _⟩ := hT x n h
    exact ⟨t, e⟩
  -- what stands at an item
  have at_ : ∀ v ∈ its, ∃ n, n ∈ nss ∧ R (bkV v) n ∧ TS.TupInts s.heap v n := fun v hv => by
    obtain ⟨t, rfl⟩ := e2 v hv
    have hm : V.ref t ∈ xs := by
      rw [e1]
      exact List.mem_map.mpr ⟨_, hv, rfl⟩
    obtain ⟨n, hn, h⟩ := hR.memL hm
    obtain ⟨t', e, ht⟩ := hT _ n h
    cases e
    exact ⟨n, hn, h, tupI_raw I ht⟩
  have lens : its.length = nss.length := by rw [← rv.length, hR.length]
  have eN : its.map (TS.intsOf s.heap) = nss := by
    have e : xs.map (fun x => TS.intsOf s.heap (match x with | .ref t => .ref t | _ => .none)) = nss := All2.fn (fun x n h => by
      obtain ⟨t, rfl, ht⟩ := hT x n h
      exact (tupI_raw I ht).ints) hR
    rw [e1, List.map_map] at e
    rw [← e]
    refine List.map_congr_left fun v hv => ?_
    obtain ⟨t, rfl⟩ := e2 v hv
    rfl
  refine sorted_tupsO (k := TS.intsOf s.heap) hl.isList (by rw [← rv.length]; exact hz) (fun h2 v hv => ?_) fun out h1 h2 => ?_
  · obtain ⟨n, hn, _, ht⟩ := at_ v hv
    rw [ht.ints]
    exact ⟨ht, hne (by omega) n hn⟩
  · have hp := h2.perm
    have h3 : ∀ u ∈ out, ∃ a, u = Value.ref a := fun u hu => e2 u (hp.mem_iff.mp hu)
    obtain ⟨ep, he'⟩ := PyProof.Rows.sortedAll_at s.heap its out.toArray
    have eo : out.map (TS.intsOf s.heap) = sortX nss := by
      refine sortedX_unique ?_ (List.pairwise_map.mpr h1) (sortX_sorted _)
      have p1 := hp.map (TS.intsOf s.heap)
      rw [eN] at p1
      exact p1.trans (sortX_perm nss).symm
    have hlen : (out.map bkV).length ≤ sizeLine := by
      rw [List.length_map, hp.length_eq, ← rv.length]
      exact hz
    refine ⟨.ref _, upd H (s.heap.objs.size + 1) (.lst (out.map bkV)), I.laid (t' := s.toks) (fun _ _ => PyProof.Rows.sortedAll_old) (Nat.le_succ _) ⟨hlen, out, ep, bkV_vals h3, by simpa using he'⟩, rfl, q _ _ (I.hok.fresh (Nat.le_succ _)) ?_⟩
    rw [← eo]
    have key : ∀ l : List Value, (∀ u ∈ l, u ∈ its) → All2 R (l.map bkV) (l.map (TS.intsOf s.heap)) := by
      intro l
      induction l with
      | nil => intro _; exact True.intro
      | cons u l ih =>
        intro hu
        obtain ⟨n, _, hr, ht⟩ := at_ u (hu u List.mem_cons_self)
        refine ⟨?_, ih fun w hw => hu w (List.mem_cons_of_mem _ hw)⟩
        rw [ht.ints]
        exact hr
    exact key out fun u hu => hp.mem_iff.mp hu
end
def sortTT (xs : List (List Int)) : Option (List (List Int)) := if (xs.length < 2 || xs.all fun n => !n.isEmpty) = true then some (sortX xs) else none
section
variable {X : Cx} {C : Cs} {env : Gh → List Sl} {a : Expr} {pos p : Pos}
theorem tupI_of {K : PySem.W.Frag} {S H : Hp} {v : V} {n : List Int} (e : Ex S H) (h : (qT qI).p S v n) : TupI K H v n := by
  obtain ⟨t, vs, ev, hp, ha⟩ := h
  have : vs = n.map V.int := flat_ints ha
  subst this
  exact ⟨t, ev, SqT.of (e _ _ hp)⟩
theorem xn_sortedTT {mx : W (List (List Int))} (hg : Gl X "sorted") (hm : X.mg "sorted" = none) (ha : PE X a (tQ C env true (qT qI) mx)) (hs : starEach [a] X.env = (false, eval a X.env) :: starEach [] X.env := by rfl) :
    PE X (.Call (.Name "sorted" p) [a] [] pos) (tN C env (qT qI) (mx.bind fun xs => ofO (sortTT xs))) :=
  pe_imp (pe_callB cr_sortTT hg hm (by decide +kernel) (pa_cons ha pa_nil hs) (by decide) (by decide) hs (by rfl)) fun σ H Q _ ⟨S, g0, P, F, em, kk⟩ => ⟨S, g0, _, F, em, fun xs g1 ⟨z, ez, pz⟩ p S1 H1 F1 x1 rd => by
    obtain ⟨vs, hp, h2⟩ := rd _ S1 H1 F1 (Ex.refl S1)
    unfold sortTT at ez
    split at ez
    · rename_i hc
      cases ez
      refine ⟨p, vs, xs, fun x n => (qT qI).p S1 x n, rfl, SqL.of hp, h2, fun x n h => tupI_of F1.e1 h, fun h n hn e => ?_, fun ys l hl hy _ => kk _ _ pz l ys S1 H1 F1 x1 hl hy⟩
      rw [Bool.or_eq_true] at hc
      rcases hc with hc | hc
      · have := of_decide_eq_true hc
        omega
      · have := List.all_eq_true.mp hc n hn
        rw [e] at this
        simp at this
    · cases ez⟩
end
end Rt

set_option maxRecDepth 100000
set_option maxHeartbeats 4000000
/-! RtM: lists by their places, ranges as lists, [x] * n, pop, t[::-1], sorted with reverse. -/
namespace HT
open PySem PyProof.Rows
section
variable {prog : Program} {w : World} {A : Around} {E : Value → Shared → Prop} {s : Shared}
theorem sliceApplied_rev {sl : Addr} {vl vu vs : Value} {n : Nat} {Q : Int × Int × Nat → Shared → Prop} (hs : s.heap.IsSliceOf sl vl vu vs) (pl : IsPart vl none) (pu : IsPart vu none) (ps : IsPart vs (some (-1)))
    (h : Q ((n : Int) - 1, -1, n) s) : wpAny (model prog w) A (Builtin.Slice.sliceApplied (.ref sl) (pure (n : Int))) Q E s := by
  obtain ⟨os, hos, hcs, hds⟩ := id hs
  unfold Builtin.Slice.sliceApplied Builtin.Slice.sliceFields
  refine wpAny_bind (wpAny_bind (wpAny_field hos hds (x := vl) rfl (wpAny_bind (wpAny_field hos hds (x := vu) rfl (wpAny_bind (wpAny_field hos hds (x := vs) rfl (wpAny_pure ?_)))))))
  refine wpAny_bind (slicePart_ ps ?_)
  show wpAny _ _ (if ((-1 : Int) == 0) = true then _ else _) _ _ s
  rw [if_neg (by decide)]
  refine wpAny_bind (slicePart_ pl (wpAny_bind (slicePart_ pu (wpAny_bind (wpAny_pure ?_)))))
  show wpAny _ _ (match Builtin.Slice.sliceAdjust none none (-1) (n : Int) with | (lo, hi) => pure (lo, (-1 : Int), Builtin.Slice.slicePlaces lo hi (-1))) _ _ s
  have e : Builtin.Slice.sliceAdjust none none (-1) (n : Int) = ((n : Int) - 1, -1) := by
    simp [Builtin.Slice.sliceAdjust]
  rw [e]
  show wpAny _ _ (pure ((n : Int) - 1, (-1 : Int), Builtin.Slice.slicePlaces ((n : Int) - 1) (-1) (-1))) _ _ s
  have e2 : Builtin.Slice.slicePlaces ((n : Int) - 1) (-1) (-1) = n := by
    unfold Builtin.Slice.slicePlaces
    simp
    try omega
  rw [e2]
  exact wpAny_pure h
end
end HT
namespace HT
open PySem PyProof.Rows
section
variable {prog : Program} {w : World} {A : Around} {E : Value → Shared → Prop} {s : Shared}
theorem filterMap_some {α β : Type} {f : α → Option β} {g : α → β} : ∀ {l : List α}, (∀ x ∈ l, f x = some (g x)) → l.filterMap f = l.map g
  | [], _ => rfl
  | x :: l, h => by
    rw [List.filterMap_cons, h x List.mem_cons_self, List.map_cons]
    exact congrArg _ (filterMap_some fun y hy => h y (List.mem_cons_of_mem _ hy))
theorem pick_rev (xs : Array Value) : ((List.range xs.size).filterMap fun (m : Nat) => xs[(((xs.size : Int) - 1) + (m : Int) * (-1)).toNat]?).toArray = xs.toList.reverse.toArray := by
  congr 1
  refine List.ext_getElem? fun i => ?_
  have e : (List.range xs.size).filterMap (fun (m : Nat) => xs[(((xs.size : Int) - 1) + (m : Int) * (-1)).toNat]?) = (List.range xs.size).map fun m => xs.toList.reverse.getD m .none := by
    refine filterMap_some fun m hm => ?_
    have hm := List.mem_range.mp hm
    have h1 : (((xs.size : Int) - 1) + (m : Int) * (-1)).toNat = xs.size - 1 - m := by omega
    have h2 : xs.size - 1 - m < xs.size := by omega
    rw [h1, Array.getElem?_eq_getElem h2]
    simp [List.getElem?_reverse, hm, h2]
  rw [e, List.getElem?_map]
  by_cases hi : i < xs.size
  · rw [List.getElem?_range hi]
    simp [hi]
  · have h1 : (List.range xs.size)[i]? = none := by simp; omega
    have h2 : xs.toList.reverse[i]? = none := by simp; omega
    rw [h1, h2]
    rfl
theorem getItem_tuple_rev {t sl : Addr} {items : Array Value} {vl vu vs : Value} {Q : Value → Shared → Prop} (ht : IsTup s.heap t items) (hs : s.heap.IsSliceOf sl vl vu vs) (pl : IsPart vl none) (pu : IsPart vu none) (ps : IsPart vs (some (-1)))
    (h : Q (.ref s.heap.objs.size) { s with heap := s.heap.push { cls := .type "tuple", data := .seq items.toList.reverse.toArray } })
    (hsz : items.size ≤ sizeLine) : wpAny (model prog w) A (getItem (.ref t) (.ref sl)) Q E s := by
  have htake : sizeOk (.seq items.toList.reverse.toArray) := by
    show items.toList.reverse.toArray.size ≤ sizeLine
    simpa using hsz
  obtain ⟨os, hos, hcs, hds⟩ := id hs
  have hTs : s.TypeIs (.ref sl) "slice" := ⟨os, hos, hcs⟩
  unfold getItem
  try with_reducible refine wpAny_holding ?_
  first | refine wpAny_bind (wpAny_pure ?_) | skip
  refine wpAny_bind (wpAny_sequenceKey ht.typeIs (by decide) ?_)
  refine wpAny_bind (wpAny_callSpecial?_slot (name := Str.ofString "__getitem__") ht.typeIs PyProof.Rows.slot_tuple_getitem
    (wpAny_call_entry PyProof.Rows.slot_tuple_getitem ht.typeIs entry_tuple_getitem ?_ (args_tuple_getitem _ _)))
  show wpAny _ _ (Builtin.Tuple.tupleItemsOf (.ref t) >>= _) _ _ s
  refine wpAny_bind (tupleItemsOf_ ht ?_)
  refine wpAny_bind (wpAny_typeOf hTs ?_)
  rw [if_pos (by decide)]
  refine wpAny_bind (sliceApplied_rev hs pl pu ps ?_)
  have hno : ¬ (((((items.size : Int) - 1) == 0) && (-1 : Int) == 1 && items.size == items.size) = true) := by simp
  show wpAny _ _ (if ((((items.size : Int) - 1) == 0) && (-1 : Int) == 1 && items.size == items.size) = true then _ else _) _ _ s
  rw [if_neg hno, pick_rev]
  first
    | exact wpAny_bind (m := Builtin.Tuple.tupleExact _) (wpAny_newObj_type (wpAny_pure ⟨_, rfl, wpAny_pure h⟩) htake)
    | exact wpAny_bind (m := Builtin.Tuple.tupleExact _) (wpAny_newObj_type (wpAny_bind (wpAny_pure (wpAny_pure ⟨_, rfl, wpAny_pure h⟩))) htake)
    | exact wpAny_bind (wpAny_bind (m := Builtin.Tuple.tupleExact _) (wpAny_newObj_type (wpAny_pure (wpAny_pure ⟨_, rfl, wpAny_pure h⟩)) htake))
    | exact wpAny_bind (wpAny_bind (m := Builtin.Tuple.tupleExact _) (wpAny_newObj_type (wpAny_pure ⟨_, rfl, wpAny_pure h⟩) htake))
end
end HT
namespace L2
open PySem PySem.Spec PyProof.Rows
section
variable {X : Cx}
def tRevT (K : PySem.W.Frag) (te : TE) : TE := fun σ H Q => te σ H fun x H1 => ∃ a xs, x = .ref a ∧ SqT K H1 a xs ∧ ∀ p, H1 p = none → Q (.ref p) (upd H1 p (.tup xs.reverse))
theorem pe_revT {e : Expr} {te : TE} {k : Nat} {p1 p2 p3 pos : Pos} (he : PE X e te) : PE X (.Subscript e (.Slice none none (some (.UnaryOp .USub (.Constant (.int 1) k p1) p2)) p3) pos) (tRevT X.K te) := by
  refine ⟨fun pins s σ H Q I h => ?_⟩
  refine Subscript_ (thn (he.run pins s σ H _ I h) fun v s1 ⟨x, H1, I1, r1, q1⟩ => ?_)
  obtain ⟨a, xs, ex, hx, q⟩ := q1
  subst ex
  cases r1
  have hst : PO X (some (.UnaryOp .USub (.Constant (.int 1) k p1) p2)) (tPart (tUn (rU fun i => .int (-i)) (tC (.int 1)))) := po_some (pe_un un_neg pe_int)
  refine wpAny_Slice (thn (po_none.run pins s1 σ H1 (fun o H2 => o = none ∧ H2 = H1) I1 ⟨rfl, rfl⟩) fun vl s2 ⟨l, H2, I2, pl, el, e2⟩ => ?_)
  subst el e2
  refine thn (po_none.run pins s2 σ H2 (fun o H3 => o = none ∧ H3 = H2) I2 ⟨rfl, rfl⟩) fun vu s3 ⟨u, H3, I3, pu, eu, e3⟩ => ?_
  subst eu e3
  refine thn (hst.run pins s3 σ H3 (fun o H4 => o = some (-1) ∧ H4 = H3) I3 ⟨1, rfl, -1, rfl, rfl, rfl⟩) fun vs s4 ⟨o, H4, I4, ps, eo, e4⟩ => ?_
  subst eo e4
  have I5 : Inv X pins σ H4 { s4 with heap := s4.heap.push { cls := .type "slice", data := .fields #[vl, vu, vs] } } := I4.kept (t' := s4.toks) fun b ob q => Heap.get?_push_of_some _ q
  obtain ⟨its, r, ht, hz⟩ := I5.tuple hx
  have hlen := r.length
  show wpAny (model X.prog X.w) X.A (subscriptTail e (.Slice none none (some (.UnaryOp .USub (.Constant (.int 1) k p1) p2)) p3) (.ref a) (.ref s4.heap.objs.size)) (EP X pins σ Q) X.xe { s4 with heap := s4.heap.push { cls := .type "slice", data := .fields #[vl, vu, vs] } }
  refine tail_any (ops := [.ref a, .ref s4.heap.objs.size]) ht.typeIs (PyProof.Rows.slot_tuple_getitem.lookup) ?_ (by with_unfolding_all rfl)
  refine HT.getItem_tuple_rev ht (Heap.IsSliceOf.new _ vl vu vs) pl pu ps ?_ (by rw [List.size_toArray]; omega)
  refine ⟨.ref _, _, I5.laid (t' := s4.toks) (o := .tup xs.reverse) (fun b ob q => Heap.get?_push_of_some _ q) (Nat.le_refl _) ?_, rfl, q _ (I5.hok.fresh (Nat.le_refl _))⟩
  refine ⟨by rw [List.length_reverse]; exact hz, its.reverse, ?_, IsTup.new _ _⟩
  have key : ∀ {xs : List V} {us : List Value}, Vals xs us → Vals xs.reverse us.reverse := by
    intro xs
    induction xs with
    | nil => intro us h; cases h; exact .nil
    | cons x xs ih => intro us h; cases h with | cons a b => rw [List.reverse_cons, List.reverse_cons]; exact (ih b).append (.cons a .nil)
  exact key r
end
end L2

set_option maxRecDepth 100000
set_option maxHeartbeats 4000000
/-! RtN: the same, as data. -/
namespace Rt
open PySem L2
section
variable {X : Cx} {C : Cs} {env kp : Gh → List Sl} {e a b c a2 b2 : Expr} {es : List Expr} {A B rest : List Stmt} {pos p px : Pos} {α β γ δ ρ : Type} {r : Rp ρ} {ra re : Rp α} {rb : Rp δ} {mi mj : W Int} {pn : β → Gh → List Sl} {pl : γ → Gh → List Sl} {i j : Nat}
/-- t[::-1] -/
theorem xe_revT {k : Nat} {p1 p2 p3 : Pos} {mx : W (List α)} (ha : PE X a (tE C env (qT ra) mx)) : PE X (.Subscript a (.Slice none none (some (.UnaryOp .USub (.Constant (.int 1) k p1) p2)) p3) pos) (tE C env (qT ra) (mx.bind fun xs => .ret xs.reverse)) :=
  pe_imp (pe_revT ha) fun σ H Q _ ⟨S, g0, P, F, em, kk⟩ => ⟨S, g0, _, F, em, fun xs g1 px v S1 H1 F1 x1 ⟨p, vs, ev, hp, h2⟩ => ⟨p, vs, ev, SqT.of (F1.e1 _ _ hp), fun t ht _ => by
    have ex := Ex.new (o := .tup vs.reverse) (F1.e1.back ht)
    exact kk _ _ px _ _ _ (F1.new ht) (x1.trans ex) ⟨t, _, rfl, upd_same, (h2.mono fun _ _ z => ra.mono ex z).reverse⟩⟩⟩
/-- list(range(..)), tuple(range(..)) -/
theorem rgV_ints (a b : Int) : rgV a b = (irange a b).map V.int := by
  unfold rgV irange
  rw [List.map_map]
  rfl
theorem rgOk_of {i j : Int} {xs : List Int} (h : rngC i j = some xs) : RgOk i j ∧ rgV i j = xs.map V.int := by
  obtain ⟨rfl, h1, h2, h3, h4⟩ := rngC_some h
  exact ⟨⟨by omega, by omega, by omega, by omega, by omega⟩, rgV_ints i j⟩
theorem xn_listRg1 {p1 p2 : Pos} (hc : X.calm = true) (hg : Gl X "list") (hm : X.mg "list" = none) (hg2 : Gl X "range") (hm2 : X.mg "range" = none) (ha : PE X a (tE C env qI mi)) (na : starEach [a] X.env = (false, eval a X.env) :: starEach [] X.env := by rfl)
    (nb : starEach [.Call (.Name "range" p2) [a] [] p1] X.env = (false, eval (.Call (.Name "range" p2) [a] [] p1) X.env) :: starEach [] X.env := by rfl) : PE X (.Call (.Name "list" p) [.Call (.Name "range" p2) [a] [] p1] [] pos) (tN C env qI (mi.bind fun i => ofO (rngC 0 i))) :=
  pe_imp (pe_listRg hc hg hm (prg_1 hg2 hm2 ha na) nb) fun σ H Q _ ⟨S, g0, P, F, em, kk⟩ => ⟨S, g0, _, F, em, fun i g1 ⟨z, ez, pz⟩ v S1 H1 F1 x1 hv => by
    obtain ⟨h1, h2⟩ := rgOk_of ez
    exact ⟨i, hv, h1, fun q hq _ => kk _ _ pz q _ S1 H1 F1 x1 hq (by rw [h2]; exact All2.of_map _)⟩⟩
theorem xn_listRg2 {p1 p2 : Pos} (hc : X.calm = true) (hg : Gl X "list") (hm : X.mg "list" = none) (hg2 : Gl X "range") (hm2 : X.mg "range" = none) (ha : PE X a (tE C env qI mi)) (hb : PE X b (tE C env qI mj)) (na : starEach [a, b] X.env = (false, eval a X.env) :: starEach [b] X.env := by rfl) (nb0 : starEach [b] X.env = (false, eval b X.env) :: starEach [] X.env := by rfl) (nbp : (backTo p1 (starEach [b] X.env)).any (fun x => x.1) = false := by rfl)
    (nb : starEach [.Call (.Name "range" p2) [a, b] [] p1] X.env = (false, eval (.Call (.Name "range" p2) [a, b] [] p1) X.env) :: starEach [] X.env := by rfl) : PE X (.Call (.Name "list" p) [.Call (.Name "range" p2) [a, b] [] p1] [] pos) (tN C env qI (mi.bind fun i => mj.bind fun j => ofO (rngC i j))) :=
  pe_imp (pe_listRg hc hg hm (prg_2 hg2 hm2 ha hb na nb0 nbp) nb) fun σ H Q _ ⟨S, g0, P, F, em, kk⟩ => ⟨S, g0, _, F, em, fun i g1 hi v S1 H1 F1 x1 hv => ⟨S1, g1, _, F1, hi, fun j g2 ⟨z, ez, pz⟩ w S2 H2 F2 x2 hw => by
    obtain ⟨h1, h2⟩ := rgOk_of ez
    exact ⟨i, j, hv, hw, h1, fun q hq _ => kk _ _ pz q _ S2 H2 F2 (x1.trans x2) hq (by rw [h2]; exact All2.of_map _)⟩⟩⟩
theorem xe_tupRg1 {p1 p2 : Pos} (hc : X.calm = true) (hg : Gl X "tuple") (hm : X.mg "tuple" = none) (hg2 : Gl X "range") (hm2 : X.mg "range" = none) (ha : PE X a (tE C env qI mi)) (na : starEach [a] X.env = (false, eval a X.env) :: starEach [] X.env := by rfl)
    (nb : starEach [.Call (.Name "range" p2) [a] [] p1] X.env = (false, eval (.Call (.Name "range" p2) [a] [] p1) X.env) :: starEach [] X.env := by rfl) : PE X (.Call (.Name "tuple" p) [.Call (.Name "range" p2) [a] [] p1] [] pos) (tE C env (qT qI) (mi.bind fun i => ofO (rngC 0 i))) :=
  pe_imp (pe_tupRg hc hg hm (prg_1 hg2 hm2 ha na) nb) fun σ H Q _ ⟨S, g0, P, F, em, kk⟩ => ⟨S, g0, _, F, em, fun i g1 ⟨z, ez, pz⟩ v S1 H1 F1 x1 hv => by
    obtain ⟨h1, h2⟩ := rgOk_of ez
    exact ⟨i, hv, h1, fun q hq _ => kk _ _ pz _ _ _ (F1.new (o := .tup (rgV 0 i)) hq) (x1.trans (Ex.new (F1.e1.back hq))) ⟨q, _, rfl, upd_same, by rw [h2]; exact All2.of_map _⟩⟩⟩
/-- [x] * n -/
def repC {α : Type} (xs : List α) (k : Int) : Option (List α) := if k ≤ 1000000 ∧ xs.length ≤ 1 ∧ -1000000 ≤ k then some (List.replicate k.toNat xs).flatten else none
theorem All2.rep {R : V → α → Prop} {vs : List V} {xs : List α} (h : All2 R vs xs) : ∀ n : Nat, All2 R (List.replicate n vs).flatten (List.replicate n xs).flatten
  | 0 => True.intro
  | n + 1 => by
    rw [List.replicate_succ, List.replicate_succ, List.flatten_cons, List.flatten_cons]
    exact h.append (All2.rep h n)
theorem xn_rep {mx : W (List α)} (ha : PE X a (tN C env ra mx)) (hb : ∀ C', PE X b (tE C' env qI mi)) (hE : ∀ g g', Gs (env g) (env g') := by intro _ _; repeat (first | exact Gs.nil | apply Gs.keep | apply Gs.gh)) :
    PE X (.BinOp a .Mult b pos) (tN C env ra (mx.bind fun xs => mi.bind fun k => ofO (repC xs k))) :=
  pe_imp (pe_op op_rep ha (pe_ex hb)) fun σ H Q _ ⟨S, g0, P, F, em, kk⟩ => ⟨S, g0, _, F, em, fun xs g1 px p vs S1 H1 F1 x1 hp hv => by
    have G0 := F1.add hp (o := .lst vs)
    have np : ∀ g, p ∉ owns σ (env g) := fun g z => by
      obtain ⟨_, o, e⟩ := F1.sl.own ((hE g g1).owns σ ▸ z)
      rw [hp] at e
      cases e
    refine ⟨_, S1, g1, _, G0.here, px, fun k g2 ⟨z, ez, pz⟩ y S2 H2 F2 x2 hy => ?_⟩
    have hp2 : H2 p = some (.lst vs) := F2.e2 p _ upd_same (np g1)
    have G2 : Fr C S2 H2 σ (env g2) := G0.backG ((hE g2 g1).owns σ) F2
    unfold repC at ez
    split at ez
    · rename_i h
      cases ez
      have hl := All2.length hv
      have hk : k.toNat ≤ 1000000 := by omega
      have hlen : vs.length * k.toNat ≤ 1 * 1000000 := Nat.mul_le_mul (by omega) hk
      refine ⟨p, k, vs, rfl, hy, hp2, by omega, by omega, by rw [sizeLine_eq]; omega, fun q hq _ => ?_⟩
      exact kk _ _ pz q _ S2 H2 G2 (x1.trans x2) hq ((hv.mono fun _ _ z => ra.mono x2 z).rep _)
    · cases ez⟩
/-- xs[j] = e, xs a list of the def's own -/
def setC {α : Type} (xs : List α) (j : Int) (v : α) : Option (List α) := (ixN xs.length j).map fun n => xs.set n v
theorem xs_oset {x : Str} {ps : Pos} {xs : List α} {mv : W α} {K : List α → W (Fl ρ β γ)} (hv : PE X e (tE C env re mv)) (hd : PE X (.Name x px) (tVar i)) (hb : PE X b (tE C env qI mi)) (hr : ∀ ys, PSs X rest (tF C (fun g => (env g).set i (.ow re ys)) (K ys) pn pl kp r)) (hi : ∀ g, (env g)[i]? = some (.ow re xs) := by intro _; rfl)
    (ha : ∀ v, assign (.Subscript (.Name x px) b ps) X.env v = (do
      let ov ← holding [v] (eval (.Name x px) X.env)
      let iv ← holding [v, ov] (eval b X.env)
      standAt ps
      holding [v, ov, iv] (setItem ov iv v)
      release [v, ov, iv] []) := by intro _; rfl)
    (hs : swapsWithSole [.Subscript (.Name x px) b ps] e pos.line X.env = pure false := by rfl) (hw : swappedStores [.Subscript (.Name x px) b ps] e X.env = pure none := by rfl) (h1 : (assignEach [.Subscript (.Name x px) b ps] X.env).map (·.2) = [assign (.Subscript (.Name x px) b ps) X.env] := by rfl) :
    PSs X (.Assign [.Subscript (.Name x px) b ps] e pos :: rest) (tF C env (mv.bind fun v => mi.bind fun j => (ofO (setC xs j v)).bind K) pn pl kp r) :=
  pss_imp (pss_cons (ps_asg hv (pg_sub hd hb set_list ha) hs hw h1) (pss_ex hr)) fun D σ H _ ⟨S, g0, P, F, em, q⟩ => ⟨S, g0, _, F, em, fun v g1 pv u S1 H1 F1 x1 hu => by
    obtain ⟨w1, ew1, p1, vs1, e1, sp1, hp1, ha1⟩ := F1.sl.get i (hi _)
    subst e1
    refine ⟨.ref p1, ew1, S1, g1, _, F1, pv, fun j g2 ⟨ys, ey, py⟩ y S2 H2 F2 x2 hy => ?_⟩
    obtain ⟨w2, ew2, p2, vs2, e2, sp2, hp2, ha2⟩ := F2.sl.get i (hi _)
    subst e2
    rw [ew1] at ew2
    cases ew2
    unfold setC at ey
    obtain ⟨n, en, rfl⟩ := Option.map_eq_some_iff.mp ey
    refine ⟨p1, vs2, j, n, rfl, hy, hp2, by rw [All2.length ha2]; exact en, xs.set n v, S2, g2, P, ?_, py, fun o g9 po => (q o g9 po).mono (x1.trans x2)⟩
    exact F2.write (hi _) ew1 (ha2.set n (re.mono x2 hu))⟩
/-- xs[a], xs[b] = e -/
theorem xs_set2 {x : Str} {ps ps2 pt : Pos} {px2 : Pos} {kt : Nat} {xs : List α} {mv : W (α × α)} {K : List α → W (Fl ρ β γ)} (hv : PE X e (tE C env (qP re re) mv)) (hc : X.calm = true) (hd : PE X (.Name x px) (tVar i)) (hd2 : PE X (.Name x px2) (tVar i)) (hb : PE X b (tE C env qI mi)) (hb2 : ∀ ys, PE X b2 (tE C (fun g => (env g).set i (.ow re ys)) qI mj))
    (hr : ∀ ys, PSs X rest (tF C (fun g => (env g).set i (.ow re ys)) (K ys) pn pl kp r)) (hi : ∀ g, (env g)[i]? = some (.ow re xs) := by intro _; rfl) (hi2 : ∀ g ys, ((env g).set i (.ow re ys))[i]? = some (.ow re ys) := by intro _ _; rfl)
    (ha : ∀ v, assign (.Subscript (.Name x px) b ps) X.env v = (do
      let ov ← holding [v] (eval (.Name x px) X.env)
      let iv ← holding [v, ov] (eval b X.env)
      standAt ps
      holding [v, ov, iv] (setItem ov iv v)
      release [v, ov, iv] []) := by intro _; rfl)
    (ha2 : ∀ v, assign (.Subscript (.Name x px2) b2 ps2) X.env v = (do
      let ov ← holding [v] (eval (.Name x px2) X.env)
      let iv ← holding [v, ov] (eval b2 X.env)
      standAt ps2
      holding [v, ov, iv] (setItem ov iv v)
      release [v, ov, iv] []) := by intro _; rfl)
    (n1 : (assignEach [.Subscript (.Name x px) b ps, .Subscript (.Name x px2) b2 ps2] X.env).map (·.2) = assign (.Subscript (.Name x px) b ps) X.env :: (assignEach [.Subscript (.Name x px2) b2 ps2] X.env).map (·.2) := by rfl) (n2 : (assignEach [.Subscript (.Name x px2) b2 ps2] X.env).map (·.2) = assign (.Subscript (.Name x px2) b2 ps2) X.env :: (assignEach [] X.env).map (·.2) := by rfl)
    (hn : (assignEach [.Subscript (.Name x px) b ps, .Subscript (.Name x px2) b2 ps2] X.env).length = 2 := by rfl) (hst : (assignEach [.Subscript (.Name x px) b ps, .Subscript (.Name x px2) b2 ps2] X.env).findIdx? (·.1) = none := by rfl)
    (hs : swapsWithSole [.Tuple [.Subscript (.Name x px) b ps, .Subscript (.Name x px2) b2 ps2] kt pt] e pos.line X.env = pure false := by rfl) (hw : swappedStores [.Tuple [.Subscript (.Name x px) b ps, .Subscript (.Name x px2) b2 ps2] kt pt] e X.env = pure none := by rfl)
    (h1 : (assignEach [.Tuple [.Subscript (.Name x px) b ps, .Subscript (.Name x px2) b2 ps2] kt pt] X.env).map (·.2) = [assign (.Tuple [.Subscript (.Name x px) b ps, .Subscript (.Name x px2) b2 ps2] kt pt) X.env] := by rfl) :
    PSs X (.Assign [.Tuple [.Subscript (.Name x px) b ps, .Subscript (.Name x px2) b2 ps2] kt pt] e pos :: rest) (tF C env (mv.bind fun v => mi.bind fun j => (ofO (setC xs j v.1)).bind fun ys => mj.bind fun k => (ofO (setC ys k v.2)).bind K) pn pl kp r) :=
  pss_imp (pss_cons (ps_asg hv (pg_tup hc (pgs_cons (pg_sub hd hb set_list ha) (pgs_cons (pg_sub hd2 (pe_ex hb2) set_list ha2) pgs_nil n2) n1) hn hst) hs hw h1) (pss_ex hr)) fun D σ H _ ⟨S, g0, P, F, em, q⟩ => ⟨S, g0, _, F, em, fun v g1 pv u S1 H1 F1 x1 ⟨pt, y1, y2, eu, hpt, hy1, hy2⟩ => by
    subst eu
    obtain ⟨w1, ew1, p1, vs1, e1, sp1, hp1, ha1⟩ := F1.sl.get i (hi _)
    subst e1
    refine ⟨pt, [y1, y2], rfl, SqT.of (F1.e1 _ _ hpt), rfl, y1, [y2], rfl, .ref p1, ew1, S1, g1, _, F1, pv, fun j g2 ⟨ys, ey, py⟩ y S2 H2 F2 x2 hy => ?_⟩
    obtain ⟨w2, ew2, p2, vs2, e2, sp2, hp2, ha2⟩ := F2.sl.get i (hi _)
    subst e2
    rw [ew1] at ew2
    cases ew2
    unfold setC at ey
    obtain ⟨n, en, rfl⟩ := Option.map_eq_some_iff.mp ey
    have F3 := F2.write (ys := xs.set n v.1) (vs := vs2.set n y1) (hi _) ew1 (ha2.set n (re.mono x2 hy1))
    refine ⟨p1, vs2, j, n, rfl, hy, hp2, by rw [All2.length ha2]; exact en, y2, [], rfl, .ref p1, ew1, xs.set n v.1, S2, g2, _, F3, py, fun k g4 ⟨zs, ez, pz⟩ yk S4 H4 F4 x4 hk => ?_⟩
    obtain ⟨w4, ew4, p4, vs4, e4, sp4, hp4, ha4⟩ := F4.sl.get i (hi2 _ _)
    subst e4
    rw [ew1] at ew4
    cases ew4
    unfold setC at ez
    obtain ⟨n4, en4, rfl⟩ := Option.map_eq_some_iff.mp ez
    have F5 := F4.write (ys := (xs.set n v.1).set n4 v.2) (vs := vs4.set n4 y2) (hi2 _ _) ew1 (ha4.set n4 (re.mono (x2.trans x4) hy2))
    rw [List.set_set] at F5
    exact ⟨p1, vs4, k, n4, rfl, hk, hp4, by rw [All2.length ha4]; exact en4, rfl, (xs.set n v.1).set n4 v.2, S4, g4, P, F5, pz, fun o g9 po => (q o g9 po).mono (x1.trans (x2.trans x4))⟩⟩
/-- found.append(left.pop(e)) -/
def popC {α : Type} (xs : List α) (k : Int) : Option (α × List α) := if -1000000 ≤ k ∧ k ≤ 1000000 then (seqIndex? k xs.length).bind fun n => (xs[n]?).map fun v => (v, xs.eraseIdx n) else none
theorem All2.erase {R : V → α → Prop} : ∀ (n : Nat) {vs : List V} {xs : List α}, All2 R vs xs → All2 R (vs.eraseIdx n) (xs.eraseIdx n)
  | _, [], [], _ => True.intro
  | 0, v :: vs, x :: xs, ⟨a, b⟩ => b
  | n + 1, v :: vs, x :: xs, ⟨a, b⟩ => ⟨a, All2.erase n b⟩
  | _, [], _ :: _, z => z.elim
  | _, _ :: _, [], z => z.elim
theorem xs_appPop {x y : Str} {pa pe pa2 pe2 px2 : Pos} {xs ys : List α} {mk : W Int} {K : α × List α → List α → W (Fl ρ β γ)} (he : PE X e (tE C env qI mk)) (hr : ∀ (v : α × List α) (xs : List α), PSs X rest (tF C (fun g => ((env g).set j (.ow re v.2)).set i (.ow re xs)) (K v xs) pn pl kp r)) (hi : ∀ g, (env g)[i]? = some (.ow re xs) := by intro _; rfl) (hj : ∀ g, (env g)[j]? = some (.ow re ys) := by intro _; rfl) (hi2 : ∀ g zs, ((env g).set j (.ow re zs))[i]? = some (.ow re xs) := by intro _ _; rfl) (hij : i ≠ j := by decide)
    (hb : PE X (.Call (.Attribute (.Name x px) "append" pa) [.Call (.Attribute (.Name y px2) "pop" pa2) [e] [] pe2] [] pe) (tBM X.K "list" rAppend (tVar i) (tCons (tBM X.K "list" rPopAt (tVar j) (tCons (tE C env qI mk) tNil)) tNil)))
    (hs : swapsWith (.Call (.Attribute (.Name x px) "append" pa) [.Call (.Attribute (.Name y px2) "pop" pa2) [e] [] pe2] [] pe) none pos.line X.env = pure false := by rfl) :
    PSs X (.Expr (.Call (.Attribute (.Name x px) "append" pa) [.Call (.Attribute (.Name y px2) "pop" pa2) [e] [] pe2] [] pe) pos :: rest) (tF C env (mk.bind fun k => (ofO (popC ys k)).bind fun v => (ofO (addO xs v.1)).bind fun zs => K v zs) pn pl kp r) :=
  pss_imp (pss_cons (ps_expr hb hs) (pss_ex fun q : (α × List α) × List α => hr q.1 q.2)) fun D σ H _ ⟨S, g0, P, F, em, q⟩ => by
    obtain ⟨wx, ewx, p, vs, e2, sp, hp, ha⟩ := F.sl.get i (hi _)
    subst e2
    obtain ⟨wy, ewy, py, us, e3, spy, hpy, hay⟩ := F.sl.get j (hj _)
    subst e3
    refine ⟨.ref p, ewx, .inl ⟨rfl, vs, SqL.of hp⟩, .ref py, ewy, .inl ⟨rfl, us, SqL.of hpy⟩, S, g0, _, F, em, fun k g1 ⟨v, ev, zs, ez, pz⟩ u S1 H1 F1 x1 hu => ?_⟩
    obtain ⟨wx1, ewx1, p1, vs1, e21, sp1, hp1, ha1⟩ := F1.sl.get i (hi _)
    subst e21
    rw [ewx] at ewx1
    cases ewx1
    obtain ⟨wy1, ewy1, py1, us1, e31, spy1, hpy1, hay1⟩ := F1.sl.get j (hj _)
    subst e31
    rw [ewy] at ewy1
    cases ewy1
    unfold popC at ev
    split at ev
    · rename_i hk
      obtain ⟨n, en, ev⟩ := Option.bind_eq_some_iff.mp ev
      obtain ⟨v0, ev0, rfl⟩ := Option.map_eq_some_iff.mp ev
      obtain ⟨w0, ew0, hw0⟩ := hay1.get n ev0
      have F2 := F1.write (ys := ys.eraseIdx n) (vs := us1.eraseIdx n) (hj _) ewy (hay1.erase n)
      have np : p ≠ py := fun z => by
        subst z
        exact hij (owns_inj F1.nd (hi _) ewx rfl (hj _) ewy rfl)
      refine ⟨py, us1, k, n, w0, rfl, by rw [show u = V.int k from hu], hpy1, by omega, by omega, by rw [All2.length hay1]; exact en, ew0, ?_⟩
      have hp2 : upd H1 py (.lst (us1.eraseIdx n)) p = some (.lst vs1) := by
        rw [upd_ne np]
        exact hp1
      unfold addO at ez
      split at ez
      case isFalse => cases ez
      rename_i hl
      cases ez
      refine ⟨p, vs1, w0, rfl, rfl, hp2, by rw [All2.length ha1, sizeLine_eq]; omega, ((v0, ys.eraseIdx n), xs ++ [v0]), S1, _, P, ?_, pz, fun o g9 po => (q o g9 po).mono x1⟩
      exact F2.write (hi2 _ _) ewx (ha1.snoc hw0)
    · cases ev
/-- xs.extend(ys), ys a list that nobody changes -/
theorem xs_extQ {x : Str} {pa pe : Pos} {xs : List α} {m : W (List α)} {K : List α → W (Fl ρ β γ)} (hb : PE X (.Call (.Attribute (.Name x px) "extend" pa) [e] [] pe) (tBM X.K "list" rExtend (tVar i) (tCons (tE C env (qL re) m) tNil))) (hr : ∀ ys, PSs X rest (tF C (fun g => (env g).set i (.ow re ys)) (K ys) pn pl kp r))
    (hi : ∀ g, (env g)[i]? = some (.ow re xs) := by intro _; rfl) (hs : swapsWith (.Call (.Attribute (.Name x px) "extend" pa) [e] [] pe) none pos.line X.env = pure false := by rfl) :
    PSs X (.Expr (.Call (.Attribute (.Name x px) "extend" pa) [e] [] pe) pos :: rest) (tF C env (m.bind fun zs => (ofO (catC xs zs)).bind K) pn pl kp r) :=
  pss_imp (pss_cons (ps_expr hb hs) (pss_ex hr)) fun D σ H _ ⟨S, g0, P, F, em, q⟩ => by
    obtain ⟨w, ew, p, vs, e2, sp, hp, ha⟩ := F.sl.get i (hi _)
    subst e2
    refine ⟨.ref p, ew, .inl ⟨rfl, vs, SqL.of hp⟩, S, g0, _, F, em, fun zs g1 ⟨out, eo, po⟩ y S1 H1 F1 x1 ⟨b, ws, ey, hb, hw⟩ => ?_⟩
    subst ey
    obtain ⟨w1, ew1, p1, vs1, e21, sp1, hp1, ha1⟩ := F1.sl.get i (hi _)
    subst e21
    rw [ew] at ew1
    cases ew1
    unfold catC at eo
    split at eo
    · rename_i hl
      cases eo
      exact ⟨p, b, vs1, ws, rfl, rfl, hp1, F1.e1 _ _ hb, by rw [All2.length ha1, All2.length hw, sizeLine_eq]; omega, xs ++ zs, S1, g1, P, F1.write (hi _) ew (ha1.append hw), po, fun o g9 po => (q o g9 po).mono x1⟩
    · cases eo
/-- sorted(xs, reverse=True) -/
theorem cr_sortRev : CallRK X (.builtin "sorted") [Str.ofString "reverse"] (fun vs zs H Q => ∃ (a : Addr) (ns : List Int), vs = [V.ref a] ∧ zs = [.bl true] ∧ SqL X.K H a (ns.map V.int) ∧ ∀ (p : Addr), H p = none → Q (.ref p) (upd H p (.lst ((sortI ns).reverse.map V.int)))) := by
  intro pins s σ H vs zs us ws Q I r rz h
  obtain ⟨a, ns, rfl, rfl, hs, q⟩ := h
  refine cr_sortedRev (b := true) pins s σ H _ _ us ws Q I r rz ⟨a, ns, rfl, rfl, hs, fun ns' p h1 h2 hp => ?_⟩
  have h2 : ns'.Pairwise (· ≥ ·) := h2
  have e : ns'.reverse = sortI ns := sorted_unique ((List.reverse_perm _).trans (h1.trans (sortI_perm ns).symm)) (List.pairwise_reverse.mpr (h2.imp fun h => h)) (sortI_sorted ns)
  rw [← e, List.reverse_reverse] at q
  exact q p hp
theorem xn_sortRev {mx : W (List Int)} {kws : List Keyword} (hg : Gl X "sorted") (hm : X.mg "sorted" = none) (ha : PE X a (tQ C env true qI mx)) (hk : PK X kws (tCons (tC (.bl true)) tNil)) (hs : starEach [a] X.env = (false, eval a X.env) :: starEach [] X.env := by rfl)
    (he : backTo pos (starEach [a] X.env) = (false, eval a X.env) :: backTo pos (starEach [] X.env) := by rfl) (hpl : (backTo pos (starEach [a] X.env)).any (·.1) = false := by rfl)
    (hall : (backToKw pos (keywordEach kws X.env)).all (·.1.isSome) = true := by rfl) (hnone : (backToKw pos (keywordEach kws X.env)).any (·.1.isNone) = false := by rfl) (hks : (backToKw pos (keywordEach kws X.env)).filterMap (·.1) = [Str.ofString "reverse"] := by rfl) :
    PE X (.Call (.Name "sorted" p) [a] kws pos) (tN C env qI (mx.bind fun xs => .ret (sortI xs).reverse)) :=
  pe_imp (pe_callBK cr_sortRev hg hm (by decide +kernel) (pa_cons ha pa_nil hs) hk (by decide) (by decide) he hpl hall hnone hks) fun σ H Q _ ⟨S, g0, P, F, em, kk⟩ => ⟨S, g0, _, F, em, fun xs g1 px p S1 H1 F1 x1 rd => by
    obtain ⟨vs, hp, h2⟩ := rd _ S1 H1 F1 (Ex.refl S1)
    exact ⟨p, xs, rfl, rfl, by rw [← flat_ints h2]; exact SqL.of hp, fun l hl _ => kk _ _ px l _ S1 H1 F1 x1 hl (All2.of_map _)⟩⟩
/-- a, b = a list of two -/
theorem xg_pairL {up1 : Up α} {up2 : Up α} {kk : Nat} (hc : X.calm = true) (h1 : PG X a (tG ra up1)) (h2 : PG X b (tG ra up2))
    (hs : (assignEach [a, b] X.env).map (·.2) = assign a X.env :: (assignEach [b] X.env).map (·.2) := by rfl) (hs2 : (assignEach [b] X.env).map (·.2) = assign b X.env :: (assignEach [] X.env).map (·.2) := by rfl)
    (hn : (assignEach [a, b] X.env).length = 2 := by rfl) (hst : (assignEach [a, b] X.env).findIdx? (·.1) = none := by rfl) :
    PG X (.Tuple [a, b] kk pos) (tG (⟨fun H v (x : α × α) => (qL ra).p H v [x.1, x.2], fun e h => (qL ra).mono e h⟩ : Rp (α × α)) (uP up1 up2)) :=
  pg_imp (pg_lst hc (pgs_cons h1 (pgs_cons h2 pgs_nil hs2) hs) hn hst) fun v σ H Q ⟨C, S, env, x, F, ⟨p, vs, ev, hp, hall⟩, q⟩ => by
    match vs, hall with
    | [v1, v2], ⟨r1, r2, _⟩ =>
      exact ⟨p, [v1, v2], ev, SqL.of (F.e1 _ _ hp), rfl, v1, [v2], rfl, C, S, env, x.1, F, r1, fun σ1 l1 n1 F1 => ⟨v2, [], rfl, C, S, _, x.2, F1, r2, fun σ2 l2 n2 F2 => ⟨rfl, q σ2 (l2.trans l1) (fun i hi => by
        have hi : i ∉ up1.js ++ up2.js := hi
        simp at hi
        rw [n2 i hi.2, n1 i hi.1]) F2⟩⟩⟩
theorem xe_unL2 {m : W (List α)} (h : PE X e (tE C env (qL ra) m)) : PE X e (tE C env (⟨fun H v (x : α × α) => (qL ra).p H v [x.1, x.2], fun e h => (qL ra).mono e h⟩ : Rp (α × α)) (m.bind fun x => ofO (two x))) :=
  xe_asO (ra := qL ra) (rb := (⟨fun H v (x : α × α) => (qL ra).p H v [x.1, x.2], fun e h => (qL ra).mono e h⟩ : Rp (α × α))) (fun H v a b h e => by
    match a, e with
    | [x, y], e =>
      cases e
      exact h) h
/-- a, b = two new lists -/
theorem xs_parNN {i j : Nat} {x y : Str} {px py pt0 : Pos} {kt k2 : Nat} {pt2 : Pos} {α1 α2 : Type} {r1 : Rp α1} {r2 : Rp α2} {m1 : W (List α1)} {m2 : W (List α2)} {K : List α1 → List α2 → W (Fl ρ β γ)} (ha : PE X a (tN C env r1 m1)) (hb : ∀ C', PE X b (tN C' env r2 m2)) (hr : ∀ a b, PSs X rest (tF C (fun g => ((env g).set i (.ow r1 a)).set j (.ow r2 b)) (K a b) pn pl kp r))
    (hc : X.calm = true) (hN : X.N.Nodup) (hi : X.N[i]? = some x) (hj : X.N[j]? = some y) (hij : i ≠ j) (hx : X.env.scope.names.lookup x = some .local) (hy : X.env.scope.names.lookup y = some .local)
    (hw : swappedStores [.Tuple [.Name x px, .Name y py] kt pt0] (.Tuple [a, b] k2 pt2) X.env = pure (some [x, y])) (hs : swapsWithSole [.Tuple [.Name x px, .Name y py] kt pt0] (.Tuple [a, b] k2 pt2) pos.line X.env = pure false := by rfl)
    (h1 : starEach [a, b] X.env = (false, eval a X.env) :: starEach [b] X.env := by rfl) (h2 : starEach [b] X.env = (false, eval b X.env) :: starEach [] X.env := by rfl) (hE : ∀ g g', Gs (env g) (env g') := by intro _ _; repeat (first | exact Gs.nil | apply Gs.keep | apply Gs.gh)) :
    PSs X (.Assign [.Tuple [.Name x px, .Name y py] kt pt0] (.Tuple [a, b] k2 pt2) pos :: rest) (tF C env (m1.bind fun a => m2.bind fun b => K a b) pn pl kp r) :=
  pss_imp (pss_cons (ps_par hc hN hi hj hij hx hy (pa_cons ha (pa_cons (pe_ex hb) pa_nil h2) h1) hw hs) (pss_ex fun p : List α1 × List α2 => hr p.1 p.2)) fun D σ H _ ⟨S, g0, P, F, em, q⟩ => ⟨S, g0, _, F, em, fun xs g1 px p vs S1 H1 F1 x1 hp hv => by
    have G0 := F1.add hp (o := .lst vs)
    have np : ∀ g, p ∉ owns σ (env g) := fun g z => by
      obtain ⟨_, o, e⟩ := F1.sl.own ((hE g g1).owns σ ▸ z)
      rw [hp] at e
      cases e
    refine ⟨_, S1, g1, _, G0.here, px, fun zs g2 pw p2 us S2 H2 F2 x2 hq hu => ⟨.ref p, .ref p2, rfl, (xs, zs), S2, g2, P, ?_, pw, fun o g9 po => (q o g9 po).mono (x1.trans x2)⟩⟩
    have hp2 : H2 p = some (.lst vs) := F2.e2 p _ upd_same (np g1)
    have sp2 : S2 p = none := F2.nw p (F1.e1.back hp) (by show upd H1 p (.lst vs) p ≠ none; rw [upd_same]; exact fun z => nomatch z)
    have G2 : Fr C S2 H2 σ (env g2) := G0.backG ((hE g2 g1).owns σ) F2
    have G3 := (G2.del sp2 (F1.H0none hp) (np g2)).setOw i (r := r1) (p := p) (vs := vs) (xs := xs) (by unfold Rt.del; simp) (hv.mono fun _ _ z => r1.mono x2 z)
    rw [upd_del hp2] at G3
    exact G3.setOw j hq hu⟩
/-- comparisons as tests -/
theorem ct_in {k : Bool} {op : CmpOp} {neg : Bool} {mx : W (List Int)} (ho : OpR X (compareOp op) (rIn X.K neg)) (ha : PE X a (tE C env qI mi)) (hb : PE X b (tQ C env k qI mx)) (hm : behindInMarks op b = false) :
    PT X (.Compare a [op] [b] pos) (tT C env (mi.bind fun i => mx.bind fun xs => .ret (if neg then !(xs.any fun y => decide (y = i)) else xs.any fun y => decide (y = i)))) :=
  pt_imp (pt_cmpR ho ha hb hm) fun σ H Q _ ⟨S, g0, P, F, em, kk⟩ => ⟨S, g0, _, F, em, fun i g1 hi v S1 H1 F1 x1 hv => ⟨S1, g1, _, F1, hi, fun xs g2 px p S2 H2 F2 x2 rd => by
    obtain ⟨vs, hp, h2⟩ := rd _ S2 H2 F2 (Ex.refl S2)
    have ev : vs = xs.map V.int := flat_ints h2
    have hv : v = .int i := hv
    subst ev hv
    exact ⟨p, _, rfl, sq_seq hp, rfl, all_flat xs, _, rfl, fun _ => by
      rw [inV_int]
      exact kk _ _ px S2 H2 F2 (x1.trans x2)⟩⟩⟩
theorem xt_in {k : Bool} {mx : W (List Int)} (ha : PE X a (tE C env qI mi)) (hb : PE X b (tQ C env k qI mx)) (hm : behindInMarks .In b = false := by with_unfolding_all rfl) : PT X (.Compare a [.In] [b] pos) (tT C env (mi.bind fun i => mx.bind fun xs => .ret (xs.any fun y => decide (y = i)))) := ct_in op_in_seq ha hb hm
theorem xt_nin {k : Bool} {mx : W (List Int)} (ha : PE X a (tE C env qI mi)) (hb : PE X b (tQ C env k qI mx)) (hm : behindInMarks .NotIn b = false := by with_unfolding_all rfl) : PT X (.Compare a [.NotIn] [b] pos) (tT C env (mi.bind fun i => mx.bind fun xs => .ret !(xs.any fun y => decide (y = i)))) := ct_in op_notIn_seq ha hb hm
theorem ct_inD {k : Bool} {ma : W α} {op : CmpOp} {neg : Bool} {mx : W (List δ)} (D : Dt ra) (E : Dt rb) (ho : OpR X (compareOp op) (rInT X.K neg)) (ha : PE X a (tE C env ra ma)) (hb : PE X b (tQ C env k rb mx)) (hm : behindInMarks op b = false) (h1 : D.dep ≤ 64 := by decide) (h2 : E.dep < 64 := by decide) :
    PT X (.Compare a [op] [b] pos) (tT C env (ma.bind fun i => mx.bind fun xs => .ret (if neg then !(xs.any fun y => PyData.eqv (E.d y) (D.d i)) else xs.any fun y => PyData.eqv (E.d y) (D.d i)))) :=
  pt_imp (pt_cmpR ho ha hb hm) fun σ H Q _ ⟨S, g0, P, F, em, kk⟩ => ⟨S, g0, _, F, em, fun i g1 hi v S1 H1 F1 x1 hv => ⟨S1, g1, _, F1, hi, fun xs g2 px p S2 H2 F2 x2 rd => by
    obtain ⟨vs, hp, h3⟩ := rd _ S2 H2 F2 (Ex.refl S2)
    refine ⟨D.d i, xs.map E.d, Dp.up (x2.trans F2.e1) (D.rep hv), ?_, D.shaped h1 i, _, rfl, fun _ => by
      rw [List.any_map]
      exact kk _ _ px S2 H2 F2 (x1.trans x2)⟩
    have hall : DpAll X.K H2 vs (xs.map E.d) := dpAll (r := rb) (f := E.d) (fun h => E.rep h) (h3.mono fun _ _ z => rb.mono F2.e1 z)
    cases k with
    | true => exact .inl ⟨.lst (SqL.of hp) hall, (dL E).shaped (by show E.dep + 1 ≤ 64; omega) xs⟩
    | false => exact .inr ⟨.tup (SqT.of hp) hall, (dT E).shaped (by show E.dep + 1 ≤ 64; omega) xs⟩⟩⟩
theorem xt_inD {k : Bool} {ma : W α} {mx : W (List δ)} (D : Dt ra) (E : Dt rb) (hu : X.A.units + 65 < cLine) (ha : PE X a (tE C env ra ma)) (hb : PE X b (tQ C env k rb mx)) (hm : behindInMarks .In b = false := by with_unfolding_all rfl) (h1 : D.dep ≤ 64 := by decide) (h2 : E.dep < 64 := by decide) :
    PT X (.Compare a [.In] [b] pos) (tT C env (ma.bind fun i => mx.bind fun xs => .ret (xs.any fun y => PyData.eqv (E.d y) (D.d i)))) := ct_inD D E (op_inT hu) ha hb hm h1 h2
theorem xt_ninD {k : Bool} {ma : W α} {mx : W (List δ)} (D : Dt ra) (E : Dt rb) (hu : X.A.units + 65 < cLine) (ha : PE X a (tE C env ra ma)) (hb : PE X b (tQ C env k rb mx)) (hm : behindInMarks .NotIn b = false := by with_unfolding_all rfl) (h1 : D.dep ≤ 64 := by decide) (h2 : E.dep < 64 := by decide) :
    PT X (.Compare a [.NotIn] [b] pos) (tT C env (ma.bind fun i => mx.bind fun xs => .ret !(xs.any fun y => PyData.eqv (E.d y) (D.d i)))) := ct_inD D E (op_ninT hu) ha hb hm h1 h2
theorem xt_chainD {c : Expr} {rc : Rp γ} {rb : Rp β} {ma : W α} {mb : W β} {op op' : CmpOp} {f : α → β → Option Bool} {g : β → γ → Option Bool} {mc : W γ} (d1 : CmpD X C op ra rb f) (d2 : CmpD X C op' rb rc g) (ha : PE X a (tE C env ra ma)) (hb : PE X b (tE C env rb mb)) (hc : PE X c (tE C env rc mc))
    (hm : lastMarks [op, op'] [b, c] = false := by with_unfolding_all rfl) : PT X (.Compare a [op, op'] [b, c] pos) (tT C env (ma.bind fun p => mb.bind fun q => (ofO (f p q)).bind fun t => if t = true then mc.bind fun w => ofO (g q w) else .ret false)) := by
  obtain ⟨R, h1, hr⟩ := d1
  obtain ⟨R', h2, hr'⟩ := d2
  refine pt_imp (pt_chain h1 h2 ha (tE_len hb) (tE_len hc) hm) fun σ H Q _ ⟨S, g0, P, F, em, q⟩ => ?_
  refine ⟨S, g0, _, F, em, fun p g1 hp x S1 H1 F1 e1 hx => ⟨S1, g1, _, F1, hp, fun w g2 ⟨t, et, ht⟩ y S2 H2 F2 e2 hy l2 => ?_⟩⟩
  refine hr _ S2 H2 σ x y p w t _ F2 l2 (ra.mono e2 hx) hy et fun S3 H3 F3 e3 => ⟨t, rfl, ?_⟩
  cases t with
  | false => exact ⟨_, rfl, fun _ => q _ _ ht S3 H3 F3 (e1.trans (e2.trans e3))⟩
  | true =>
    refine ⟨S3, _, _, F3, ht, fun u g4 ⟨z, ez, pz⟩ y' S4 H4 F4 e4 hy' l4 => ?_⟩
    exact hr' _ S4 H4 σ y y' w u z _ F4 l4 (rb.mono (e3.trans e4) hy) hy' ez fun S5 H5 F5 e5 => ⟨_, rfl, fun _ => q z _ pz S5 H5 F5 (e1.trans (e2.trans (e3.trans (e4.trans e5))))⟩
end
end Rt

set_option maxRecDepth 100000
set_option maxHeartbeats 4000000
/-! RtD: dicts of the def's own, their keys tuples of ints. -/
namespace Rt
open PySem L2 Rt
/-- how a key stands in the heap -/
structure Ek {κ : Type} (rk : Rp κ) where
  enc : κ → List L2.Key
  inj : ∀ {a b : κ}, enc a = enc b → a = b
  rep : ∀ {H : Hp} {v : V} {k : κ}, rk.p H v k → ∃ b, v = .ref b ∧ H b = some (.tup ((enc k).map kV))
  dec : ∀ {H : Hp} {b : Addr} {k : κ}, H b = some (.tup ((enc k).map kV)) → rk.p H (.ref b) k
def ekT : Ek (qT qI) := ⟨fun ns => ns.map .inl, fun {a b} e => List.map_inj_right (fun x y z => Sum.inl.inj z) |>.mp e, fun {H v k} ⟨p, vs, h1, h2, h3⟩ => ⟨p, h1, by rw [h2, flat_ints h3, List.map_map]; rfl⟩, fun {H b k} h => ⟨b, _, rfl, by rw [h, List.map_map]; rfl, All2.of_map (f := V.int) k⟩⟩
def ekP : Ek (qP qI qI) := ⟨fun a => [.inl a.1, .inl a.2], fun {a b} e => by
  obtain ⟨a1, a2⟩ := a
  obtain ⟨b1, b2⟩ := b
  simp at e
  obtain ⟨rfl, rfl⟩ := e
  rfl, fun {H v k} ⟨p, x, y, h1, h2, h3, h4⟩ => ⟨p, h1, by rw [h2, show x = V.int k.1 from h3, show y = V.int k.2 from h4]; rfl⟩, fun {H b k} h => ⟨b, V.int k.1, V.int k.2, rfl, h, rfl, rfl⟩⟩
section
variable {κ β : Type} [DecidableEq κ]
def valD (a : List (κ × β)) (k : κ) : Option β := (a.find? fun p => decide (p.1 = k)).map (·.2)
def putD (a : List (κ × β)) (k : κ) (v : β) : List (κ × β) := if (a.any fun p => decide (p.1 = k)) = true then a.map (fun p => if p.1 = k then (p.1, v) else p) else a ++ [(k, v)]
def putC (a : List (κ × β)) (k : κ) (v : β) : Option (List (κ × β)) := if a.length ≤ 1000000 then some (putD a k v) else none
variable {rk : Rp κ} (E : Ek rk) (rv : Rp β)
def Ent (H : Hp) (kv : List L2.Key × V) (ab : κ × β) : Prop := kv.1 = E.enc ab.1 ∧ rv.p H kv.2 ab.2
def oDT : Og (List (κ × β)) := ⟨fun H u a => ∃ kvs, u = .dT kvs ∧ All2 (Ent E rv H) kvs a, fun e ⟨kvs, h1, h2⟩ => ⟨kvs, h1, h2.mono fun _ _ z => ⟨z.1, rv.mono e z.2⟩⟩⟩
variable {E rv} {H : Hp}
theorem val_rel (k : κ) : ∀ {kvs : List (List L2.Key × V)} {a : List (κ × β)}, All2 (Ent E rv H) kvs a → (∀ v, valD a k = some v → ∃ x, valV kvs (E.enc k) = some x ∧ rv.p H x v) ∧ (valD a k = none → valV kvs (E.enc k) = none)
  | [], [], _ => ⟨fun v h => (nomatch h), fun _ => rfl⟩
  | kv :: kvs, ab :: a, ⟨⟨h1, h2⟩, h3⟩ => by
    obtain ⟨i1, i2⟩ := val_rel k h3
    by_cases z : ab.1 = k
    · have e1 : valD (ab :: a) k = some ab.2 := by unfold valD; rw [List.find?_cons_of_pos (by simpa using z)]; rfl
      have e2 : valV (kv :: kvs) (E.enc k) = some kv.2 := valV_pos (by rw [h1, z])
      rw [e1, e2]
      exact ⟨fun v h => ⟨_, rfl, by cases h; exact h2⟩, fun h => nomatch h⟩
    · have e1 : valD (ab :: a) k = valD a k := by unfold valD; rw [List.find?_cons_of_neg (by simpa using z)]
      have e2 : valV (kv :: kvs) (E.enc k) = valV kvs (E.enc k) := valV_neg fun e => z (E.inj (h1.symm.trans e))
      rw [e1, e2]
      exact ⟨i1, i2⟩
  | [], _ :: _, z => z.elim
  | _ :: _, [], z => z.elim
theorem any_rel (k : κ) : ∀ {kvs : List (List L2.Key × V)} {a : List (κ × β)}, All2 (Ent E rv H) kvs a → (kvs.any fun kv => decide (kv.1 = E.enc k)) = a.any fun p => decide (p.1 = k)
  | [], [], _ => rfl
  | kv :: kvs, ab :: a, ⟨⟨h1, h2⟩, h3⟩ => by
    rw [List.any_cons, List.any_cons, any_rel k h3]
    congr 1
    rw [Bool.eq_iff_iff, decide_eq_true_iff, decide_eq_true_iff, h1]
    exact ⟨fun e => E.inj e, fun e => by rw [e]⟩
  | [], _ :: _, z => z.elim
  | _ :: _, [], z => z.elim
theorem put_rel {k : κ} {x : V} {v : β} {kvs : List (List L2.Key × V)} {a : List (κ × β)} (h : All2 (Ent E rv H) kvs a) (hx : rv.p H x v) : All2 (Ent E rv H) (putK kvs (E.enc k) x) (putD a k v) := by
  unfold putK putD
  rw [any_rel k h]
  split
  · have go : ∀ {kvs : List (List L2.Key × V)} {a : List (κ × β)}, All2 (Ent E rv H) kvs a → All2 (Ent E rv H) (kvs.map fun kv => if kv.1 = E.enc k then (kv.1, x) else kv) (a.map fun p => if p.1 = k then (p.1, v) else p) := by
      intro kvs
      induction kvs with
      | nil => intro a h; cases a with | nil => exact True.intro | cons _ _ => exact h.elim
      | cons kv kvs ih =>
        intro a h
        cases a with
        | nil => exact h.elim
        | cons ab a =>
          obtain ⟨⟨h1, h2⟩, h3⟩ := h
          refine ⟨?_, ih h3⟩
          show Ent E rv H (if kv.1 = E.enc k then (kv.1, x) else kv) (if ab.1 = k then (ab.1, v) else ab)
          by_cases z : ab.1 = k
          · rw [if_pos z, if_pos (by rw [h1, z])]
            exact ⟨h1, hx⟩
          · rw [if_neg z, if_neg fun e => z (E.inj (h1.symm.trans e))]
            exact ⟨h1, h2⟩
    exact go h
  · exact h.snoc ⟨rfl, hx⟩
end
section
variable {X : Cx} {C : Cs} {env kp : Gh → List Sl} {e a b c : Expr} {rest : List Stmt} {pos p px : Pos} {κ α β γ δ ρ : Type} [DecidableEq κ] {r : Rp ρ} {rk : Rp κ} {E : Ek rk} {rv : Rp δ} {mk : W κ} {mv : W δ} {pn : β → Gh → List Sl} {pl : γ → Gh → List Sl} {i j : Nat}
/-- x = {} -/
theorem xs_setD0 {x : Str} {py : Pos} {K : W (Fl ρ β γ)} (hr : PSs X rest (tF C (fun g => (env g).set i (.ob (oDT E rv) [])) K pn pl kp r)) (hN : X.N.Nodup) (hi : X.N[i]? = some x) (hx : Loc X.env.scope x) (hs : swapsWith (.Dict [] [] p) (some (.Name x py)) pos.line X.env = pure false)
    (hf : X.fn x = true) : PSs X (.Assign [.Name x py] (.Dict [] [] p) pos :: rest) (tF C env K pn pl kp r) :=
  pss_imp (pss_cons (ps_set hN hi hx pe_dnewT hs (.inl hf)) hr) fun D σ H _ ⟨S, g0, P, F, em, q⟩ q0 hq =>
    ⟨S, g0, P, F.setOb i hq ⟨[], rfl, True.intro⟩ (fun _ z => nomatch z), em, q⟩
/-- d[k] = e -/
theorem xs_dput {x : Str} {ps : Pos} {a : List (κ × δ)} {K : List (κ × δ) → W (Fl ρ β γ)} (hu : X.A.units + 1 < cLine) (hv : PE X e (tE C env rv mv)) (hd : PE X (.Name x px) (tVar i)) (hb : PE X b (tE C env rk mk)) (hr : ∀ ys, PSs X rest (tF C (fun g => (env g).set i (.ob (oDT E rv) ys)) (K ys) pn pl kp r)) (hi : ∀ g, (env g)[i]? = some (.ob (oDT E rv) a) := by intro _; rfl)
    (ha : ∀ v, assign (.Subscript (.Name x px) b ps) X.env v = (do
      let ov ← holding [v] (eval (.Name x px) X.env)
      let iv ← holding [v, ov] (eval b X.env)
      standAt ps
      holding [v, ov, iv] (setItem ov iv v)
      release [v, ov, iv] []) := by intro _; rfl)
    (hs : swapsWithSole [.Subscript (.Name x px) b ps] e pos.line X.env = pure false := by rfl) (hw : swappedStores [.Subscript (.Name x px) b ps] e X.env = pure none := by rfl) (h1 : (assignEach [.Subscript (.Name x px) b ps] X.env).map (·.2) = [assign (.Subscript (.Name x px) b ps) X.env] := by rfl) :
    PSs X (.Assign [.Subscript (.Name x px) b ps] e pos :: rest) (tF C env (mv.bind fun v => mk.bind fun k => (ofO (putC a k v)).bind K) pn pl kp r) :=
  pss_imp (pss_cons (ps_asg hv (pg_sub hd hb (set_dict hu) ha) hs hw h1) (pss_ex hr)) fun D σ H _ ⟨S, g0, P, F, em, q⟩ => ⟨S, g0, _, F, em, fun v g1 pv u S1 H1 F1 x1 hu => by
    obtain ⟨w1, ew1, p1, u1, e1, sp1, hp1, kvs1, eu1, ha1⟩ := F1.sl.get i (hi _)
    subst e1
    refine ⟨.ref p1, ew1, S1, g1, _, F1, pv, fun k g2 ⟨ys, ey, py⟩ y S2 H2 F2 x2 hy => ?_⟩
    obtain ⟨w2, ew2, p2, u2, e2, sp2, hp2, kvs2, eu2, ha2⟩ := F2.sl.get i (hi _)
    subst e2
    rw [ew1] at ew2
    cases ew2
    subst eu2
    unfold putC at ey
    split at ey
    case isFalse => cases ey
    rename_i hl
    cases ey
    obtain ⟨b2, eb, hb2⟩ := E.rep hy
    subst eb
    have hlen := All2.length ha2
    refine ⟨p1, _, rfl, DPut.t hp2 (F2.e1 _ _ hb2) (by rw [hlen, sizeLine_eq]; omega), putD a k v, S2, g2, P, ?_, py, fun o g9 po => (q o g9 po).mono (x1.trans x2)⟩
    exact F2.writeOb (hi _) ew1 ⟨_, rfl, put_rel ha2 (rv.mono x2 hu)⟩ (fun _ z => nomatch z)⟩
/-- d.get(k, e), d of the def's own -/
theorem xe_dget2 {x : Str} {pa pc : Pos} {a : List (κ × δ)} (hu : X.A.units + 1 < cLine) (hd : PE X (.Name x px) (tVar i)) (hb : PE X b (tE C env rk mk)) (hc : PE X c (tE C env rv mv)) (hi : ∀ g, (env g)[i]? = some (.ob (oDT E rv) a) := by intro _; rfl)
    (m1 : attributeBase (.Name x px) "get" X.env (eval (.Name x px) X.env) = eval (.Name x px) X.env := by rfl) (m2 : ((backTo pc (starEach [b, c] X.env)).all (fun x => !x.1) && (backToKw pc (keywordEach [] X.env)).all (fun x => x.1.isSome)
    && decide (([b, c] : List Expr).length + ([] : List Keyword).length + (if ([] : List Keyword).isEmpty then 0 else 1) < 30)) = true := by rfl) (m3 : (pa.endLine == pc.line) = true := by rfl) (m4 : backTo pc (starEach [b, c] X.env) = [(false, eval b X.env), (false, eval c X.env)] := by rfl) :
    PE X (.Call (.Attribute (.Name x px) "get" pa) [b, c] [] pc) (tE C env rv (mk.bind fun k => mv.bind fun z => .ret ((valD a k).getD z))) :=
  pe_imp (pe_dget2 hu hd hb hc ⟨m1, m2, m3, m4⟩) fun σ H Q _ ⟨S, g0, P, F, em, kk⟩ => by
    obtain ⟨w1, ew1, p1, u1, e1, sp1, hp1, kvs1, eu1, ha1⟩ := F.sl.get i (hi _)
    subst e1 eu1
    refine ⟨.ref p1, ew1, p1, rfl, .inr ⟨kvs1, .inl hp1⟩, S, g0, _, F, em, fun k g1 pk y S1 H1 F1 x1 hy => ⟨S1, g1, _, F1, pk, fun z g2 pz w S2 H2 F2 x2 hz => ?_⟩⟩
    obtain ⟨w2, ew2, p2, u2, e2, sp2, hp2, kvs2, eu2, ha2⟩ := F2.sl.get i (hi _)
    subst e2
    rw [ew1] at ew2
    cases ew2
    subst eu2
    obtain ⟨b2, eb, hb2⟩ := E.rep (rk.mono x2 hy)
    subst eb
    obtain ⟨v1, v2⟩ := val_rel k ha2
    refine ⟨_, DGet.t hp2 (F2.e1 _ _ hb2), fun _ => kk _ _ pz _ S2 H2 F2 (x1.trans x2) ?_⟩
    cases hval : valD a k with
    | none => rw [v2 hval]; exact hz
    | some v =>
      obtain ⟨x, ex, hx⟩ := v1 v hval
      rw [ex]
      exact hx
end
/-! ### a dict that is changed no more: locked for good -/
def oFz {α : Type} (q : Og α) : Og α := ⟨fun H u a => ∃ od u0, u = .frz od u0 ∧ q.p H u0 a, fun e ⟨od, u0, h1, h2⟩ => ⟨od, u0, h1, q.mono e h2⟩⟩
abbrev qDi {κ δ : Type} [DecidableEq κ] {rk : Rp κ} (E : Ek rk) (rv : Rp δ) : Rp (List (κ × δ)) := qOb (oFz (oDT E rv))
def tLk (t : TS) : TS := fun D σ H => ∃ d u, H d = some u ∧ Mut (some u) ∧ ∀ od, t D σ (upd H d (.frz od u))
theorem pss_lk {X : Cx} {A : List Stmt} {t : TS} (h : PSs X A t) : PSs X A (tLk t) := by
  refine ⟨fun pins s σ H D I hw => ?_⟩
  obtain ⟨d, u, hd, mu, hw⟩ := hw
  obtain ⟨od, I1⟩ := I.lock hd mu
  exact h.run pins s σ _ _ I1 (hw od)
section
variable {C : Cs} {S S' H H' : Hp} {σ : St} {env : List Sl}
theorem Fr.writeTo (F : Fr C S H σ env) {i : Nat} {α : Type} {q q' : Og α} {a : α} {p : Addr} {u : HO} (hi : env[i]? = some (.ob q a)) (hp : σ[i]? = some (some (.ref p))) (h : q'.p S u a) (nt : ∀ vs, u ≠ .tup vs) :
    Fr C S (upd H p u) σ (env.set i (.ob q' a)) := by
  have m : p ∈ owns σ env := owns_mem_get i hi hp rfl
  obtain ⟨sp, o, ho⟩ := F.sl.own m
  have eo : owns σ (env.set i (.ob q' a)) = owns σ env := owns_same hi hp rfl rfl
  refine ⟨F.e0, F.e1.mut sp, fun b u e n => ?_, F.nw, fun b h0 => ?_, F.sl.mutOne F.nd hi hp rfl ⟨p, u, rfl, sp, upd_same, h⟩, by rw [eo]; exact F.ow, by rw [eo]; exact F.nd, F.tc.up nt⟩
  · have nb : b ≠ p := fun z => by
      subst z
      rcases F.ow b m with q | q
      · rw [q] at e
        cases e
      · exact n q
    rw [upd_ne nb]
    exact F.e2 b u e n
  · by_cases z : b = p
    · rw [z, upd_same]
      exact fun z => nomatch z
    · rw [upd_ne z]
      exact F.al b h0
end
section
variable {X : Cx} {C : Cs} {env kp : Gh → List Sl} {e a b c : Expr} {A rest : List Stmt} {pos p px : Pos} {κ α β γ δ ρ : Type} [DecidableEq κ] {r : Rp ρ} {rk : Rp κ} {E : Ek rk} {rv : Rp δ} {mk : W κ} {mv : W δ} {md : W (List (κ × δ))} {pn : β → Gh → List Sl} {pl : γ → Gh → List Sl} {i j : Nat}
theorem xs_lkD (i : Nat) {a : List (κ × δ)} {m : W (Fl ρ β γ)} (hA : C.A0 = []) (hr : PSs X A (tF C (fun g => (env g).set i (.im (qDi E rv) a)) m pn pl kp r)) (hi : ∀ g, (env g)[i]? = some (.ob (oDT E rv) a) := by intro _; rfl) : PSs X A (tF C env m pn pl kp r) :=
  pss_imp (pss_lk hr) fun D σ H _ ⟨S, g0, P, F, em, q⟩ => by
    obtain ⟨v, ev, p1, u1, e1, sp1, hp1, kvs1, eu1, ha1⟩ := F.sl.get i (hi _)
    subst e1 eu1
    refine ⟨p1, _, hp1, True.intro, fun od => ?_⟩
    have F1 := F.writeTo (q' := oFz (oDT E rv)) (u := .frz od (.dT kvs1)) (hi _) ev ⟨od, _, rfl, kvs1, rfl, ha1⟩ (fun _ z => nomatch z)
    obtain ⟨S', x1, F2⟩ := F1.freezeOb (i := i) (q := oFz (oDT E rv)) (a := a) (by
      have hlt : i < (env g0).length := by
        rcases Nat.lt_or_ge i (env g0).length with h | h
        · exact h
        · have := hi g0
          rw [List.getElem?_eq_none h] at this
          cases this
      rw [List.getElem?_set_self hlt]) fun p _ => by rw [hA]; simp
    rw [List.set_set] at F2
    exact ⟨S', g0, P, F2, em, fun o g9 po => (q o g9 po).mono x1⟩
/-- d.get(k, e) -/
theorem xe_dgetF2 {pa pc : Pos} (hu : X.A.units + 1 < cLine) (hd : PE X a (tE C env (qDi E rv) md)) (hb : PE X b (tE C env rk mk)) (hc : PE X c (tE C env rv mv))
    (m1 : attributeBase a "get" X.env (eval a X.env) = eval a X.env := by rfl) (m2 : ((backTo pc (starEach [b, c] X.env)).all (fun x => !x.1) && (backToKw pc (keywordEach [] X.env)).all (fun x => x.1.isSome)
    && decide (([b, c] : List Expr).length + ([] : List Keyword).length + (if ([] : List Keyword).isEmpty then 0 else 1) < 30)) = true := by rfl) (m3 : (pa.endLine == pc.line) = true := by rfl) (m4 : backTo pc (starEach [b, c] X.env) = [(false, eval b X.env), (false, eval c X.env)] := by rfl) :
    PE X (.Call (.Attribute a "get" pa) [b, c] [] pc) (tE C env rv (md.bind fun d => mk.bind fun k => mv.bind fun z => .ret ((valD d k).getD z))) :=
  pe_imp (pe_dget2 hu hd hb hc ⟨m1, m2, m3, m4⟩) fun σ H Q _ ⟨S, g0, P, F, em, kk⟩ => ⟨S, g0, _, F, em, fun d g0' pd x S0 H0 F0 x0 ⟨p1, u1, e1, hp1, od, u0, eu1, kvs, eu0, ha⟩ => by
    subst e1 eu1 eu0
    refine ⟨p1, rfl, .inr ⟨kvs, .inr ⟨od, F0.e1 _ _ hp1⟩⟩, S0, g0', _, F0, pd, fun k g1 pk y S1 H1 F1 x1 hy => ⟨S1, g1, _, F1, pk, fun z g2 pz w S2 H2 F2 x2 hz => ?_⟩⟩
    obtain ⟨b2, eb, hb2⟩ := E.rep (rk.mono x2 hy)
    subst eb
    have ha2 : All2 (Ent E rv S2) kvs d := ha.mono fun _ _ z => ⟨z.1, rv.mono (x1.trans x2) z.2⟩
    obtain ⟨v1, v2⟩ := val_rel k ha2
    refine ⟨_, .inr ⟨kvs, E.enc k, b2, .inr ⟨od, F2.e1 _ _ (x2 _ _ (x1 _ _ hp1))⟩, rfl, F2.e1 _ _ hb2, rfl⟩, fun _ => kk _ _ pz _ S2 H2 F2 (x0.trans (x1.trans x2)) ?_⟩
    cases hval : valD d k with
    | none => rw [v2 hval]; exact hz
    | some v =>
      obtain ⟨x, ex, hx⟩ := v1 v hval
      rw [ex]
      exact hx⟩
/-- d[k] -/
theorem xe_dsubF (hu : X.A.units + 1 < cLine) (hd : PE X a (tE C env (qDi E rv) md)) (hb : PE X b (tE C env rk mk)) (hs : NoSl b := by intro _ _; rfl) : PE X (.Subscript a b pos) (tE C env rv (md.bind fun d => mk.bind fun k => ofO (valD d k))) :=
  pe_imp (pe_dget hu hd hb hs) fun σ H Q _ ⟨S, g0, P, F, em, kk⟩ => ⟨S, g0, _, F, em, fun d g0' pd x S0 H0 F0 x0 ⟨p1, u1, e1, hp1, od, u0, eu1, kvs, eu0, ha⟩ => ⟨S0, g0', _, F0, pd, fun k g1 ⟨v, ev, pv⟩ y S1 H1 F1 x1 hy => by
    subst e1 eu1 eu0
    obtain ⟨b2, eb, hb2⟩ := E.rep hy
    subst eb
    have ha2 : All2 (Ent E rv S1) kvs d := ha.mono fun _ _ z => ⟨z.1, rv.mono x1 z.2⟩
    obtain ⟨x, ex, hx⟩ := (val_rel k ha2).1 v ev
    exact ⟨p1, x, rfl, .inr ⟨kvs, E.enc k, b2, .inr ⟨od, F1.e1 _ _ (x1 _ _ hp1)⟩, rfl, F1.e1 _ _ hb2, ex.symm⟩, fun _ => kk v _ pv _ S1 H1 F1 (x0.trans x1) hx⟩⟩⟩
end
end Rt

set_option maxRecDepth 100000
set_option maxHeartbeats 4000000
/-! RtF: dicts, further: displays, walks, lengths; zip; texts of truth values; defs that call themselves. -/
namespace Rt
open PySem L2 Rt PyProof.Rows
/-! ### {k: v} -/
theorem upd_delU {H : Hp} {p : Addr} {o : HO} : upd (del H p) p o = upd H p o := by
  funext b
  unfold upd del
  by_cases z : b = p
  · rw [if_pos z, if_pos z]
  · rw [if_neg z, if_neg z, if_neg z]
/-- dicts that stand are no longer than the line -/
def DLens (H : Hp) : Prop := ∀ d od kvs, H d = some (.frz od (.dT kvs)) → kvs.length ≤ sizeLine
theorem DLens.of {X : Cx} {pins : List (Addr × Obj)} {σ : L2.St} {H : Hp} {s : Shared} (I : Inv X pins σ H s) : DLens H := fun d od kvs h => (show _ ∧ (kvs.length ≤ sizeLine ∧ _) from I.hok d _ h).2.1
theorem pe_dlen {X : Cx} {e : Expr} {te : TE} (h : PE X e te) : PE X e (fun σ H Q => te σ H (fun v H' => DLens H' → Q v H')) := ⟨fun pins s σ H Q I q =>
  thn (h.run pins s σ H _ I q) fun _ _ ⟨v, H', I', r, z⟩ => ⟨v, H', I', r, z (DLens.of I')⟩⟩
def tDisp1 (tk tv : TE) : TE := fun σ H Q => ∀ p, H p = none → tk σ (upd H p (.dT [])) fun x H1 => tv σ H1 fun y H2 => H2 p = some (.dT []) ∧ ∃ (kk : List L2.Key) (b : Addr), x = .ref b ∧ H2 b = some (.tup (kk.map kV)) ∧ Q (.ref p) (upd H2 p (.dT [(kk, y)]))
theorem pe_disp1 {X : Cx} {pos : Pos} {k v : Expr} {tk tv : TE} (hu : X.A.units + 1 < cLine) (hk : PE X k tk) (hv : PE X v tv) : PE X (.Dict [some k] [v] pos) (tDisp1 tk tv) := by
  refine ⟨fun pins s σ H Q I q => ?_⟩
  have hn := I.hok.fresh (Nat.le_refl s.heap.objs.size)
  have I1 := I.laid (a := s.heap.objs.size) (o := .dT []) (h' := s.heap.push { cls := .type "dict", data := .dict #[] }) (t' := s.toks) (fun _ _ q => Heap.get?_push_of_some _ q) (Nat.le_refl _) (dt_empty s.heap I.big)
  have hl : (pairTrees [some k] [v] X.env pos).length = 1 := pairTrees_length [some k] [v] X.env pos rfl rfl
  rw [arm_eval_Dict, zip_pairTrees [some k] [v] X.env pos (by rfl) rfl, dictDisplay_pairs (pairTrees [some k] [v] X.env pos) (by intro z; cases z) (by rw [hl]; decide)]
  refine wpAny_bind (wpAny_standAt (wpAny_bind (wpAny_subDictH (knd := tupleKind (mixKind X.prog X.w)) (Q := fun d s' => wpAny (model X.prog X.w) X.A (pure (Value.ref d)) (EP X pins σ Q) X.xe s') (show X.A.units < cLine by omega) (by rw [hl]; decide) ?_)))
  refine thn ((pps_cons hk hv pps_nil).run pins _ σ _ (fun ps H2 => match ps with
    | [(x, y)] => H2 s.heap.objs.size = some (.dT []) ∧ ∃ (kk : List L2.Key) (b : Addr), x = .ref b ∧ H2 b = some (.tup (kk.map kV)) ∧ Q (.ref s.heap.objs.size) (upd H2 s.heap.objs.size (.dT [(kk, y)]))
    | _ => False) I1 (q _ hn)) fun ws s2 ⟨ps, H2, I2, rel, q2⟩ => ?_
  match ps, rel, q2 with
  | [(x, y)], .cons (b := (u, r)) hh .nil, ⟨e, kk, b, ex, hb, q2⟩ =>
    subst ex
    obtain ⟨hh1, hh2⟩ := hh
    cases (show u = Value.ref b from hh1)
    obtain ⟨z, hd, xs, rel, dd⟩ := dt_of I2.hok e
    cases rel
    refine ⟨[(kk, b, r)], ⟨rfl, rfl, key_of I2.hok hb, True.intro⟩, dd, fun h' tk dd' hs => wpAny_pure ⟨.ref s.heap.objs.size, _, ?_, rfl, q2⟩⟩
    obtain ⟨q, es, ep, hq, h2, h3, h4, _, h5⟩ := dd'
    have nb : b ≠ s.heap.objs.size := ne_of hb e (fun z => nomatch z)
    refine d_write I2 (by rw [e]; exact True.intro) hs ⟨q, hq⟩ ⟨by show 1 ≤ sizeLine; decide, hd, _, .cons ⟨rfl, ?_, hh2⟩ .nil, q, es, ep, hq, h2, h3, h4, h5⟩
    rw [upd_ne nb]
    exact hb
section
variable {X : Cx} {C : Cs} {env kp : Gh → List Sl} {e a b c : Expr} {A rest : List Stmt} {pos p px : Pos} {κ α β γ δ ρ : Type} [DecidableEq κ] {r : Rp ρ} {rk : Rp κ} {E : Ek rk} {rv : Rp δ} {mk : W κ} {mv : W δ} {md : W (List (κ × δ))} {pn : β → Gh → List Sl} {pl : γ → Gh → List Sl} {i j : Nat} {ra re : Rp α} {rb : Rp β}
/-- x = {k: v} -/
theorem xs_setD1 {x : Str} {py : Pos} {K : List (κ × δ) → W (Fl ρ β γ)} (hu : X.A.units + 1 < cLine) (hk : ∀ C', PE X a (tE C' env rk mk)) (hv : ∀ C', PE X b (tE C' env rv mv)) (hr : ∀ ys, PSs X rest (tF C (fun g => (env g).set i (.ob (oDT E rv) ys)) (K ys) pn pl kp r)) (hN : X.N.Nodup) (hi : X.N[i]? = some x) (hx : Loc X.env.scope x) (hs : swapsWith (.Dict [some a] [b] p) (some (.Name x py)) pos.line X.env = pure false)
    (hf : X.fn x = true) (hE : ∀ g g', Gs (env g) (env g') := by intro _ _; repeat (first | exact Gs.nil | apply Gs.keep | apply Gs.gh)) :
    PSs X (.Assign [.Name x py] (.Dict [some a] [b] p) pos :: rest) (tF C env (mk.bind fun k => mv.bind fun v => (W.ret [(k, v)]).bind K) pn pl kp r) :=
  pss_imp (pss_cons (ps_set hN hi hx (pe_disp1 hu (pe_ex hk) (pe_ex hv)) hs (.inl hf)) (pss_ex hr)) fun D σ H _ ⟨S, g0, P, F, em, q⟩ => fun p hp => by
    have G0 := F.add hp (o := .dT [])
    have np : ∀ g, p ∉ owns σ (env g) := fun g z => by
      obtain ⟨_, o, e⟩ := F.sl.own ((hE g g0).owns σ ▸ z)
      rw [hp] at e
      cases e
    refine ⟨_, S, g0, _, G0.here, em, fun k g1 pk x S1 H1 F1 x1 hx => ⟨_, S1, g1, _, F1, pk, fun v g2 pv y S2 H2 F2 x2 hy => ?_⟩⟩
    have hp2 : H2 p = some (.dT []) := F2.e2 p _ upd_same (np g0)
    have sp2 : S2 p = none := F2.nw p (F.e1.back hp) (by show upd H p (.dT []) p ≠ none; rw [upd_same]; exact fun z => nomatch z)
    have G2 : Fr C S2 H2 σ (env g2) := G0.backG ((hE g2 g0).owns σ) F2
    obtain ⟨b2, eb, hb2⟩ := E.rep (rk.mono x2 hx)
    refine ⟨hp2, E.enc k, b2, eb, F2.e1 _ _ hb2, [(k, v)], S2, g2, P, ?_, pv, fun o g9 po => (q o g9 po).mono (x1.trans x2)⟩
    have G3 := (G2.del sp2 (F.H0none hp) (np g2)).setOb i (q := oDT E rv) (p := p) (u := .dT [(E.enc k, y)]) (a := [(k, v)]) (by unfold Rt.del; simp) ⟨_, rfl, ⟨rfl, hy⟩, True.intro⟩ (fun _ z => nomatch z)
    rw [upd_delU] at G3
    exact G3
/-! ### for k in d -/
theorem wk_keysF {d : Addr} {od : Obj} {kvs : List (List L2.Key × V)} {xs : List (κ × δ)} {S0 : Hp} (hl : xs.length ≤ sizeLine) (hp : S0 d = some (.frz od (.dT kvs))) (h : All2 (Ent E rv S0) kvs xs) : Wk (Itkt d od kvs) rk (xs.map (·.1)) S0 := by
  have l := All2.length h
  refine ⟨by rw [List.length_map]; exact hl, fun {C S H σ env} i hi F e => ⟨F.e1 _ _ (e _ _ hp), by rw [List.length_map] at hi; omega⟩, fun {C S H σ env} i x H' y F e hy ha => ?_, fun {C S H σ env} i hi F e => ⟨F.e1 _ _ (e _ _ hp), by rw [List.length_map] at hi; omega⟩⟩
  obtain ⟨eH, k, v, q, e1, e2, e3⟩ := hy
  subst eH e2
  rw [List.getElem?_map] at ha
  cases z : xs[i]? with
  | none => rw [z] at ha; cases ha
  | some ab =>
    rw [z] at ha
    cases Option.some.inj ha
    obtain ⟨kv, e4, e5, _⟩ := All2.get i h z
    rw [e1] at e4
    cases e4
    refine ⟨S, F, Ex.refl S, Ex.refl _, fun _ z _ => z, E.dec (F.tc.get F.e1 (by rw [e3, show k = E.enc ab.1 from e5]))⟩
theorem xi_keysF {tg iter : Expr} (h : PE X iter (tE C env (qDi E rv) md)) : PI X tg iter (tS C env rk (md.bind fun d => .ret (d.map (·.1)))) := by
  refine pi_imp (pi_keys (pe_dlen h)) fun σ H R _ ⟨S, g0, P, F, em, q⟩ => ⟨S, g0, _, F, em, fun d g1 pd x S1 H1 F1 x1 ⟨p1, u1, e1, hp1, od, u0, eu1, kvs, eu0, ha⟩ dl => ?_⟩
  subst e1 eu1 eu0
  have hp := F1.e1 _ _ hp1
  exact ⟨p1, od, rfl, .inr ⟨kvs, hp, q _ _ pd _ S1 H1 F1 x1 (wk_keysF (E := E) (rv := rv) (by rw [← All2.length ha]; exact dl _ _ _ hp) hp1 ha)⟩⟩
/-- len(d) -/
theorem call_len_dTf {X : Cx} : CallR X (.builtin "len") (fun xs H Q => ∃ (p : Addr) (od : Obj) (kvs : List (List L2.Key × V)), xs = [.ref p] ∧ H p = some (.frz od (.dT kvs)) ∧ Q (.int ((kvs.length : Nat) : Int)) H) := by
  intro pins s σ H xs us Q I r h
  obtain ⟨p, od, kvs, rfl, hp, q⟩ := h
  obtain ⟨u, rfl, rx⟩ := vals1 r
  obtain rfl : u = .ref p := rx
  obtain ⟨z, hd, ys, rel, dd⟩ := dt_rd I.hok (.inr ⟨od, hp⟩)
  have hl : kvs.length = ys.length := Paired.length rel
  refine call_len_dictH hd dd (by rw [← hl]; rw [sizeLine_eq] at z; omega) ?_
  rw [← hl]
  exact ⟨.int ((kvs.length : Nat) : Int), H, I.tok _, ⟨_, rfl⟩, q⟩
theorem xe_lenDF (hg : Gl X "len") (hm : X.mg "len" = none) (ha : PE X a (tE C env (qDi E rv) md)) (hs : starEach [a] X.env = (false, eval a X.env) :: starEach [] X.env := by rfl) :
    PE X (.Call (.Name "len" p) [a] [] pos) (tE C env qI (md.bind fun d => .ret (d.length : Int))) :=
  pe_imp (pe_callB call_len_dTf hg hm PySem.boot_len (pa_cons ha pa_nil hs) (by decide) (by decide) hs (by rfl)) fun σ H Q _ ⟨S, g0, P, F, em, k⟩ => ⟨S, g0, _, F, em, fun d g1 pd x S1 H1 F1 x1 ⟨p1, u1, e1, hp1, od, u0, eu1, kvs, eu0, ha⟩ => by
    subst e1 eu1 eu0
    exact ⟨p1, od, kvs, rfl, F1.e1 _ _ hp1, fun _ => k _ _ pd _ S1 H1 F1 x1 (by rw [All2.length ha]; rfl)⟩⟩
/-! ### zip -/
theorem zip_get {xs : List α} {ys : List β} {i : Nat} {y : α × β} (h : (xs.zip ys)[i]? = some y) : xs[i]? = some y.1 ∧ ys[i]? = some y.2 := by
  rw [List.getElem?_zip_eq_some] at h
  exact h
theorem xi_zipT {elts : List Expr} {kk : Nat} {tpos p : Pos} {mx : W (List α)} {my : W (List β)} (hg : Gl X "zip") (hm : X.mg "zip" = none) (ha : PE X a (tE C env (qT ra) mx)) (hb : PE X b (tE C env (qT rb) my)) (hs : starEach [a, b] X.env = (false, eval a X.env) :: starEach [b] X.env := by rfl) (hs2 : starEach [b] X.env = (false, eval b X.env) :: starEach [] X.env := by rfl) (hpl : (backTo pos (starEach [b] X.env)).any (·.1) = false := by rfl) :
    PI X (.Tuple elts kk tpos) (.Call (.Name "zip" p) [a, b] [] pos) (tS C env (qP ra rb) (mx.bind fun xs => my.bind fun ys => .ret (xs.zip ys))) := by
  refine pi_imp (RZ.pi_zipA hg hm (pa_cons (tE_len ha) (pa_cons hb pa_nil hs2) hs) (hs := hs) (hpl := hpl)) fun σ H R _ ⟨S, g0, P, F, em, q⟩ => ⟨S, g0, _, F, em, fun xs g1 px v S1 H1 F1 x1 ⟨p1, vs, ev, hp, h2⟩ l => ⟨S1, g1, _, F1, px, fun ys g2 py w S2 H2 F2 x2 ⟨p2, ws, ew, hq, h3⟩ => ?_⟩⟩
  subst ev ew
  have hp2 : S2 p1 = some (.tup vs) := x2 _ _ hp
  have h2' := h2.mono fun _ _ z => ra.mono x2 z
  have lx := All2.length h2
  have ly := All2.length h3
  have hz : (xs.zip ys).length = min xs.length ys.length := List.length_zip
  have lm : vs.length ≤ sizeLine := l p1 false vs (F1.e1 _ _ hp)
  refine ⟨p1, p2, vs, ws, rfl, .inr ⟨SqT.of (F2.e1 _ _ hp2), SqT.of (F2.e1 _ _ hq), q _ _ py _ S2 H2 F2 (x1.trans x2) (wk_new (by rw [hz]; omega) (fun {C S H σ env} i hi F e => ?_) (fun {C S H σ env} i hi F e => ?_) fun {C S H σ env} i x H' y F e hy ha => ?_)⟩⟩
  · rw [hz] at hi
    have h1 : i < vs.length := by omega
    have h4 : i < ws.length := by omega
    exact ⟨vs, ws, vs[i], ws[i], SqT.of (F.e1 _ _ (e _ _ hp2)), SqT.of (F.e1 _ _ (e _ _ hq)), by simp [h1], by simp [h4]⟩
  · rw [hz] at hi
    exact ⟨vs, ws, SqT.of (F.e1 _ _ (e _ _ hp2)), SqT.of (F.e1 _ _ (e _ _ hq)), by omega⟩
  · obtain ⟨T, u, w, ev, hT, eH, hq1, hq2⟩ := hy
    obtain ⟨y1, y2⟩ := zip_get ha
    obtain ⟨u', hu', ru⟩ := All2.get i h2' y1
    obtain ⟨w', hw', rw'⟩ := All2.get i h3 y2
    have z1 := hq1 vs (SqT.of (F.e1 _ _ (e _ _ hp2)))
    have z2 := hq2 ws (SqT.of (F.e1 _ _ (e _ _ hq)))
    rw [hu'] at z1
    rw [hw'] at z2
    cases z1
    cases z2
    have ex := e.trans (Ex.new (o := .tup [u, w]) (F.e1.back hT))
    exact ⟨T, _, ev, hT, eH, T, u, w, ev, upd_same, ra.mono ex ru, rb.mono ex rw'⟩
/-! ### texts of truth values -/
def reprB (b : Bool) : Str := if b then "True" else "False"
theorem call_repr_bl : CallR X (.builtin "repr") (fun xs H Q => ∃ b, xs = [.bl b] ∧ Q (.str (reprB b)) H) := by
  intro pins s σ H xs us Q I r h
  obtain ⟨b, rfl, q⟩ := h
  obtain ⟨u, rfl, rx⟩ := vals1 r
  obtain rfl : u = .bool b := rx
  exact PySem.P.repr_of_bool ⟨.str _, H, I.tok _, ⟨_, rfl⟩, q⟩
theorem xe_reprB {mb : W Bool} (hg : Gl X "repr") (hm : X.mg "repr" = none) (ha : PE X a (tE C env qB mb)) (hs : starEach [a] X.env = (false, eval a X.env) :: starEach [] X.env := by rfl) :
    PE X (.Call (.Name "repr" p) [a] [] pos) (tE C env qS (mb.bind fun b => .ret (reprB b))) :=
  pe_imp (pe_callB call_repr_bl hg hm (by decide +kernel) (pa_cons ha pa_nil hs) (by decide) (by decide) hs (by rfl)) fun σ H Q _ ⟨S, g0, P, F, em, k⟩ => ⟨S, g0, _, F, em, fun b g1 pb v S1 H1 F1 x1 hv => ⟨b, by rw [show v = .bl b from hv], fun _ => k _ _ pb _ S1 H1 F1 x1 rfl⟩⟩
theorem cd_eqS : CmpD X C .Eq qS qS fun i j => some (decide (i = j)) := ⟨_, op_eq, fun _ S H σ x y p q z Q F _ hx hy ez k => by
  rw [show x = V.str p from hx, show y = V.str q from hy]
  refine ⟨rfl, ?_⟩
  cases ez
  have e : decide (V.str p = V.str q) = decide (p = q) := by
    rw [Bool.eq_iff_iff]
    simp
  rw [e]
  exact k S H F (Ex.refl S)⟩
theorem cd_neS : CmpD X C .NotEq qS qS fun i j => some (!decide (i = j)) := ⟨_, op_ne, fun _ S H σ x y p q z Q F _ hx hy ez k => by
  rw [show x = V.str p from hx, show y = V.str q from hy]
  refine ⟨rfl, ?_⟩
  cases ez
  have e : decide (V.str p = V.str q) = decide (p = q) := by
    rw [Bool.eq_iff_iff]
    simp
  rw [e]
  exact k S H F (Ex.refl S)⟩
/-! ### defs that call themselves -/
theorem has_none {P : Program} {w : World} {K : PySem.W.Frag} {mg : Str → Option Value} {base : Heap} {x : Str} {k : Nat} {ps : List Str} {rA : Ra α} {fa : Addr} {fd : FuncData} (hm : mg x = some (.ref fa)) (hk : PySem.W.keepIn K (.ref fa) = true) (hb : Binds K fd ps []) : Has P w K mg base x k ps (SpN rA re fun _ => none) :=
  ⟨fa, fd, ⟨fun vs H Q E ⟨_, _, _, _, _, _, z, _⟩ => (nomatch z), fun A outer s H args us vs Q E _ _ _ _ ⟨_, _, _, _, _, _, z, _⟩ => (nomatch z)⟩, hm, hk, hb⟩
theorem has_noneF {P : Program} {w : World} {K : PySem.W.Frag} {mg : Str → Option Value} {base : Heap} {x : Str} {k : Nat} {ps : List Str} {rA : Ra α} {fa : Addr} {fd : FuncData} (hm : mg x = some (.ref fa)) (hk : PySem.W.keepIn K (.ref fa) = true) (hb : Binds K fd ps []) : Has P w K mg base x k ps (SpF rA r fun _ => none) :=
  ⟨fa, fd, ⟨fun vs H Q E ⟨_, _, _, _, _, _, z, _⟩ => (nomatch z), fun A outer s H args us vs Q E _ _ _ _ ⟨_, _, _, _, _, _, z, _⟩ => (nomatch z)⟩, hm, hk, hb⟩
end
theorem units1 {k : Nat} {A : Around} (r : Room k A) : A.units + 1 < cLine := by
  have := units65 r
  omega
end Rt

set_option maxRecDepth 100000
set_option maxHeartbeats 4000000
/-! RtG: ranges that go down, the place of an int in a list, sums of lists, dicts of pairs, sorted dicts. -/
namespace Rt
open PySem L2 Rt PyProof.Rows
section
variable {X : Cx} {C : Cs} {env kp : Gh → List Sl} {e a b c tg : Expr} {A rest : List Stmt} {pos p px : Pos} {κ α β γ δ ρ : Type} [DecidableEq κ] {r : Rp ρ} {rk : Rp κ} {E : Ek rk} {rv : Rp δ} {mk : W κ} {mv : W δ} {md : W (List (κ × δ))} {mi mj : W Int} {pn : β → Gh → List Sl} {pl : γ → Gh → List Sl} {i j : Nat} {ra re : Rp α} {rb : Rp β}
/-! ### range(a, b, -1) -/
def idown (a b : Int) : List Int := (List.range (a - b).toNat).map fun i => a + (i : Nat) * (-1)
def rngD (a b : Int) : Option (List Int) := if -1000000 ≤ a ∧ a ≤ 1000000 ∧ -1000000 ≤ b ∧ b ≤ 1000000 then some (idown a b) else none
theorem wk_rngD {lo hi : Int} {S0 : Hp} (hl : (lo - hi).toNat ≤ sizeLine) : Wk (Itc lo (-1) (lo - hi).toNat) qI (idown lo hi) S0 := by
  have l : (idown lo hi).length = (lo - hi).toNat := by unfold idown; rw [List.length_map, List.length_range]
  refine ⟨by rw [l]; exact hl, fun {C S H σ env} i hi' F e => ?_, fun {C S H σ env} i x H' y F e hy ha => ?_, fun {C S H σ env} i hi' F e => ?_⟩
  · show i < _
    omega
  · obtain ⟨eH, ex⟩ := hy
    subst eH
    refine ⟨S, F, Ex.refl S, Ex.refl _, fun _ z _ => z, ?_⟩
    show x = V.int y
    unfold idown at ha
    rw [List.getElem?_map] at ha
    cases q : (List.range (lo - hi).toNat)[i]? with
    | none => rw [q] at ha; cases ha
    | some j =>
      rw [q] at ha
      have : j = i := by
        obtain ⟨h1, h2⟩ := List.getElem?_eq_some_iff.mp q
        simpa using h2.symm
      subst this
      rw [ex, ← Option.some.inj ha]
  · show _ ≤ i
    omega
theorem xi_rngD {p : Pos} (hg : Gl X "range") (hm : X.mg "range" = none) (ha : PE X a (tE C env qI mi)) (hb : PE X b (tE C env qI mj)) (hc : PE X c (tE C env qI (.ret (-1)))) (hs : starEach [a, b, c] X.env = (false, eval a X.env) :: starEach [b, c] X.env := by rfl) (hsb : starEach [b, c] X.env = (false, eval b X.env) :: starEach [c] X.env := by rfl) (hsc : starEach [c] X.env = (false, eval c X.env) :: starEach [] X.env := by rfl)
    (hpl : (backTo pos (starEach [b, c] X.env)).any (·.1) = false := by rfl) :
    PI X tg (.Call (.Name "range" p) [a, b, c] [] pos) (tS C env qI (mi.bind fun i => mj.bind fun j => ofO (rngD i j))) :=
  pi_imp (pi_range3 hg hm (pa_cons ha (pa_cons hb (pa_cons hc pa_nil hsc) hsb) hs) (hs := hs) (hpl := hpl)) fun σ H R _ ⟨S, g0, P, F, em, q⟩ => ⟨S, g0, _, F, em, fun i g1 hi v S1 H1 F1 x1 hv => ⟨S1, g1, _, F1, hi, fun j g2 ⟨z, ez, pz⟩ w S2 H2 F2 x2 hw => ⟨S2, g2, fun m g3 => m = -1 ∧ P z g3, F2, ⟨rfl, pz⟩, fun m g3 ⟨em, pm⟩ u S3 H3 F3 x3 hu => by
    subst em
    unfold rngD at ez
    split at ez
    case isFalse => cases ez
    rename_i hl
    cases ez
    have hv : v = .int i := hv
    have hw : w = .int j := hw
    have hu : u = .int (-1) := hu
    subst hv hw hu
    exact ⟨i, j, -1, (i - j).toNat, rfl, RgC.neg (by omega) (by omega) (by omega) (by omega), q _ _ pm _ S3 H3 F3 (x1.trans (x2.trans x3)) (wk_rngD (by rw [sizeLine_eq]; omega))⟩⟩⟩⟩
/-! ### xs.index(e), xs a list of the def's own -/
def idxC (xs : List Int) (v : Int) : Option Int := Option.map (fun n : Nat => Int.ofNat n) (xs.findIdx? fun y => decide (y = v))
theorem idx_at {xs : List Int} {v : Int} {n : Nat} (h : (xs.findIdx? fun y => decide (y = v)) = some n) : (xs.map V.int)[n]? = some (.int v) ∧ ∀ (m : Nat) (z' : V), m < n → (xs.map V.int)[m]? = some z' → eqV z' (.int v) = false := by
  obtain ⟨h1, h2, h3⟩ := List.findIdx?_eq_some_iff_getElem.mp h
  refine ⟨by simp [h1, of_decide_eq_true h2], fun m z' hm hz => ?_⟩
  have := h3 m hm
  rw [List.getElem?_map, List.getElem?_eq_getElem (Nat.lt_trans hm h1)] at hz
  cases Option.some.inj hz
  show (xs[m]'_ == v) = false
  simpa using this
theorem xe_index {x : Str} {pa pe : Pos} {xs : List Int} (hb : PE X (.Call (.Attribute (.Name x px) "index" pa) [e] [] pe) (tBM X.K "list" (rIndex X.K) (tVar i) (tCons (tE C env qI mi) tNil))) (hi : ∀ g, (env g)[i]? = some (.ow qI xs) := by intro _; rfl) :
    PE X (.Call (.Attribute (.Name x px) "index" pa) [e] [] pe) (tE C env qI (mi.bind fun v => ofO (idxC xs v))) :=
  pe_imp hb fun σ H Q _ ⟨S, g0, P, F, em, k⟩ => by
    obtain ⟨w, ew, p, vs, e2, sp, hp, ha⟩ := F.sl.get i (hi _)
    subst e2
    refine ⟨.ref p, ew, .inl ⟨rfl, vs, SqL.of hp⟩, S, g0, _, F, em, fun v g1 ⟨z, ez, pz⟩ u S1 H1 F1 x1 hu => ?_⟩
    obtain ⟨w1, ew1, p1, vs1, e21, sp1, hp1, ha1⟩ := F1.sl.get i (hi _)
    subst e21
    rw [ew] at ew1
    cases ew1
    have e3 : vs1 = xs.map V.int := flat_ints ha1
    subst e3
    unfold idxC at ez
    obtain ⟨n, en, rfl⟩ := Option.map_eq_some_iff.mp ez
    obtain ⟨q1, q2⟩ := idx_at en
    rw [show u = V.int v from hu]
    exact ⟨p, _, .int v, n, .int v, rfl, rfl, SqL.of hp1, rfl, all_flat xs, q1, by show (v == v) = true; simp, q2, fun _ => k _ _ pz _ S1 H1 F1 x1 rfl⟩
/-! ### xs + ys of lists -/
theorem xn_catL {mx my : W (List α)} (ha : PE X a (tE C env (qL re) mx)) (hb : PE X b (tE C env (qL re) my)) : PE X (.BinOp a .Add b pos) (tN C env re (mx.bind fun xs => my.bind fun ys => ofO (catC xs ys))) :=
  pe_imp (pe_op op_cat ha hb) fun σ H Q _ ⟨S, g0, P, F, em, k⟩ => ⟨S, g0, _, F, em, fun xs g1 px v S1 H1 F1 x1 ⟨p1, vs, ev, hp, h2⟩ => ⟨S1, g1, _, F1, px, fun ys g2 ⟨z, ez, pz⟩ w S2 H2 F2 x2 ⟨p2, ws, ew, hq, h3⟩ => by
    subst ev ew
    unfold catC at ez
    split at ez
    case isFalse => cases ez
    rename_i hl
    cases ez
    have h2' := h2.mono fun _ _ z => re.mono x2 z
    exact ⟨p1, p2, vs, ws, rfl, rfl, F2.e1 _ _ (x2 _ _ hp), F2.e1 _ _ hq, by rw [All2.length h2, All2.length h3, sizeLine_eq]; omega, fun q hq' _ => k _ _ pz q _ S2 H2 F2 (x1.trans x2) hq' (h2'.append h3)⟩⟩⟩
end
end Rt

set_option maxRecDepth 100000
set_option maxHeartbeats 4000000
/-! RtH: dicts of pairs, sorted dicts. -/
namespace Rt
open PySem L2 Rt PyProof.Rows
section
variable {X : Cx} {pins : List (Addr × Obj)} {σ : L2.St} {H : Hp} {s : Shared}
def mergeT (kvs more : List (List L2.Key × V)) : List (List L2.Key × V) := more.foldl (fun acc kv => putK acc kv.1 kv.2) kvs
theorem mergeT_len : ∀ (more kvs : List (List L2.Key × V)), (mergeT kvs more).length ≤ kvs.length + more.length
  | [], kvs => Nat.le_refl _
  | p :: more, kvs => by
    have h := mergeT_len more (putK kvs p.1 p.2)
    have h2 : (putK kvs p.1 p.2).length ≤ kvs.length + 1 := by
      unfold putK
      split
      · rw [List.length_map]; omega
      · rw [List.length_append]; exact Nat.le_refl _
    simp only [List.length_cons]
    show (mergeT (putK kvs p.1 p.2) more).length ≤ _
    omega
def KR (H : Hp) (kv : List L2.Key × V) (q : List L2.Key × Addr × Value) : Prop := kv.1 = q.1 ∧ H q.2.1 = some (.tup (kv.1.map kV)) ∧ RelV kv.2 q.2.2
/-- a pair of a key and a value at p -/
def PairT (H : Hp) (p : Addr) (kv : List L2.Key × V) : Prop := ∃ b, H p = some (.tup [.ref b, kv.2]) ∧ H b = some (.tup (kv.1.map kV))
theorem pairsT_of (I : Inv X pins σ H s) : ∀ {ps : List Addr} {kvs : List (List L2.Key × V)}, All2 (PairT H) ps kvs →
    ∃ prs : List (List L2.Key × Addr × Value), All2 (KR H) kvs prs ∧ prs.length = ps.length ∧
      ∀ (j : Nat) (q : List L2.Key × Addr × Value), prs[j]? = some q → ∃ p : Addr, ps[j]? = some p ∧ IsTup s.heap p #[.ref q.2.1, q.2.2]
  | [], [], _ => ⟨[], True.intro, rfl, fun j q e => by simp at e⟩
  | p :: ps, kv :: kvs, ⟨⟨b, h1, h2⟩, t⟩ => by
    obtain ⟨prs, r, hl, hp⟩ := pairsT_of I t
    obtain ⟨its, rv, ht, _⟩ := I.tuple (SqT.of h1)
    obtain ⟨u, y, ei, ru, ry⟩ := vals2 rv
    subst ei
    cases (show u = Value.ref b from ru)
    refine ⟨(kv.1, b, y) :: prs, ⟨⟨rfl, h2, ry⟩, r⟩, by rw [List.length_cons, List.length_cons, hl], fun j q e => ?_⟩
    cases j with
    | zero =>
      have e' : (kv.1, b, y) = q := Option.some.inj e
      subst e'
      exact ⟨p, rfl, ht⟩
    | succ j =>
      obtain ⟨p', e1, e2⟩ := hp j q (by simpa using e)
      exact ⟨p', by simpa using e1, e2⟩
  | [], _ :: _, z => z.elim
  | _ :: _, [], z => z.elim
theorem mergeKT {H : Hp} : ∀ (more : List (List L2.Key × V)) (rs : List (List L2.Key × Addr × Value)) (kvs : List (List L2.Key × V)) (vs : List (List L2.Key × Addr × Value)), All2 (KR H) more rs → KT H kvs vs → KT H (mergeT kvs more) (storedAllH vs rs) := by
  intro more
  induction more with
  | nil => intro rs kvs vs h r0; cases rs with | nil => exact r0 | cons _ _ => exact h.elim
  | cons kv more ih =>
    intro rs kvs vs h r0
    cases rs with
    | nil => exact h.elim
    | cons q rs =>
      obtain ⟨⟨h1, h2, h3⟩, t⟩ := h
      have := r0.put kv.1 h2 h3
      rw [show storedH vs kv.1 q.2.1 q.2.2 = storedH vs q.1 q.2.1 q.2.2 by rw [h1]] at this
      exact ih rs _ _ t this
theorem cr_dictPT (hcalm : X.calm = true) (hu : X.A.units + 64 < cLine) : CallR X (.type "dict") (fun xs H Q => ∃ (a : Addr) (ps : List Addr) (kvs : List (List L2.Key × V)), xs = [.ref a] ∧ H a = some (.lst (ps.map V.ref)) ∧ All2 (PairT H) ps kvs ∧
    ∀ p, H p = none → Q (.ref p) (upd H p (.dT (mergeT [] kvs)))) := by
  intro pins s σ H xs us Q I r q
  obtain ⟨a, ps, kvs, ex, hq, hp, q⟩ := q
  subst ex
  obtain ⟨u, eu, rx⟩ := vals1 r
  subst eu
  cases rx
  obtain ⟨its, rv, pl, hz⟩ := I.list (SqL.of hq)
  have ei := refs_at rv
  subst ei
  rw [List.length_map] at hz
  obtain ⟨prs, rel, hl, hpr⟩ := pairsT_of I hp
  obtain ⟨o, n, ho, hc, hd, hdat⟩ := pl
  have lk : kvs.length = prs.length := All2.length rel
  have hP : PairItems s.heap (ps.map Value.ref).toArray (fun j => ps.getD j 0) (prs.map fun t => (Value.ref t.2.1, t.2.2)) := by
    refine ⟨by simp [hl], fun j k v hj => ?_⟩
    rw [List.getElem?_map] at hj
    cases e : prs[j]? with
    | none => rw [e] at hj; cases hj
    | some t =>
      rw [e] at hj
      cases Option.some.inj hj
      obtain ⟨p, e1, e2⟩ := hpr j t e
      have hg : ps.getD j 0 = p := by rw [List.getD_eq_getElem?_getD, e1]; rfl
      refine ⟨by simp [e1, hg], .inl ?_⟩
      show s.heap.IsTuple (ps.getD j 0) _
      rw [hg]
      exact e2
  refine call_dict_pairsH (knd := tupleKind (mixKind X.prog X.w)) (ps := prs) (PairArg.list a _ _ _) (I.ok.hd hcalm) (show X.A.in1.in1.units < cLine by show X.A.units + 1 + 1 < cLine; omega) ⟨⟨o, n, ho, hc, hd, hdat⟩, hP⟩ ⟨by simp, fun i key v hr => ?_⟩ (fun h' hk x hx => ?_) (by rw [List.length_map, hl]; exact hz) fun h' tk hd' k => ?_
  · have hr : (prs.map fun t => (Value.ref t.2.1, t.2.2))[i]? = some (key, v) := hr
    rw [List.getElem?_map] at hr
    cases e : prs[i]? with
    | none => rw [e] at hr; cases hr
    | some t =>
      rw [e] at hr
      cases Option.some.inj hr
      exact ⟨t.1, t.2.1, rfl, rfl⟩
  · have key : ∀ {kvs : List (List L2.Key × V)} {prs : List (List L2.Key × Addr × Value)}, All2 (KR H) kvs prs → ∀ x ∈ prs, H x.2.1 = some (.tup (x.1.map kV)) := by
      intro kvs
      induction kvs with
      | nil => intro prs h x hx; cases prs with | nil => cases hx | cons _ _ => exact h.elim
      | cons kv kvs ih =>
        intro prs h x hx
        cases prs with
        | nil => exact h.elim
        | cons t prs =>
          rcases List.mem_cons.mp hx with e | hx
          · subst e
            rw [← h.1.1]
            exact h.1.2.1
          · exact ih h.2 x hx
    obtain ⟨ob, it, m, h1, h2⟩ := key_of I.hok (key rel x hx)
    exact ⟨ob, it, m, hk _ _ (Nat.ne_of_lt (Heap.lt_size h1)) (by simp) h1, h2⟩
  · have hm : (s.heap.objs.size == sysModules) = false := beq_eq_false_iff_ne.mpr (Nat.ne_of_gt I.big)
    have hlen : (mergeT [] kvs).length ≤ sizeLine := by
      refine Nat.le_trans (mergeT_len kvs []) ?_
      rw [List.length_nil, Nat.zero_add, lk, hl]
      exact hz
    obtain ⟨q', es, ep, hq', h2, h3, h4, _, h5⟩ := hd'
    have kk : ∀ b o, s.heap.get? b = some o → h'.get? b = some o := fun b o e => k b o (by simp) e
    refine ⟨.ref s.heap.objs.size, upd H s.heap.objs.size (.dT (mergeT [] kvs)), I.laid (t' := tk) kk (Nat.le_refl _) ⟨hlen, hm, _, (mergeKT _ _ _ _ rel .nil).keeps fun c ys ec => ?_, q', es, ep, hq', h2, h3, h4, h5⟩, rfl, q _ (I.hok.fresh (Nat.le_refl _))⟩
    rw [upd_ne (ne_of_none ec (I.hok.fresh (Nat.le_refl _)))]
    exact ec
end
section
variable {X : Cx} {C : Cs} {env kp : Gh → List Sl} {e a b c tg : Expr} {A rest : List Stmt} {pos p px : Pos} {κ α β γ δ ρ : Type} [DecidableEq κ] {r : Rp ρ} {rk : Rp κ} {E : Ek rk} {rv : Rp δ} {mk : W κ} {mv : W δ} {md : W (List (κ × δ))} {pn : β → Gh → List Sl} {pl : γ → Gh → List Sl} {i j : Nat}
def dictD (d : List (κ × δ)) : List (κ × δ) := d.foldl (fun acc p => putD acc p.1 p.2) []
theorem merge_rel {H : Hp} : ∀ (kvs : List (List L2.Key × V)) (d : List (κ × δ)) (kvs0 : List (List L2.Key × V)) (d0 : List (κ × δ)), All2 (Ent E rv H) kvs d → All2 (Ent E rv H) kvs0 d0 → All2 (Ent E rv H) (mergeT kvs0 kvs) (d.foldl (fun acc p => putD acc p.1 p.2) d0) := by
  intro kvs
  induction kvs with
  | nil => intro d kvs0 d0 h h0; cases d with | nil => exact h0 | cons _ _ => exact h.elim
  | cons kv kvs ih =>
    intro d kvs0 d0 h h0
    cases d with
    | nil => exact h.elim
    | cons ab d =>
      obtain ⟨⟨h1, h2⟩, t⟩ := h
      refine ih d _ _ t ?_
      show All2 (Ent E rv H) (putK kvs0 kv.1 kv.2) (putD d0 ab.1 ab.2)
      rw [h1]
      exact put_rel h0 h2
theorem pairs_at {S H : Hp} (x : Ex S H) : ∀ (vs : List V) (d : List (κ × δ)), All2 ((qP rk rv).p S) vs d → ∃ ps kvs, vs = ps.map V.ref ∧ All2 (PairT H) ps kvs ∧ All2 (Ent E rv S) kvs d := by
  intro vs
  induction vs with
  | nil => intro d h; cases d with | nil => exact ⟨[], [], rfl, True.intro, True.intro⟩ | cons _ _ => exact h.elim
  | cons v vs ih =>
    intro d h
    cases d with
    | nil => exact h.elim
    | cons ab d =>
      obtain ⟨⟨q, y, z, ev, hq, hy, hz⟩, t⟩ := h
      obtain ⟨ps, kvs, e1, e2, e3⟩ := ih d t
      obtain ⟨b, eb, hb⟩ := E.rep hy
      subst ev eb
      exact ⟨q :: ps, (E.enc ab.1, z) :: kvs, by rw [e1]; rfl, ⟨⟨b, x _ _ hq, x _ _ hb⟩, e2⟩, ⟨⟨rfl, hz⟩, e3⟩⟩
/-- x = dict(a list of pairs) -/
theorem xs_setDP {x : Str} {py p1 : Pos} {K : List (κ × δ) → W (Fl ρ β γ)} (hcm : X.calm = true) (hu : X.A.units + 64 < cLine) (hg : Gl X "dict") (hm : X.mg "dict" = none) (ha : PE X a (tE C env (qL (qP rk rv)) md)) (hr : ∀ ys, PSs X rest (tF C (fun g => (env g).set i (.ob (oDT E rv) ys)) (K ys) pn pl kp r)) (hN : X.N.Nodup) (hi : X.N[i]? = some x) (hx : Loc X.env.scope x) (hs : swapsWith (.Call (.Name "dict" p1) [a] [] p) (some (.Name x py)) pos.line X.env = pure false)
    (hf : X.fn x = true) (hst : starEach [a] X.env = (false, eval a X.env) :: starEach [] X.env := by rfl) :
    PSs X (.Assign [.Name x py] (.Call (.Name "dict" p1) [a] [] p) pos :: rest) (tF C env (md.bind fun d => (W.ret (dictD d)).bind K) pn pl kp r) :=
  pss_imp (pss_cons (ps_set hN hi hx (pe_callTy (cr_dictPT hcm hu) hg hm (by decide +kernel) (pa_cons ha pa_nil hst) (by decide) (by decide) hst (by rfl)) hs (.inl hf)) (pss_ex hr)) fun D σ H _ ⟨S, g0, P, F, em, q⟩ => ⟨S, g0, _, F, em, fun d g1 pd v S1 H1 F1 x1 ⟨pa, vs, ev, hpa, hall⟩ => by
    subst ev
    obtain ⟨ps, kvs, e1, e2, e3⟩ := pairs_at (E := E) F1.e1 vs d hall
    subst e1
    refine ⟨pa, ps, kvs, rfl, F1.e1 _ _ hpa, e2, fun p hp => ⟨dictD d, S1, g1, P, ?_, pd, fun o g9 po => (q o g9 po).mono x1⟩⟩
    exact F1.setOb i (q := oDT E rv) hp ⟨_, rfl, merge_rel kvs d [] [] e3 True.intro⟩ (fun _ z => nomatch z)⟩
/-- a dict that is changed no more, the shared object stands by -/
theorem xs_lkDD (i : Nat) {d : Addr} {a : List (κ × δ)} {m : W (Fl ρ β γ)} (hA : C.A0 = [d]) (hr : PSs X A (tF C (fun g => (env g).set i (.im (qDi E rv) a)) m pn pl kp r)) (hi : ∀ g, (env g)[i]? = some (.ob (oDT E rv) a) := by intro _; rfl) (h0 : ∀ g, (env g)[0]? = some (.iv d (oD g)) := by intro _; rfl) (hne : i ≠ 0 := by decide) : PSs X A (tF C env m pn pl kp r) :=
  pss_imp (pss_lk hr) fun D σ H _ ⟨S, g0, P, F, em, q⟩ => by
    obtain ⟨s0, _, _⟩ := F.iv (h0 g0)
    obtain ⟨v, ev, p1, u1, e1, sp1, hp1, kvs1, eu1, ha1⟩ := F.sl.get i (hi _)
    subst e1 eu1
    refine ⟨p1, _, hp1, True.intro, fun od => ?_⟩
    have F1 := F.writeTo (q' := oFz (oDT E rv)) (u := .frz od (.dT kvs1)) (hi _) ev ⟨od, _, rfl, kvs1, rfl, ha1⟩ (fun _ z => nomatch z)
    have hlt : i < (env g0).length := by
      rcases Nat.lt_or_ge i (env g0).length with h | h
      · exact h
      · have := hi g0
        rw [List.getElem?_eq_none h] at this
        cases this
    obtain ⟨S', x1, F2⟩ := F1.freezeOb (i := i) (q := oFz (oDT E rv)) (a := a) (by rw [List.getElem?_set_self hlt]) fun p hp z => by
      rw [hA] at z
      have z : p = d := by simpa using z
      subst z
      exact hne (owns_inj F.nd (hi g0) hp rfl (h0 g0) s0 rfl)
    rw [List.set_set] at F2
    exact ⟨S', g0, P, F2, em, fun o g9 po => (q o g9 po).mono x1⟩
end
/-! ### sorted(d), the keys tuples of ints -/
section
variable {X : Cx} {pins : List (Addr × Obj)} {σ : L2.St} {H : Hp} {s : Shared}
def rSortDT : List V → Hp → VK → Prop := fun vs H Q => ∃ (d : Addr) (od : Obj) (kvs : List (List L2.Key × V)) (nss : List (List Int)), vs = [V.ref d] ∧ H d = some (.frz od (.dT kvs)) ∧ kvs.map (·.1) = nss.map (fun ns => ns.map Sum.inl) ∧ (2 ≤ nss.length → ∀ n ∈ nss, n ≠ []) ∧
  ∀ (ys : List V) (p : Addr), H p = none → All2 (fun y ns => ∃ b, y = V.ref b ∧ H b = some (.tup (ns.map V.int))) ys (sortX nss) → Q (.ref p) (upd H p (.lst ys))
theorem cr_sortDT (hcm : X.calm = true) : CallR X (.builtin "sorted") rSortDT := by
  intro pins s σ H vs us Q I r h
  obtain ⟨d, od, kvs, nss, rfl, hd, hk, hne, q⟩ := h
  rw [Vals.ref1 r]
  obtain ⟨lo, hgd, hx, es, ep, hdt, hsz, ent⟩ := I.frzT hd
  have lk : kvs.length = nss.length := by
    have := congrArg List.length hk
    simpa using this
  have z : kvs.length ≤ sizeLine := (show _ ∧ (kvs.length ≤ sizeLine ∧ _) from I.hok d _ hd).2.1
  -- an entry's key
  have at_ : ∀ i (hi : i < es.size), ∃ (b : Addr) (ns : List Int), es[i].key = .ref b ∧ nss[i]? = some ns ∧ H b = some (.tup (ns.map V.int)) := fun i hi => by
    have hi' : i < kvs.length := by omega
    obtain ⟨en, b, e1, e2, e3⟩ := ent i kvs[i].1 kvs[i].2 (by rw [List.getElem?_eq_getElem hi'])
    have hn : i < nss.length := by omega
    have e4 : kvs[i].1 = nss[i].map Sum.inl := by
      have := congrArg (fun l => l[i]?) hk
      simpa [hi', hn] using this
    rw [Array.getElem?_eq_getElem hi] at e1
    cases e1
    refine ⟨b, nss[i], e2, by rw [List.getElem?_eq_getElem hn], ?_⟩
    rw [e3, e4, List.map_map]
    rfl
  refine Calls.call_function_entry kind_sorted plain_sorted entry_sorted (args_sorted1 _) ?_
  unfold Builtin.«sorted»
  refine wpAny_bind (m := checkCount "sorted" 1 1 _) (wpAny_pure ?_)
  refine wpAny_bind (PySem.W.kdu_collect (KdlSrc.rawDict lo) (I.ok.hd hcm) ⟨od, hgd, hx, hdt⟩ (by omega) fun h' tk acc keep hacc => ?_)
  obtain ⟨hn, hv⟩ := hacc
  have lits : acc.toList.length = nss.length := by rw [Array.length_toList]; omega
  have item : ∀ (j : Nat) (v : Value), acc.toList[j]? = some v → ∃ (b : Addr) (ns : List Int), v = .ref b ∧ nss[j]? = some ns ∧ H b = some (.tup (ns.map V.int)) ∧ TS.TupInts s.heap v ns := fun j v e => by
    rw [Array.getElem?_toList] at e
    obtain ⟨hi, ev⟩ := hv j v e
    obtain ⟨b, ns, e1, e2, e3⟩ := at_ j hi
    have ev' : v = .ref b := ev.trans e1
    subst ev'
    exact ⟨b, ns, rfl, e2, e3, tupI_raw I (SqT.of e3)⟩
  have mem : ∀ v ∈ acc.toList, ∃ (b : Addr) (ns : List Int), v = .ref b ∧ ns ∈ nss ∧ H b = some (.tup (ns.map V.int)) ∧ TS.TupInts s.heap v ns := fun v hm => by
    obtain ⟨j, hj⟩ := List.getElem?_of_mem hm
    obtain ⟨b, ns, e1, e2, e3, e4⟩ := item j v hj
    exact ⟨b, ns, e1, List.mem_of_getElem? e2, e3, e4⟩
  have eN : acc.toList.map (TS.intsOf s.heap) = nss := by
    refine List.ext_getElem? fun j => ?_
    rw [List.getElem?_map]
    cases e : acc.toList[j]? with
    | none =>
      have : nss.length ≤ j := by
        have := List.getElem?_eq_none_iff.mp e
        omega
      rw [List.getElem?_eq_none this]
      rfl
    | some v =>
      obtain ⟨b, ns, e1, e2, e3, e4⟩ := item j v e
      rw [e2, ← e4.ints]
      rfl
  have hz : acc.toList.length ≤ sizeLine := by omega
  have I2 : Inv X pins σ H { s with heap := h', toks := tk } := I.kept (t' := tk) keep
  refine wpAny_bind (wpAny_newList ?_ hz)
  have hoL : (h'.push (seqObj "list" acc.toList.toArray 0)).get? h'.objs.size = some (seqObj "list" acc.toList.toArray 0) := Heap.get?_push_size _ rfl
  show wpAny _ _ _ _ _ { s with heap := h'.push (seqObj "list" acc.toList.toArray 0), toks := tk }
  refine wpAny_bind (wpAny_holding (wpAny_call_entry slot_list_sort ⟨_, hoL, rfl⟩ entry_list_sort (SrtO.list_sort_ord (NtL.swo_lexL (TS.intsOf s.heap)) hoL hz (fun h2 => ?_) fun out h1 h3 => ⟨_, rfl, ?_⟩) (args_list_sort _)))
  · refine tups_sortableO (s := { s with heap := h'.push (seqObj "list" acc.toList.toArray 0), toks := tk }) (by omega) (fun v hm => ?_) fun o e => ?_
    · obtain ⟨b, ns, e1, e2, e3, e4⟩ := mem v hm
      rw [e4.ints]
      exact ⟨e4.keeps fun c o e _ => Heap.get?_push_of_some _ (keep c o e), hne (by omega) ns e2⟩
    · have e' : some o = some (seqObj "list" acc.toList.toArray 0) := e.symm.trans hoL
      cases e'
      intro c
      exact absurd (Value.type.inj c) (by decide)
  · have hp := h3.perm
    have h4 : ∀ u ∈ out, ∃ a, u = Value.ref a := fun u hu => by
      obtain ⟨b, _, e, _⟩ := mem u (hp.mem_iff.mp hu)
      exact ⟨b, e⟩
    have eo : out.map (TS.intsOf s.heap) = sortX nss := by
      refine sortedX_unique ?_ (List.pairwise_map.mpr h1) (sortX_sorted _)
      have p1 := hp.map (TS.intsOf s.heap)
      rw [eN] at p1
      exact p1.trans (sortX_perm nss).symm
    have hlen : (out.map bkV).length ≤ sizeLine := by
      rw [List.length_map, hp.length_eq]
      exact hz
    obtain ⟨ep', he'⟩ := sortedHeap_at (vs := acc.toList) (out := out.toArray) hoL
    have old : ∀ b o, h'.get? b = some o → (sortedHeap (h'.push (seqObj "list" acc.toList.toArray 0)) h'.objs.size acc.toList out.toArray).get? b = some o := fun b o e => by
      have hlt := Heap.lt_size e
      rw [sortedHeap_old (Nat.ne_of_lt hlt) (by rw [size_push']; exact Nat.lt_succ_of_lt hlt)]
      exact Heap.get?_push_of_some _ e
    refine wpAny_pure ⟨_, rfl, .ref h'.objs.size, upd H h'.objs.size (.lst (out.map bkV)), I2.laid (t' := tk) old (Nat.le_refl _) ⟨hlen, out, ep', bkV_vals h4, by simpa using he'⟩, rfl, q _ _ (I2.hok.fresh (Nat.le_refl _)) ?_⟩
    rw [← eo]
    have key : ∀ l : List Value, (∀ u ∈ l, u ∈ acc.toList) → All2 (fun y ns => ∃ b, y = V.ref b ∧ H b = some (.tup (ns.map V.int))) (l.map bkV) (l.map (TS.intsOf s.heap)) := by
      intro l
      induction l with
      | nil => intro _; exact True.intro
      | cons u l ih =>
        intro hu
        obtain ⟨b, ns, e1, _, e3, e4⟩ := mem u (hu u List.mem_cons_self)
        refine ⟨⟨b, by rw [e1]; rfl, ?_⟩, ih fun w hw => hu w (List.mem_cons_of_mem _ hw)⟩
        rw [e4.ints]
        exact e3
    exact key out fun u hu => hp.mem_iff.mp hu
end
section
variable {X : Cx} {C : Cs} {env : Gh → List Sl} {a : Expr} {pos p : Pos} {δ : Type} {rv : Rp δ} {md : W (List (List Int × δ))}
theorem enc_map {H : Hp} : ∀ (kvs : List (List L2.Key × V)) (d : List (List Int × δ)), All2 (Ent ekT rv H) kvs d → kvs.map (·.1) = (d.map (·.1)).map (fun ns => ns.map Sum.inl)
  | [], [], _ => rfl
  | kv :: kvs, ab :: d, ⟨⟨h1, _⟩, t⟩ => by
    rw [List.map_cons, List.map_cons, List.map_cons, enc_map kvs d t]
    congr 1
  | [], _ :: _, z => z.elim
  | _ :: _, [], z => z.elim
theorem xn_sortedDF (hcm : X.calm = true) (hg : Gl X "sorted") (hm : X.mg "sorted" = none) (ha : PE X a (tE C env (qDi ekT rv) md)) (hs : starEach [a] X.env = (false, eval a X.env) :: starEach [] X.env := by rfl) :
    PE X (.Call (.Name "sorted" p) [a] [] pos) (tN C env (qT qI) (md.bind fun d => ofO (sortTT (d.map (·.1))))) :=
  pe_imp (pe_callB (cr_sortDT hcm) hg hm (by decide +kernel) (pa_cons ha pa_nil hs) (by decide) (by decide) hs (by rfl)) fun σ H Q _ ⟨S, g0, P, F, em, kk⟩ => ⟨S, g0, _, F, em, fun d g1 ⟨z, ez, pz⟩ v S1 H1 F1 x1 ⟨p1, u1, e1, hp1, od, u0, eu1, kvs, eu0, hall⟩ => by
    subst e1 eu1 eu0
    unfold sortTT at ez
    split at ez
    · rename_i hc
      cases ez
      refine ⟨p1, od, kvs, d.map (·.1), rfl, F1.e1 _ _ hp1, enc_map kvs d hall, fun h n hn e => ?_, fun ys l hl hy _ => kk _ _ pz l ys S1 H1 F1 x1 hl (hy.mono fun y ns ⟨b, ey, hb⟩ => ?_)⟩
      · rw [Bool.or_eq_true] at hc
        rcases hc with hc | hc
        · have := of_decide_eq_true hc
          omega
        · have := List.all_eq_true.mp hc n hn
          rw [e] at this
          simp at this
      · exact ⟨b, _, ey, F1.tc.get F1.e1 hb, All2.of_map (f := V.int) ns⟩
    · cases ez⟩
end
theorem units64 {k : Nat} {A : Around} (r : Room k A) : A.units + 64 < cLine := by
  have := units65 r
  omega
end Rt

set_option maxRecDepth 100000
set_option maxHeartbeats 4000000
/-! RtI: a chain of three comparisons. -/
namespace Rt
open PySem L2 Rt PyProof.Rows
section
variable {X : Cx} {C : Cs} {env kp : Gh → List Sl} {a b c d : Expr} {pos : Pos} {α β γ δ : Type} {ra : Rp α} {rb : Rp β} {rc : Rp γ} {rd : Rp δ} {ma : W α} {mb : W β} {mc : W γ} {md : W δ} {ta tb tc td : TE}
def tChain3 (r r' r2 : R2) (ta tb tc td : TE) : TE := fun σ H Q => ta σ H fun x H1 => tb σ H1 fun y H2 => r x y H2 fun z H3 => ∃ k, z = .bl k ∧
  (if k = true then tc σ H3 fun w' H4 => r' y w' H4 fun z2 H5 => ∃ k2, z2 = .bl k2 ∧ (if k2 = true then td σ H5 fun u' H6 => r2 w' u' H6 Q else Q (.bl false) H5) else Q (.bl false) H3)
theorem pe_chain3 {op op' op2 : CmpOp} {r r' r2 : R2} (ho : OpR X (compareOp op) r) (ho' : OpR X (compareOp op') r') (ho2 : OpR X (compareOp op2) r2) (ha : PE X a ta) (hb : PE X b tb) (hc : PE X c tc) (hd : PE X d td)
    (hm : lastMarks [op, op', op2] [b, c, d] = false := by with_unfolding_all rfl) : PE X (.Compare a [op, op', op2] [b, c, d] pos) (tChain3 r r' r2 ta tb tc td) := by
  refine ⟨fun pins s σ H Q I h => ?_⟩
  refine Compare_chain (thn (ha.run pins s σ H _ I h) fun v s1 ⟨x, H1, I1, r1, q1⟩ => chain_link (thn (hb.run pins s1 σ H1 _ I1 q1) fun u s2 ⟨y, H2, I2, rr2, q2⟩ =>
    thn (ho pins s2 σ H2 x y v u _ I2 r1 rr2 q2) fun e s3 ⟨z, H3, I3, r3, k, ek, q3⟩ => ?_)) hm
  subst ek
  cases r3
  refine wpAny_truthy_bool ?_
  cases k with
  | false => exact ite_ff ⟨.bl false, H3, I3, rfl, q3⟩
  | true =>
    refine ite_tt (chain_link (thn (hc.run pins s3 σ H3 _ I3 q3) fun w' s4 ⟨z', H4, I4, r4, q4⟩ => thn (ho' pins s4 σ H4 y z' u w' _ I4 rr2 r4 q4) fun d' s5 ⟨z2, H5, I5, r5, k2, e2, q5⟩ => ?_))
    subst e2
    cases r5
    refine wpAny_truthy_bool ?_
    cases k2 with
    | false => exact ite_ff ⟨.bl false, H5, I5, rfl, q5⟩
    | true => exact ite_tt (chain_last (thn (hd.run pins s5 σ H5 _ I5 q5) fun u' s6 ⟨z3, H6, I6, r6, q6⟩ => ho2 pins s6 σ H6 z' z3 w' u' Q I6 r4 r6 q6))
theorem pt_chain3 {op op' op2 : CmpOp} {r r' r2 : R2} (ho : OpR X (compareOp op) r) (ho' : OpR X (compareOp op') r') (ho2 : OpR X (compareOp op2) r2) (ha : PE X a ta) (hb : PE X b tb) (hc : PE X c tc) (hd : PE X d td)
    (hm : lastMarks [op, op', op2] [b, c, d] = false := by with_unfolding_all rfl) : PT X (.Compare a [op, op', op2] [b, c, d] pos) (tTest (tChain3 r r' r2 ta tb tc td)) := by
  refine ⟨fun pins s σ H Q I h => ?_⟩
  refine isTrue_chain (thn (ha.run pins s σ H _ I h) fun v s1 ⟨x, H1, I1, r1, q1⟩ => test_link (thn (hb.run pins s1 σ H1 _ I1 q1) fun u s2 ⟨y, H2, I2, rr2, q2⟩ =>
    thn (ho pins s2 σ H2 x y v u _ I2 r1 rr2 q2) fun e s3 ⟨z, H3, I3, r3, k, ek, q3⟩ => ?_)) hm
  subst ek
  cases r3
  refine wpAny_truthy_bool ?_
  cases k with
  | false =>
    obtain ⟨k', e', q'⟩ := q3
    cases e'
    exact ite_ff ⟨H3, I3, q'⟩
  | true =>
    refine ite_tt (test_link (thn (hc.run pins s3 σ H3 _ I3 q3) fun w' s4 ⟨z', H4, I4, r4, q4⟩ => thn (ho' pins s4 σ H4 y z' u w' _ I4 rr2 r4 q4) fun d' s5 ⟨z2, H5, I5, r5, k2, e2, q5⟩ => ?_))
    subst e2
    cases r5
    refine wpAny_truthy_bool ?_
    cases k2 with
    | false =>
      obtain ⟨k', e', q'⟩ := q5
      cases e'
      exact ite_ff ⟨H5, I5, q'⟩
    | true =>
      refine ite_tt (test_last (thn (hd.run pins s5 σ H5 _ I5 q5) fun u' s6 ⟨z3, H6, I6, r6, q6⟩ => thn (ho2 pins s6 σ H6 z' z3 w' u' _ I6 r4 r6 q6) fun d2 s7 ⟨z4, H7, I7, r7, k3, e3, q7⟩ => ?_))
      subst e3
      cases r7
      exact wpAny_truthy_bool ⟨H7, I7, q7⟩
def wChain3 (f : α → β → Option Bool) (g : β → γ → Option Bool) (h : γ → δ → Option Bool) (ma : W α) (mb : W β) (mc : W γ) (md : W δ) : W Bool :=
  ma.bind fun p => mb.bind fun q => (ofO (f p q)).bind fun t => if t = true then mc.bind fun w => (ofO (g q w)).bind fun t2 => if t2 = true then md.bind fun u => ofO (h w u) else .ret false else .ret false
theorem xe_chainD3 {op op' op2 : CmpOp} {f : α → β → Option Bool} {g : β → γ → Option Bool} {h : γ → δ → Option Bool} (d1 : CmpD X C op ra rb f) (d2 : CmpD X C op' rb rc g) (d3 : CmpD X C op2 rc rd h) (ha : PE X a (tE C env ra ma)) (hb : PE X b (tE C env rb mb)) (hc : PE X c (tE C env rc mc)) (hd : PE X d (tE C env rd md))
    (hm : lastMarks [op, op', op2] [b, c, d] = false := by with_unfolding_all rfl) : PE X (.Compare a [op, op', op2] [b, c, d] pos) (tE C env qB (ma.bind fun p => mb.bind fun q => (ofO (f p q)).bind fun t => if t = true then mc.bind fun w => (ofO (g q w)).bind fun t2 => if t2 = true then md.bind fun u => ofO (h w u) else .ret false else .ret false)) := by
  obtain ⟨R, h1, hr⟩ := d1
  obtain ⟨R', h2, hr'⟩ := d2
  obtain ⟨R2, h3, hr2⟩ := d3
  refine pe_imp (pe_chain3 h1 h2 h3 ha (tE_len hb) (tE_len hc) (tE_len hd) hm) fun σ H Q _ ⟨S, g0, P, F, em, q⟩ => ?_
  refine ⟨S, g0, _, F, em, fun p g1 hp x S1 H1 F1 e1 hx => ⟨S1, g1, _, F1, hp, fun w g2 ⟨t, et, ht⟩ y S2 H2 F2 e2 hy l2 => ?_⟩⟩
  refine hr _ S2 H2 σ x y p w t _ F2 l2 (ra.mono e2 hx) hy et fun S3 H3 F3 e3 => ⟨t, rfl, ?_⟩
  cases t with
  | false => exact fun _ => q _ _ ht _ S3 H3 F3 (e1.trans (e2.trans e3)) rfl
  | true =>
    refine ⟨S3, _, _, F3, ht, fun u g4 ⟨z, ez, pz⟩ y' S4 H4 F4 e4 hy' l4 => ?_⟩
    refine hr' _ S4 H4 σ y y' w u z _ F4 l4 (rb.mono (e3.trans e4) hy) hy' ez fun S5 H5 F5 e5 => ⟨z, rfl, ?_⟩
    cases z with
    | false => exact fun _ => q _ _ pz _ S5 H5 F5 (e1.trans (e2.trans (e3.trans (e4.trans e5)))) rfl
    | true =>
      refine ⟨S5, _, _, F5, pz, fun u2 g6 ⟨z2, ez2, pz2⟩ y2 S6 H6 F6 e6 hy2 l6 => ?_⟩
      exact hr2 _ S6 H6 σ y' y2 u u2 z2 _ F6 l6 (rc.mono (e5.trans e6) hy') hy2 ez2 fun S7 H7 F7 e7 _ => q z2 _ pz2 _ S7 H7 F7 (e1.trans (e2.trans (e3.trans (e4.trans (e5.trans (e6.trans e7)))))) rfl
theorem xt_chainD3 {op op' op2 : CmpOp} {f : α → β → Option Bool} {g : β → γ → Option Bool} {h : γ → δ → Option Bool} (d1 : CmpD X C op ra rb f) (d2 : CmpD X C op' rb rc g) (d3 : CmpD X C op2 rc rd h) (ha : PE X a (tE C env ra ma)) (hb : PE X b (tE C env rb mb)) (hc : PE X c (tE C env rc mc)) (hd : PE X d (tE C env rd md))
    (hm : lastMarks [op, op', op2] [b, c, d] = false := by with_unfolding_all rfl) : PT X (.Compare a [op, op', op2] [b, c, d] pos) (tT C env (ma.bind fun p => mb.bind fun q => (ofO (f p q)).bind fun t => if t = true then mc.bind fun w => (ofO (g q w)).bind fun t2 => if t2 = true then md.bind fun u => ofO (h w u) else .ret false else .ret false)) := by
  obtain ⟨R, h1, hr⟩ := d1
  obtain ⟨R', h2, hr'⟩ := d2
  obtain ⟨R2, h3, hr2⟩ := d3
  refine pt_imp (pt_chain3 h1 h2 h3 ha (tE_len hb) (tE_len hc) (tE_len hd) hm) fun σ H Q _ ⟨S, g0, P, F, em, q⟩ => ?_
  refine ⟨S, g0, _, F, em, fun p g1 hp x S1 H1 F1 e1 hx => ⟨S1, g1, _, F1, hp, fun w g2 ⟨t, et, ht⟩ y S2 H2 F2 e2 hy l2 => ?_⟩⟩
  refine hr _ S2 H2 σ x y p w t _ F2 l2 (ra.mono e2 hx) hy et fun S3 H3 F3 e3 => ⟨t, rfl, ?_⟩
  cases t with
  | false => exact ⟨_, rfl, fun _ => q _ _ ht S3 H3 F3 (e1.trans (e2.trans e3))⟩
  | true =>
    refine ⟨S3, _, _, F3, ht, fun u g4 ⟨z, ez, pz⟩ y' S4 H4 F4 e4 hy' l4 => ?_⟩
    refine hr' _ S4 H4 σ y y' w u z _ F4 l4 (rb.mono (e3.trans e4) hy) hy' ez fun S5 H5 F5 e5 => ⟨z, rfl, ?_⟩
    cases z with
    | false => exact ⟨_, rfl, fun _ => q _ _ pz S5 H5 F5 (e1.trans (e2.trans (e3.trans (e4.trans e5))))⟩
    | true =>
      refine ⟨S5, _, _, F5, pz, fun u2 g6 ⟨z2, ez2, pz2⟩ y2 S6 H6 F6 e6 hy2 l6 => ?_⟩
      exact hr2 _ S6 H6 σ y' y2 u u2 z2 _ F6 l6 (rc.mono (e5.trans e6) hy') hy2 ez2 fun S7 H7 F7 e7 => ⟨_, rfl, fun _ => q z2 _ pz2 _ _ F7 (e1.trans (e2.trans (e3.trans (e4.trans (e5.trans (e6.trans e7))))))⟩
end
end Rt

set_option maxRecDepth 100000
set_option maxHeartbeats 4000000
/-! RtV: values of any kind; a tuple, many times. -/
namespace Rt
open PySem L2 Rt PyProof.Rows
/-! ### t * k -/
theorem tuple_mul0 (l : Addr) (items : Array Value) (n : Nat) (dd : Option Addr) (sl : Array (Option Value)) (x : Int) (u : Tok) (c0 : (decide (x < -(2 ^ 63)) || decide (x ≥ 2 ^ 63)) = false) (c1 : (items.isEmpty || x == 1) = false) (c2 : (decide (x ≤ 0) || items.isEmpty) = true) :
    Meets (Builtin.«tuple.__mul__» ⟨[.ref l, .int x u], []⟩) (fun _ R s => s.heap.get? l = some { cls := .type "tuple", dict := dd, data := .seq items n, slots := sl } ∧
      R (.ok (.ret (Value.ref s.heap.objs.size))) { s with heap := s.heap.push { cls := Value.type "tuple", data := Data.seq #[] }, toks := s.toks }) :=
  .of_wp fun prog w A R s h => by
    obtain ⟨hp, g, d, tk, os⟩ := s
    obtain ⟨hl, h⟩ := h
    have f1 := AutoSeq1.idx_int
    wp_walk using wpAny_loadPart' hl
    repeat (first
      | (refine wpAny_ite_false (decide_eq_false (by rw [c0]; exact Bool.false_ne_true)) ?_; wp_walk using wpAny_loadPart' hl)
      | (refine wpAny_ite_false (decide_eq_false (by rw [c1]; exact Bool.false_ne_true)) ?_; wp_walk using wpAny_loadPart' hl)
      | (refine wpAny_ite_true (decide_eq_true c2) ?_; wp_walk using wpAny_loadPart' hl))
    exact ⟨_, rfl, h⟩
def repT {α : Type} (xs : List α) (k : Int) : Option (List α) := if xs ≠ [] ∧ (k = 0 ∨ 2 ≤ k) ∧ k ≤ 1000 ∧ xs.length ≤ 1000 then some (List.replicate k.toNat xs).flatten else none
def rRepT0 (K : PySem.W.Frag) : R2 := fun x y H Q => ∃ l xs, x = .ref l ∧ y = .int 0 ∧ SqT K H l xs ∧ xs ≠ [] ∧ ∀ p, H p = none → Q (.ref p) (upd H p (.tup []))
section
variable {X : Cx}
theorem op_repT0 : OpR X (binaryOp .Mult) (rRepT0 X.K) := by
  intro pins s σ H x y v u Q I rx ry h
  obtain ⟨l, xs, rfl, rfl, hT, hne, q⟩ := h
  cases rx
  obtain ⟨t, rfl⟩ := ry
  obtain ⟨its, r, ⟨⟨cls, dd, data, sl⟩, ho, hc, n, hd⟩, hs⟩ := I.tuple hT
  simp only at hc hd
  subst hc hd
  have hle : its.length = xs.length := r.length.symm
  have hn : its ≠ [] := fun e => hne (by
    rw [e] at hle
    exact List.eq_nil_of_length_eq_zero hle.symm)
  have hi : its.toArray.isEmpty = false := by
    cases its with
    | nil => exact absurd rfl hn
    | cons a b => rfl
  have c0 : (decide ((0 : Int) < -(2 ^ 63)) || decide ((0 : Int) ≥ 2 ^ 63)) = false := by decide
  have c1 : (its.toArray.isEmpty || (0 : Int) == 1) = false := by
    rw [hi, Bool.false_or]
    rfl
  have c2 : (decide ((0 : Int) ≤ 0) || its.toArray.isEmpty) = true := rfl
  refine wpAny_binaryOp_repeat_ref (T := "tuple") (U := "int") (by decide) ⟨_, ho, rfl⟩ (fun s' => typeIs_int s' 0 t) noFill_tuple_mul F.fills_int_mul F.slot_int_rmul repeat_tuple F.slot_int_index.lookup
    (call_meets F.slot_int_rmul (typeIs_int s 0 t) F.entry_int_rmul (F.args_int_rmul_2 _ _) (int_rmul_tuple 0 t l its.toArray n dd sl)
      ⟨ho, rfl, ⟨_, ho, rfl⟩, call_meets F.slot_tuple_mul ⟨_, ho, rfl⟩ F.entry_tuple_mul (F.args_tuple_mul_2 _ _) (tuple_mul0 l its.toArray n dd sl 0 t c0 c1 c2) ⟨ho, ?_⟩⟩)
  refine ⟨.ref s.heap.objs.size, _, I.laid (t' := s.toks) (o := .tup []) (fun b ob q => Heap.get?_push_of_some _ q) (Nat.le_refl _) ?_, rfl, q _ (I.hok.fresh (Nat.le_refl _))⟩
  exact ⟨Nat.zero_le _, [], .nil, IsTup.new _ _⟩
theorem op_or {op : Value → Value → Sem Value} {r r' : R2} (h : OpR X op r) (h' : OpR X op r') : OpR X op (fun x y H Q => r x y H Q ∨ r' x y H Q) := by
  intro pins s σ H x y v u Q I rx ry q
  rcases q with q | q
  · exact h pins s σ H x y v u Q I rx ry q
  · exact h' pins s σ H x y v u Q I rx ry q
end
section
variable {X : Cx} {C : Cs} {env kp : Gh → List Sl} {a b c d e : Expr} {pos : Pos} {α β γ δ : Type} {r ra : Rp α} {rb : Rp β} {mi : W Int}
theorem xe_repT {mx : W (List α)} (ha : PE X a (tE C env (qT r) mx)) (hb : PE X b (tE C env qI mi)) : PE X (.BinOp a .Mult b pos) (tE C env (qT r) (mx.bind fun xs => mi.bind fun k => ofO (repT xs k))) :=
  xe_op (op_or op_repT op_repT0) ha hb fun _ S H σ x y xs k z Q F _ ⟨p, vs, e1, h1, h2⟩ hk ez kk => by
    unfold repT at ez
    split at ez
    · rename_i hl
      cases ez
      obtain ⟨n1, n2, n3, n4⟩ := hl
      have lv := All2.length h2
      have nv : vs ≠ [] := fun e => n1 (by
        rw [e] at lv
        exact List.eq_nil_of_length_eq_zero lv.symm)
      have hk : y = .int k := hk
      rcases n2 with e0 | n2
      · refine .inr ⟨p, vs, e1, by rw [hk, e0], SqT.of (F.e1 _ _ h1), nv, fun u hu => ?_⟩
        subst e0
        have ex := Ex.new (o := .tup []) (F.e1.back hu)
        exact kk _ _ _ (F.new hu) ex ⟨u, [], rfl, upd_same, True.intro⟩
      · refine .inl ⟨p, k, vs, e1, hk, SqT.of (F.e1 _ _ h1), nv, n2, n3, by omega, fun u hu => ?_⟩
        have ex := Ex.new (o := .tup (List.replicate k.toNat vs).flatten) (F.e1.back hu)
        exact kk _ _ _ (F.new hu) ex ⟨u, _, rfl, upd_same, All2.rep (h2.mono fun _ _ z => r.mono ex z) k.toNat⟩
    · cases ez
end
/-! ### values of any kind -/
mutual
def Vp (H : Hp) : PyData → V → Prop
  | .none, v => v = .non
  | .bool b, v => v = .bl b
  | .int i, v => v = .int i
  | .str x, v => v = .str x
  | .list ds, v => ∃ p vs, v = .ref p ∧ H p = some (.lst vs) ∧ VpL H ds vs
  | .tuple ds, v => ∃ p vs, v = .ref p ∧ H p = some (.tup vs) ∧ VpL H ds vs
  | .dict kvs, v => kvs = [] ∧ ∃ p, v = .ref p ∧ H p = some (.dT [])
def VpL (H : Hp) : List PyData → List V → Prop
  | [], vs => vs = []
  | d :: ds, vs => ∃ w ws, vs = w :: ws ∧ Vp H d w ∧ VpL H ds ws
end
mutual
theorem Vp.mono {H H' : Hp} (e : Ex H H') : ∀ (d : PyData) (v : V), Vp H d v → Vp H' d v
  | .none, v, h => by unfold Vp at *; exact h
  | .bool b, v, h => by unfold Vp at *; exact h
  | .int i, v, h => by unfold Vp at *; exact h
  | .str x, v, h => by unfold Vp at *; exact h
  | .list ds, v, h => by
    unfold Vp at *
    obtain ⟨p, vs, h1, h2, h3⟩ := h
    exact ⟨p, vs, h1, e _ _ h2, VpL.mono e ds vs h3⟩
  | .tuple ds, v, h => by
    unfold Vp at *
    obtain ⟨p, vs, h1, h2, h3⟩ := h
    exact ⟨p, vs, h1, e _ _ h2, VpL.mono e ds vs h3⟩
  | .dict kvs, v, h => by
    unfold Vp at *
    obtain ⟨h1, p, h2, h3⟩ := h
    exact ⟨h1, p, h2, e _ _ h3⟩
theorem VpL.mono {H H' : Hp} (e : Ex H H') : ∀ (ds : List PyData) (vs : List V), VpL H ds vs → VpL H' ds vs
  | [], vs, h => by unfold VpL at *; exact h
  | d :: ds, vs, h => by
    unfold VpL at *
    obtain ⟨w, ws, h1, h2, h3⟩ := h
    exact ⟨w, ws, h1, Vp.mono e d w h2, VpL.mono e ds ws h3⟩
end
def qV : Rp PyData := ⟨fun H v d => Vp H d v, fun {H H' v d} e h => Vp.mono e d v h⟩
theorem vpl_of {H : Hp} : ∀ {vs : List V} {ds : List PyData}, All2 (qV.p H) vs ds → VpL H ds vs
  | [], [], _ => by unfold VpL; rfl
  | v :: vs, d :: ds, ⟨a, b⟩ => by unfold VpL; exact ⟨v, vs, rfl, a, vpl_of b⟩
  | [], _ :: _, z => z.elim
  | _ :: _, [], z => z.elim
theorem vpl_to {H : Hp} : ∀ {vs : List V} {ds : List PyData}, VpL H ds vs → All2 (qV.p H) vs ds
  | vs, [], h => by unfold VpL at h; subst h; exact True.intro
  | vs, d :: ds, h => by
    unfold VpL at h
    obtain ⟨w, ws, rfl, h2, h3⟩ := h
    exact ⟨h2, vpl_to h3⟩
/-- data of a kind as values of any kind, and back where it can be -/
structure Ve {α : Type} (r : Rp α) where
  enc : α → PyData
  dec : PyData → Option α
  rep : ∀ {H : Hp} {v : V} {a : α}, r.p H v a → Vp H (enc a) v
  und : ∀ {H : Hp} {v : V} {d : PyData} {a : α}, Vp H d v → dec d = some a → r.p H v a
  ret : ∀ a : α, dec (enc a) = some a
def decI : PyData → Option Int
  | .int i => some i
  | _ => none
def decB : PyData → Option Bool
  | .bool i => some i
  | _ => none
def decS : PyData → Option Str
  | .str i => some i
  | _ => none
def decN : PyData → Option Unit
  | .none => some ()
  | _ => none
def decAll {α : Type} (f : PyData → Option α) : List PyData → Option (List α)
  | [] => some []
  | d :: ds => (f d).bind fun a => (decAll f ds).bind fun as => some (a :: as)
def decT {α : Type} (f : PyData → Option α) : PyData → Option (List α)
  | .tuple ds => decAll f ds
  | _ => none
def decL {α : Type} (f : PyData → Option α) : PyData → Option (List α)
  | .list ds => decAll f ds
  | _ => none
def decP {α β : Type} (f : PyData → Option α) (g : PyData → Option β) : PyData → Option (α × β)
  | .tuple [x, y] => (f x).bind fun a => (g y).bind fun b => some (a, b)
  | _ => none
def decP3 {α β γ : Type} (f : PyData → Option α) (g : PyData → Option β) (h : PyData → Option γ) : PyData → Option (α × β × γ)
  | .tuple [x, y, z] => (f x).bind fun a => (g y).bind fun b => (h z).bind fun c => some (a, b, c)
  | _ => none
def eI : Ve qI := ⟨.int, decI, fun {H v a} h => by unfold Vp; exact h, fun {H v d a} h e => by
  cases d <;> cases e
  unfold Vp at h
  exact h, fun _ => rfl⟩
def eB : Ve qB := ⟨.bool, decB, fun {H v a} h => by unfold Vp; exact h, fun {H v d a} h e => by
  cases d <;> cases e
  unfold Vp at h
  exact h, fun _ => rfl⟩
def eS : Ve qS := ⟨.str, decS, fun {H v a} h => by unfold Vp; exact h, fun {H v d a} h e => by
  cases d <;> cases e
  unfold Vp at h
  exact h, fun _ => rfl⟩
def eN : Ve qN := ⟨fun _ => .none, decN, fun {H v a} h => by unfold Vp; exact h, fun {H v d a} h e => by
  cases d <;> cases e
  unfold Vp at h
  exact h, fun _ => rfl⟩
def eV : Ve qV := ⟨id, some, fun h => h, fun h e => by cases e; exact h, fun _ => rfl⟩
theorem vpl_enc {α : Type} {r : Rp α} (E : Ve r) {H : Hp} : ∀ {vs : List V} {xs : List α}, All2 (r.p H) vs xs → VpL H (xs.map E.enc) vs
  | [], [], _ => by unfold List.map VpL; rfl
  | v :: vs, x :: xs, ⟨a, b⟩ => by
    show VpL H (E.enc x :: xs.map E.enc) (v :: vs)
    unfold VpL
    exact ⟨v, vs, rfl, E.rep a, vpl_enc E b⟩
  | [], _ :: _, z => z.elim
  | _ :: _, [], z => z.elim
theorem vpl_dec {α : Type} {r : Rp α} (E : Ve r) {H : Hp} : ∀ {vs : List V} {ds : List PyData} {xs : List α}, VpL H ds vs → decAll E.dec ds = some xs → All2 (r.p H) vs xs
  | vs, [], xs, h, e => by
    unfold VpL at h
    subst h
    cases e
    exact True.intro
  | vs, d :: ds, xs, h, e => by
    unfold VpL at h
    obtain ⟨w, ws, rfl, h2, h3⟩ := h
    unfold decAll at e
    obtain ⟨a, e1, e⟩ := Option.bind_eq_some_iff.mp e
    obtain ⟨as, e2, e⟩ := Option.bind_eq_some_iff.mp e
    cases e
    exact ⟨E.und h2 e1, vpl_dec E h3 e2⟩
theorem dec_enc {α : Type} {r : Rp α} (E : Ve r) : ∀ xs : List α, decAll E.dec (xs.map E.enc) = some xs
  | [] => rfl
  | x :: xs => by
    show (E.dec (E.enc x)).bind (fun a => (decAll E.dec (xs.map E.enc)).bind fun as => some (a :: as)) = _
    rw [E.ret, dec_enc E xs]
    rfl
def eT {α : Type} {r : Rp α} (E : Ve r) : Ve (qT r) := ⟨fun xs => .tuple (xs.map E.enc), decT E.dec, fun {H v a} ⟨p, vs, h1, h2, h3⟩ => by
  unfold Vp
  exact ⟨p, vs, h1, h2, vpl_enc E h3⟩, fun {H v d a} h e => by
  cases d <;> first | cases e | skip
  unfold Vp at h
  obtain ⟨p, vs, h1, h2, h3⟩ := h
  exact ⟨p, vs, h1, h2, vpl_dec E h3 e⟩, fun xs => dec_enc E xs⟩
def eL {α : Type} {r : Rp α} (E : Ve r) : Ve (qL r) := ⟨fun xs => .list (xs.map E.enc), decL E.dec, fun {H v a} ⟨p, vs, h1, h2, h3⟩ => by
  unfold Vp
  exact ⟨p, vs, h1, h2, vpl_enc E h3⟩, fun {H v d a} h e => by
  cases d <;> first | cases e | skip
  unfold Vp at h
  obtain ⟨p, vs, h1, h2, h3⟩ := h
  exact ⟨p, vs, h1, h2, vpl_dec E h3 e⟩, fun xs => dec_enc E xs⟩
theorem eP_rep {α β : Type} {r : Rp α} {q : Rp β} (E : Ve r) (F : Ve q) {H : Hp} {v : V} {a : α × β} (h : (qP r q).p H v a) : Vp H (.tuple [E.enc a.1, F.enc a.2]) v := by
  obtain ⟨p, x, y, h1, h2, h3, h4⟩ := h
  unfold Vp
  refine ⟨p, _, h1, h2, ?_⟩
  unfold VpL
  refine ⟨_, _, rfl, E.rep h3, ?_⟩
  unfold VpL
  refine ⟨_, _, rfl, F.rep h4, ?_⟩
  unfold VpL
  rfl
theorem eP_und {α β : Type} {r : Rp α} {q : Rp β} (E : Ve r) (F : Ve q) {H : Hp} {v : V} {d : PyData} {a : α × β} (h : Vp H d v) (e : decP E.dec F.dec d = some a) : (qP r q).p H v a := by
  unfold decP at e
  split at e
  · obtain ⟨u, e1, e⟩ := Option.bind_eq_some_iff.mp e
    obtain ⟨w, e2, e⟩ := Option.bind_eq_some_iff.mp e
    cases e
    unfold Vp at h
    obtain ⟨p, vs, h1, h2, h3⟩ := h
    unfold VpL at h3
    obtain ⟨_, _, rfl, h4, h3⟩ := h3
    unfold VpL at h3
    obtain ⟨_, _, rfl, h5, h3⟩ := h3
    unfold VpL at h3
    subst h3
    exact ⟨p, _, _, h1, h2, E.und h4 e1, F.und h5 e2⟩
  · cases e
def eP {α β : Type} {r : Rp α} {q : Rp β} (E : Ve r) (F : Ve q) : Ve (qP r q) := ⟨fun x => .tuple [E.enc x.1, F.enc x.2], decP E.dec F.dec, fun h => eP_rep E F h, fun h e => eP_und E F h e, fun x => by
  show ((E.dec (E.enc x.1)).bind fun a => (F.dec (F.enc x.2)).bind fun b => some (a, b)) = some x
  rw [E.ret, F.ret]
  rfl⟩
theorem eP3_rep {α β γ : Type} {r : Rp α} {q : Rp β} {t : Rp γ} (E : Ve r) (F : Ve q) (G : Ve t) {H : Hp} {v : V} {a : α × β × γ} (h : (qP3 r q t).p H v a) : Vp H (.tuple [E.enc a.1, F.enc a.2.1, G.enc a.2.2]) v := by
  obtain ⟨p, x, y, z, h1, h2, h3, h4, h5⟩ := h
  unfold Vp
  refine ⟨p, _, h1, h2, ?_⟩
  unfold VpL
  refine ⟨_, _, rfl, E.rep h3, ?_⟩
  unfold VpL
  refine ⟨_, _, rfl, F.rep h4, ?_⟩
  unfold VpL
  refine ⟨_, _, rfl, G.rep h5, ?_⟩
  unfold VpL
  rfl
theorem eP3_und {α β γ : Type} {r : Rp α} {q : Rp β} {t : Rp γ} (E : Ve r) (F : Ve q) (G : Ve t) {H : Hp} {v : V} {d : PyData} {a : α × β × γ} (h : Vp H d v) (e : decP3 E.dec F.dec G.dec d = some a) : (qP3 r q t).p H v a := by
  unfold decP3 at e
  split at e
  · obtain ⟨u, e1, e⟩ := Option.bind_eq_some_iff.mp e
    obtain ⟨w, e2, e⟩ := Option.bind_eq_some_iff.mp e
    obtain ⟨w3, e3, e⟩ := Option.bind_eq_some_iff.mp e
    cases e
    unfold Vp at h
    obtain ⟨p, vs, h1, h2, h3⟩ := h
    unfold VpL at h3
    obtain ⟨_, _, rfl, h4, h3⟩ := h3
    unfold VpL at h3
    obtain ⟨_, _, rfl, h5, h3⟩ := h3
    unfold VpL at h3
    obtain ⟨_, _, rfl, h6, h3⟩ := h3
    unfold VpL at h3
    subst h3
    exact ⟨p, _, _, _, h1, h2, E.und h4 e1, F.und h5 e2, G.und h6 e3⟩
  · cases e
def eP3 {α β γ : Type} {r : Rp α} {q : Rp β} {t : Rp γ} (E : Ve r) (F : Ve q) (G : Ve t) : Ve (qP3 r q t) := ⟨fun x => .tuple [E.enc x.1, F.enc x.2.1, G.enc x.2.2], decP3 E.dec F.dec G.dec, fun h => eP3_rep E F G h, fun h e => eP3_und E F G h e, fun x => by
  show ((E.dec (E.enc x.1)).bind fun a => (F.dec (F.enc x.2.1)).bind fun b => (G.dec (G.enc x.2.2)).bind fun c => some (a, b, c)) = some x
  rw [E.ret, F.ret, G.ret]
  rfl⟩
def tyV : PyData → String
  | .none => "NoneType"
  | .bool _ => "bool"
  | .int _ => "int"
  | .str _ => "str"
  | .list _ => "list"
  | .tuple _ => "tuple"
  | .dict _ => "dict"
def isTupV : PyData → Bool
  | .tuple _ => true
  | _ => false
def isListV : PyData → Bool
  | .list _ => true
  | _ => false
def isIntV : PyData → Bool
  | .int _ => true
  | .bool _ => true
  | _ => false
def isBoolV : PyData → Bool
  | .bool _ => true
  | _ => false
def isStrV : PyData → Bool
  | .str _ => true
  | _ => false
def isDictV : PyData → Bool
  | .dict _ => true
  | _ => false
def isNonV : PyData → Bool
  | .none => true
  | _ => false
theorem Vp.ty {K : PySem.W.Frag} {H : Hp} {v : V} {d : PyData} (h : Vp H d v) : TyOf K H v (.type (tyV d)) := by
  cases d <;> unfold Vp at h
  case none => rw [h]; exact .non
  case bool b => rw [h]; exact .bl b
  case int i => rw [h]; exact .int i
  case str i => rw [h]; exact .str i
  case list ds => obtain ⟨p, vs, h1, h2, _⟩ := h; rw [h1]; exact .lst h2
  case tuple ds => obtain ⟨p, vs, h1, h2, _⟩ := h; rw [h1]; exact .tup h2
  case dict ds => obtain ⟨_, p, h1, h2⟩ := h; rw [h1]; exact .dT h2
theorem Vp.isNon {H : Hp} {v : V} {d : PyData} (h : Vp H d v) : decide (v = .non) = isNonV d := by
  cases d <;> unfold Vp at h
  case none => rw [h]; rfl
  case bool b => rw [h]; rfl
  case int i => rw [h]; rfl
  case str i => rw [h]; rfl
  case list ds => obtain ⟨p, vs, h1, h2, _⟩ := h; rw [h1]; rfl
  case tuple ds => obtain ⟨p, vs, h1, h2, _⟩ := h; rw [h1]; rfl
  case dict ds => obtain ⟨_, p, h1, h2⟩ := h; rw [h1]; rfl
mutual
def cleanD : PyData → Bool
  | .list ds => cleanL ds
  | .tuple ds => cleanL ds
  | .dict _ => false
  | _ => true
def cleanL : List PyData → Bool
  | [] => true
  | d :: ds => cleanD d && cleanL ds
end
mutual
theorem Vp.dp {K : PySem.W.Frag} {H : Hp} : ∀ (d : PyData) (v : V), Vp H d v → cleanD d = true → Dp K H v d
  | .none, v, h, _ => by unfold Vp at h; rw [h]; exact .non
  | .bool b, v, h, _ => by unfold Vp at h; rw [h]; exact .bl b
  | .int i, v, h, _ => by unfold Vp at h; rw [h]; exact .int i
  | .str x, v, h, _ => by unfold Vp at h; rw [h]; exact .str x
  | .list ds, v, h, c => by
    unfold Vp at h
    unfold cleanD at c
    obtain ⟨p, vs, h1, h2, h3⟩ := h
    rw [h1]
    exact .lst (SqL.of h2) (VpL.dp ds vs h3 c)
  | .tuple ds, v, h, c => by
    unfold Vp at h
    unfold cleanD at c
    obtain ⟨p, vs, h1, h2, h3⟩ := h
    rw [h1]
    exact .tup (SqT.of h2) (VpL.dp ds vs h3 c)
  | .dict kvs, v, h, c => by unfold cleanD at c; cases c
theorem VpL.dp {K : PySem.W.Frag} {H : Hp} : ∀ (ds : List PyData) (vs : List V), VpL H ds vs → cleanL ds = true → DpAll K H vs ds
  | [], vs, h, _ => by unfold VpL at h; rw [h]; exact .nil
  | d :: ds, vs, h, c => by
    unfold VpL at h
    unfold cleanL at c
    obtain ⟨w, ws, h1, h2, h3⟩ := h
    obtain ⟨c1, c2⟩ := Bool.and_eq_true_iff.mp c
    rw [h1]
    exact .cons (Vp.dp d w h2 c1) (VpL.dp ds ws h3 c2)
end
def cleanO (d : PyData) : Option PyData := if cleanD d = true then some d else none
section
variable {X : Cx} {C : Cs} {env kp : Gh → List Sl} {a b c d e : Expr} {pos : Pos} {α β γ δ : Type} {r ra : Rp α} {rb : Rp β} {m : W α}
theorem xe_enc (E : Ve r) (h : PE X e (tE C env r m)) : PE X e (tE C env qV (m.bind fun x => .ret (E.enc x))) := xe_as (rb := qV) (fun H v a h => E.rep h) h
theorem xe_dec {m : W PyData} (E : Ve r) (h : PE X e (tE C env qV m)) : PE X e (tE C env r (m.bind fun x => ofO (E.dec x))) := xe_asO (ra := qV) (fun H v a b h e => E.und h e) h
theorem xe_VD {m : W PyData} (h : PE X e (tE C env qV m)) : PE X e (tE C env (qD X.K) (m.bind fun x => ofO (cleanO x))) := xe_asO (ra := qV) (fun H v a b h e => by
  unfold cleanO at e
  split at e
  · rename_i c
    cases e
    exact Vp.dp a v h c
  · cases e) h
theorem xe_isNV {j : Nat} {p1 : Pos} {m : W PyData} (h : PE X a (tE C env qV m)) : PE X (.Compare a [.Is] [.Constant .none j p1] pos) (tE C env qB (m.bind fun x => .ret (isNonV x))) := xe_isN h fun H v x h => Vp.isNon h
theorem xe_notNV {j : Nat} {p1 : Pos} {m : W PyData} (h : PE X a (tE C env qV m)) : PE X (.Compare a [.IsNot] [.Constant .none j p1] pos) (tE C env qB (m.bind fun x => .ret (!isNonV x))) :=
  pe_imp (pe_cmp (pc_notN h) rfl) fun σ H Q _ ⟨S, g0, P, F, em, k⟩ => ⟨S, g0, _, F, em, fun x g1 px v S1 H1 F1 x1 hv _ => k _ _ px _ S1 H1 F1 x1 (by rw [Vp.isNon hv]; rfl)⟩
theorem xt_notNV {j : Nat} {p1 : Pos} {m : W PyData} (h : PE X a (tE C env qV m)) : PT X (.Compare a [.IsNot] [.Constant .none j p1] pos) (tT C env (m.bind fun x => .ret (!isNonV x))) :=
  pt_imp (pt_cmp (pc_notN h) rfl) fun σ H Q _ ⟨S, g0, P, F, em, k⟩ => ⟨S, g0, _, F, em, fun x g1 px v S1 H1 F1 x1 hv => ⟨!isNonV x, by rw [Vp.isNon hv], fun _ => k _ _ px S1 H1 F1 x1⟩⟩
theorem xt_isNV {j : Nat} {p1 : Pos} {m : W PyData} (h : PE X a (tE C env qV m)) : PT X (.Compare a [.Is] [.Constant .none j p1] pos) (tT C env (m.bind fun x => .ret (isNonV x))) :=
  pt_imp (pt_cmp (pc_isN h) rfl) fun σ H Q _ ⟨S, g0, P, F, em, k⟩ => ⟨S, g0, _, F, em, fun x g1 px v S1 H1 F1 x1 hv => ⟨isNonV x, by rw [Vp.isNon hv], fun _ => k _ _ px S1 H1 F1 x1⟩⟩
theorem xe_isiV {n : String} {f : PyData → Bool} {m : W PyData} {x : Str} {p p2 : Pos} (hg : Gl X "isinstance") (hm : X.mg "isinstance" = none) (ha : PE X a (tE C env qV m)) (hgx : Gl X x) (hmx : X.mg x = none) (hv : bootBuiltins x = some (.type n)) (hk : ∀ d, kitB (tyV d) n = some (f d))
    (hn : x ≠ "__name__" := by decide) (hdb : (x == ("__debug__" : Str)) = false := by decide) (hs : starEach [a, .Name x p2] X.env = (false, eval a X.env) :: starEach [.Name x p2] X.env := by rfl) (hs2 : starEach [.Name x p2] X.env = (false, eval (.Name x p2) X.env) :: starEach [] X.env := by rfl) (hpl : (backTo pos (starEach [.Name x p2] X.env)).any (·.1) = false := by rfl) :
    PE X (.Call (.Name "isinstance" p) [a, .Name x p2] [] pos) (tE C env qB (m.bind fun y => .ret (f y))) :=
  pe_imp (pe_callB call_isi hg hm (by decide +kernel) (pa_cons ha (pa_cons (pe_bltn (v := .ty n) hgx hmx hv rfl hn hdb) pa_nil hs2) hs) (by decide) (by decide) hs hpl) fun σ H Q _ ⟨S, g0, P, F, em, kk⟩ =>
    ⟨S, g0, _, F, em, fun y g1 py v S1 H1 F1 x1 hv => ⟨v, .ty n, .type (tyV y), .type n, f y, rfl, .ty n, .base (Vp.ty (qV.mono F1.e1 hv)), kit_ty (hk y), fun _ => kk _ _ py _ S1 H1 F1 x1 rfl⟩⟩
theorem kTup (d : PyData) : kitB (tyV d) "tuple" = some (isTupV d) := by cases d <;> (simp only [tyV, isTupV]; decide +kernel)
theorem kInt (d : PyData) : kitB (tyV d) "int" = some (isIntV d) := by cases d <;> (simp only [tyV, isIntV]; decide +kernel)
theorem kBool (d : PyData) : kitB (tyV d) "bool" = some (isBoolV d) := by cases d <;> (simp only [tyV, isBoolV]; decide +kernel)
theorem kList (d : PyData) : kitB (tyV d) "list" = some (isListV d) := by cases d <;> (simp only [tyV, isListV]; decide +kernel)
theorem kStr (d : PyData) : kitB (tyV d) "str" = some (isStrV d) := by cases d <;> (simp only [tyV, isStrV]; decide +kernel)
theorem kDict (d : PyData) : kitB (tyV d) "dict" = some (isDictV d) := by cases d <;> (simp only [tyV, isDictV]; decide +kernel)
theorem xe_dict0 : PE X (.Dict [] [] pos) (tE C env qV (.ret (.dict []))) := pe_imp pe_dnewT fun σ H Q _ ⟨S, g0, P, F, em, k⟩ p hp _ =>
  k _ _ em _ _ _ (F.new hp) (Ex.new (F.e1.back hp)) (by
    show Vp _ (.dict []) (.ref p)
    unfold Vp
    exact ⟨rfl, p, rfl, upd_same⟩)
end
end Rt

set_option maxRecDepth 100000
set_option maxHeartbeats 4000000
/-! RtK: sorted(t, key=max), t a tuple of pairs of ints. -/
namespace Rt
open PySem PySem.W L2 Rt PyProof.Rows
section
variable {prog : Program} {w : World} {A : Around} {E : Value → Shared → Prop} {s : Shared}
theorem sortedT_of_sort {t : Addr} {vs : List Value} {kw : List (Str × Value)} {Q : Value → Shared → Prop} (ht : s.heap.IsTuple t vs.toArray) (hL : vs.length ≤ sizeLine) (ha1 : argsOk "sorted" ⟨[.ref t], kw⟩) (ha2 : ∀ x, argsOk "list.sort" ⟨[.ref x], kw⟩)
    (body : ∀ E' : Value → Shared → Prop, wpAny (model prog w) A.in1.in1 (Builtin.«list.sort» ⟨[.ref (s.heap.objs.size + 1)], kw⟩) (fun f s' => f = .done (.ret .none) ∧ Q (.ref (s.heap.objs.size + 1)) s') E' { s with heap := copyHeap s.heap vs }) :
    wpAny (model prog w) A (call (.builtin "sorted") [.ref t] kw) Q E s := by
  refine call_function_entry_kw kind_sorted plain_sorted entry_sorted ha1 ?_
  unfold Builtin.«sorted»
  refine wpAny_bind (m := checkCount "sorted" 1 1 _) (wpAny_pure ?_)
  refine wpAny_bind (gather ht hL ?_)
  refine wpAny_bind (wpAny_newList ?_ hL)
  have hsz : (gath s.heap vs).objs.size = s.heap.objs.size + 1 := by
    unfold gath
    rw [Heap.size_update, size_push']
  show wpAny _ _ _ _ _ { s with heap := copyHeap s.heap vs }
  rw [hsz]
  refine wpAny_bind (wpAny_holding (wpAny_call_entry_kw slot_list_sort ⟨_, copyHeap_at s.heap vs, rfl⟩ entry_list_sort ?body (ha2 _)))
  case body =>
    show wpAny (model prog w) A.in1.in1 (Builtin.«list.sort» ⟨[.ref (s.heap.objs.size + 1)], kw⟩) _ _ _
    refine wpAny_mono (body _) (fun f s' hf => ?_) fun _ _ e => e
    obtain ⟨rfl, hq⟩ := hf
    exact ⟨_, rfl, wpAny_pure ⟨_, rfl, hq⟩⟩
variable {β : Type} {R : Value → β → Prop} {vs : List Value} {bs : List β}
theorem sortedT_key {l : Addr} {f : Value} {kw : List (Str × Value)} {b : Bool} {Q : Value → Shared → Prop} (k : β → PyData) (hl : s.heap.IsTuple l vs.toArray) (e : EachIs R vs bs) (hal : AllAlike (bs.map k)) (hk : Sortable (bs.map k)) (hL : bs.length ≤ sizeLine)
    (hu : ∀ x, x ∈ bs → A.units + 2 + (k x).depth < cLine) (ha1 : argsOk "sorted" ⟨[.ref l], kw⟩) (ha2 : ∀ x, argsOk "list.sort" ⟨[.ref x], kw⟩) (ht : ∀ x, Builtin.«list.sort» ⟨[.ref x], kw⟩ = ksk_tree x f b)
    (turn : ∀ (v : Value) (x : β), R v x → x ∈ bs → ∀ (h : Heap) (tk : Nat), (∀ b o, s.heap.get? b = some o → h.get? b = some o) →
      wpAny (model prog w) A.in1.in1 (call f [v]) (KeyPure (k x) { s with heap := h, toks := tk }) (fun _ _ => False) { s with heap := h, toks := tk })
    (h : ∀ out c h' tk, (∀ b o, s.heap.get? b = some o → h'.get? b = some o) → s.heap.get? (s.heap.objs.size + 1) = none → h'.get? (s.heap.objs.size + 1) = some (seqObj "list" (List.toArray out) c) → out.length = bs.length → EachIs R out (bs.mergeSort (dataLe b k)) →
      Q (.ref (s.heap.objs.size + 1)) { s with heap := h', toks := tk }) :
    wpAny (model prog w) A (call (.builtin "sorted") [.ref l] kw) Q E s := by
  have fresh : s.heap.get? (s.heap.objs.size + 1) = none := Heap.get?_none_of_le (Nat.le_succ _)
  have up : ∀ {g : Heap}, KeepsBut (s.heap.objs.size + 1) (copyHeap s.heap vs) g → ∀ b o, s.heap.get? b = some o → g.get? b = some o := fun {g} kp b o q =>
    kp b o (Nat.ne_of_lt (Nat.lt_succ_of_lt (Heap.lt_size q))) (copyHeap_old q)
  refine sortedT_of_sort hl (by rw [e.length]; exact hL) ha1 ha2 fun E' => ?_
  rw [ht]
  refine keyH_tree (kz := bs.map k) (s := { s with heap := copyHeap s.heap vs }) (copyHeap_at s.heap vs) (by rw [List.length_map]; exact e.length.symm) (by rw [e.length]; exact hL) hal hk (bound_map (A := A.in1.in1) hu)
    (keyH_turns (s := { s with heap := copyHeap s.heap vs }) e fun v x hR hx h tk kp => turn v x hR hx h tk (up kp)) fun h' tk out c kp hD ko => ⟨rfl, ?_⟩
  exact h out c h' tk (up kp) fresh hD ((ko.length (by rw [List.length_map]; exact e.length.symm)).trans e.length) (keyedOut_each k ko e)
end
def maxK (p : Int × Int) : PyData := .int (max p.1 p.2)
def sortMx (row : List (Int × Int)) : List (Int × Int) := row.mergeSort (dataLe false maxK)
def rSortMax (K : PySem.W.Frag) : List V → Hp → VK → Prop := fun xs H Q => ∃ (a : Addr) (vs : List V) (row : List (Int × Int)), xs = [.ref a] ∧ SqT K H a vs ∧ All2 ((qP qI qI).p H) vs row ∧ row.length ≤ 1000 ∧
  ∀ p ys, H p = none → All2 ((qP qI qI).p H) ys (sortMx row) → Q (.ref p) (upd H p (.lst ys))
def RV (H : Hp) (v : Value) (p : Int × Int) : Prop := ∃ t, v = .ref t ∧ H t = some (.tup [.int p.1, .int p.2])
theorem each_rv {H : Hp} : ∀ {vs : List V} {us : List Value} {row : List (Int × Int)}, All2 ((qP qI qI).p H) vs row → Vals vs us → EachIs (RV H) us row
  | [], _, [], _, .nil => .nil
  | v :: vs, _, x :: row, ⟨⟨p, a, b, h1, h2, h3, h4⟩, h⟩, .cons r t => by
    subst h1
    have h3 : a = .int x.1 := h3
    have h4 : b = .int x.2 := h4
    subst h3 h4
    exact .cons ⟨p, r, h2⟩ (each_rv h t)
  | [], _, _ :: _, z, _ => z.elim
  | _ :: _, _, [], z, _ => z.elim
theorem rv_each {H : Hp} : ∀ {us : List Value} {row : List (Int × Int)}, EachIs (RV H) us row → ∃ vs, Vals vs us ∧ All2 ((qP qI qI).p H) vs row
  | _, _, .nil => ⟨[], .nil, True.intro⟩
  | _, _, .cons ⟨t, h1, h2⟩ h => by
    obtain ⟨vs, a, b⟩ := rv_each h
    exact ⟨.ref t :: vs, .cons h1 a, ⟨t, _, _, rfl, h2, rfl, rfl⟩, b⟩
section
variable {X : Cx}
theorem call_sortMax (hc : X.calm = true) (hu : X.A.units + 66 < cLine) {pins : List (Addr × Obj)} {s : Shared} {σ : L2.St} {H : Hp} {xs : List V} {us : List Value} {Q : VK} (I : Inv X pins σ H s) (r : Vals xs us) (h : rSortMax X.K xs H Q) :
    wpAny (model X.prog X.w) X.A (call (.builtin "sorted") us [(Str.ofString "key", .builtin "max")]) (EP X pins σ Q) X.xe s := by
  obtain ⟨a, vs, row, rfl, hs, ha, hl0, q⟩ := h
  obtain ⟨its, rv, hl, hz⟩ := I.tuple hs
  rw [Vals.ref1 r]
  have e := each_rv ha rv
  have lz : its.length = row.length := e.length
  refine sortedT_key (R := RV H) (b := false) maxK (show s.heap.IsTuple a its.toArray from hl) e (AllAlike.of fun _ _ => by simp [maxK, alike]) (Sortable.others fun _ => ⟨(fun z => nomatch z), (fun _ z => nomatch z)⟩) (by rw [sizeLine_eq]; omega) (fun p _ => ?_) (ksk_s1 _ _) (fun _ => ksk_l1 _ _) (fun _ => ksk_t4 _ _)
    (fun v p hv _ h tk kp => ?_) fun out c h' tk kp hf hD ho eo => ?_
  · have hd : (maxK p).depth = 0 := by simp [maxK, PyData.depth]
    omega
  · obtain ⟨t, rfl, ht⟩ := hv
    obtain ⟨_, its2, r2, o, ho, hcl, n, hd⟩ := I.hok _ _ ht
    obtain ⟨u1, u2, rfl, ri, rj⟩ := vals2 r2
    obtain ⟨t1, rfl⟩ := ri
    obtain ⟨t2, rfl⟩ := rj
    refine PySem.W.max_tuple_data (s := { s with heap := h, toks := tk }) (vs := #[.int p.1 t1, .int p.2 t2]) (x := .int p.1) (xs := [.int p.2]) (as := []) (I.ok.hd hc) ⟨o, kp _ _ ho, hcl, n, hd⟩ (.cons (.int _ _) (.cons (.int _ _) .nil)) (alike_all (p.1 :: [p.2])) ?_ fun i v h2 tk2 bs hv hr hk => ?_
    · have := dep_ints (p.1 :: [p.2])
      show X.A.units + 1 + 1 + 1 + PyData.depthAll ((p.1 :: [p.2]).map PyData.int) < cLine
      omega
    · have e3 : maxD (.int p.1) [.int p.2] = .int (max p.1 p.2) := PySem.W.maxD_ints p.1 [p.2]
      rw [e3] at hr
      cases hr
      exact ⟨h2, tk2, rfl, hk, .int _ _⟩
  · obtain ⟨ys, y1, y2⟩ := rv_each eo
    refine ⟨.ref _, upd H (s.heap.objs.size + 1) (.lst ys), I.laid (t' := tk) kp (Nat.le_succ _) ⟨?_, out, c, y1, hD⟩, rfl, q _ ys (I.hok.fresh (Nat.le_succ _)) y2⟩
    rw [All2.length y2, List.length_mergeSort, sizeLine_eq]
    omega
end
section
variable {X : Cx} {C : Cs} {env : Gh → List Sl} {a : Expr} {pos p p2 kpos : Pos}
def sortMxO (row : List (Int × Int)) : Option (List (Int × Int)) := if row.length ≤ 1000 then some (sortMx row) else none
theorem pe_sortedMax {t : TA} (hc : X.calm = true) (hu : X.A.units + 66 < cLine) (hg : Gl X "sorted") (hm : X.mg "sorted" = none) (hg2 : Gl X "max") (hm2 : X.mg "max" = none) (ha : PA X [a] t)
    (he : backTo pos (starEach [a] X.env) = (false, eval a X.env) :: backTo pos (starEach [] X.env) := by rfl) (hpl : (backTo pos (starEach [a] X.env)).any (·.1) = false := by rfl)
    (hall : (backToKw pos (keywordEach [⟨some "key", .Name "max" p2, kpos⟩] X.env)).all (·.1.isSome) = true := by rfl) (hnone : (backToKw pos (keywordEach [⟨some "key", .Name "max" p2, kpos⟩] X.env)).any (·.1.isNone) = false := by rfl) (hks : (backToKw pos (keywordEach [⟨some "key", .Name "max" p2, kpos⟩] X.env)).filterMap (·.1) = [Str.ofString "key"] := by rfl) :
    PE X (.Call (.Name "sorted" p) [a] [⟨some "key", .Name "max" p2, kpos⟩] pos) (fun σ H Q => t σ H fun vs H1 => rSortMax X.K vs H1 Q) := by
  refine ⟨fun pins s σ H Q I h => ?_⟩
  refine wpAny_Call_Name_kw (ld_blt (u := .builtin "sorted") I hg hm (by decide +kernel) ?_)
  refine PyProof.Rows.callWith_kw (thn (ha.run pos pins s σ H _ I h) fun us s1 ⟨vs, H1, I1, r1, q1⟩ => ?_) he hpl hall hnone
  show wpAny _ _ (evalAll ((do let v ← eval (.Name "max" p2) X.env; standAt pos; pure v) :: [])) _ _ s1
  refine wpAny_evalAll_cons (wpAny_bind (ld_blt (u := .builtin "max") I1 hg2 hm2 (by decide +kernel) (wpAny_bind (wpAny_standAt (wpAny_pure ?_)))))
  refine wpAny_evalAll_nil ?_
  rw [hks]
  exact call_sortMax hc hu I1 r1 q1
theorem xn_sortedMax {mx : W (List (Int × Int))} (hc : X.calm = true) (hu : X.A.units + 66 < cLine) (hg : Gl X "sorted") (hm : X.mg "sorted" = none) (hg2 : Gl X "max") (hm2 : X.mg "max" = none) (ha : PE X a (tE C env (qT (qP qI qI)) mx)) (hs : starEach [a] X.env = (false, eval a X.env) :: starEach [] X.env := by rfl)
    (he : backTo pos (starEach [a] X.env) = (false, eval a X.env) :: backTo pos (starEach [] X.env) := by rfl) (hpl : (backTo pos (starEach [a] X.env)).any (·.1) = false := by rfl)
    (hall : (backToKw pos (keywordEach [⟨some "key", .Name "max" p2, kpos⟩] X.env)).all (·.1.isSome) = true := by rfl) (hnone : (backToKw pos (keywordEach [⟨some "key", .Name "max" p2, kpos⟩] X.env)).any (·.1.isNone) = false := by rfl) (hks : (backToKw pos (keywordEach [⟨some "key", .Name "max" p2, kpos⟩] X.env)).filterMap (·.1) = [Str.ofString "key"] := by rfl) :
    PE X (.Call (.Name "sorted" p) [a] [⟨some "key", .Name "max" p2, kpos⟩] pos) (tN C env (qP qI qI) (mx.bind fun xs => ofO (sortMxO xs))) :=
  pe_imp (pe_sortedMax hc hu hg hm hg2 hm2 (pa_cons ha pa_nil hs) he hpl hall hnone hks) fun σ H Q _ ⟨S, g0, P, F, em, kk⟩ => ⟨S, g0, _, F, em, fun xs g1 ⟨z, ez, pz⟩ v S1 H1 F1 x1 ⟨t, vs, ev, ht, h2⟩ => by
    unfold sortMxO at ez
    split at ez
    · rename_i hl
      cases ez
      refine ⟨t, vs, xs, by rw [ev], SqT.of (F1.e1 _ _ ht), h2.mono fun _ _ z => (qP qI qI).mono F1.e1 z, hl, fun u ys hu hy _ => ?_⟩
      refine kk _ _ pz u _ S1 H1 F1 x1 hu (hy.mono fun v x z => ?_)
      obtain ⟨t2, y1, y2, e1, e2, e3, e4⟩ := z
      refine ⟨t2, y1, y2, e1, ?_, e3, e4⟩
      cases hS : S1 t2 with
      | none => exact absurd hS (F1.tc _ _ e2)
      | some o =>
        have := F1.e1 _ _ hS
        rw [e2] at this
        exact this.symm
    · cases ez⟩
end
end Rt

set_option maxRecDepth 100000
set_option maxHeartbeats 4000000
/-! RtW: a generator def that hands out what a name holds till it holds None; list(..) over it. -/
namespace Rt
open PySem L2 Rt PyProof.Rows
section
variable {α β : Type}
/-- what is handed out from d on -/
def genV (dec : PyData → Option β) (f : PyData → Option PyData) : Nat → PyData → Option (List β)
  | 0, _ => none
  | n + 1, d => if isNonV d = true then some [] else (dec d).bind fun x => (f d).bind fun d' => (genV dec f n d').bind fun xs => some (x :: xs)
def SpGn (ra : Ra α) (r : Rp β) (g : α → Option (List β)) : SpG := fun vs H Q _ => ∃ S a xs, Ex S H ∧ Tc S H ∧ ra.p S vs a ∧ g a = some xs ∧ xs.length ≤ 100000 ∧
  ∀ ys S' H', Ex S S' → Ex S' H' → Ex H H' → (∀ b, S b = none → H b ≠ none → S' b = none) → Tc S' H' → All2 (r.p S') ys xs → Q ys H'
variable {X : Cx} {e1 e2 e3 test ey : Expr} {x : Str} {py yp q1 q2 q3 q4 q5 : Pos} {ra : Ra α} {r : Rp β} {i : Nat} {vs : List V} {H : Hp} {N : List Str} {Q : List V → Hp → Prop} {E : XK} {env : α → List Sl}
theorem gbody_of {f1 : α → Option Unit} {f2 : α → Option PyData} {dec : PyData → Option β} {f3 : PyData → Option PyData} (n : Nat) (h : SpGn ra r (fun a => (f1 a).bind fun _ => (f2 a).bind fun d => genV dec f3 n d) vs H Q E)
    (hp : PassesOwn (model X.prog X.w) X.A X.env X.xe) (hs : ∀ S H a, ra.p S vs a → SlAll S H (start N vs) (env a) ∧ owns (start N vs) (env a) = [])
    (p1 : ∀ (C : Cs) a, PE X e1 (tE C (fun _ => env a) qN (ofO (f1 a)))) (p2 : ∀ (C : Cs) a, PE X e2 (tE C (fun _ => env a) qV (ofO (f2 a))))
    (pt : ∀ (C : Cs) a d, PT X test (tT C (fun _ => (env a).set i (.im qV d)) (W.ret (!isNonV d)))) (pey : ∀ (C : Cs) a d, PE X ey (tE C (fun _ => (env a).set i (.im qV d)) r (ofO (dec d))))
    (p3 : ∀ (C : Cs) a d, PE X e3 (tE C (fun _ => (env a).set i (.im qV d)) qV (ofO (f3 d)))) (hN : X.N.Nodup) (hi : X.N[i]? = some x) (hx : Loc X.env.scope x) (hf : X.fn x = true)
    (s1 : swapsWith e1 none q1.line X.env = pure false) (s2 : swapsWith e2 (some (.Name x py)) q2.line X.env = pure false) (s3 : swapsWith e3 (some (.Name x q5)) q4.line X.env = pure false) (hco : X.env.scope.isCoroutine = false) (hit : interactive X.env = false) :
    ∃ t, GSs X [.Expr e1 q1, .Assign [.Name x py] e2 q2, .While test [.Expr (.Yield (some ey) yp) q3, .Assign [.Name x q5] e3 q4] [] yp] t ∧ t { nx := fun ys _ H' => Q ys H', rt := fun ys v H' => v = .non ∧ Q ys H' } [] (start N vs) H := by
  obtain ⟨S, a, xs, e, tc, hv, eo, hl, k⟩ := h
  obtain ⟨l1, l2⟩ := hs S H a hv
  obtain ⟨_, eo1, eo⟩ := Option.bind_eq_some_iff.mp eo
  obtain ⟨d0, eo2, eo⟩ := Option.bind_eq_some_iff.mp eo
  have F0 : Fr ⟨[], S, H⟩ S H (start N vs) (env a) := Fr.entry e tc l1 l2
  refine ⟨_, gss_cons (gs_ps (ps_expr (p1 ⟨[], S, H⟩ a) s1)) (gss_cons (gs_ps (ps_set hN hi hx (p2 ⟨[], S, H⟩ a) s2 (.inl hf))) (gss_cons (gs_while hp (pt_ex fun d => pt ⟨[], S, H⟩ a d) (gss_cons (gs_yield (pe_ex fun d => pey ⟨[], S, H⟩ a d) hco hit) (gss_cons (gs_ps (ps_set hN hi hx (pe_ex fun d => p3 ⟨[], S, H⟩ a d) s3 (.inl hf))) gss_nil))) gss_nil)), ?_⟩
  refine ⟨S, [], fun _ _ => True, F0, ⟨(), eo1, True.intro⟩, fun a1 g1 pa v S1 H1 F1 x1 hv1 => ?_⟩
  refine ⟨S1, [], fun d _ => d = d0, F1, ⟨d0, eo2, rfl⟩, fun d g2 pd v2 S2 H2 F2 x2 hv2 => ?_⟩
  subst pd
  refine ⟨fun m ys σ' H' => ∃ S' d done rest, Fr ⟨[], S, H⟩ S' H' σ' ((env a).set i (.im qV d)) ∧ All2 (r.p S') ys done ∧ genV dec f3 m d = some rest ∧ xs = done ++ rest, ⟨n, S2, d, [], xs, F2.setIm i hv2, True.intro, eo, rfl⟩, fun m ys σ' H' ⟨S', d', done, rest, F', hy, eg, ex⟩ => ?_⟩
  refine ⟨d', S', [], fun b _ => b = !isNonV d', F', rfl, fun b g3 pb S3 H3 F3 x3 => ?_⟩
  subst pb
  cases m with
  | zero => cases eg
  | succ m =>
    unfold genV at eg
    cases hn : isNonV d' with
    | true =>
      rw [hn, if_pos rfl] at eg
      cases eg
      rw [List.append_nil] at ex
      subst ex
      rw [if_neg (by decide)]
      exact k ys S3 H3 F3.e0 F3.e1 (fun b u e => F3.e2 b u e (by simp)) F3.nw F3.tc (hy.mono fun _ _ z => r.mono x3 z)
    | false =>
      rw [hn, if_neg (by decide)] at eg
      obtain ⟨x', ex', eg⟩ := Option.bind_eq_some_iff.mp eg
      obtain ⟨d2, ed2, eg⟩ := Option.bind_eq_some_iff.mp eg
      obtain ⟨xs', exs, eg⟩ := Option.bind_eq_some_iff.mp eg
      cases eg
      rw [if_pos (by decide)]
      have ly := All2.length hy
      have lx : xs.length = done.length + (xs'.length + 1) := by rw [ex, List.length_append, List.length_cons]
      refine ⟨fun ys' σ' H' => ∃ S' d done rest, Fr ⟨[], S, H⟩ S' H' σ' ((env a).set i (.im qV d)) ∧ All2 (r.p S') ys' done ∧ genV dec f3 m d = some rest ∧ xs = done ++ rest, fun ys' σ'' H'' h => ⟨m, Nat.lt_succ_self _, h⟩, by rw [sizeLine_eq]; omega, ?_⟩
      refine ⟨d', S3, [], fun y _ => y = x', F3, ⟨x', ex', rfl⟩, fun y g4 py v4 S4 H4 F4 x4 hv4 => ?_⟩
      subst py
      refine ⟨d', S4, [], fun y _ => y = d2, F4, ⟨d2, ed2, rfl⟩, fun dn g5 pn v5 S5 H5 F5 x5 hv5 => ?_⟩
      subst pn
      refine ⟨S5, dn, done ++ [y], xs', ?_, ?_, exs, by rw [ex, List.append_assoc]; rfl⟩
      · have := F5.setIm i (r := qV) (v := v5) (a := dn) hv5
        rw [List.set_set] at this
        exact this
      · exact All2.snoc (hy.mono fun _ _ z => r.mono (x3.trans (x4.trans x5)) z) (r.mono x5 hv4)
end
section
variable {P : Program} {w : World} {K : PySem.W.Frag} {mg : Str → Option Value} {base : Heap} {k : Nat} {f : Addr} {fd : FuncData} {x qual y : Str} {st : Stmt} {N ps : List Str} {α β : Type} {r : Rp β} {e1 e2 e3 test ey : Expr} {py yp wp q1 q2 q3 q4 q5 : Pos} {i : Nat} {env : α → List Sl} {p : Pr α}
theorem gfn_okV {f1 : α → Option Unit} {f2 : α → Option PyData} {dec : PyData → Option β} {f3 : PyData → Option PyData} (n j : Nat) (F : Fun K x qual st f fd) (S : GScope N ps (defScope st)) (hst : defBody st = [.Expr e1 q1, .Assign [.Name y py] e2 q2, .While test [.Expr (.Yield (some ey) yp) q3, .Assign [.Name y q5] e3 q4] [] yp])
    (hn : p.n = ps.length) (hN : N.length = ps.length + j) (he : ∀ a, env a = p.sl a ++ List.replicate j .un) (hi : N[i]? = some y)
    (hX : ∀ (cdv : Value) (A : Around) (outer : List Env) (s : Shared) (H : Hp) (E : XK) (pn : List (Addr × Obj)), Room k (A.deeper (PyProof.Rows.envOfC qual (defScope st) s.heap.objs.size f cdv)) → ∀ X : Cx, X = gcxOf P w K mg base N qual (defScope st) f cdv A outer s H E pn →
      (∀ (C : Cs) a, PE X e1 (tE C (fun _ => env a) qN (ofO (f1 a)))) ∧ (∀ (C : Cs) a, PE X e2 (tE C (fun _ => env a) qV (ofO (f2 a)))) ∧ (∀ (C : Cs) a d, PT X test (tT C (fun _ => (env a).set i (.im qV d)) (W.ret (!isNonV d)))) ∧ (∀ (C : Cs) a d, PE X ey (tE C (fun _ => (env a).set i (.im qV d)) r (ofO (dec d)))) ∧
      (∀ (C : Cs) a d, PE X e3 (tE C (fun _ => (env a).set i (.im qV d)) qV (ofO (f3 d)))) ∧ Loc X.env.scope y ∧ X.fn y = true ∧ swapsWith e1 none q1.line X.env = pure false ∧ swapsWith e2 (some (.Name y py)) q2.line X.env = pure false ∧ swapsWith e3 (some (.Name y q5)) q4.line X.env = pure false ∧ X.env.scope.isCoroutine = false ∧ interactive X.env = false) :
    GFn P w K mg base (k + 1) f fd ps (SpGn p.ra r (fun a => (f1 a).bind fun _ => (f2 a).bind fun d => genV dec f3 n d)) := by
  obtain ⟨oc, od, kV, doc, pm, an, cdv, ct, osl, rfl, lk, hcd⟩ := F.ex
  refine gfn_of lk hcd S (fun vs H Q E h => ?_) fun A outer s H vs Q E pn hr hsp => ?_
  · obtain ⟨_, _, _, _, _, hv, _⟩ := h
    rw [(p.ok (H := H) hv).2.2, hn]
  · obtain ⟨p1, p2, p3, p4, p5, h1, h2, h3, h4, h5, h6, h7⟩ := hX cdv A outer s H E pn hr _ rfl
    rw [hst]
    exact gbody_of (X := gcxOf P w K mg base N qual (defScope st) f cdv A outer s H E pn) n hsp owns_gcx (fun S H a hv => by rw [he a]; exact p.start (by rw [hN, hn]) hv) p1 p2 p3 p4 p5 S.nd hi h1 h2 h3 h4 h5 h6 h7
variable (P w K mg base)
def HasG (x : Str) (k : Nat) (ps : List Str) (sp : SpG) : Prop := ∃ fa fd, GFn P w K mg base k fa fd ps sp ∧ mg x = some (.ref fa) ∧ PySem.W.keepIn K (.ref fa) = true ∧ Binds K fd ps []
end
def limG {β : Type} (o : Option (List β)) : Option (List β) := o.bind fun xs => if xs.length ≤ 100000 then some xs else none
theorem passX {X : Cx} : Passes (L2.CX X.prog X.w) X E0 := fun _ _ _ _ _ _ _ h => by
  obtain ⟨_, _, _, _, _, _, _, _, _, _, _, _, h⟩ := h
  exact h.elim
section
variable {X : Cx} {C : Cs} {env : Gh → List Sl} {e : Expr} {es : List Expr} {pos pos' p p2 : Pos} {α β : Type} {ra : Ra α} {r : Rp β}
theorem xn_listG {g : α → Option (List β)} {m : W α} {j k : Nat} {ps : List Str} {x : Str} (h : HasG X.prog X.w X.K X.mg X.base x j ps (SpGn ra r g)) (hr : Room k X.A) (hj : j + 3 ≤ k) (hl : Gl X "list") (hml : X.mg "list" = none) (hg : Gl X x)
    (ha : PA X (e :: es) (tA C env ra m)) (hdb : (x == ("__debug__" : Str)) = false := by decide) (he : starEach (e :: es) X.env = (false, eval e X.env) :: starEach es X.env := by rfl) (hpl : (backTo pos' (starEach es X.env)).any (·.1) = false := by rfl)
    (he2 : starEach [.Call (.Name x p2) (e :: es) [] pos'] X.env = (false, eval (.Call (.Name x p2) (e :: es) [] pos') X.env) :: starEach [] X.env := by rfl) :
    PE X (.Call (.Name "list" p) [.Call (.Name x p2) (e :: es) [] pos'] [] pos) (tN C env r (m.bind fun a => ofO (limG (g a)))) := by
  obtain ⟨_, _, F, hm, hk, hb⟩ := h
  refine pe_imp (pe_listG (pgen_call (E := E0) F (hr.mono (by omega)) hg hm hk hb .nil ha hdb he hpl) passX (fun _ _ _ h => h.elim) (hr.mono hj) hl hml (by decide +kernel) (by decide) (by decide) he2) fun σ H Q _ ⟨S, g0, P, F0, em, kk⟩ => ⟨S, g0, _, F0, em, fun a g1 ⟨xs, exs, pxs⟩ vs S1 H1 F1 x1 hv => ?_⟩
  obtain ⟨xs', e1, e2⟩ := Option.bind_eq_some_iff.mp exs
  split at e2
  · rename_i hlen
    cases e2
    refine ⟨S1, a, xs, F1.e1, F1.tc, ?_, e1, hlen, fun ys S' H' eS eH eHH n t hy q hq _ => ?_⟩
    · rw [List.append_nil]; exact hv
    · exact kk _ _ pxs q _ S' H' (F1.call eS eH eHH n t) (x1.trans eS) hq hy
  · cases e2
end
end Rt

set_option maxRecDepth 100000
set_option maxHeartbeats 4000000
/-! RtX: defs that raise an own error, and a try that catches it. -/
namespace Rt
open PySem L2 Rt PyProof.Rows
def optM {α β : Type} (o : Option α) (f : α → β) (z : β) : β := match o with
  | some v => f v
  | none => z
theorem ofO_optM {α β : Type} (o : Option α) (f : α → Option β) (z : Option β) : ofO (optM o f z) = optM o (fun v => ofO (f v)) (ofO z) := by cases o <;> rfl
def PostX (S H : Hp) (k : Hp → Prop) : Prop := ∀ S' H', Ex S S' → Ex S' H' → Ex H H' → (∀ b, S b = none → H b ≠ none → S' b = none) → Tc S' H' → k H'
theorem Fr.postX {S H S' H' : Hp} {σ : L2.St} {env : List Sl} {k : Hp → Prop} (h : PostX S H k) (F : Fr ⟨[], S, H⟩ S' H' σ env) : k H' :=
  h S' H' F.e0 F.e1 (fun b u e => F.e2 b u e (by simp)) F.nw F.tc
/-- f(..) gives what f gives, or lets an error of the class at c out -/
def SpX {α ρ : Type} (c : Addr) (ra : Ra α) (r : Rp ρ) (f : α → Option (Option ρ)) : Sp := fun vs H Q E => ∃ S a o, Ex S H ∧ Tc S H ∧ ra.p S vs a ∧ f a = some o ∧ (∀ v, o = some v → Post S H r v Q) ∧ (o = none → PostX S H fun H' => E (.ref c) none H')
theorem takesX {P : Program} {w : World} {K : PySem.W.Frag} {mg : Str → Option Value} {base : Heap} {N : List Str} {qual : Str} {sc : Scope} {f : Addr} {cdv : Value} {A : Around} {outer : List Env} {s : Shared} {H : Hp} {E : XK} :
    Takes (cxOf (L2.CX P w) P w K mg base N qual sc f cdv A outer s H E) (fun cls d _ H' => E cls d H') := takes_of rfl rfl rfl rfl
section
variable {P : Program} {w : World} {K : PySem.W.Frag} {mg : Str → Option Value} {base : Heap} {p : Pr α} {N ps : List Str} {k : Nat} {st : Stmt} {x qual : Str} {f c : Addr} {fd : FuncData} {α ρ : Type} {r : Rp ρ} {env : α → List Sl} {test em e1 e2 e3 : Expr} {q1 q2 q3 : Pos} {p : Pr α}
/-- if test: raise em -/
theorem fn_okRaise {g : α → Option Bool} (j : Nat) (F : Fun K x qual st f fd) (S : FnScope N ps (defScope st)) (hst : defBody st = [.If test [.Raise (some em) none q1] [] q2]) (hn : p.n = ps.length) (hN : N.length = ps.length + j) (he : ∀ a, env a = p.sl a ++ List.replicate j .un)
    (hX : ∀ (cdv : Value) (A : Around) (outer : List Env) (s : Shared) (H : Hp) (E : XK), Room k (A.deeper (PyProof.Rows.envOfC qual (defScope st) s.heap.objs.size f cdv)) → ∀ X : Cx, X = cxOf (L2.CX P w) P w K mg base N qual (defScope st) f cdv A outer s H E →
      (∀ (C : Cs) a, PT X test (tT C (fun _ => env a) (ofO (g a)))) ∧ X.calm = true ∧ ∃ t : Str, ∀ (C : Cs) a, PMk X em (fun σ H Q => tE C (fun _ => env a) qS (W.ret t) σ H fun _ H1 => Q (.ref c) none H1)) :
    FnOk P w K mg base (L2.CX P w) (k + 1) f fd ps (SpX c p.ra qN (fun a => (g a).map fun b => if b = true then none else some ())) := by
  refine F.okX S (fun vs H Q E h => ?_) (fun cdv A outer s H vs Q E hr h => ?_)
  · obtain ⟨_, _, _, _, _, hv, _⟩ := h
    rw [(p.ok (H := H) hv).2.2, hn]
  · obtain ⟨S0, a, o, e, tc, hv, eo, k1, k2⟩ := h
    obtain ⟨pt, hc, t, pm⟩ := hX cdv A outer s H E hr _ rfl
    obtain ⟨b0, eb, eo⟩ := Option.map_eq_some_iff.mp eo
    obtain ⟨l1, l2⟩ := p.start (N := N) (j := j) (by rw [hN, hn]) (H := H) hv
    have F0 : Fr ⟨[], S0, H⟩ S0 H (start N vs) (env a) := by rw [he a]; exact Fr.entry e tc l1 l2
    rw [hst]
    refine ⟨_, pss_cons (ps_if (pt ⟨[], S0, H⟩ a) (pss_cons (ps_raise hc takesX (pm ⟨[], S0, H⟩ a)) pss_nil) pss_nil) pss_nil, ?_⟩
    refine ⟨S0, [], fun b _ => b = b0, F0, ⟨b0, eb, rfl⟩, fun b g1 pb S1 H1 F1 x1 => ?_⟩
    subst pb
    cases b with
    | true =>
      rw [if_pos rfl]
      exact ⟨S1, [], fun _ _ => True, F1, True.intro, fun y g2 py v S2 H2 F2 x2 hv2 => F2.postX (k2 eo.symm)⟩
    | false =>
      rw [if_neg (by decide)]
      exact F1.post (k1 () eo.symm) (show qN.p S1 .non () from rfl)
/-- e1; e2, which may raise; return e3 -/
theorem fn_okSeqX {g1 : α → Option Unit} {g2 : α → Option (Option Unit)} {g3 : α → Option ρ} (j : Nat) (F : Fun K x qual st f fd) (S : FnScope N ps (defScope st)) (hst : defBody st = [.Expr e1 q1, .Expr e2 q2, .Return (some e3) q3]) (hn : p.n = ps.length) (hN : N.length = ps.length + j) (he : ∀ a, env a = p.sl a ++ List.replicate j .un)
    (hX : ∀ (cdv : Value) (A : Around) (outer : List Env) (s : Shared) (H : Hp) (E : XK), Room k (A.deeper (PyProof.Rows.envOfC qual (defScope st) s.heap.objs.size f cdv)) → ∀ X : Cx, X = cxOf (L2.CX P w) P w K mg base N qual (defScope st) f cdv A outer s H E →
      (∀ (C : Cs) a, PE X e1 (tE C (fun _ => env a) qN (ofO (g1 a)))) ∧ (∃ (α2 : Type) (ra2 : Ra α2) (h2 : α2 → Option (Option Unit)) (i2 : α → α2), (∀ a, g2 a = h2 (i2 a)) ∧ ∀ (C : Cs) a, PE X e2 (fun σ H Q => ∃ t : TA, (t = tA C (fun _ => env a) ra2 (W.ret (i2 a))) ∧ t σ H fun vs H1 => SpX c ra2 qN h2 vs H1 Q (fun cls d H' => E cls d H'))) ∧ (∀ (C : Cs) a, PE X e3 (tE C (fun _ => env a) r (ofO (g3 a)))) ∧ swapsWith e1 none q1.line X.env = pure false ∧ swapsWith e2 none q2.line X.env = pure false) :
    FnOk P w K mg base (L2.CX P w) (k + 1) f fd ps (SpX c p.ra r (fun a => (g1 a).bind fun _ => (g2 a).bind fun o => match o with | none => some none | some _ => (g3 a).map some)) := by
  refine F.okX S (fun vs H Q E h => ?_) (fun cdv A outer s H vs Q E hr h => ?_)
  · obtain ⟨_, _, _, _, _, hv, _⟩ := h
    rw [(p.ok (H := H) hv).2.2, hn]
  · obtain ⟨S0, a, o, e, tc, hv, eo, k1, k2⟩ := h
    obtain ⟨p1, ⟨α2, ra2, h2, i2, e2', p2⟩, p3, s1, s2⟩ := hX cdv A outer s H E hr _ rfl
    obtain ⟨_, eo1, eo⟩ := Option.bind_eq_some_iff.mp eo
    obtain ⟨o2, eo2, eo⟩ := Option.bind_eq_some_iff.mp eo
    obtain ⟨l1, l2⟩ := p.start (N := N) (j := j) (by rw [hN, hn]) (H := H) hv
    have F0 : Fr ⟨[], S0, H⟩ S0 H (start N vs) (env a) := by rw [he a]; exact Fr.entry e tc l1 l2
    rw [hst]
    refine ⟨_, pss_cons (ps_expr (p1 ⟨[], S0, H⟩ a) s1) (pss_cons (ps_expr (p2 ⟨[], S0, H⟩ a) s2) (pss_cons (ps_ret (p3 ⟨[], S0, H⟩ a)) pss_never)), ?_⟩
    refine ⟨S0, [], fun _ _ => True, F0, ⟨(), eo1, True.intro⟩, fun a1 g1' pa v S1 H1 F1 x1 hv1 => ?_⟩
    refine ⟨_, rfl, S1, [], fun y _ => y = i2 a, F1, rfl, fun y g2' py vs2 S2 H2 F2 x2 hv2 => ?_⟩
    subst py
    refine ⟨S2, i2 a, o2, F2.e1, F2.tc, hv2, by rw [← e2', eo2], fun u eu v S' H' eS eH eHH n t hr' => ?_, fun en S' H' eS eH eHH n t => ?_⟩
    · subst eu
      obtain ⟨v3, ev3, eo⟩ := Option.map_eq_some_iff.mp eo
      have F3 := F2.call eS eH eHH n t
      exact ⟨S', [], fun y _ => y = v3, F3, ⟨v3, ev3, rfl⟩, fun y g4 py v4 S4 H4 F4 x4 hv4 => by
        subst py
        exact F4.post (k1 _ eo.symm) hv4⟩
    · subst en
      cases eo
      exact (F2.call eS eH eHH n t).postX (k2 rfl)
end
section
variable {X : Cx} {C : Cs} {env kp : Gh → List Sl} {x y : Str} {e eh : Expr} {es : List Expr} {rest : List Stmt} {pos np pos' pp p q1 q2 : Pos} {α ρ β γ : Type} {r : Rp ρ} {ra : Ra α} {pn : β → Gh → List Sl} {pl : γ → Gh → List Sl} {c f : Addr} {fd : FuncData} {ps : List Str} {k : Nat}
/-- try: return y(e, ..) / except x: return eh -/
theorem xs_tryRet {g : α → Option (Option ρ)} {m : W α} {mh : W ρ} (hs : X.stack = X.env :: X.outer) (hf : X.env.frame = some X.env.locals) (hc : Names X x (.ref c)) (hxm : PySem.W.exmOne X.K (.ref c) (.ref c) = some true) (tk : Takes X (fun _ _ _ _ => False))
    (F : FnOk X.prog X.w X.K X.mg X.base (L2.CX X.prog X.w) k f fd ps (SpX c ra r g)) (hr : Room k X.A) (hg : Gl X y) (hm : X.mg y = some (.ref f)) (hk : PySem.W.keepIn X.K (.ref f) = true) (hb : Binds X.K fd ps [])
    (ha : ∀ pn xe, PA (X.tr pn xe) (e :: es) (tA C env ra m)) (hh : ∀ a pn, PE (X.suite a pn) eh (tE C env r mh)) (hdb : (y == ("__debug__" : Str)) = false := by decide) (he : starEach (e :: es) X.env = (false, eval e X.env) :: starEach es X.env := by rfl) (hpl : (backTo pp (starEach es X.env)).any (·.1) = false := by rfl) (hkp : Kp env kp := by first | exact ⟨0, fun _ => rfl⟩ | exact ⟨1, fun _ => rfl⟩) :
    PSs X (.Try [.Return (some (.Call (.Name y p) (e :: es) [] pp)) q1] [.ExceptHandler (some (.Name x np)) none [.Return (some eh) q2] pos'] [] [] pos :: rest) (tF C env ((m.bind fun a => (ofO (g a)).bind fun o => optM o (fun v => .ret v) mh).bind fun v => .ret (.rt v)) pn pl kp r) :=
  pss_imp (pss_cons (ps_try_only (c := .ref c) (ts := fun _ _ _ => tSeq (tRet (tE C env r mh)) (fun _ _ _ => False)) (tb := fun W => tSeq (tRet (tCallS (SpX c ra r g) (WE W) (tA C env ra m))) (fun _ _ _ => False)) hs hf hc tk
      (fun W pn xe tkw _ => pss_cons (ps_ret (pe_callS (X := X.tr pn xe) F hr hg hm hk hb (passAt tkw) (ha pn xe) hdb he hpl)) pss_never)
      (fun a oe cls d pn _ _ => pss_cons (ps_ret (hh a _)) pss_never)) pss_never) fun D σ H _ ⟨S, g0, P, F0, em, q⟩ => by
    refine ⟨S, g0, _, F0, em, fun a g1 ⟨o, eo, po⟩ vs S1 H1 F1 x1 hv => ?_⟩
    refine ⟨S1, a, o, F1.e1, F1.tc, hv, eo, fun v ev w S' H' eS eH eHH n t hw => ?_, fun en S' H' eS eH eHH n t => ?_⟩
    · subst ev
      obtain ⟨σ', F'⟩ := (F1.call eS eH eHH n t).kp hkp
      exact q _ g1 po w S' H' σ' F' (x1.trans eS) hw
    · subst en
      have F2 := F1.call eS eH eHH n t
      refine ⟨true, hxm, fun _ z hz => ?_, fun z => nomatch z⟩
      exact ⟨S', g1, _, F2, po, fun v g2 pv w S3 H3 F3 x3 hw => by
        obtain ⟨σ', F'⟩ := F3.kp hkp
        exact q _ g2 pv w S3 H3 σ' F' (x1.trans (eS.trans x3)) hw⟩
end
/-! ### in another dress: tuples and pairs of values -/
section
variable {X : Cx} {C : Cs} {env : Gh → List Sl} {e : Expr} {α β : Type} {r : Rp α} {q : Rp β}
theorem all2_enc (E : Ve r) {H : Hp} : ∀ {vs : List V} {xs : List α}, All2 (r.p H) vs xs → All2 (qV.p H) vs (xs.map E.enc)
  | [], [], _ => True.intro
  | _ :: _, _ :: _, ⟨a, b⟩ => ⟨E.rep a, all2_enc E b⟩
  | [], _ :: _, z => z.elim
  | _ :: _, [], z => z.elim
theorem xe_encT {m : W (List α)} (E : Ve r) (h : PE X e (tE C env (qT r) m)) : PE X e (tE C env (qT qV) (m.bind fun xs => .ret (xs.map E.enc))) := xe_as (r := qT r) (rb := qT qV) (fun H v a ⟨p, vs, h1, h2, h3⟩ => ⟨p, vs, h1, h2, all2_enc E h3⟩) h
theorem xe_encP1 {m : W (α × β)} (E : Ve r) (h : PE X e (tE C env (qP r q) m)) : PE X e (tE C env (qP qV q) (m.bind fun x => .ret (E.enc x.1, x.2))) := xe_as (r := qP r q) (rb := qP qV q) (fun H v a ⟨p, x, y, h1, h2, h3, h4⟩ => ⟨p, x, y, h1, h2, E.rep h3, h4⟩) h
end
/-! ### by name -/
/-- what the written part says of an own error's class -/
structure ExcT (K : PySem.W.Frag) (mg : Str → Option Value) (x : Str) (c : Addr) : Prop where
  gC : mg x = some (.ref c)
  kC : PySem.W.keepIn K (.ref c) = true
  q : ∃ bm, ExcBaseFacts "ValueError" "ValueError.__new__" "ValueError.__init__" bm ∧ PySem.W.excIn K c bm "ValueError.__new__" = true
  sub : PySem.W.subIn K (.ref c) (.type "BaseException") = some true
  ty : PySem.W.typeIn K (.ref c) = some (.type "type")
  te : PySem.W.exmOne K (.ref c) (.ref c) = some true
theorem exmS {K : PySem.W.Frag} {c : Addr} (h1 : PySem.W.subIn K (.ref c) (.type "BaseException") = some true) (h2 : PySem.W.isClsIn K c = true) (h3 : PySem.W.typeIn K (.ref c) = some (.type "type")) (h4 : PySem.W.subIn K (.ref c) (.ref c) = some true) : PySem.W.exmOne K (.ref c) (.ref c) = some true := by
  have h5 : (PySem.W.clsIn K c).isSome = true := h2
  unfold PySem.W.exmOne PySem.W.kitCls
  simp [h1, h3, h4, h5]
def HasX (P : Program) (w : World) (K : PySem.W.Frag) (mg : Str → Option Value) (base : Heap) (x : Str) (k : Nat) (ps : List Str) (sp : Sp) : Prop := ∃ fa fd, FnOk P w K mg base (L2.CX P w) k fa fd ps sp ∧ mg x = some (.ref fa) ∧ PySem.W.keepIn K (.ref fa) = true ∧ Binds K fd ps []
section
variable {X : Cx} {C : Cs} {env kp : Gh → List Sl} {x y : Str} {e eh : Expr} {es : List Expr} {rest : List Stmt} {pos np pos' pp p q1 q2 : Pos} {α ρ β γ : Type} {r : Rp ρ} {ra : Ra α} {pn : β → Gh → List Sl} {pl : γ → Gh → List Sl} {c : Addr} {ps : List Str} {j k : Nat} {E : XK}
theorem pe_callX {g : α → Option (Option ρ)} {m : W α} (h : HasX X.prog X.w X.K X.mg X.base y j ps (SpX c ra r g)) (hr : Room k X.A) (hj : j ≤ k) (tk : Takes X (fun cls d _ H' => E cls d H')) (hg : Gl X y) (ha : PA X (e :: es) (tA C env ra m)) (hdb : (y == ("__debug__" : Str)) = false := by decide) (he : starEach (e :: es) X.env = (false, eval e X.env) :: starEach es X.env := by rfl) (hpl : (backTo pp (starEach es X.env)).any (·.1) = false := by rfl) :
    PE X (.Call (.Name y p) (e :: es) [] pp) (fun σ H Q => ∃ t : TA, t = tA C env ra m ∧ t σ H fun vs H1 => SpX c ra r g vs H1 Q (fun cls d H' => E cls d H')) := by
  obtain ⟨_, _, F, hm, hk, hb⟩ := h
  refine ⟨fun pins s σ H Q I ⟨t, et, h⟩ => ?_⟩
  subst et
  exact (pe_callS F (hr.mono hj) hg hm hk hb (passAt tk) ha hdb he hpl).run pins s σ H Q I h
theorem pmk_x {a : Expr} {te : TE} (T : ExcT X.K X.mg x c) (hg : Gl X x) (he : PE X a te) (hs : starEach [a] X.env = (false, eval a X.env) :: starEach [] X.env := by rfl) (hdb : (x == ("__debug__" : Str)) = false := by decide) :
    PMk X (.Call (.Name x p) [a] [] pos) (fun σ H Q => te σ H fun _ H1 => Q (.ref c) none H1) := by
  obtain ⟨bm, F, q⟩ := T.q
  exact SkE.pmk_own1 F q T.gC T.kC (raises_own T.sub T.ty) hg he hs hdb
theorem spx_enc (E : Ve r) {g : α → Option (Option ρ)} {vs : List V} {H : Hp} {Q : VK} {E' : XK} (h : SpX c ra qV (fun a => (g a).map fun o => o.map E.enc) vs H Q E') : SpX c ra r g vs H Q E' := by
  obtain ⟨S, a, o, e, t, hv, eo, k1, k2⟩ := h
  obtain ⟨o', eo2, rfl⟩ := Option.map_eq_some_iff.mp eo
  refine ⟨S, a, o', e, t, hv, eo2, fun v ev => ?_, fun en => ?_⟩
  · subst ev
    exact fun w S' H' a1 a2 a3 a4 a5 hw => k1 _ rfl w S' H' a1 a2 a3 a4 a5 (E.rep hw)
  · subst en
    exact k2 rfl
theorem xs_tryX {g : α → Option (Option ρ)} {m : W α} {mh : W PyData} (E : Ve r) (h : HasX X.prog X.w X.K X.mg X.base y j ps (SpX c ra r g)) (T : ExcT X.K X.mg x c) (hgx : Gl X x) (hs : X.stack = X.env :: X.outer) (hf : X.env.frame = some X.env.locals)
    (hr : Room k X.A) (hj : j ≤ k) (hg : Gl X y) (ha : ∀ pn xe, PA (X.tr pn xe) (e :: es) (tA C env ra m)) (hh : ∀ a pn, PE (X.suite a pn) eh (tE C env qV mh)) (hdx : (x == ("__debug__" : Str)) = false := by decide) (hdb : (y == ("__debug__" : Str)) = false := by decide)
    (he : starEach (e :: es) X.env = (false, eval e X.env) :: starEach es X.env := by rfl) (hpl : (backTo pp (starEach es X.env)).any (·.1) = false := by rfl) (hkp : Kp env kp := by first | exact ⟨0, fun _ => rfl⟩ | exact ⟨1, fun _ => rfl⟩) :
    PSs X (.Try [.Return (some (.Call (.Name y p) (e :: es) [] pp)) q1] [.ExceptHandler (some (.Name x np)) none [.Return (some eh) q2] pos'] [] [] pos :: rest) (tF C env ((m.bind fun a => (ofO ((g a).map fun o => o.map E.enc)).bind fun o => optM o (fun v => .ret v) mh).bind fun v => .ret (.rt v)) pn pl kp qV) := by
  obtain ⟨_, _, F, hm, hk, hb⟩ := h
  exact xs_tryRet (r := qV) (g := fun a => (g a).map fun o => o.map E.enc) hs hf ⟨hgx, hdx, .inl T.gC⟩ T.te takes0 (F.imp fun vs H Q E' q => spx_enc E q) (hr.mono hj) hg hm hk hb ha hh hdb he hpl hkp
end
end Rt

set_option maxRecDepth 100000
set_option maxHeartbeats 4000000
namespace K
open PySem L2 Rt
def top (i : Nat) : Stmt := PySem.Challenge.pw_swapsheets_k70_whole_rooms_and_walls.main.body.getD i (.Pass ⟨0, 0, 0, 0⟩)
structure Txt (K : PySem.W.Frag) (mg : Str → Option Value) : Prop where
  abs : mg "abs" = none
  all : mg "all" = none
  bool : mg "bool" = none
  int : mg "int" = none
  isinstance : mg "isinstance" = none
  len : mg "len" = none
  list : mg "list" = none
  max : mg "max" = none
  min : mg "min" = none
  range : mg "range" = none
  sorted : mg "sorted" = none
  sum : mg "sum" = none
  tuple : mg "tuple" = none
  MOST_ENDS_ : ∃ t, mg "MOST_ENDS" = some (.int 6 t)
  MOST_ROUND_ : ∃ t, mg "MOST_ROUND" = some (.int 4 t)
  g_FIRST_TOO_LONG_ : ∃ t, mg "_FIRST_TOO_LONG" = some (.int 1000000000000000000000000000000000000000000000000000000000000 t)
  g_LEAST_ENDS_ : ∃ t, mg "_LEAST_ENDS" = some (.int 2 t)
section
variable {P : Program} {w : World} {K : PySem.W.Frag} {mg : Str → Option Value} {base : Heap}
abbrev slaw_dice : Stmt := top 27
abbrev Nlaw_dice : List Str := ["_law_script", "_law_spot", "_law_cell", "_law_left"]
theorem sclaw_dice : FnScope ["_law_script", "_law_spot", "_law_cell", "_law_left"] ["_law_script", "_law_spot"] (defScope slaw_dice) := ⟨rfl, rfl, rfl, by decide +kernel, rfl, by decide +kernel, by decide +kernel⟩
def w_law_dice (a : (List Int) × Int × Unit) : W (Fl (List Int) Empty Unit) :=
  ((((W.ret a.2.1).bind fun p3 => (((W.ret a.1).bind fun x2 => (W.ret (x2.length : Int))).bind fun q4 => (ofO (some (decide (p3 < q4)))))).bind fun p11 => (if p11 = true then ((W.ret a.1).bind fun x5 => ((W.ret a.2.1).bind fun i6 => (ofO (L2.atI x5 i6)))) else (((W.ret (73 : Int)).bind fun p7 => ((W.ret a.2.1).bind fun q8 => (ofO (mulC p7 q8)))).bind fun p9 => ((W.ret (41 : Int)).bind fun q10 => (W.ret (p9 + q10)))))).bind fun (v1 : Int) => ((((W.ret (0 : Int)).bind fun i18 => ((((W.ret v1).bind fun x13 => (W.ret (x13.natAbs : Int))).bind fun p16 => (((W.ret (10 : Int)).bind fun p14 => ((W.ret (17 : Int)).bind fun q15 => (ofO (powC p14 q15)))).bind fun q17 => (W.ret (p16 - q17)))).bind fun j19 => (W.ret (if j19 > i18 then j19 else i18)))).bind fun p26 => ((((W.ret (10 : Int)).bind fun p20 => ((W.ret (57 : Int)).bind fun q21 => (ofO (powC p20 q21)))).bind fun p24 => (((W.ret (10 : Int)).bind fun p22 => ((W.ret (60 : Int)).bind fun q23 => (ofO (powC p22 q23)))).bind fun q25 => (ofO (mulC p24 q25)))).bind fun q27 => (ofO (modC p26 q27)))).bind fun (v12 : Int) => ((((W.ret v12).bind fun x50 => (((((((((W.ret v1).bind fun x28 => (W.ret (x28.natAbs : Int))).bind fun p29 => ((W.ret (1152921504606846883 : Int)).bind fun q30 => (ofO (modC p29 q30)))).bind fun p31 => ((W.ret (59 : Int)).bind fun q32 => (ofO (mulC p31 q32)))).bind fun p35 => (((W.ret (977 : Int)).bind fun p33 => ((W.ret a.2.1).bind fun q34 => (ofO (mulC p33 q34)))).bind fun q36 => (W.ret (p35 + q36)))).bind fun p42 => (((W.ret (47 : Int)).bind fun p40 => ((((W.ret v1).bind fun p37 => ((W.ret (0 : Int)).bind fun q38 => (ofO (some (decide (p37 < q38)))))).bind fun x39 => (W.ret (b2 x39))).bind fun q41 => (ofO (mulC p40 q41)))).bind fun q43 => (W.ret (p42 + q43)))).bind fun p44 => ((W.ret (13 : Int)).bind fun q45 => (W.ret (p44 + q45)))).bind fun x48 => (((W.ret (0 : Int)).bind fun x46 => ((W.ret []).bind fun y47 => (W.ret (x46 :: y47)))).bind fun y49 => (W.ret (x48 :: y49)))).bind fun y51 => (W.ret (x50 :: y51)))).bind fun x52 => (ofO (lenK x52))).bind fun x53 => (W.ret (Fl.rt x53)))))
def o_law_dice (a : (List Int) × Int × Unit) : Option (Fl (List Int) Empty Unit) :=
  ((((some a.2.1).bind fun p3 => (((some a.1).bind fun x2 => (some (x2.length : Int))).bind fun q4 => (some (decide (p3 < q4))))).bind fun p11 => (if p11 = true then ((some a.1).bind fun x5 => ((some a.2.1).bind fun i6 => (L2.atI x5 i6))) else (((some (73 : Int)).bind fun p7 => ((some a.2.1).bind fun q8 => (mulC p7 q8))).bind fun p9 => ((some (41 : Int)).bind fun q10 => (some (p9 + q10)))))).bind fun (v1 : Int) => ((((some (0 : Int)).bind fun i18 => ((((some v1).bind fun x13 => (some (x13.natAbs : Int))).bind fun p16 => (((some (10 : Int)).bind fun p14 => ((some (17 : Int)).bind fun q15 => (powC p14 q15))).bind fun q17 => (some (p16 - q17)))).bind fun j19 => (some (if j19 > i18 then j19 else i18)))).bind fun p26 => ((((some (10 : Int)).bind fun p20 => ((some (57 : Int)).bind fun q21 => (powC p20 q21))).bind fun p24 => (((some (10 : Int)).bind fun p22 => ((some (60 : Int)).bind fun q23 => (powC p22 q23))).bind fun q25 => (mulC p24 q25))).bind fun q27 => (modC p26 q27))).bind fun (v12 : Int) => ((((some v12).bind fun x50 => (((((((((some v1).bind fun x28 => (some (x28.natAbs : Int))).bind fun p29 => ((some (1152921504606846883 : Int)).bind fun q30 => (modC p29 q30))).bind fun p31 => ((some (59 : Int)).bind fun q32 => (mulC p31 q32))).bind fun p35 => (((some (977 : Int)).bind fun p33 => ((some a.2.1).bind fun q34 => (mulC p33 q34))).bind fun q36 => (some (p35 + q36)))).bind fun p42 => (((some (47 : Int)).bind fun p40 => ((((some v1).bind fun p37 => ((some (0 : Int)).bind fun q38 => (some (decide (p37 < q38))))).bind fun x39 => (some (b2 x39))).bind fun q41 => (mulC p40 q41))).bind fun q43 => (some (p42 + q43)))).bind fun p44 => ((some (13 : Int)).bind fun q45 => (some (p44 + q45)))).bind fun x48 => (((some (0 : Int)).bind fun x46 => ((some []).bind fun y47 => (some (x46 :: y47)))).bind fun y49 => (some (x48 :: y49)))).bind fun y51 => (some (x50 :: y51)))).bind fun x52 => (lenK x52)).bind fun x53 => (some (Fl.rt x53)))))
def m_law_dice (a : (List Int) × Int × Unit) : Option (List Int) := rtO (o_law_dice a)
theorem k_law_dice {f : Addr} {fd : FuncData} (F : Fun K "_law_dice" "_law_dice" slaw_dice f fd) (T : Txt K mg) : FnOk P w K mg base CX0 1 f fd ["_law_script", "_law_spot"] (SpN (pC (qX K) (pC qI p0)).ra qI m_law_dice) := by
  refine fn_okL (p := (pC (qX K) (pC qI p0))) (m := w_law_dice) (pn := (fun z _ => nomatch z)) (pl := fun _ _ => []) (env := fun a => [.im (qX K) a.1, .im qI a.2.1, .un, .un]) 2 F sclaw_dice rfl rfl (fun _ => rfl) ?hb ?hg
  case hb =>
    intro cdv A outer s H E hr C a hA
    unfold w_law_dice
    exact (xs_set (i := 2) (xe_if (xt_cmpD cd_lt (xe_var (pv 1)) (xe_lenX (by rfl) T.len (xe_var (pv 0))) rfl) (xe_int1 (by rfl) T.int (xe_ixX (xe_var (pv 0)) (xe_var (pv 1)))) (xe_add (xe_mul xe_int (xe_var (pv 1))) xe_int)) (fun v1 => (xs_set (i := 3) (xe_mod (xe_max2 rfl (by rfl) T.max xe_int (xe_sub (xe_abs (by rfl) T.abs (xe_var (pv 2))) (xe_pow xe_int xe_int))) (xe_mul (xe_pow xe_int xe_int) (xe_pow xe_int xe_int))) (fun v12 => (xs_retN (xn_lst (xa_consL (xe_var (pv 3)) (xa_consL (xe_add (xe_add (xe_add (xe_mul (xe_mod (xe_abs (by rfl) T.abs (xe_var (pv 2))) xe_int) xe_int) (xe_mul xe_int (xe_var (pv 1)))) (xe_mul xe_int (xe_intB (by rfl) T.int (xe_cmpD cd_lt (xe_var (pv 2)) xe_int rfl)))) xe_int) (xa_consL xe_int xa_nilL)))))) sclaw_dice.nd rfl (.inl rfl) rfl rfl)) sclaw_dice.nd rfl (.inl rfl) rfl rfl)
  case hg =>
    intro a
    simp only [m_law_dice, o_law_dice, w_law_dice, ofO_rt, ofO_rtN, ofO_bind, ofO_some, ofO_if, ofO_up, ofO_lc, ofO_lca, ofO_lc2, ofO_for, ofO_while, ofO_bindF, ofO_no, ofO_optM]
abbrev slaw_roll : Stmt := top 28
abbrev Nlaw_roll : List Str := ["_law_dice_here", "_law_total", "_law_one", "_law_two", "_law_found"]
theorem sclaw_roll : FnScope ["_law_dice_here", "_law_total", "_law_one", "_law_two", "_law_found"] ["_law_dice_here", "_law_total"] (defScope slaw_roll) := ⟨rfl, rfl, rfl, by decide +kernel, rfl, by decide +kernel, by decide +kernel⟩
def w_law_roll (a : Int × Unit) : W (Fl Int Empty Unit) :=
  ((((W.ret (0 : Int)).bind fun j1 => (W.get.bind fun g2 => ofO (L2.atI g2 j1))).bind fun p3 => ((W.ret (0 : Int)).bind fun q4 => (ofO (some (decide (q4 < p3)))))).bind fun b5 => (if b5 = true then upF ((((W.ret (0 : Int)).bind fun j7 => (W.get.bind fun g8 => ofO (L2.atI g8 j7))).bind fun p9 => ((W.ret a.1).bind fun q10 => (ofO (modC p9 q10)))).bind fun (v6 : Int) => ((((W.ret (0 : Int)).bind fun j11 => (W.get.bind fun g12 => ofO (L2.atI g12 j11))).bind fun p13 => ((W.ret a.1).bind fun q14 => (ofO (divC p13 q14)))).bind fun v15 => ((W.ret (0 : Int)).bind fun j16 => ((W.gset j16 v15).bind fun _ => ((W.ret v6).bind fun x17 => (W.ret (Fl.rt x17))))))) else ((((W.ret (2 : Int)).bind fun j18 => (W.get.bind fun g19 => ofO (L2.atI g19 j18))).bind fun p20 => ((W.ret (1 : Int)).bind fun q21 => (W.ret (p20 + q21)))).bind fun v22 => ((W.ret (2 : Int)).bind fun j23 => ((W.gset j23 v22).bind fun _ => (((((W.ret (1 : Int)).bind fun j25 => (W.get.bind fun g26 => ofO (L2.atI g26 j25))).bind fun p31 => (((W.ret (99990001 : Int)).bind fun p29 => (((W.ret (2 : Int)).bind fun j27 => (W.get.bind fun g28 => ofO (L2.atI g28 j27))).bind fun q30 => (ofO (mulC p29 q30)))).bind fun q32 => (W.ret (p31 + q32)))).bind fun p33 => ((W.ret (2305843009213693403 : Int)).bind fun q34 => (ofO (modC p33 q34)))).bind fun (v24 : Int) => (((((((W.ret v24).bind fun p36 => ((W.ret v24).bind fun q37 => (ofO (mulC p36 q37)))).bind fun p42 => (((W.ret (83 : Int)).bind fun p40 => (((W.ret (2 : Int)).bind fun j38 => (W.get.bind fun g39 => ofO (L2.atI g39 j38))).bind fun q41 => (ofO (mulC p40 q41)))).bind fun q43 => (W.ret (p42 + q43)))).bind fun p44 => ((W.ret (2305843009213693373 : Int)).bind fun q45 => (ofO (modC p44 q45)))).bind fun p46 => ((W.ret (8675327 : Int)).bind fun q47 => (ofO (mulC p46 q47)))).bind fun p48 => ((W.ret v24).bind fun q49 => (W.ret (p48 + q49)))).bind fun (v35 : Int) => ((((W.ret v35).bind fun p50 => ((W.ret (65539 : Int)).bind fun q51 => (ofO (divC p50 q51)))).bind fun p52 => ((W.ret a.1).bind fun q53 => (ofO (modC p52 q53)))).bind fun x54 => (W.ret (Fl.rt x54))))))))))
def m_law_roll (a : Int × Unit) : W Int := rtOf (w_law_roll a)
theorem k_law_roll {f : Addr} {fd : FuncData} (F : Fun K "_law_roll" "_law_roll" slaw_roll f fd) (T : Txt K mg) : FnOk P w K mg base CX0 1 f fd ["_law_dice_here", "_law_total"] (SpD (pC qI p0).ra qI m_law_roll) := by
  refine fn_okD (p := (pC qI p0)) (m := w_law_roll) (pn := (fun z _ => nomatch z)) (pl := fun _ _ => []) (env := fun a => [.im qI a.1, .un, .un, .un]) 3 F sclaw_roll rfl rfl (fun _ => rfl) ?hb ?hg
  case hb =>
    intro cdv A outer s H E hr C d a hA
    unfold w_law_roll
    exact (xs_ifx (xt_cmpD cd_gt (xe_gix (pv 0) xe_int) xe_int rfl) (xs_set (i := 4) (xe_mod (xe_int1 (by rfl) T.int (xe_gix (pv 0) xe_int)) (xe_var (pv 1))) (fun v6 => (xs_gset (xe_fdiv (xe_gix (pv 0) xe_int) (xe_var (pv 1))) (pv 0) xe_int (xs_ret (xe_var (pv 4))))) sclaw_roll.nd rfl (.inl rfl) rfl rfl) (xs_gset (xe_add (xe_gix (pv 0) xe_int) xe_int) (pv 0) xe_int (xs_set (i := 2) (xe_mod (xe_int1 (by rfl) T.int (xe_add (xe_gix (pv 0) xe_int) (xe_mul xe_int (xe_gix (pv 0) xe_int)))) xe_int) (fun v24 => (xs_set (i := 3) (xe_add (xe_mul (xe_mod (xe_int1 (by rfl) T.int (xe_add (xe_mul (xe_var (pv 2)) (xe_var (pv 2))) (xe_mul xe_int (xe_gix (pv 0) xe_int)))) xe_int) xe_int) (xe_var (pv 2))) (fun v35 => (xs_ret (xe_mod (xe_int1 (by rfl) T.int (xe_fdiv (xe_var (pv 3)) xe_int)) (xe_var (pv 1))))) sclaw_roll.nd rfl (.inl rfl) rfl rfl)) sclaw_roll.nd rfl (.inl rfl) rfl rfl)))
  case hg => exact fun _ => rfl
abbrev slaw_pick : Stmt := top 29
abbrev Nlaw_pick : List Str := ["_law_dice_here", "_law_items"]
theorem sclaw_pick : FnScope ["_law_dice_here", "_law_items"] ["_law_dice_here", "_law_items"] (defScope slaw_pick) := ⟨rfl, rfl, rfl, by decide +kernel, rfl, by decide +kernel, by decide +kernel⟩
def w_law_pick (a : (List Int) × Unit) : W (Fl Int Empty Unit) :=
  (((W.ret a.1).bind fun x5 => (((((W.ret a.1).bind fun x1 => (W.ret (x1.length : Int))).bind fun x2 => ((W.ret ()).bind fun y3 => (W.ret (x2, y3)))).bind fun a4 => (m_law_roll a4)).bind fun i6 => (ofO (L2.atI x5 i6)))).bind fun x7 => (W.ret (Fl.rt x7)))
def m_law_pick (a : (List Int) × Unit) : W Int := rtOf (w_law_pick a)
theorem k_law_pick {f : Addr} {fd : FuncData} (F : Fun K "_law_pick" "_law_pick" slaw_pick f fd) (T : Txt K mg) (h_law_roll : Has P w K mg base "_law_roll" 1 ["_law_dice_here", "_law_total"] (SpD (pC qI p0).ra qI m_law_roll)) : FnOk P w K mg base CX0 2 f fd ["_law_dice_here", "_law_items"] (SpD (pC (qL qI) p0).ra qI m_law_pick) := by
  refine fn_okD (p := (pC (qL qI) p0)) (m := w_law_pick) (pn := (fun z _ => nomatch z)) (pl := fun _ _ => []) (env := fun a => [.im (qL qI) a.1]) 0 F sclaw_pick rfl rfl (fun _ => rfl) ?hb ?hg
  case hb =>
    intro cdv A outer s H E hr C d a hA
    unfold w_law_pick
    exact (xs_ret (xe_ix (xq_im (xe_var (pv 1))) (xe_callDH h_law_roll hr (by decide) (by rfl) (pv 0) (xa_cons (xe_len (by rfl) T.len (xq_im (xe_var (pv 1)))) xa_nil))))
  case hg => exact fun _ => rfl
abbrev slaw_rm_ends : Stmt := top 32
abbrev Nlaw_rm_ends : List Str := ["_law_dice_here", "_law_size", "_law_most", "_law_found", "_law_turn"]
theorem sclaw_rm_ends : FnScope ["_law_dice_here", "_law_size", "_law_most", "_law_found", "_law_turn"] ["_law_dice_here", "_law_size", "_law_most"] (defScope slaw_rm_ends) := ⟨rfl, rfl, rfl, by decide +kernel, rfl, by decide +kernel, by decide +kernel⟩
def w_law_rm_ends (a : Int × Int × Unit) : W (Fl (List Int) Empty Unit) :=
  (((((W.ret a.1).bind fun p2 => ((W.ret (1 : Int)).bind fun q3 => (W.ret (p2 - q3)))).bind fun i4 => (ofO (rngC 0 i4))).bind fun xs22 => (lcW (fun (x5 : Int) => (W.ret true)) (fun (x5 : Int) => (((W.ret (1 : Int)).bind fun p9 => ((((W.ret a.2.1).bind fun x6 => ((W.ret ()).bind fun y7 => (W.ret (x6, y7)))).bind fun a8 => (m_law_roll a8)).bind fun q10 => (W.ret (p9 + q10)))).bind fun p20 => ((((((W.ret (1 : Int)).bind fun x14 => ((((W.ret (1 : Int)).bind fun p11 => (W.ret (-p11))).bind fun x12 => ((W.ret []).bind fun y13 => (W.ret (x12 :: y13)))).bind fun y15 => (W.ret (x14 :: y15)))).bind fun x16 => (ofO (lenK x16))).bind fun x17 => ((W.ret ()).bind fun y18 => (W.ret (x17, y18)))).bind fun a19 => (m_law_pick a19)).bind fun q21 => (ofO (mulC p20 q21))))) xs22)).bind fun (v1 : (List Int)) => ((((W.ret v1).bind fun x23 => (W.ret x23.sum)).bind fun p24 => ((W.ret (0 : Int)).bind fun q25 => (ofO (some (decide (p24 = q25)))))).bind fun b26 => bindF (if b26 = true then (((((W.ret v1).bind fun x28 => ((W.ret (0 : Int)).bind fun i29 => (ofO (L2.atI x28 i29)))).bind fun p31 => (((W.ret (1 : Int)).bind fun p30 => (W.ret (-p30))).bind fun q32 => (ofO (some (!decide (p31 = q32)))))).bind fun p37 => (if p37 = true then (((W.ret v1).bind fun x33 => ((W.ret (0 : Int)).bind fun i34 => (ofO (L2.atI x33 i34)))).bind fun p35 => ((W.ret (1 : Int)).bind fun q36 => (W.ret (p35 + q36)))) else (W.ret (1 : Int)))).bind fun v38 => ((W.ret (0 : Int)).bind fun j39 => ((ofO (setC v1 j39 v38)).bind fun (l40 : (List Int)) => (W.ret (Fl.nx l40))))) else (W.ret (Fl.nx v1))) (fun (s27 : (List Int)) => ((((W.ret s27).bind fun x41 => (W.ret x41.sum)).bind fun p42 => ((W.ret (0 : Int)).bind fun q43 => (ofO (some (decide (p42 = q43)))))).bind fun b44 => bindF (if b44 = true then ((((W.ret s27).bind fun x46 => ((W.ret (0 : Int)).bind fun i47 => (ofO (L2.atI x46 i47)))).bind fun p48 => ((W.ret (1 : Int)).bind fun q49 => (W.ret (p48 + q49)))).bind fun v50 => ((W.ret (0 : Int)).bind fun j51 => ((ofO (setC s27 j51 v50)).bind fun (l52 : (List Int)) => (W.ret (Fl.nx l52))))) else (W.ret (Fl.nx s27))) (fun (s45 : (List Int)) => (((W.ret s45).bind fun p59 => (((((W.ret (0 : Int)).bind fun p54 => (((W.ret s45).bind fun x53 => (W.ret x53.sum)).bind fun q55 => (W.ret (p54 - q55)))).bind fun x56 => ((W.ret []).bind fun y57 => (W.ret (x56 :: y57)))).bind fun x58 => (ofO (lenK x58))).bind fun q60 => (ofO (catC p59 q60)))).bind fun x61 => (W.ret (Fl.rt x61))))))))
def m_law_rm_ends (a : Int × Int × Unit) : W (List Int) := rtOf (w_law_rm_ends a)
theorem k_law_rm_ends {f : Addr} {fd : FuncData} (F : Fun K "_law_rm_ends" "_law_rm_ends" slaw_rm_ends f fd) (T : Txt K mg) (h_law_pick : Has P w K mg base "_law_pick" 2 ["_law_dice_here", "_law_items"] (SpD (pC (qL qI) p0).ra qI m_law_pick)) (h_law_roll : Has P w K mg base "_law_roll" 1 ["_law_dice_here", "_law_total"] (SpD (pC qI p0).ra qI m_law_roll)) : FnOk P w K mg base CX0 3 f fd ["_law_dice_here", "_law_size", "_law_most"] (SpD (pC qI (pC qI p0)).ra (qT qI) m_law_rm_ends) := by
  refine fn_okD (p := (pC qI (pC qI p0))) (m := w_law_rm_ends) (pn := (fun z _ => nomatch z)) (pl := fun _ _ => []) (env := fun a => [.im qI a.1, .im qI a.2.1, .un, .un]) 2 F sclaw_rm_ends rfl rfl (fun _ => rfl) ?hb ?hg
  case hb =>
    intro cdv A outer s H E hr C d a hA
    unfold w_law_rm_ends
    exact (xs_setLcN (i := 3) (own := [("_law_turn", 4)]) (up := (uN 4 qI)) rfl sclaw_rm_ends.nd rfl rfl (sw_true rfl rfl rfl (by decide +kernel)) (xi_rng1 (by rfl) T.range (xe_sub (xe_var (pv 1)) xe_int)) (blkOk_by (N := Nlaw_rm_ends) (sc := defScope slaw_rm_ends) (by decide +kernel)) rfl (fun _ => rfl) (fun _ _ _ _ _ => (xg_name (pg_name (i := 4) sclaw_rm_ends.nd rfl (by first | exact .inl rfl | exact .inr rfl)))) (fun _ _ _ _ _ _ x5 => xts_nil) (fun _ _ _ _ _ _ x5 => (xe_mul (xe_add xe_int (xe_callDH h_law_roll hr (by decide) (by rfl) (pv 0) (xa_cons (xe_var (pv 2)) xa_nil))) (xe_callDH h_law_pick hr (by decide) (by rfl) (pv 0) (xa_cons (xe_N (xn_lst (xa_consL xe_int (xa_consL (xe_neg xe_int) xa_nilL)))) xa_nil)))) (fun v1 => (xs_if (pt := fun (s27 : (List Int)) g => [.iv d (oD g), .im qI a.1, .im qI a.2.1, .ow qI s27, .un]) (xt_cmpD cd_eqI (xe_sum rfl (by rfl) T.sum (xq_own (pv 3))) xe_int rfl) (xs_oset (i := 3) (xe_if (xt_cmpD cd_neI (xe_ix (xq_own (pv 3)) xe_int) (xe_neg xe_int) rfl) (xe_add (xe_ix (xq_own (pv 3)) xe_int) xe_int) xe_int) (pv 3) xe_int (fun l40 => (xs_nil (fun _ => (.keep (.keep (.keep (.keep (.keep .nil))))))))) (xs_nil (fun _ => (.keep (.keep (.keep (.keep (.keep .nil))))))) (fun s27 => (xs_if (pt := fun (s45 : (List Int)) g => [.iv d (oD g), .im qI a.1, .im qI a.2.1, .ow qI s45, .un]) (xt_cmpD cd_eqI (xe_sum rfl (by rfl) T.sum (xq_own (pv 3))) xe_int rfl) (xs_oset (i := 3) (xe_add (xe_ix (xq_own (pv 3)) xe_int) xe_int) (pv 3) xe_int (fun l52 => (xs_nil (fun _ => (.keep (.keep (.keep (.keep (.keep .nil))))))))) (xs_nil (fun _ => (.keep (.keep (.keep (.keep (.keep .nil))))))) (fun s45 => (xs_frzD 3 hA (xs_ret (xe_tuple (by rfl) T.tuple (xq_im (xe_N (xn_catL (xe_var (pv 3)) (xe_N (xn_lst (xa_consL (xe_sub xe_int (xe_sum rfl (by rfl) T.sum (xq_im (xe_var (pv 3))))) xa_nilL)))))))))))))))
  case hg => exact fun _ => rfl
abbrev sis_whole : Stmt := top 7
abbrev Nis_whole : List Str := ["value"]
theorem scis_whole : FnScope ["value"] ["value"] (defScope sis_whole) := ⟨rfl, rfl, rfl, by decide +kernel, rfl, by decide +kernel, by decide +kernel⟩
def w_is_whole (a : Int × Unit) : W (Fl Bool Empty Unit) :=
  ((((W.ret a.1).bind fun _ => (W.ret true)).bind fun p4 => (if p4 = true then (((W.ret a.1).bind fun _ => (W.ret false)).bind fun p3 => (W.ret (!p3))) else (W.ret false))).bind fun x5 => (W.ret (Fl.rt x5)))
def o_is_whole (a : Int × Unit) : Option (Fl Bool Empty Unit) :=
  ((((some a.1).bind fun _ => (some true)).bind fun p4 => (if p4 = true then (((some a.1).bind fun _ => (some false)).bind fun p3 => (some (!p3))) else (some false))).bind fun x5 => (some (Fl.rt x5)))
def m_is_whole (a : Int × Unit) : Option Bool := rtO (o_is_whole a)
theorem k_is_whole {f : Addr} {fd : FuncData} (F : Fun K "is_whole" "is_whole" sis_whole f fd) (T : Txt K mg) : FnOk P w K mg base CX0 1 f fd ["value"] (SpF (pC qI p0).ra qB m_is_whole) := by
  refine fn_okF (p := (pC qI p0)) (m := w_is_whole) (pn := (fun z _ => nomatch z)) (pl := fun _ _ => []) (env := fun a => [.im qI a.1]) 0 F scis_whole rfl rfl (fun _ => rfl) ?hb ?hg
  case hb =>
    intro cdv A outer s H E hr C a hA
    unfold w_is_whole
    exact (xs_ret (xe_andB (xe_isi (ans := true) (hk := by decide +kernel) tyI (by rfl) T.isinstance (xe_var (pv 0)) (by rfl) T.int (n := "int") (by decide +kernel)) (xe_one (xe_not (xe_isi (ans := false) (hk := by decide +kernel) tyI (by rfl) T.isinstance (xe_var (pv 0)) (by rfl) T.bool (n := "bool") (by decide +kernel))))))
  case hg =>
    intro a
    simp only [m_is_whole, o_is_whole, w_is_whole, ofO_rt, ofO_rtN, ofO_bind, ofO_some, ofO_if, ofO_up, ofO_lc, ofO_lca, ofO_lc2, ofO_for, ofO_while, ofO_bindF, ofO_no, ofO_optM]
abbrev sis_integer : Stmt := top 8
abbrev Nis_integer : List Str := ["value"]
theorem scis_integer : FnScope ["value"] ["value"] (defScope sis_integer) := ⟨rfl, rfl, rfl, by decide +kernel, rfl, by decide +kernel, by decide +kernel⟩
def w_is_integer (a : Int × Unit) : W (Fl Bool Empty Unit) :=
  (((((W.ret a.1).bind fun x1 => ((W.ret ()).bind fun y2 => (W.ret (x1, y2)))).bind fun a3 => (ofO (m_is_whole a3))).bind fun p9 => (if p9 = true then (((W.ret (1000000000000000000000000000000000000000000000000000000000000 : Int)).bind fun p4 => (W.ret (-p4))).bind fun p5 => ((W.ret a.1).bind fun q6 => ((ofO (some (decide (p5 < q6)))).bind fun t8 => (if t8 = true then ((W.ret (1000000000000000000000000000000000000000000000000000000000000 : Int)).bind fun u7 => (ofO (some (decide (q6 < u7))))) else W.ret false)))) else (W.ret false))).bind fun x10 => (W.ret (Fl.rt x10)))
def o_is_integer (a : Int × Unit) : Option (Fl Bool Empty Unit) :=
  (((((some a.1).bind fun x1 => ((some ()).bind fun y2 => (some (x1, y2)))).bind fun a3 => (m_is_whole a3)).bind fun p9 => (if p9 = true then (((some (1000000000000000000000000000000000000000000000000000000000000 : Int)).bind fun p4 => (some (-p4))).bind fun p5 => ((some a.1).bind fun q6 => ((some (decide (p5 < q6))).bind fun t8 => (if t8 = true then ((some (1000000000000000000000000000000000000000000000000000000000000 : Int)).bind fun u7 => (some (decide (q6 < u7)))) else some false)))) else (some false))).bind fun x10 => (some (Fl.rt x10)))
def m_is_integer (a : Int × Unit) : Option Bool := rtO (o_is_integer a)
theorem k_is_integer {f : Addr} {fd : FuncData} (F : Fun K "is_integer" "is_integer" sis_integer f fd) (T : Txt K mg) (h_is_whole : Has P w K mg base "is_whole" 1 ["value"] (SpF (pC qI p0).ra qB m_is_whole)) : FnOk P w K mg base CX0 2 f fd ["value"] (SpF (pC qI p0).ra qB m_is_integer) := by
  refine fn_okF (p := (pC qI p0)) (m := w_is_integer) (pn := (fun z _ => nomatch z)) (pl := fun _ _ => []) (env := fun a => [.im qI a.1]) 0 F scis_integer rfl rfl (fun _ => rfl) ?hb ?hg
  case hb =>
    intro cdv A outer s H E hr C a hA
    unfold w_is_integer
    exact (xs_ret (xe_andB (xe_callH h_is_whole hr (by decide) (by rfl) (xa_cons (xe_var (pv 0)) xa_nil)) (xe_one (xe_chainD cd_lt cd_lt (xe_neg (xe_gintE (by rfl) T.g_FIRST_TOO_LONG_)) (xe_var (pv 0)) (xe_gintE (by rfl) T.g_FIRST_TOO_LONG_)))))
  case hg =>
    intro a
    simp only [m_is_integer, o_is_integer, w_is_integer, ofO_rt, ofO_rtN, ofO_bind, ofO_some, ofO_if, ofO_up, ofO_lc, ofO_lca, ofO_lc2, ofO_for, ofO_while, ofO_bindF, ofO_no, ofO_optM]
abbrev sis_count : Stmt := top 9
abbrev Nis_count : List Str := ["value", "low", "high"]
theorem scis_count : FnScope ["value", "low", "high"] ["value", "low", "high"] (defScope sis_count) := ⟨rfl, rfl, rfl, by decide +kernel, rfl, by decide +kernel, by decide +kernel⟩
def w_is_count (a : Int × Int × Int × Unit) : W (Fl Bool Empty Unit) :=
  (((((W.ret a.1).bind fun x1 => ((W.ret ()).bind fun y2 => (W.ret (x1, y2)))).bind fun a3 => (ofO (m_is_integer a3))).bind fun p8 => (if p8 = true then ((W.ret a.2.1).bind fun p4 => ((W.ret a.1).bind fun q5 => ((ofO (some (decide (p4 ≤ q5)))).bind fun t7 => (if t7 = true then ((W.ret a.2.2.1).bind fun u6 => (ofO (some (decide (q5 ≤ u6))))) else W.ret false)))) else (W.ret false))).bind fun x9 => (W.ret (Fl.rt x9)))
def o_is_count (a : Int × Int × Int × Unit) : Option (Fl Bool Empty Unit) :=
  (((((some a.1).bind fun x1 => ((some ()).bind fun y2 => (some (x1, y2)))).bind fun a3 => (m_is_integer a3)).bind fun p8 => (if p8 = true then ((some a.2.1).bind fun p4 => ((some a.1).bind fun q5 => ((some (decide (p4 ≤ q5))).bind fun t7 => (if t7 = true then ((some a.2.2.1).bind fun u6 => (some (decide (q5 ≤ u6)))) else some false)))) else (some false))).bind fun x9 => (some (Fl.rt x9)))
def m_is_count (a : Int × Int × Int × Unit) : Option Bool := rtO (o_is_count a)
theorem k_is_count {f : Addr} {fd : FuncData} (F : Fun K "is_count" "is_count" sis_count f fd) (T : Txt K mg) (h_is_integer : Has P w K mg base "is_integer" 2 ["value"] (SpF (pC qI p0).ra qB m_is_integer)) : FnOk P w K mg base CX0 3 f fd ["value", "low", "high"] (SpF (pC qI (pC qI (pC qI p0))).ra qB m_is_count) := by
  refine fn_okF (p := (pC qI (pC qI (pC qI p0)))) (m := w_is_count) (pn := (fun z _ => nomatch z)) (pl := fun _ _ => []) (env := fun a => [.im qI a.1, .im qI a.2.1, .im qI a.2.2.1]) 0 F scis_count rfl rfl (fun _ => rfl) ?hb ?hg
  case hb =>
    intro cdv A outer s H E hr C a hA
    unfold w_is_count
    exact (xs_ret (xe_andB (xe_callH h_is_integer hr (by decide) (by rfl) (xa_cons (xe_var (pv 0)) xa_nil)) (xe_one (xe_chainD cd_le cd_le (xe_var (pv 1)) (xe_var (pv 0)) (xe_var (pv 2))))))
  case hg =>
    intro a
    simp only [m_is_count, o_is_count, w_is_count, ofO_rt, ofO_rtN, ofO_bind, ofO_some, ofO_if, ofO_up, ofO_lc, ofO_lca, ofO_lc2, ofO_for, ofO_while, ofO_bindF, ofO_no, ofO_optM]
abbrev scheck_count : Stmt := top 10
abbrev Ncheck_count : List Str := ["value", "low", "high"]
theorem sccheck_count : FnScope ["value", "low", "high"] ["value", "low", "high"] (defScope scheck_count) := ⟨rfl, rfl, rfl, by decide +kernel, rfl, by decide +kernel, by decide +kernel⟩
def w_check_count (a : Int × Int × Int × Unit) : W (Fl Unit Unit Unit) :=
  (((((W.ret a.1).bind fun x5 => (((W.ret a.2.1).bind fun x3 => (((W.ret a.2.2.1).bind fun x1 => ((W.ret ()).bind fun y2 => (W.ret (x1, y2)))).bind fun y4 => (W.ret (x3, y4)))).bind fun y6 => (W.ret (x5, y6)))).bind fun a7 => (ofO (m_is_count a7))).bind fun b8 => (W.ret (!b8))).bind fun b9 => (if b9 = true then upF W.no else (W.ret (Fl.nx ()))))
def o_check_count (a : Int × Int × Int × Unit) : Option (Fl Unit Unit Unit) :=
  (((((some a.1).bind fun x5 => (((some a.2.1).bind fun x3 => (((some a.2.2.1).bind fun x1 => ((some ()).bind fun y2 => (some (x1, y2)))).bind fun y4 => (some (x3, y4)))).bind fun y6 => (some (x5, y6)))).bind fun a7 => (m_is_count a7)).bind fun b8 => (some (!b8))).bind fun b9 => (if b9 = true then upO none else (some (Fl.nx ()))))
def m_check_count (a : Int × Int × Int × Unit) : Option Unit := rtNO (o_check_count a)
theorem k_check_count {f : Addr} {fd : FuncData} (F : Fun K "check_count" "check_count" scheck_count f fd) (T : Txt K mg) (h_is_count : Has P w K mg base "is_count" 3 ["value", "low", "high"] (SpF (pC qI (pC qI (pC qI p0))).ra qB m_is_count)) : FnOk P w K mg base CX0 4 f fd ["value", "low", "high"] (SpF (pC qI (pC qI (pC qI p0))).ra qN m_check_count) := by
  refine fn_okN (p := (pC qI (pC qI (pC qI p0)))) (m := w_check_count) (pn := (fun _ g => [.un, .un, .un])) (pl := fun _ _ => []) (env := fun a => [.im qI a.1, .im qI a.2.1, .im qI a.2.2.1]) 0 F sccheck_count rfl rfl (fun _ => rfl) ?hb ?hg
  case hb =>
    intro cdv A outer s H E hr C a hA
    unfold w_check_count
    exact (xs_ifx (xt_not (xt_val (xe_callH h_is_count hr (by decide) (by rfl) (xa_cons (xe_var (pv 0)) (xa_cons (xe_var (pv 1)) (xa_cons (xe_var (pv 2)) xa_nil)))))) xs_never (xs_nil (fun _ => (.drop (.drop (.drop .nil))))))
  case hg =>
    intro a
    simp only [m_check_count, o_check_count, w_check_count, ofO_rt, ofO_rtN, ofO_bind, ofO_some, ofO_if, ofO_up, ofO_lc, ofO_lca, ofO_lc2, ofO_for, ofO_while, ofO_bindF, ofO_no, ofO_optM]
abbrev swalls_for : Stmt := top 20
abbrev Nwalls_for : List Str := ["size", "found", "index", "wall"]
theorem scwalls_for : FnScope ["size", "found", "index", "wall"] ["size"] (defScope swalls_for) := ⟨rfl, rfl, rfl, by decide +kernel, rfl, by decide +kernel, by decide +kernel⟩
def w_walls_for (a : Int × Unit) : W (Fl (List (List Int)) Empty Unit) :=
  ((((W.ret a.1).bind fun x5 => (((W.ret (2 : Int)).bind fun x3 => (((W.ret (6 : Int)).bind fun x1 => ((W.ret ()).bind fun y2 => (W.ret (x1, y2)))).bind fun y4 => (W.ret (x3, y4)))).bind fun y6 => (W.ret (x5, y6)))).bind fun a7 => (ofO (m_check_count a7))).bind fun _v8 => (((((W.ret (0 : Int)).bind fun x10 => (W.ret [x10])).bind fun x11 => ((W.ret []).bind fun y12 => (W.ret (x11 :: y12)))).bind fun x13 => (ofO (lenK x13))).bind fun (v9 : (List (List Int))) => (((W.ret (1 : Int)).bind fun i14 => ((W.ret a.1).bind fun j15 => (ofO (rngC i14 j15)))).bind fun xs37 => bindF (forL (fun (s16 : (List (List Int))) (x17 : Int) => (((W.ret s16).bind fun p24 => (((W.ret s16).bind fun xs23 => (lcW (fun (x19 : (List Int)) => (W.ret true)) (fun (x19 : (List Int)) => ((W.ret x19).bind fun p21 => (((W.ret x17).bind fun x20 => (W.ret [x20])).bind fun q22 => (ofO (catC p21 q22))))) xs23)).bind fun q25 => (ofO (catC p24 q25)))).bind fun (v18 : (List (List Int))) => (W.ret (Fl.nx v18)))) xs37 v9) (fun (s16 : (List (List Int))) => ((((W.ret s16).bind fun xs34 => (lcW (fun (x26 : (List Int)) => ((W.ret (2 : Int)).bind fun p30 => (((W.ret x26).bind fun x27 => (W.ret (x27.length : Int))).bind fun q31 => ((ofO (some (decide (p30 ≤ q31)))).bind fun t33 => (if t33 = true then (((W.ret a.1).bind fun p28 => ((W.ret (2 : Int)).bind fun q29 => (W.ret (p28 - q29)))).bind fun u32 => (ofO (some (decide (q31 ≤ u32))))) else W.ret false))))) (fun (x26 : (List Int)) => (W.ret x26)) xs34)).bind fun x35 => (ofO (sortTT x35))).bind fun x36 => (W.ret (Fl.rt x36)))))))
def o_walls_for (a : Int × Unit) : Option (Fl (List (List Int)) Empty Unit) :=
  ((((some a.1).bind fun x5 => (((some (2 : Int)).bind fun x3 => (((some (6 : Int)).bind fun x1 => ((some ()).bind fun y2 => (some (x1, y2)))).bind fun y4 => (some (x3, y4)))).bind fun y6 => (some (x5, y6)))).bind fun a7 => (m_check_count a7)).bind fun _v8 => (((((some (0 : Int)).bind fun x10 => (some [x10])).bind fun x11 => ((some []).bind fun y12 => (some (x11 :: y12)))).bind fun x13 => (lenK x13)).bind fun (v9 : (List (List Int))) => (((some (1 : Int)).bind fun i14 => ((some a.1).bind fun j15 => (rngC i14 j15))).bind fun xs37 => bindFO (forO (fun (s16 : (List (List Int))) (x17 : Int) => (((some s16).bind fun p24 => (((some s16).bind fun xs23 => (lcO (fun (x19 : (List Int)) => (some true)) (fun (x19 : (List Int)) => ((some x19).bind fun p21 => (((some x17).bind fun x20 => (some [x20])).bind fun q22 => (catC p21 q22)))) xs23)).bind fun q25 => (catC p24 q25))).bind fun (v18 : (List (List Int))) => (some (Fl.nx v18)))) xs37 v9) (fun (s16 : (List (List Int))) => ((((some s16).bind fun xs34 => (lcO (fun (x26 : (List Int)) => ((some (2 : Int)).bind fun p30 => (((some x26).bind fun x27 => (some (x27.length : Int))).bind fun q31 => ((some (decide (p30 ≤ q31))).bind fun t33 => (if t33 = true then (((some a.1).bind fun p28 => ((some (2 : Int)).bind fun q29 => (some (p28 - q29)))).bind fun u32 => (some (decide (q31 ≤ u32)))) else some false))))) (fun (x26 : (List Int)) => (some x26)) xs34)).bind fun x35 => (sortTT x35)).bind fun x36 => (some (Fl.rt x36)))))))
def m_walls_for (a : Int × Unit) : Option (List (List Int)) := rtO (o_walls_for a)
theorem k_walls_for {f : Addr} {fd : FuncData} (F : Fun K "walls_for" "walls_for" swalls_for f fd) (T : Txt K mg) (h_check_count : Has P w K mg base "check_count" 4 ["value", "low", "high"] (SpF (pC qI (pC qI (pC qI p0))).ra qN m_check_count)) : FnOk P w K mg base CX0 5 f fd ["size"] (SpF (pC qI p0).ra (qT (qT qI)) m_walls_for) := by
  refine fn_okF (p := (pC qI p0)) (m := w_walls_for) (pn := (fun z _ => nomatch z)) (pl := fun _ _ => []) (env := fun a => [.im qI a.1, .un, .un, .un]) 3 F scwalls_for rfl rfl (fun _ => rfl) ?hb ?hg
  case hb =>
    intro cdv A outer s H E hr C a hA
    unfold w_walls_for
    exact (xs_exp (xe_callH h_check_count hr (by decide) (by rfl) (xa_cons (xe_var (pv 0)) (xa_cons (xe_gintE (by rfl) T.g_LEAST_ENDS_) (xa_cons (xe_gintE (by rfl) T.MOST_ENDS_) xa_nil)))) (fun _v8 => (xs_set (i := 1) (xe_N (xn_lst (xa_consL (xe_tup1 xe_int) xa_nilL))) (fun v9 => (xs_for (s0 := v9) (up := (uN 2 qI)) (pt := fun (s16 : (List (List Int))) g => [.im qI a.1, .im (qL (qT qI)) s16, .un, .un]) PassesOwn.never rfl (xi_rng2 (by rfl) T.range xe_int (xe_var (pv 0))) (xg_name (pg_name (i := 2) scwalls_for.nd rfl (by first | exact .inl rfl | exact .inr rfl))) (fun _ => (.keep (.keep (.keep (.keep .nil))))) (fun s16 x17 => (xs_set (i := 1) (xe_N (xn_catL (xe_var (pv 1)) (xe_N (xn_lc (own := [("wall", 3)]) (up := (uN 3 (qT qI))) rfl scwalls_for.nd (xi_seq (xe_var (pv 1))) (blkOk_by (N := Nwalls_for) (sc := defScope swalls_for) (by decide +kernel)) rfl (fun _ => rfl) (fun _ _ _ _ _ => (xg_name (pg_name (i := 3) scwalls_for.nd rfl (by first | exact .inl rfl | exact .inr rfl)))) (fun _ _ _ _ _ _ x19 => xts_nil) (fun _ _ _ _ _ _ x19 => (xe_catT (xe_var (pv 3)) (xe_tup1 (xe_var (pv 2))))))))) (fun v18 => (xs_nil (fun _ => (.keep (.keep (.drop (.keep .nil))))))) scwalls_for.nd rfl (.inl rfl) rfl rfl)) (fun s16 => (xs_ret (xe_tuple (by rfl) T.tuple (xq_im (xe_N (xn_sortedTT (by rfl) T.sorted (xq_im (xe_N (xn_lc (own := [("wall", 3)]) (up := (uN 3 (qT qI))) rfl scwalls_for.nd (xi_seq (xe_var (pv 1))) (blkOk_by (N := Nwalls_for) (sc := defScope swalls_for) (by decide +kernel)) rfl (fun _ => rfl) (fun _ _ _ _ _ => (xg_name (pg_name (i := 3) scwalls_for.nd rfl (by first | exact .inl rfl | exact .inr rfl)))) (fun _ _ _ _ _ _ x26 => (xts_one (xt_chainD cd_le cd_le xe_int (xe_len (by rfl) T.len (xq_im (xe_var (pv 3)))) (xe_sub (xe_var (pv 0)) xe_int)))) (fun _ _ _ _ _ _ x26 => (xe_var (pv 3)))))))))))))) scwalls_for.nd rfl (.inl rfl) rfl rfl)))
  case hg =>
    intro a
    simp only [m_walls_for, o_walls_for, w_walls_for, ofO_rt, ofO_rtN, ofO_bind, ofO_some, ofO_if, ofO_up, ofO_lc, ofO_lca, ofO_lc2, ofO_for, ofO_while, ofO_bindF, ofO_no, ofO_optM]
abbrev slaw_rm_shuts : Stmt := top 33
abbrev Nlaw_rm_shuts : List Str := ["_law_size", "_law_found", "_law_at", "_law_shut"]
theorem sclaw_rm_shuts : FnScope ["_law_size", "_law_found", "_law_at", "_law_shut"] ["_law_size"] (defScope slaw_rm_shuts) := ⟨rfl, rfl, rfl, by decide +kernel, rfl, by decide +kernel, by decide +kernel⟩
def w_law_rm_shuts (a : Int × Unit) : W (Fl (List (List Int)) Empty Unit) :=
  (((((W.ret (0 : Int)).bind fun x2 => (W.ret [x2])).bind fun x3 => ((W.ret []).bind fun y4 => (W.ret (x3 :: y4)))).bind fun x5 => (ofO (lenK x5))).bind fun (v1 : (List (List Int))) => (((W.ret (1 : Int)).bind fun i6 => ((W.ret a.1).bind fun j7 => (ofO (rngC i6 j7)))).bind fun xs29 => bindF (forL (fun (s8 : (List (List Int))) (x9 : Int) => (((W.ret s8).bind fun p16 => (((W.ret s8).bind fun xs15 => (lcW (fun (x11 : (List Int)) => (W.ret true)) (fun (x11 : (List Int)) => ((W.ret x11).bind fun p13 => (((W.ret x9).bind fun x12 => (W.ret [x12])).bind fun q14 => (ofO (catC p13 q14))))) xs15)).bind fun q17 => (ofO (catC p16 q17)))).bind fun (v10 : (List (List Int))) => (W.ret (Fl.nx v10)))) xs29 v1) (fun (s8 : (List (List Int))) => ((((W.ret s8).bind fun xs26 => (lcW (fun (x18 : (List Int)) => ((W.ret (1 : Int)).bind fun p22 => (((W.ret x18).bind fun x19 => (W.ret (x19.length : Int))).bind fun q23 => ((ofO (some (decide (p22 < q23)))).bind fun t25 => (if t25 = true then (((W.ret a.1).bind fun p20 => ((W.ret (1 : Int)).bind fun q21 => (W.ret (p20 - q21)))).bind fun u24 => (ofO (some (decide (q23 < u24))))) else W.ret false))))) (fun (x18 : (List Int)) => (W.ret x18)) xs26)).bind fun x27 => (ofO (sortTT x27))).bind fun x28 => (W.ret (Fl.rt x28))))))
def o_law_rm_shuts (a : Int × Unit) : Option (Fl (List (List Int)) Empty Unit) :=
  (((((some (0 : Int)).bind fun x2 => (some [x2])).bind fun x3 => ((some []).bind fun y4 => (some (x3 :: y4)))).bind fun x5 => (lenK x5)).bind fun (v1 : (List (List Int))) => (((some (1 : Int)).bind fun i6 => ((some a.1).bind fun j7 => (rngC i6 j7))).bind fun xs29 => bindFO (forO (fun (s8 : (List (List Int))) (x9 : Int) => (((some s8).bind fun p16 => (((some s8).bind fun xs15 => (lcO (fun (x11 : (List Int)) => (some true)) (fun (x11 : (List Int)) => ((some x11).bind fun p13 => (((some x9).bind fun x12 => (some [x12])).bind fun q14 => (catC p13 q14)))) xs15)).bind fun q17 => (catC p16 q17))).bind fun (v10 : (List (List Int))) => (some (Fl.nx v10)))) xs29 v1) (fun (s8 : (List (List Int))) => ((((some s8).bind fun xs26 => (lcO (fun (x18 : (List Int)) => ((some (1 : Int)).bind fun p22 => (((some x18).bind fun x19 => (some (x19.length : Int))).bind fun q23 => ((some (decide (p22 < q23))).bind fun t25 => (if t25 = true then (((some a.1).bind fun p20 => ((some (1 : Int)).bind fun q21 => (some (p20 - q21)))).bind fun u24 => (some (decide (q23 < u24)))) else some false))))) (fun (x18 : (List Int)) => (some x18)) xs26)).bind fun x27 => (sortTT x27)).bind fun x28 => (some (Fl.rt x28))))))
def m_law_rm_shuts (a : Int × Unit) : Option (List (List Int)) := rtO (o_law_rm_shuts a)
theorem k_law_rm_shuts {f : Addr} {fd : FuncData} (F : Fun K "_law_rm_shuts" "_law_rm_shuts" slaw_rm_shuts f fd) (T : Txt K mg) : FnOk P w K mg base CX0 1 f fd ["_law_size"] (SpF (pC qI p0).ra (qL (qT qI)) m_law_rm_shuts) := by
  refine fn_okF (p := (pC qI p0)) (m := w_law_rm_shuts) (pn := (fun z _ => nomatch z)) (pl := fun _ _ => []) (env := fun a => [.im qI a.1, .un, .un, .un]) 3 F sclaw_rm_shuts rfl rfl (fun _ => rfl) ?hb ?hg
  case hb =>
    intro cdv A outer s H E hr C a hA
    unfold w_law_rm_shuts
    exact (xs_set (i := 1) (xe_N (xn_lst (xa_consL (xe_tup1 xe_int) xa_nilL))) (fun v1 => (xs_for (s0 := v1) (up := (uN 2 qI)) (pt := fun (s8 : (List (List Int))) g => [.im qI a.1, .im (qL (qT qI)) s8, .un, .un]) PassesOwn.never rfl (xi_rng2 (by rfl) T.range xe_int (xe_var (pv 0))) (xg_name (pg_name (i := 2) sclaw_rm_shuts.nd rfl (by first | exact .inl rfl | exact .inr rfl))) (fun _ => (.keep (.keep (.keep (.keep .nil))))) (fun s8 x9 => (xs_set (i := 1) (xe_N (xn_catL (xe_var (pv 1)) (xe_N (xn_lc (own := [("_law_shut", 3)]) (up := (uN 3 (qT qI))) rfl sclaw_rm_shuts.nd (xi_seq (xe_var (pv 1))) (blkOk_by (N := Nlaw_rm_shuts) (sc := defScope slaw_rm_shuts) (by decide +kernel)) rfl (fun _ => rfl) (fun _ _ _ _ _ => (xg_name (pg_name (i := 3) sclaw_rm_shuts.nd rfl (by first | exact .inl rfl | exact .inr rfl)))) (fun _ _ _ _ _ _ x11 => xts_nil) (fun _ _ _ _ _ _ x11 => (xe_catT (xe_var (pv 3)) (xe_tup1 (xe_var (pv 2))))))))) (fun v10 => (xs_nil (fun _ => (.keep (.keep (.drop (.keep .nil))))))) sclaw_rm_shuts.nd rfl (.inl rfl) rfl rfl)) (fun s8 => (xs_ret (xe_N (xn_sortedTT (by rfl) T.sorted (xq_im (xe_N (xn_lc (own := [("_law_shut", 3)]) (up := (uN 3 (qT qI))) rfl sclaw_rm_shuts.nd (xi_seq (xe_var (pv 1))) (blkOk_by (N := Nlaw_rm_shuts) (sc := defScope slaw_rm_shuts) (by decide +kernel)) rfl (fun _ => rfl) (fun _ _ _ _ _ => (xg_name (pg_name (i := 3) sclaw_rm_shuts.nd rfl (by first | exact .inl rfl | exact .inr rfl)))) (fun _ _ _ _ _ _ x18 => (xts_one (xt_chainD cd_lt cd_lt xe_int (xe_len (by rfl) T.len (xq_im (xe_var (pv 3)))) (xe_sub (xe_var (pv 0)) xe_int)))) (fun _ _ _ _ _ _ x18 => (xe_var (pv 3)))))))))))) sclaw_rm_shuts.nd rfl (.inl rfl) rfl rfl)
  case hg =>
    intro a
    simp only [m_law_rm_shuts, o_law_rm_shuts, w_law_rm_shuts, ofO_rt, ofO_rtN, ofO_bind, ofO_some, ofO_if, ofO_up, ofO_lc, ofO_lca, ofO_lc2, ofO_for, ofO_while, ofO_bindF, ofO_no, ofO_optM]
abbrev sis_whole2 : Stmt := top 7
abbrev Nis_whole2 : List Str := ["value"]
theorem scis_whole2 : FnScope ["value"] ["value"] (defScope sis_whole2) := ⟨rfl, rfl, rfl, by decide +kernel, rfl, by decide +kernel, by decide +kernel⟩
def w_is_whole2 (a : PyData × Unit) : W (Fl Bool Empty Unit) :=
  ((((W.ret a.1).bind fun x1 => (W.ret (isIntV x1))).bind fun p4 => (if p4 = true then (((W.ret a.1).bind fun x2 => (W.ret (isBoolV x2))).bind fun p3 => (W.ret (!p3))) else (W.ret false))).bind fun x5 => (W.ret (Fl.rt x5)))
def o_is_whole2 (a : PyData × Unit) : Option (Fl Bool Empty Unit) :=
  ((((some a.1).bind fun x1 => (some (isIntV x1))).bind fun p4 => (if p4 = true then (((some a.1).bind fun x2 => (some (isBoolV x2))).bind fun p3 => (some (!p3))) else (some false))).bind fun x5 => (some (Fl.rt x5)))
def m_is_whole2 (a : PyData × Unit) : Option Bool := rtO (o_is_whole2 a)
theorem k_is_whole2 {f : Addr} {fd : FuncData} (F : Fun K "is_whole" "is_whole" sis_whole2 f fd) (T : Txt K mg) : FnOk P w K mg base CX0 1 f fd ["value"] (SpF (pC qV p0).ra qB m_is_whole2) := by
  refine fn_okF (p := (pC qV p0)) (m := w_is_whole2) (pn := (fun z _ => nomatch z)) (pl := fun _ _ => []) (env := fun a => [.im qV a.1]) 0 F scis_whole2 rfl rfl (fun _ => rfl) ?hb ?hg
  case hb =>
    intro cdv A outer s H E hr C a hA
    unfold w_is_whole2
    exact (xs_ret (xe_andB (xe_isiV (f := isIntV) (n := "int") (by rfl) T.isinstance (xe_var (pv 0)) (by rfl) T.int (by decide +kernel) kInt) (xe_one (xe_not (xe_isiV (f := isBoolV) (n := "bool") (by rfl) T.isinstance (xe_var (pv 0)) (by rfl) T.bool (by decide +kernel) kBool)))))
  case hg =>
    intro a
    simp only [m_is_whole2, o_is_whole2, w_is_whole2, ofO_rt, ofO_rtN, ofO_bind, ofO_some, ofO_if, ofO_up, ofO_lc, ofO_lca, ofO_lc2, ofO_for, ofO_while, ofO_bindF, ofO_no, ofO_optM]
abbrev sis_integer2 : Stmt := top 8
abbrev Nis_integer2 : List Str := ["value"]
theorem scis_integer2 : FnScope ["value"] ["value"] (defScope sis_integer2) := ⟨rfl, rfl, rfl, by decide +kernel, rfl, by decide +kernel, by decide +kernel⟩
def w_is_integer2 (a : PyData × Unit) : W (Fl Bool Empty Unit) :=
  (((((W.ret a.1).bind fun x1 => ((W.ret ()).bind fun y2 => (W.ret (x1, y2)))).bind fun a3 => (ofO (m_is_whole2 a3))).bind fun p10 => (if p10 = true then (((W.ret (1000000000000000000000000000000000000000000000000000000000000 : Int)).bind fun p4 => (W.ret (-p4))).bind fun p6 => (((W.ret a.1).bind fun x5 => (ofO (eI.dec x5))).bind fun q7 => ((ofO (some (decide (p6 < q7)))).bind fun t9 => (if t9 = true then ((W.ret (1000000000000000000000000000000000000000000000000000000000000 : Int)).bind fun u8 => (ofO (some (decide (q7 < u8))))) else W.ret false)))) else (W.ret false))).bind fun x11 => (W.ret (Fl.rt x11)))
def o_is_integer2 (a : PyData × Unit) : Option (Fl Bool Empty Unit) :=
  (((((some a.1).bind fun x1 => ((some ()).bind fun y2 => (some (x1, y2)))).bind fun a3 => (m_is_whole2 a3)).bind fun p10 => (if p10 = true then (((some (1000000000000000000000000000000000000000000000000000000000000 : Int)).bind fun p4 => (some (-p4))).bind fun p6 => (((some a.1).bind fun x5 => (eI.dec x5)).bind fun q7 => ((some (decide (p6 < q7))).bind fun t9 => (if t9 = true then ((some (1000000000000000000000000000000000000000000000000000000000000 : Int)).bind fun u8 => (some (decide (q7 < u8)))) else some false)))) else (some false))).bind fun x11 => (some (Fl.rt x11)))
def m_is_integer2 (a : PyData × Unit) : Option Bool := rtO (o_is_integer2 a)
theorem k_is_integer2 {f : Addr} {fd : FuncData} (F : Fun K "is_integer" "is_integer" sis_integer2 f fd) (T : Txt K mg) (h_is_whole2 : Has P w K mg base "is_whole" 1 ["value"] (SpF (pC qV p0).ra qB m_is_whole2)) : FnOk P w K mg base CX0 2 f fd ["value"] (SpF (pC qV p0).ra qB m_is_integer2) := by
  refine fn_okF (p := (pC qV p0)) (m := w_is_integer2) (pn := (fun z _ => nomatch z)) (pl := fun _ _ => []) (env := fun a => [.im qV a.1]) 0 F scis_integer2 rfl rfl (fun _ => rfl) ?hb ?hg
  case hb =>
    intro cdv A outer s H E hr C a hA
    unfold w_is_integer2
    exact (xs_ret (xe_andB (xe_callH h_is_whole2 hr (by decide) (by rfl) (xa_cons (xe_var (pv 0)) xa_nil)) (xe_one (xe_chainD cd_lt cd_lt (xe_neg (xe_gintE (by rfl) T.g_FIRST_TOO_LONG_)) (xe_dec eI (xe_var (pv 0))) (xe_gintE (by rfl) T.g_FIRST_TOO_LONG_)))))
  case hg =>
    intro a
    simp only [m_is_integer2, o_is_integer2, w_is_integer2, ofO_rt, ofO_rtN, ofO_bind, ofO_some, ofO_if, ofO_up, ofO_lc, ofO_lca, ofO_lc2, ofO_for, ofO_while, ofO_bindF, ofO_no, ofO_optM]
abbrev sare_ends : Stmt := top 16
abbrev Nare_ends : List Str := ["value", "least", "most", "end"]
theorem scare_ends : FnScope ["value", "least", "most", "end"] ["value", "least", "most"] (defScope sare_ends) := ⟨rfl, rfl, rfl, by decide +kernel, rfl, by decide +kernel, by decide +kernel⟩
def w_are_ends (a : PyData × Int × Int × Unit) : W (Fl Bool Empty Unit) :=
  (((((W.ret a.1).bind fun x1 => (W.ret (isTupV x1))).bind fun b2 => (W.ret (!b2))).bind fun p10 => (if p10 = true then W.ret true else (((W.ret a.2.1).bind fun p5 => ((((W.ret a.1).bind fun x3 => (ofO ((eT eV).dec x3))).bind fun x4 => (W.ret (x4.length : Int))).bind fun q6 => ((ofO (some (decide (p5 ≤ q6)))).bind fun t8 => (if t8 = true then ((W.ret a.2.2.1).bind fun u7 => (ofO (some (decide (q6 ≤ u7))))) else W.ret false)))).bind fun b9 => (W.ret (!b9))))).bind fun b11 => (if b11 = true then upF ((W.ret false).bind fun x12 => (W.ret (Fl.rt x12))) else ((((((W.ret a.1).bind fun x13 => (ofO ((eT eV).dec x13))).bind fun xs23 => (lcW (fun (x14 : PyData) => (W.ret true)) (fun (x14 : PyData) => ((((W.ret x14).bind fun x15 => ((W.ret ()).bind fun y16 => (W.ret (x15, y16)))).bind fun a17 => (ofO (m_is_integer2 a17))).bind fun p22 => (if p22 = true then (((W.ret x14).bind fun x20 => (ofO (cleanO x20))).bind fun p18 => (((W.ret (0 : Int)).bind fun x21 => (W.ret (dI.d x21))).bind fun q19 => (ofO ((eqC p18 q19).bind fun b => some !b)))) else (W.ret false)))) xs23)).bind fun x24 => (W.ret (x24.all id))).bind fun p29 => (if p29 = true then ((((W.ret a.1).bind fun x25 => (ofO ((eT eI).dec x25))).bind fun x26 => (W.ret x26.sum)).bind fun p27 => ((W.ret (0 : Int)).bind fun q28 => (ofO (some (decide (p27 = q28)))))) else (W.ret false))).bind fun x30 => (W.ret (Fl.rt x30)))))
def o_are_ends (a : PyData × Int × Int × Unit) : Option (Fl Bool Empty Unit) :=
  (((((some a.1).bind fun x1 => (some (isTupV x1))).bind fun b2 => (some (!b2))).bind fun p10 => (if p10 = true then some true else (((some a.2.1).bind fun p5 => ((((some a.1).bind fun x3 => ((eT eV).dec x3)).bind fun x4 => (some (x4.length : Int))).bind fun q6 => ((some (decide (p5 ≤ q6))).bind fun t8 => (if t8 = true then ((some a.2.2.1).bind fun u7 => (some (decide (q6 ≤ u7)))) else some false)))).bind fun b9 => (some (!b9))))).bind fun b11 => (if b11 = true then upO ((some false).bind fun x12 => (some (Fl.rt x12))) else ((((((some a.1).bind fun x13 => ((eT eV).dec x13)).bind fun xs23 => (lcO (fun (x14 : PyData) => (some true)) (fun (x14 : PyData) => ((((some x14).bind fun x15 => ((some ()).bind fun y16 => (some (x15, y16)))).bind fun a17 => (m_is_integer2 a17)).bind fun p22 => (if p22 = true then (((some x14).bind fun x20 => (cleanO x20)).bind fun p18 => (((some (0 : Int)).bind fun x21 => (some (dI.d x21))).bind fun q19 => ((eqC p18 q19).bind fun b => some !b))) else (some false)))) xs23)).bind fun x24 => (some (x24.all id))).bind fun p29 => (if p29 = true then ((((some a.1).bind fun x25 => ((eT eI).dec x25)).bind fun x26 => (some x26.sum)).bind fun p27 => ((some (0 : Int)).bind fun q28 => (some (decide (p27 = q28))))) else (some false))).bind fun x30 => (some (Fl.rt x30)))))
def m_are_ends (a : PyData × Int × Int × Unit) : Option Bool := rtO (o_are_ends a)
theorem k_are_ends {f : Addr} {fd : FuncData} (F : Fun K "_are_ends" "_are_ends" sare_ends f fd) (T : Txt K mg) (h_is_integer2 : Has P w K mg base "is_integer" 2 ["value"] (SpF (pC qV p0).ra qB m_is_integer2)) : FnOk P w K mg base CX0 3 f fd ["value", "least", "most"] (SpF (pC qV (pC qI (pC qI p0))).ra qB m_are_ends) := by
  refine fn_okF (p := (pC qV (pC qI (pC qI p0)))) (m := w_are_ends) (pn := (fun z _ => nomatch z)) (pl := fun _ _ => []) (env := fun a => [.im qV a.1, .im qI a.2.1, .im qI a.2.2.1, .un]) 1 F scare_ends rfl rfl (fun _ => rfl) ?hb ?hg
  case hb =>
    intro cdv A outer s H E hr C a hA
    unfold w_are_ends
    exact (xs_ifx (PW.pt (xw_or (xt_not (xt_val (xe_isiV (f := isTupV) (n := "tuple") (by rfl) T.isinstance (xe_var (pv 0)) (by rfl) T.tuple (by decide +kernel) kTup))) (xw_or1 (xt_not (xt_chainD cd_le cd_le (xe_var (pv 1)) (xe_len (by rfl) T.len (xq_im (xe_dec (eT eV) (xe_var (pv 0))))) (xe_var (pv 2))))))) (xs_ret xe_bl) (xs_ret (xe_andB (xe_all rfl (by rfl) T.all (xq_im (xe_N (xn_lc (own := [("end", 3)]) (up := (uN 3 qV)) rfl scare_ends.nd (xi_seq (xe_dec (eT eV) (xe_var (pv 0)))) (blkOk_by (N := Nare_ends) (sc := defScope sare_ends) (by decide +kernel)) rfl (fun _ => rfl) (fun _ _ _ _ _ => (xg_name (pg_name (i := 3) scare_ends.nd rfl (by first | exact .inl rfl | exact .inr rfl)))) (fun _ _ _ _ _ _ x14 => xts_nil) (fun _ _ _ _ _ _ x14 => (xe_andB (xe_callH h_is_integer2 hr (by decide) (by rfl) (xa_cons (xe_var (pv 3)) xa_nil)) (xe_one (xe_cmpD (cd_neD hr.units) (xe_VD (xe_var (pv 3))) (xe_data dI xe_int) rfl)))))))) (xe_one (xe_cmpD cd_eqI (xe_sum rfl (by rfl) T.sum (xq_im (xe_dec (eT eI) (xe_var (pv 0))))) xe_int rfl)))))
  case hg =>
    intro a
    simp only [m_are_ends, o_are_ends, w_are_ends, ofO_rt, ofO_rtN, ofO_bind, ofO_some, ofO_if, ofO_up, ofO_lc, ofO_lca, ofO_lc2, ofO_for, ofO_while, ofO_bindF, ofO_no, ofO_optM]
abbrev scheck_ends : Stmt := top 17
abbrev Ncheck_ends : List Str := ["value"]
theorem sccheck_ends : FnScope ["value"] ["value"] (defScope scheck_ends) := ⟨rfl, rfl, rfl, by decide +kernel, rfl, by decide +kernel, by decide +kernel⟩
def w_check_ends (a : PyData × Unit) : W (Fl Unit Unit Unit) :=
  (((((W.ret a.1).bind fun x5 => (((W.ret (2 : Int)).bind fun x3 => (((W.ret (6 : Int)).bind fun x1 => ((W.ret ()).bind fun y2 => (W.ret (x1, y2)))).bind fun y4 => (W.ret (x3, y4)))).bind fun y6 => (W.ret (x5, y6)))).bind fun a7 => (ofO (m_are_ends a7))).bind fun b8 => (W.ret (!b8))).bind fun b9 => (if b9 = true then upF W.no else (W.ret (Fl.nx ()))))
def o_check_ends (a : PyData × Unit) : Option (Fl Unit Unit Unit) :=
  (((((some a.1).bind fun x5 => (((some (2 : Int)).bind fun x3 => (((some (6 : Int)).bind fun x1 => ((some ()).bind fun y2 => (some (x1, y2)))).bind fun y4 => (some (x3, y4)))).bind fun y6 => (some (x5, y6)))).bind fun a7 => (m_are_ends a7)).bind fun b8 => (some (!b8))).bind fun b9 => (if b9 = true then upO none else (some (Fl.nx ()))))
def m_check_ends (a : PyData × Unit) : Option Unit := rtNO (o_check_ends a)
theorem k_check_ends {f : Addr} {fd : FuncData} (F : Fun K "_check_ends" "_check_ends" scheck_ends f fd) (T : Txt K mg) (h_are_ends : Has P w K mg base "_are_ends" 3 ["value", "least", "most"] (SpF (pC qV (pC qI (pC qI p0))).ra qB m_are_ends)) : FnOk P w K mg base CX0 4 f fd ["value"] (SpF (pC qV p0).ra qN m_check_ends) := by
  refine fn_okN (p := (pC qV p0)) (m := w_check_ends) (pn := (fun _ g => [.un])) (pl := fun _ _ => []) (env := fun a => [.im qV a.1]) 0 F sccheck_ends rfl rfl (fun _ => rfl) ?hb ?hg
  case hb =>
    intro cdv A outer s H E hr C a hA
    unfold w_check_ends
    exact (xs_ifx (xt_not (xt_val (xe_callH h_are_ends hr (by decide) (by rfl) (xa_cons (xe_var (pv 0)) (xa_cons (xe_gintE (by rfl) T.g_LEAST_ENDS_) (xa_cons (xe_gintE (by rfl) T.MOST_ENDS_) xa_nil)))))) xs_never (xs_nil (fun _ => (.drop .nil))))
  case hg =>
    intro a
    simp only [m_check_ends, o_check_ends, w_check_ends, ofO_rt, ofO_rtN, ofO_bind, ofO_some, ofO_if, ofO_up, ofO_lc, ofO_lca, ofO_lc2, ofO_for, ofO_while, ofO_bindF, ofO_no, ofO_optM]
abbrev ssum_at : Stmt := top 21
abbrev Nsum_at : List Str := ["ends", "wall", "index"]
theorem scsum_at : FnScope ["ends", "wall", "index"] ["ends", "wall"] (defScope ssum_at) := ⟨rfl, rfl, rfl, by decide +kernel, rfl, by decide +kernel, by decide +kernel⟩
def w_sum_at (a : (List Int) × (List Int) × Unit) : W (Fl Int Empty Unit) :=
  ((((W.ret a.2.1).bind fun xs4 => (lcW (fun (x1 : Int) => (W.ret true)) (fun (x1 : Int) => ((W.ret a.1).bind fun x2 => ((W.ret x1).bind fun i3 => (ofO (L2.atI x2 i3))))) xs4)).bind fun x5 => (W.ret x5.sum)).bind fun x6 => (W.ret (Fl.rt x6)))
def o_sum_at (a : (List Int) × (List Int) × Unit) : Option (Fl Int Empty Unit) :=
  ((((some a.2.1).bind fun xs4 => (lcO (fun (x1 : Int) => (some true)) (fun (x1 : Int) => ((some a.1).bind fun x2 => ((some x1).bind fun i3 => (L2.atI x2 i3)))) xs4)).bind fun x5 => (some x5.sum)).bind fun x6 => (some (Fl.rt x6)))
def m_sum_at (a : (List Int) × (List Int) × Unit) : Option Int := rtO (o_sum_at a)
theorem k_sum_at {f : Addr} {fd : FuncData} (F : Fun K "_sum_at" "_sum_at" ssum_at f fd) (T : Txt K mg) : FnOk P w K mg base CX0 1 f fd ["ends", "wall"] (SpF (pC (qT qI) (pC (qT qI) p0)).ra qI m_sum_at) := by
  refine fn_okF (p := (pC (qT qI) (pC (qT qI) p0))) (m := w_sum_at) (pn := (fun z _ => nomatch z)) (pl := fun _ _ => []) (env := fun a => [.im (qT qI) a.1, .im (qT qI) a.2.1, .un]) 1 F scsum_at rfl rfl (fun _ => rfl) ?hb ?hg
  case hb =>
    intro cdv A outer s H E hr C a hA
    unfold w_sum_at
    exact (xs_ret (xe_sum rfl (by rfl) T.sum (xq_im (xe_N (xn_lc (own := [("index", 2)]) (up := (uN 2 qI)) rfl scsum_at.nd (xi_seq (xe_var (pv 1))) (blkOk_by (N := Nsum_at) (sc := defScope ssum_at) (by decide +kernel)) rfl (fun _ => rfl) (fun _ _ _ _ _ => (xg_name (pg_name (i := 2) scsum_at.nd rfl (by first | exact .inl rfl | exact .inr rfl)))) (fun _ _ _ _ _ _ x1 => xts_nil) (fun _ _ _ _ _ _ x1 => (xe_ix (xq_im (xe_var (pv 0))) (xe_var (pv 2)))))))))
  case hg =>
    intro a
    simp only [m_sum_at, o_sum_at, w_sum_at, ofO_rt, ofO_rtN, ofO_bind, ofO_some, ofO_if, ofO_up, ofO_lc, ofO_lca, ofO_lc2, ofO_for, ofO_while, ofO_bindF, ofO_no, ofO_optM]
abbrev slain_on : Stmt := top 22
abbrev Nlain_on : List Str := ["ends", "wall"]
theorem sclain_on : FnScope ["ends", "wall"] ["ends"] (defScope slain_on) := ⟨rfl, rfl, rfl, by decide +kernel, rfl, by decide +kernel, by decide +kernel⟩
def w_lain_on (a : (List Int) × Unit) : W (Fl (List (List Int)) Empty Unit) :=
  ((((((W.ret a.1).bind fun x1 => (W.ret (x1.length : Int))).bind fun x2 => ((W.ret ()).bind fun y3 => (W.ret (x2, y3)))).bind fun a4 => (ofO (m_walls_for a4))).bind fun xs13 => (lcW (fun (x5 : (List Int)) => ((((W.ret a.1).bind fun x8 => (((W.ret x5).bind fun x6 => ((W.ret ()).bind fun y7 => (W.ret (x6, y7)))).bind fun y9 => (W.ret (x8, y9)))).bind fun a10 => (ofO (m_sum_at a10))).bind fun p11 => ((W.ret (0 : Int)).bind fun q12 => (ofO (some (decide (p11 = q12))))))) (fun (x5 : (List Int)) => (W.ret x5)) xs13)).bind fun x14 => (W.ret (Fl.rt x14)))
def o_lain_on (a : (List Int) × Unit) : Option (Fl (List (List Int)) Empty Unit) :=
  ((((((some a.1).bind fun x1 => (some (x1.length : Int))).bind fun x2 => ((some ()).bind fun y3 => (some (x2, y3)))).bind fun a4 => (m_walls_for a4)).bind fun xs13 => (lcO (fun (x5 : (List Int)) => ((((some a.1).bind fun x8 => (((some x5).bind fun x6 => ((some ()).bind fun y7 => (some (x6, y7)))).bind fun y9 => (some (x8, y9)))).bind fun a10 => (m_sum_at a10)).bind fun p11 => ((some (0 : Int)).bind fun q12 => (some (decide (p11 = q12)))))) (fun (x5 : (List Int)) => (some x5)) xs13)).bind fun x14 => (some (Fl.rt x14)))
def m_lain_on (a : (List Int) × Unit) : Option (List (List Int)) := rtO (o_lain_on a)
theorem k_lain_on {f : Addr} {fd : FuncData} (F : Fun K "_lain_on" "_lain_on" slain_on f fd) (T : Txt K mg) (h_sum_at : Has P w K mg base "_sum_at" 1 ["ends", "wall"] (SpF (pC (qT qI) (pC (qT qI) p0)).ra qI m_sum_at)) (h_walls_for : Has P w K mg base "walls_for" 5 ["size"] (SpF (pC qI p0).ra (qT (qT qI)) m_walls_for)) : FnOk P w K mg base CX0 6 f fd ["ends"] (SpN (pC (qT qI) p0).ra (qT qI) m_lain_on) := by
  refine fn_okL (p := (pC (qT qI) p0)) (m := w_lain_on) (pn := (fun z _ => nomatch z)) (pl := fun _ _ => []) (env := fun a => [.im (qT qI) a.1, .un]) 1 F sclain_on rfl rfl (fun _ => rfl) ?hb ?hg
  case hb =>
    intro cdv A outer s H E hr C a hA
    unfold w_lain_on
    exact (xs_retN (xn_lc (own := [("wall", 1)]) (up := (uN 1 (qT qI))) rfl sclain_on.nd (xi_seq (xe_callH h_walls_for hr (by decide) (by rfl) (xa_cons (xe_len (by rfl) T.len (xq_im (xe_var (pv 0)))) xa_nil))) (blkOk_by (N := Nlain_on) (sc := defScope slain_on) (by decide +kernel)) rfl (fun _ => rfl) (fun _ _ _ _ _ => (xg_name (pg_name (i := 1) sclain_on.nd rfl (by first | exact .inl rfl | exact .inr rfl)))) (fun _ _ _ _ _ _ x5 => (xts_one (xt_cmpD cd_eqI (xe_callH h_sum_at hr (by decide) (by rfl) (xa_cons (xe_var (pv 0)) (xa_cons (xe_var (pv 1)) xa_nil))) xe_int rfl))) (fun _ _ _ _ _ _ x5 => (xe_var (pv 1)))))
  case hg =>
    intro a
    simp only [m_lain_on, o_lain_on, w_lain_on, ofO_rt, ofO_rtN, ofO_bind, ofO_some, ofO_if, ofO_up, ofO_lc, ofO_lca, ofO_lc2, ofO_for, ofO_while, ofO_bindF, ofO_no, ofO_optM]
abbrev sis_free : Stmt := top 19
abbrev Nis_free : List Str := ["ends"]
theorem scis_free : FnScope ["ends"] ["ends"] (defScope sis_free) := ⟨rfl, rfl, rfl, by decide +kernel, rfl, by decide +kernel, by decide +kernel⟩
def w_is_free (a : (List Int) × Unit) : W (Fl Bool Empty Unit) :=
  (((((W.ret a.1).bind fun x1 => (W.ret ((eT eI).enc x1))).bind fun x2 => ((W.ret ()).bind fun y3 => (W.ret (x2, y3)))).bind fun a4 => (ofO (m_check_ends a4))).bind fun _v5 => (((((W.ret a.1).bind fun x6 => ((W.ret ()).bind fun y7 => (W.ret (x6, y7)))).bind fun a8 => (ofO (m_lain_on a8))).bind fun p9 => ((W.ret ([] : List (List Int))).bind fun q10 => (ofO (some (PyData.eqv ((dL (dT dI)).d p9) ((dL (dT dI)).d q10)))))).bind fun x11 => (W.ret (Fl.rt x11))))
def o_is_free (a : (List Int) × Unit) : Option (Fl Bool Empty Unit) :=
  (((((some a.1).bind fun x1 => (some ((eT eI).enc x1))).bind fun x2 => ((some ()).bind fun y3 => (some (x2, y3)))).bind fun a4 => (m_check_ends a4)).bind fun _v5 => (((((some a.1).bind fun x6 => ((some ()).bind fun y7 => (some (x6, y7)))).bind fun a8 => (m_lain_on a8)).bind fun p9 => ((some ([] : List (List Int))).bind fun q10 => (some (PyData.eqv ((dL (dT dI)).d p9) ((dL (dT dI)).d q10))))).bind fun x11 => (some (Fl.rt x11))))
def m_is_free (a : (List Int) × Unit) : Option Bool := rtO (o_is_free a)
theorem k_is_free {f : Addr} {fd : FuncData} (F : Fun K "is_free" "is_free" sis_free f fd) (T : Txt K mg) (h_check_ends : Has P w K mg base "_check_ends" 4 ["value"] (SpF (pC qV p0).ra qN m_check_ends)) (h_lain_on : Has P w K mg base "_lain_on" 6 ["ends"] (SpN (pC (qT qI) p0).ra (qT qI) m_lain_on)) : FnOk P w K mg base CX0 7 f fd ["ends"] (SpF (pC (qT qI) p0).ra qB m_is_free) := by
  refine fn_okF (p := (pC (qT qI) p0)) (m := w_is_free) (pn := (fun z _ => nomatch z)) (pl := fun _ _ => []) (env := fun a => [.im (qT qI) a.1]) 0 F scis_free rfl rfl (fun _ => rfl) ?hb ?hg
  case hb =>
    intro cdv A outer s H E hr C a hA
    unfold w_is_free
    exact (xs_exp (xe_callH h_check_ends hr (by decide) (by rfl) (xa_cons (xe_enc (eT eI) (xe_var (pv 0))) xa_nil)) (fun _v5 => (xs_ret (xe_cmpD (cd_eq (dL (dT dI)) (dL (dT dI)) hr.units) (xe_N (xe_callL h_lain_on hr (by decide) (by rfl) (xa_cons (xe_var (pv 0)) xa_nil))) (xe_N (xn_nil (r := (qT qI)))) rfl))))
  case hg =>
    intro a
    simp only [m_is_free, o_is_free, w_is_free, ofO_rt, ofO_rtN, ofO_bind, ofO_some, ofO_if, ofO_up, ofO_lc, ofO_lca, ofO_lc2, ofO_for, ofO_while, ofO_bindF, ofO_no, ofO_optM]
abbrev slaw_rm_sum : Stmt := top 34
abbrev Nlaw_rm_sum : List Str := ["_law_ends", "_law_shut", "_law_at"]
theorem sclaw_rm_sum : FnScope ["_law_ends", "_law_shut", "_law_at"] ["_law_ends", "_law_shut"] (defScope slaw_rm_sum) := ⟨rfl, rfl, rfl, by decide +kernel, rfl, by decide +kernel, by decide +kernel⟩
def w_law_rm_sum (a : (List Int) × (List Int) × Unit) : W (Fl Int Empty Unit) :=
  ((((W.ret a.2.1).bind fun xs4 => (lcW (fun (x1 : Int) => (W.ret true)) (fun (x1 : Int) => ((W.ret a.1).bind fun x2 => ((W.ret x1).bind fun i3 => (ofO (L2.atI x2 i3))))) xs4)).bind fun x5 => (W.ret x5.sum)).bind fun x6 => (W.ret (Fl.rt x6)))
def o_law_rm_sum (a : (List Int) × (List Int) × Unit) : Option (Fl Int Empty Unit) :=
  ((((some a.2.1).bind fun xs4 => (lcO (fun (x1 : Int) => (some true)) (fun (x1 : Int) => ((some a.1).bind fun x2 => ((some x1).bind fun i3 => (L2.atI x2 i3)))) xs4)).bind fun x5 => (some x5.sum)).bind fun x6 => (some (Fl.rt x6)))
def m_law_rm_sum (a : (List Int) × (List Int) × Unit) : Option Int := rtO (o_law_rm_sum a)
theorem k_law_rm_sum {f : Addr} {fd : FuncData} (F : Fun K "_law_rm_sum" "_law_rm_sum" slaw_rm_sum f fd) (T : Txt K mg) : FnOk P w K mg base CX0 1 f fd ["_law_ends", "_law_shut"] (SpF (pC (qT qI) (pC (qT qI) p0)).ra qI m_law_rm_sum) := by
  refine fn_okF (p := (pC (qT qI) (pC (qT qI) p0))) (m := w_law_rm_sum) (pn := (fun z _ => nomatch z)) (pl := fun _ _ => []) (env := fun a => [.im (qT qI) a.1, .im (qT qI) a.2.1, .un]) 1 F sclaw_rm_sum rfl rfl (fun _ => rfl) ?hb ?hg
  case hb =>
    intro cdv A outer s H E hr C a hA
    unfold w_law_rm_sum
    exact (xs_ret (xe_sum rfl (by rfl) T.sum (xq_im (xe_N (xn_lc (own := [("_law_at", 2)]) (up := (uN 2 qI)) rfl sclaw_rm_sum.nd (xi_seq (xe_var (pv 1))) (blkOk_by (N := Nlaw_rm_sum) (sc := defScope slaw_rm_sum) (by decide +kernel)) rfl (fun _ => rfl) (fun _ _ _ _ _ => (xg_name (pg_name (i := 2) sclaw_rm_sum.nd rfl (by first | exact .inl rfl | exact .inr rfl)))) (fun _ _ _ _ _ _ x1 => xts_nil) (fun _ _ _ _ _ _ x1 => (xe_ix (xq_im (xe_var (pv 0))) (xe_var (pv 2)))))))))
  case hg =>
    intro a
    simp only [m_law_rm_sum, o_law_rm_sum, w_law_rm_sum, ofO_rt, ofO_rtN, ofO_bind, ofO_some, ofO_if, ofO_up, ofO_lc, ofO_lca, ofO_lc2, ofO_for, ofO_while, ofO_bindF, ofO_no, ofO_optM]
abbrev slaw_rm_is_free : Stmt := top 35
abbrev Nlaw_rm_is_free : List Str := ["_law_ends", "_law_shut"]
theorem sclaw_rm_is_free : FnScope ["_law_ends", "_law_shut"] ["_law_ends"] (defScope slaw_rm_is_free) := ⟨rfl, rfl, rfl, by decide +kernel, rfl, by decide +kernel, by decide +kernel⟩
def w_law_rm_is_free (a : (List Int) × Unit) : W (Fl Bool Empty Unit) :=
  (((((((W.ret a.1).bind fun x1 => (W.ret (x1.length : Int))).bind fun x2 => ((W.ret ()).bind fun y3 => (W.ret (x2, y3)))).bind fun a4 => (ofO (m_law_rm_shuts a4))).bind fun xs13 => (lcW (fun (x5 : (List Int)) => ((((W.ret a.1).bind fun x8 => (((W.ret x5).bind fun x6 => ((W.ret ()).bind fun y7 => (W.ret (x6, y7)))).bind fun y9 => (W.ret (x8, y9)))).bind fun a10 => (ofO (m_law_rm_sum a10))).bind fun p11 => ((W.ret (0 : Int)).bind fun q12 => (ofO (some (decide (p11 = q12))))))) (fun (x5 : (List Int)) => (W.ret x5)) xs13)).bind fun p14 => ((W.ret ([] : List (List Int))).bind fun q15 => (ofO (some (PyData.eqv ((dL (dT dI)).d p14) ((dL (dT dI)).d q15)))))).bind fun x16 => (W.ret (Fl.rt x16)))
def o_law_rm_is_free (a : (List Int) × Unit) : Option (Fl Bool Empty Unit) :=
  (((((((some a.1).bind fun x1 => (some (x1.length : Int))).bind fun x2 => ((some ()).bind fun y3 => (some (x2, y3)))).bind fun a4 => (m_law_rm_shuts a4)).bind fun xs13 => (lcO (fun (x5 : (List Int)) => ((((some a.1).bind fun x8 => (((some x5).bind fun x6 => ((some ()).bind fun y7 => (some (x6, y7)))).bind fun y9 => (some (x8, y9)))).bind fun a10 => (m_law_rm_sum a10)).bind fun p11 => ((some (0 : Int)).bind fun q12 => (some (decide (p11 = q12)))))) (fun (x5 : (List Int)) => (some x5)) xs13)).bind fun p14 => ((some ([] : List (List Int))).bind fun q15 => (some (PyData.eqv ((dL (dT dI)).d p14) ((dL (dT dI)).d q15))))).bind fun x16 => (some (Fl.rt x16)))
def m_law_rm_is_free (a : (List Int) × Unit) : Option Bool := rtO (o_law_rm_is_free a)
theorem k_law_rm_is_free {f : Addr} {fd : FuncData} (F : Fun K "_law_rm_is_free" "_law_rm_is_free" slaw_rm_is_free f fd) (T : Txt K mg) (h_law_rm_shuts : Has P w K mg base "_law_rm_shuts" 1 ["_law_size"] (SpF (pC qI p0).ra (qL (qT qI)) m_law_rm_shuts)) (h_law_rm_sum : Has P w K mg base "_law_rm_sum" 1 ["_law_ends", "_law_shut"] (SpF (pC (qT qI) (pC (qT qI) p0)).ra qI m_law_rm_sum)) : FnOk P w K mg base CX0 2 f fd ["_law_ends"] (SpF (pC (qT qI) p0).ra qB m_law_rm_is_free) := by
  refine fn_okF (p := (pC (qT qI) p0)) (m := w_law_rm_is_free) (pn := (fun z _ => nomatch z)) (pl := fun _ _ => []) (env := fun a => [.im (qT qI) a.1, .un]) 1 F sclaw_rm_is_free rfl rfl (fun _ => rfl) ?hb ?hg
  case hb =>
    intro cdv A outer s H E hr C a hA
    unfold w_law_rm_is_free
    exact (xs_ret (xe_cmpD (cd_eq (dL (dT dI)) (dL (dT dI)) hr.units) (xe_N (xn_lc (own := [("_law_shut", 1)]) (up := (uN 1 (qT qI))) rfl sclaw_rm_is_free.nd (xi_seq (xe_callH h_law_rm_shuts hr (by decide) (by rfl) (xa_cons (xe_len (by rfl) T.len (xq_im (xe_var (pv 0)))) xa_nil))) (blkOk_by (N := Nlaw_rm_is_free) (sc := defScope slaw_rm_is_free) (by decide +kernel)) rfl (fun _ => rfl) (fun _ _ _ _ _ => (xg_name (pg_name (i := 1) sclaw_rm_is_free.nd rfl (by first | exact .inl rfl | exact .inr rfl)))) (fun _ _ _ _ _ _ x5 => (xts_one (xt_cmpD cd_eqI (xe_callH h_law_rm_sum hr (by decide) (by rfl) (xa_cons (xe_var (pv 0)) (xa_cons (xe_var (pv 1)) xa_nil))) xe_int rfl))) (fun _ _ _ _ _ _ x5 => (xe_var (pv 1))))) (xe_N (xn_nil (r := (qT qI)))) rfl))
  case hg =>
    intro a
    simp only [m_law_rm_is_free, o_law_rm_is_free, w_law_rm_is_free, ofO_rt, ofO_rtN, ofO_bind, ofO_some, ofO_if, ofO_up, ofO_lc, ofO_lca, ofO_lc2, ofO_for, ofO_while, ofO_bindF, ofO_no, ofO_optM]
abbrev scheck_free : Stmt := top 18
theorem sccheck_free : FnScope ["ends"] ["ends"] (defScope scheck_free) := ⟨rfl, rfl, rfl, by decide +kernel, rfl, by decide +kernel, by decide +kernel⟩
def w1_check_free (a : (List Int) × Unit) : W Bool :=
  ((((W.ret a.1).bind fun x1 => ((W.ret ()).bind fun y2 => (W.ret (x1, y2)))).bind fun a3 => (ofO (m_lain_on a3))).bind fun p4 => ((W.ret ([] : List (List Int))).bind fun q5 => (ofO (some (!PyData.eqv ((dL (dT dI)).d p4) ((dL (dT dI)).d q5))))))
def o1_check_free (a : (List Int) × Unit) : Option Bool :=
  ((((some a.1).bind fun x1 => ((some ()).bind fun y2 => (some (x1, y2)))).bind fun a3 => (m_lain_on a3)).bind fun p4 => ((some ([] : List (List Int))).bind fun q5 => (some (!PyData.eqv ((dL (dT dI)).d p4) ((dL (dT dI)).d q5)))))
theorem e1_check_free (a : (List Int) × Unit) : w1_check_free a = ofO (o1_check_free a) := by
  simp only [w1_check_free, o1_check_free, ofO_rt, ofO_rtN, ofO_bind, ofO_some, ofO_if, ofO_up, ofO_lc, ofO_lca, ofO_lc2, ofO_for, ofO_while, ofO_bindF, ofO_no, ofO_optM]
def m_check_free (a : (List Int) × Unit) : Option (Option Unit) := (o1_check_free a).map fun b => if b = true then none else some ()
theorem k_check_free {f : Addr} {fd : FuncData} (F : Fun K "_check_free" "_check_free" scheck_free f fd) (T : Txt K mg) {c_InvalidOperation : Addr} (x_InvalidOperation : ExcT K mg "InvalidOperation" c_InvalidOperation) (h_lain_on : Has P w K mg base "_lain_on" 6 ["ends"] (SpN (pC (qT qI) p0).ra (qT qI) m_lain_on)) : FnOk P w K mg base (L2.CX P w) 7 f fd ["ends"] (SpX c_InvalidOperation (pC (qT qI) p0).ra qN m_check_free) := by
  refine fn_okRaise (p := (pC (qT qI) p0)) (env := fun a => [.im (qT qI) a.1]) 0 F sccheck_free rfl rfl rfl (fun _ => rfl) ?hX
  intro cdv A outer s H E hr X hX
  subst hX
  refine ⟨fun C a => ?_, rfl, "the ends lie on a wall", fun C a => ?_⟩
  · rw [← e1_check_free a]
    unfold w1_check_free
    exact (xt_cmpD (cd_ne (dL (dT dI)) (dL (dT dI)) hr.units) (xe_N (xe_callL h_lain_on hr (by decide) (by rfl) (xa_cons (xe_var (pv 0)) xa_nil))) (xe_N (xn_nil (r := (qT qI)))) rfl)
  · exact pmk_x x_InvalidOperation (by rfl) xe_str
abbrev sroom : Stmt := top 24
abbrev Nroom : List Str := ["ends", "signs", "end", "wall"]
theorem scroom : FnScope ["ends", "signs", "end", "wall"] ["ends"] (defScope sroom) := ⟨rfl, rfl, rfl, by decide +kernel, rfl, by decide +kernel, by decide +kernel⟩
def w_room (a : (List Int) × Unit) : W (Fl ((List Int) × (List (List Int))) Empty Unit) :=
  (((W.ret a.1).bind fun xs7 => (lcW (fun (x2 : Int) => (W.ret true)) (fun (x2 : Int) => (((W.ret x2).bind fun p3 => ((W.ret (0 : Int)).bind fun q4 => (ofO (some (decide (q4 < p3)))))).bind fun p6 => (if p6 = true then (W.ret (1 : Int)) else ((W.ret (1 : Int)).bind fun p5 => (W.ret (-p5)))))) xs7)).bind fun (v1 : (List Int)) => (((W.ret v1).bind fun x21 => ((((((W.ret a.1).bind fun x8 => (W.ret (x8.length : Int))).bind fun x9 => ((W.ret ()).bind fun y10 => (W.ret (x9, y10)))).bind fun a11 => (ofO (m_walls_for a11))).bind fun xs20 => (lcW (fun (x12 : (List Int)) => ((((W.ret a.1).bind fun x15 => (((W.ret x12).bind fun x13 => ((W.ret ()).bind fun y14 => (W.ret (x13, y14)))).bind fun y16 => (W.ret (x15, y16)))).bind fun a17 => (ofO (m_sum_at a17))).bind fun p18 => ((W.ret (0 : Int)).bind fun q19 => (ofO (some (decide (q19 < p18))))))) (fun (x12 : (List Int)) => (W.ret x12)) xs20)).bind fun x22 => (W.ret (x21, x22)))).bind fun x23 => (W.ret (Fl.rt x23))))
def o_room (a : (List Int) × Unit) : Option (Fl ((List Int) × (List (List Int))) Empty Unit) :=
  (((some a.1).bind fun xs7 => (lcO (fun (x2 : Int) => (some true)) (fun (x2 : Int) => (((some x2).bind fun p3 => ((some (0 : Int)).bind fun q4 => (some (decide (q4 < p3))))).bind fun p6 => (if p6 = true then (some (1 : Int)) else ((some (1 : Int)).bind fun p5 => (some (-p5)))))) xs7)).bind fun (v1 : (List Int)) => (((some v1).bind fun x21 => ((((((some a.1).bind fun x8 => (some (x8.length : Int))).bind fun x9 => ((some ()).bind fun y10 => (some (x9, y10)))).bind fun a11 => (m_walls_for a11)).bind fun xs20 => (lcO (fun (x12 : (List Int)) => ((((some a.1).bind fun x15 => (((some x12).bind fun x13 => ((some ()).bind fun y14 => (some (x13, y14)))).bind fun y16 => (some (x15, y16)))).bind fun a17 => (m_sum_at a17)).bind fun p18 => ((some (0 : Int)).bind fun q19 => (some (decide (q19 < p18)))))) (fun (x12 : (List Int)) => (some x12)) xs20)).bind fun x22 => (some (x21, x22)))).bind fun x23 => (some (Fl.rt x23))))
def m_room (a : (List Int) × Unit) : Option ((List Int) × (List (List Int))) := rtO (o_room a)
theorem k_room {f : Addr} {fd : FuncData} (F : Fun K "_room" "_room" sroom f fd) (T : Txt K mg) (h_sum_at : Has P w K mg base "_sum_at" 1 ["ends", "wall"] (SpF (pC (qT qI) (pC (qT qI) p0)).ra qI m_sum_at)) (h_walls_for : Has P w K mg base "walls_for" 5 ["size"] (SpF (pC qI p0).ra (qT (qT qI)) m_walls_for)) : FnOk P w K mg base CX0 6 f fd ["ends"] (SpF (pC (qT qI) p0).ra (qP (qT qI) (qT (qT qI))) m_room) := by
  refine fn_okF (p := (pC (qT qI) p0)) (m := w_room) (pn := (fun z _ => nomatch z)) (pl := fun _ _ => []) (env := fun a => [.im (qT qI) a.1, .un, .un, .un]) 3 F scroom rfl rfl (fun _ => rfl) ?hb ?hg
  case hb =>
    intro cdv A outer s H E hr C a hA
    unfold w_room
    exact (xs_set (i := 1) (xe_tuple (by rfl) T.tuple (xq_im (xe_N (xn_lc (own := [("end", 2)]) (up := (uN 2 qI)) rfl scroom.nd (xi_seq (xe_var (pv 0))) (blkOk_by (N := Nroom) (sc := defScope sroom) (by decide +kernel)) rfl (fun _ => rfl) (fun _ _ _ _ _ => (xg_name (pg_name (i := 2) scroom.nd rfl (by first | exact .inl rfl | exact .inr rfl)))) (fun _ _ _ _ _ _ x2 => xts_nil) (fun _ _ _ _ _ _ x2 => (xe_if (xt_cmpD cd_gt (xe_var (pv 2)) xe_int rfl) xe_int (xe_neg xe_int))))))) (fun v1 => (xs_ret (xe_tup2 (xe_var (pv 1)) (xe_tuple (by rfl) T.tuple (xq_im (xe_N (xn_lc (own := [("wall", 3)]) (up := (uN 3 (qT qI))) rfl scroom.nd (xi_seq (xe_callH h_walls_for hr (by decide) (by rfl) (xa_cons (xe_len (by rfl) T.len (xq_im (xe_var (pv 0)))) xa_nil))) (blkOk_by (N := Nroom) (sc := defScope sroom) (by decide +kernel)) rfl (fun _ => rfl) (fun _ _ _ _ _ => (xg_name (pg_name (i := 3) scroom.nd rfl (by first | exact .inl rfl | exact .inr rfl)))) (fun _ _ _ _ _ _ x12 => (xts_one (xt_cmpD cd_gt (xe_callH h_sum_at hr (by decide) (by rfl) (xa_cons (xe_var (pv 0)) (xa_cons (xe_var (pv 3)) xa_nil))) xe_int rfl))) (fun _ _ _ _ _ _ x12 => (xe_var (pv 3)))))))))) scroom.nd rfl (.inl rfl) rfl rfl)
  case hg =>
    intro a
    simp only [m_room, o_room, w_room, ofO_rt, ofO_rtN, ofO_bind, ofO_some, ofO_if, ofO_up, ofO_lc, ofO_lca, ofO_lc2, ofO_for, ofO_while, ofO_bindF, ofO_no, ofO_optM]
abbrev sroom_of : Stmt := top 23
theorem scroom_of : FnScope ["ends"] ["ends"] (defScope sroom_of) := ⟨rfl, rfl, rfl, by decide +kernel, rfl, by decide +kernel, by decide +kernel⟩
def w1_room_of (a : (List Int) × Unit) : W Unit :=
  ((((W.ret a.1).bind fun x1 => (W.ret ((eT eI).enc x1))).bind fun x2 => ((W.ret ()).bind fun y3 => (W.ret (x2, y3)))).bind fun a4 => (ofO (m_check_ends a4)))
def o1_room_of (a : (List Int) × Unit) : Option Unit :=
  ((((some a.1).bind fun x1 => (some ((eT eI).enc x1))).bind fun x2 => ((some ()).bind fun y3 => (some (x2, y3)))).bind fun a4 => (m_check_ends a4))
theorem e1_room_of (a : (List Int) × Unit) : w1_room_of a = ofO (o1_room_of a) := by
  simp only [w1_room_of, o1_room_of, ofO_rt, ofO_rtN, ofO_bind, ofO_some, ofO_if, ofO_up, ofO_lc, ofO_lca, ofO_lc2, ofO_for, ofO_while, ofO_bindF, ofO_no, ofO_optM]
def w2_room_of (a : (List Int) × Unit) : W ((List Int) × Unit) :=
  ((W.ret a.1).bind fun x5 => ((W.ret ()).bind fun y6 => (W.ret (x5, y6))))
def o2_room_of (a : (List Int) × Unit) : Option ((List Int) × Unit) :=
  ((some a.1).bind fun x5 => ((some ()).bind fun y6 => (some (x5, y6))))
theorem e2_room_of (a : (List Int) × Unit) : w2_room_of a = ofO (o2_room_of a) := by
  simp only [w2_room_of, o2_room_of, ofO_rt, ofO_rtN, ofO_bind, ofO_some, ofO_if, ofO_up, ofO_lc, ofO_lca, ofO_lc2, ofO_for, ofO_while, ofO_bindF, ofO_no, ofO_optM]
def w3_room_of (a : (List Int) × Unit) : W ((List Int) × (List (List Int))) :=
  (((W.ret a.1).bind fun x7 => ((W.ret ()).bind fun y8 => (W.ret (x7, y8)))).bind fun a9 => (ofO (m_room a9)))
def o3_room_of (a : (List Int) × Unit) : Option ((List Int) × (List (List Int))) :=
  (((some a.1).bind fun x7 => ((some ()).bind fun y8 => (some (x7, y8)))).bind fun a9 => (m_room a9))
theorem e3_room_of (a : (List Int) × Unit) : w3_room_of a = ofO (o3_room_of a) := by
  simp only [w3_room_of, o3_room_of, ofO_rt, ofO_rtN, ofO_bind, ofO_some, ofO_if, ofO_up, ofO_lc, ofO_lca, ofO_lc2, ofO_for, ofO_while, ofO_bindF, ofO_no, ofO_optM]
def i2_room_of (a : (List Int) × Unit) : (List Int) × Unit := (a.1, ())
def m_room_of (a : (List Int) × Unit) : Option (Option ((List Int) × (List (List Int)))) := (o1_room_of a).bind fun _ => (m_check_free (i2_room_of a)).bind fun o => match o with | none => some none | some _ => (o3_room_of a).map some
theorem k_room_of {f : Addr} {fd : FuncData} (F : Fun K "room_of" "room_of" sroom_of f fd) (T : Txt K mg) {c_InvalidOperation : Addr} (x_InvalidOperation : ExcT K mg "InvalidOperation" c_InvalidOperation) (h_check_ends : Has P w K mg base "_check_ends" 4 ["value"] (SpF (pC qV p0).ra qN m_check_ends)) (h_check_free : HasX P w K mg base "_check_free" 7 ["ends"] (SpX c_InvalidOperation (pC (qT qI) p0).ra qN m_check_free)) (h_room : Has P w K mg base "_room" 6 ["ends"] (SpF (pC (qT qI) p0).ra (qP (qT qI) (qT (qT qI))) m_room)) : FnOk P w K mg base (L2.CX P w) 8 f fd ["ends"] (SpX c_InvalidOperation (pC (qT qI) p0).ra (qP (qT qI) (qT (qT qI))) m_room_of) := by
  refine fn_okSeqX (p := (pC (qT qI) p0)) (env := fun a => [.im (qT qI) a.1]) (g2 := fun a => m_check_free (i2_room_of a)) 0 F scroom_of rfl rfl rfl (fun _ => rfl) ?hX
  intro cdv A outer s H E hr X hX
  subst hX
  refine ⟨fun C a => ?_, ⟨_, (pC (qT qI) p0).ra, m_check_free, i2_room_of, fun _ => rfl, fun C a => ?_⟩, fun C a => ?_, rfl, rfl⟩
  · rw [← e1_room_of a]
    unfold w1_room_of
    exact (xe_callH h_check_ends hr (by decide) (by rfl) (xa_cons (xe_enc (eT eI) (xe_var (pv 0))) xa_nil))
  · exact pe_callX h_check_free hr (by decide) takesX (by rfl) (xa_cons (xe_var (pv 0)) xa_nil)
  · rw [← e3_room_of a]
    unfold w3_room_of
    exact (xe_callH h_room hr (by decide) (by rfl) (xa_cons (xe_var (pv 0)) xa_nil))
abbrev slaw_room : Stmt := top 38
abbrev Nlaw_room : List Str := ["_law_ends"]
theorem sclaw_room : FnScope ["_law_ends"] ["_law_ends"] (defScope slaw_room) := ⟨rfl, rfl, rfl, by decide +kernel, rfl, by decide +kernel, by decide +kernel⟩
def w_law_room (a : (List Int) × Unit) : W (Fl PyData Empty Unit) :=
  (((((W.ret a.1).bind fun x1 => ((W.ret ()).bind fun y2 => (W.ret (x1, y2)))).bind fun a6 => (ofO ((m_room_of a6).map fun o => o.map (eP (eT eI) (eT (eT eI))).enc)).bind fun o7 => optM o7 (fun v => W.ret v) (((W.ret ("refused" : Str)).bind fun x3 => ((W.ret ("operation" : Str)).bind fun x4 => (W.ret (x3, x4)))).bind fun x5 => (W.ret ((eP eS eS).enc x5)))).bind fun v8 => (W.ret (Fl.rt v8))))
def o_law_room (a : (List Int) × Unit) : Option (Fl PyData Empty Unit) :=
  (((((some a.1).bind fun x1 => ((some ()).bind fun y2 => (some (x1, y2)))).bind fun a6 => ((m_room_of a6).map fun o => o.map (eP (eT eI) (eT (eT eI))).enc).bind fun o7 => optM o7 (fun v => some v) (((some ("refused" : Str)).bind fun x3 => ((some ("operation" : Str)).bind fun x4 => (some (x3, x4)))).bind fun x5 => (some ((eP eS eS).enc x5)))).bind fun v8 => (some (Fl.rt v8))))
def m_law_room (a : (List Int) × Unit) : Option PyData := rtO (o_law_room a)
theorem k_law_room {f : Addr} {fd : FuncData} (F : Fun K "_law_room" "_law_room" slaw_room f fd) (T : Txt K mg) {c_InvalidOperation : Addr} (x_InvalidOperation : ExcT K mg "InvalidOperation" c_InvalidOperation) (h_room_of : HasX P w K mg base "room_of" 8 ["ends"] (SpX c_InvalidOperation (pC (qT qI) p0).ra (qP (qT qI) (qT (qT qI))) m_room_of)) : FnOk P w K mg base CX0 9 f fd ["_law_ends"] (SpF (pC (qT qI) p0).ra qV m_law_room) := by
  refine fn_okF (p := (pC (qT qI) p0)) (m := w_law_room) (pn := (fun z _ => nomatch z)) (pl := fun _ _ => []) (env := fun a => [.im (qT qI) a.1]) 0 F sclaw_room rfl rfl (fun _ => rfl) ?hb ?hg
  case hb =>
    intro cdv A outer s H E hr C a hA
    unfold w_law_room
    exact (xs_tryX (eP (eT eI) (eT (eT eI))) h_room_of x_InvalidOperation (by rfl) rfl rfl hr (by decide) (by rfl) (fun pn xe => (xa_cons (xe_var (pv 0)) xa_nil)) (fun a pn => (xe_enc (eP eS eS) (xe_tup2 xe_str xe_str))))
  case hg =>
    intro a
    simp only [m_law_room, o_law_room, w_law_room, ofO_rt, ofO_rtN, ofO_bind, ofO_some, ofO_if, ofO_up, ofO_lc, ofO_lca, ofO_lc2, ofO_for, ofO_while, ofO_bindF, ofO_no, ofO_optM]
abbrev slaw_rm_room : Stmt := top 36
abbrev Nlaw_rm_room : List Str := ["_law_ends", "_law_signs", "_law_end", "_law_shut"]
theorem sclaw_rm_room : FnScope ["_law_ends", "_law_signs", "_law_end", "_law_shut"] ["_law_ends"] (defScope slaw_rm_room) := ⟨rfl, rfl, rfl, by decide +kernel, rfl, by decide +kernel, by decide +kernel⟩
def w_law_rm_room (a : (List Int) × Unit) : W (Fl ((List Int) × (List (List Int))) Empty Unit) :=
  (((W.ret a.1).bind fun xs7 => (lcW (fun (x2 : Int) => (W.ret true)) (fun (x2 : Int) => (((W.ret x2).bind fun p3 => ((W.ret (0 : Int)).bind fun q4 => (ofO (some (decide (q4 < p3)))))).bind fun p6 => (if p6 = true then (W.ret (1 : Int)) else ((W.ret (1 : Int)).bind fun p5 => (W.ret (-p5)))))) xs7)).bind fun (v1 : (List Int)) => (((W.ret v1).bind fun x21 => ((((((W.ret a.1).bind fun x8 => (W.ret (x8.length : Int))).bind fun x9 => ((W.ret ()).bind fun y10 => (W.ret (x9, y10)))).bind fun a11 => (ofO (m_law_rm_shuts a11))).bind fun xs20 => (lcW (fun (x12 : (List Int)) => ((((W.ret a.1).bind fun x15 => (((W.ret x12).bind fun x13 => ((W.ret ()).bind fun y14 => (W.ret (x13, y14)))).bind fun y16 => (W.ret (x15, y16)))).bind fun a17 => (ofO (m_law_rm_sum a17))).bind fun p18 => ((W.ret (0 : Int)).bind fun q19 => (ofO (some (decide (q19 < p18))))))) (fun (x12 : (List Int)) => (W.ret x12)) xs20)).bind fun x22 => (W.ret (x21, x22)))).bind fun x23 => (W.ret (Fl.rt x23))))
def o_law_rm_room (a : (List Int) × Unit) : Option (Fl ((List Int) × (List (List Int))) Empty Unit) :=
  (((some a.1).bind fun xs7 => (lcO (fun (x2 : Int) => (some true)) (fun (x2 : Int) => (((some x2).bind fun p3 => ((some (0 : Int)).bind fun q4 => (some (decide (q4 < p3))))).bind fun p6 => (if p6 = true then (some (1 : Int)) else ((some (1 : Int)).bind fun p5 => (some (-p5)))))) xs7)).bind fun (v1 : (List Int)) => (((some v1).bind fun x21 => ((((((some a.1).bind fun x8 => (some (x8.length : Int))).bind fun x9 => ((some ()).bind fun y10 => (some (x9, y10)))).bind fun a11 => (m_law_rm_shuts a11)).bind fun xs20 => (lcO (fun (x12 : (List Int)) => ((((some a.1).bind fun x15 => (((some x12).bind fun x13 => ((some ()).bind fun y14 => (some (x13, y14)))).bind fun y16 => (some (x15, y16)))).bind fun a17 => (m_law_rm_sum a17)).bind fun p18 => ((some (0 : Int)).bind fun q19 => (some (decide (q19 < p18)))))) (fun (x12 : (List Int)) => (some x12)) xs20)).bind fun x22 => (some (x21, x22)))).bind fun x23 => (some (Fl.rt x23))))
def m_law_rm_room (a : (List Int) × Unit) : Option ((List Int) × (List (List Int))) := rtO (o_law_rm_room a)
theorem k_law_rm_room {f : Addr} {fd : FuncData} (F : Fun K "_law_rm_room" "_law_rm_room" slaw_rm_room f fd) (T : Txt K mg) (h_law_rm_shuts : Has P w K mg base "_law_rm_shuts" 1 ["_law_size"] (SpF (pC qI p0).ra (qL (qT qI)) m_law_rm_shuts)) (h_law_rm_sum : Has P w K mg base "_law_rm_sum" 1 ["_law_ends", "_law_shut"] (SpF (pC (qT qI) (pC (qT qI) p0)).ra qI m_law_rm_sum)) : FnOk P w K mg base CX0 2 f fd ["_law_ends"] (SpF (pC (qT qI) p0).ra (qP (qT qI) (qT (qT qI))) m_law_rm_room) := by
  refine fn_okF (p := (pC (qT qI) p0)) (m := w_law_rm_room) (pn := (fun z _ => nomatch z)) (pl := fun _ _ => []) (env := fun a => [.im (qT qI) a.1, .un, .un, .un]) 3 F sclaw_rm_room rfl rfl (fun _ => rfl) ?hb ?hg
  case hb =>
    intro cdv A outer s H E hr C a hA
    unfold w_law_rm_room
    exact (xs_set (i := 1) (xe_tuple (by rfl) T.tuple (xq_im (xe_N (xn_lc (own := [("_law_end", 2)]) (up := (uN 2 qI)) rfl sclaw_rm_room.nd (xi_seq (xe_var (pv 0))) (blkOk_by (N := Nlaw_rm_room) (sc := defScope slaw_rm_room) (by decide +kernel)) rfl (fun _ => rfl) (fun _ _ _ _ _ => (xg_name (pg_name (i := 2) sclaw_rm_room.nd rfl (by first | exact .inl rfl | exact .inr rfl)))) (fun _ _ _ _ _ _ x2 => xts_nil) (fun _ _ _ _ _ _ x2 => (xe_if (xt_cmpD cd_gt (xe_var (pv 2)) xe_int rfl) xe_int (xe_neg xe_int))))))) (fun v1 => (xs_ret (xe_tup2 (xe_var (pv 1)) (xe_tuple (by rfl) T.tuple (xq_im (xe_N (xn_lc (own := [("_law_shut", 3)]) (up := (uN 3 (qT qI))) rfl sclaw_rm_room.nd (xi_seq (xe_callH h_law_rm_shuts hr (by decide) (by rfl) (xa_cons (xe_len (by rfl) T.len (xq_im (xe_var (pv 0)))) xa_nil))) (blkOk_by (N := Nlaw_rm_room) (sc := defScope slaw_rm_room) (by decide +kernel)) rfl (fun _ => rfl) (fun _ _ _ _ _ => (xg_name (pg_name (i := 3) sclaw_rm_room.nd rfl (by first | exact .inl rfl | exact .inr rfl)))) (fun _ _ _ _ _ _ x12 => (xts_one (xt_cmpD cd_gt (xe_callH h_law_rm_sum hr (by decide) (by rfl) (xa_cons (xe_var (pv 0)) (xa_cons (xe_var (pv 3)) xa_nil))) xe_int rfl))) (fun _ _ _ _ _ _ x12 => (xe_var (pv 3)))))))))) sclaw_rm_room.nd rfl (.inl rfl) rfl rfl)
  case hg =>
    intro a
    simp only [m_law_rm_room, o_law_rm_room, w_law_rm_room, ofO_rt, ofO_rtN, ofO_bind, ofO_some, ofO_if, ofO_up, ofO_lc, ofO_lca, ofO_lc2, ofO_for, ofO_while, ofO_bindF, ofO_no, ofO_optM]
abbrev slaw_values : Stmt := top 39
abbrev Nlaw_values : List Str := ["_law_dice_here", "_law_ends", "_law_found", "_law_odd", "_law_at", "_law_many", "_law_genus"]
theorem sclaw_values : FnScope ["_law_dice_here", "_law_ends", "_law_found", "_law_odd", "_law_at", "_law_many", "_law_genus"] ["_law_dice_here", "_law_ends"] (defScope slaw_values) := ⟨rfl, rfl, rfl, by decide +kernel, rfl, by decide +kernel, by decide +kernel⟩
def w_law_values (a : (List Int) × Unit) : W (Fl (List (PyData × (List Int))) Empty Unit) :=
  ((((((W.ret a.1).bind fun x1 => (W.ret (x1.length : Int))).bind fun x2 => ((W.ret ()).bind fun y3 => (W.ret (x2, y3)))).bind fun a4 => (m_law_roll a4)).bind fun x6 => (((W.ret a.1).bind fun x5 => (W.ret (x5.length : Int))).bind fun x7 => (W.ret (x6, x7)))).bind fun (v8 : (Int × Int)) => ((((((W.ret a.1).bind fun x10 => (W.ret ((eT eI).enc x10))).bind fun x27 => (((((W.ret (0 : Int)).bind fun x11 => ((W.ret (1 : Int)).bind fun x12 => (W.ret (x11, x12)))).bind fun x13 => (W.ret [x13.1, x13.2])).bind fun xs26 => (lcW (fun (x14 : Int) => ((((W.ret x14).bind fun p15 => ((W.ret (0 : Int)).bind fun q16 => (ofO (some (decide (p15 = q16)))))).bind fun p19 => (if p19 = true then ((W.ret v8.2).bind fun p17 => ((W.ret (2 : Int)).bind fun q18 => (ofO (some (decide (q18 < p17)))))) else W.ret false)).bind fun p25 => (if p25 = true then W.ret true else (((W.ret x14).bind fun p20 => ((W.ret (1 : Int)).bind fun q21 => (ofO (some (decide (p20 = q21)))))).bind fun p24 => (if p24 = true then ((W.ret v8.2).bind fun p22 => ((W.ret (5 : Int)).bind fun q23 => (ofO (some (decide (p22 < q23)))))) else W.ret false))))) (fun (x14 : Int) => (W.ret x14)) xs26)).bind fun x28 => (W.ret (x27, x28)))).bind fun x29 => ((W.ret []).bind fun y30 => (W.ret (x29 :: y30)))).bind fun x31 => (ofO (lenK x31))).bind fun (v9 : (List (PyData × (List Int)))) => (((((W.ret (0 : Int)).bind fun x44 => (W.ret (eI.enc x44))).bind fun x60 => ((((W.ret ()).bind fun x45 => (W.ret (eN.enc x45))).bind fun x58 => ((((W.ret true).bind fun x46 => (W.ret (eB.enc x46))).bind fun x56 => ((((W.ret ("1" : Str)).bind fun x47 => (W.ret (eS.enc x47))).bind fun x54 => ((((((W.ret a.1).bind fun x32 => ((W.ret v8.1).bind fun i33 => (ofO (L2.atI x32 i33)))).bind fun p34 => ((W.ret (1 : Int)).bind fun q35 => (W.ret (p34 + q35)))).bind fun x48 => (W.ret (eI.enc x48))).bind fun x52 => (((((W.ret (10 : Int)).bind fun p36 => ((W.ret (60 : Int)).bind fun q37 => (ofO (powC p36 q37)))).bind fun x49 => (W.ret (eI.enc x49))).bind fun x50 => ((W.ret []).bind fun y51 => (W.ret (x50 :: y51)))).bind fun y53 => (W.ret (x52 :: y53)))).bind fun y55 => (W.ret (x54 :: y55)))).bind fun y57 => (W.ret (x56 :: y57)))).bind fun y59 => (W.ret (x58 :: y59)))).bind fun y61 => (W.ret (x60 :: y61)))).bind fun x62 => (ofO (lenK x62))).bind fun xs161 => bindF (forL (fun (s63 : (List (PyData × (List Int)))) (x64 : PyData) => ((((((((W.ret a.1).bind fun x68 => ((W.ret (none : Option Int)).bind fun l69 => (((W.ret v8.1).bind fun x67 => (W.ret (some x67))).bind fun h70 => (W.ret (cutL x68 l69 h70))))).bind fun x72 => (W.ret (x72.map eI.enc))).bind fun p73 => (((W.ret x64).bind fun x71 => (W.ret [x71])).bind fun q74 => (ofO (catC p73 q74)))).bind fun p82 => ((((W.ret a.1).bind fun x78 => ((((W.ret v8.1).bind fun p75 => ((W.ret (1 : Int)).bind fun q76 => (W.ret (p75 + q76)))).bind fun x77 => (W.ret (some x77))).bind fun l79 => ((W.ret (none : Option Int)).bind fun h80 => (W.ret (cutL x78 l79 h80))))).bind fun x81 => (W.ret (x81.map eI.enc))).bind fun q83 => (ofO (catC p82 q83)))).bind fun x84 => (W.ret ((eT eV).enc x84))).bind fun x85 => ((W.ret ([] : List Int)).bind fun x86 => (W.ret (x85, x86)))).bind fun v65 => ((ofO (addO s63 v65)).bind fun (l66 : (List (PyData × (List Int)))) => (W.ret (Fl.nx l66))))) xs161 v9) (fun (s63 : (List (PyData × (List Int)))) => (((W.ret s63).bind fun p158 => ((((((W.ret a.1).bind fun x87 => (W.ret ((eL eI).enc x87))).bind fun x88 => ((W.ret ([] : List Int)).bind fun x89 => (W.ret (x88, x89)))).bind fun x155 => (((((W.ret ([] : List Int)).bind fun x90 => (W.ret ((eT eI).enc x90))).bind fun x91 => ((W.ret ([] : List Int)).bind fun x92 => (W.ret (x91, x92)))).bind fun x153 => (((((W.ret ()).bind fun x93 => (W.ret (eN.enc x93))).bind fun x94 => ((W.ret ([] : List Int)).bind fun x95 => (W.ret (x94, x95)))).bind fun x151 => (((((((W.ret (1 : Int)).bind fun x118 => ((((W.ret (1 : Int)).bind fun p96 => (W.ret (-p96))).bind fun x116 => (((W.ret (1 : Int)).bind fun x114 => ((((W.ret (1 : Int)).bind fun p97 => (W.ret (-p97))).bind fun x112 => (((W.ret (1 : Int)).bind fun x110 => ((((W.ret (1 : Int)).bind fun p98 => (W.ret (-p98))).bind fun x108 => (((W.ret (0 : Int)).bind fun x106 => ((W.ret []).bind fun y107 => (W.ret (x106 :: y107)))).bind fun y109 => (W.ret (x108 :: y109)))).bind fun y111 => (W.ret (x110 :: y111)))).bind fun y113 => (W.ret (x112 :: y113)))).bind fun y115 => (W.ret (x114 :: y115)))).bind fun y117 => (W.ret (x116 :: y117)))).bind fun y119 => (W.ret (x118 :: y119)))).bind fun x120 => (ofO (lenK x120))).bind fun x121 => (W.ret ((eT eI).enc x121))).bind fun x122 => ((W.ret ([] : List Int)).bind fun x123 => (W.ret (x122, x123)))).bind fun x149 => ((((((((W.ret (1 : Int)).bind fun x125 => (((W.ret (1 : Int)).bind fun p124 => (W.ret (-p124))).bind fun x126 => (W.ret (x125, x126)))).bind fun x127 => (W.ret [x127.1, x127.2])).bind fun x128 => ((W.ret (4 : Int)).bind fun k129 => (ofO (repT x128 k129)))).bind fun x130 => (W.ret ((eT eI).enc x130))).bind fun x131 => ((W.ret ([] : List Int)).bind fun x132 => (W.ret (x131, x132)))).bind fun x147 => (((((W.ret ("12" : Str)).bind fun x133 => (W.ret (eS.enc x133))).bind fun x134 => ((W.ret ([] : List Int)).bind fun x135 => (W.ret (x134, x135)))).bind fun x145 => (((((W.ret (5 : Int)).bind fun x136 => (W.ret (eI.enc x136))).bind fun x137 => ((W.ret ([] : List Int)).bind fun x138 => (W.ret (x137, x138)))).bind fun x143 => ((((W.ret (PyData.dict [])).bind fun x139 => ((W.ret ([] : List Int)).bind fun x140 => (W.ret (x139, x140)))).bind fun x141 => ((W.ret []).bind fun y142 => (W.ret (x141 :: y142)))).bind fun y144 => (W.ret (x143 :: y144)))).bind fun y146 => (W.ret (x145 :: y146)))).bind fun y148 => (W.ret (x147 :: y148)))).bind fun y150 => (W.ret (x149 :: y150)))).bind fun y152 => (W.ret (x151 :: y152)))).bind fun y154 => (W.ret (x153 :: y154)))).bind fun y156 => (W.ret (x155 :: y156)))).bind fun x157 => (ofO (lenK x157))).bind fun q159 => (ofO (catC p158 q159)))).bind fun x160 => (W.ret (Fl.rt x160)))))))
def p_law_values (a : (List Int) × Unit) (v8 : (Int × Int)) : Option (Fl (List (PyData × (List Int))) Empty Unit) :=
  ((((((some a.1).bind fun x10 => (some ((eT eI).enc x10))).bind fun x27 => (((((some (0 : Int)).bind fun x11 => ((some (1 : Int)).bind fun x12 => (some (x11, x12)))).bind fun x13 => (some [x13.1, x13.2])).bind fun xs26 => (lcO (fun (x14 : Int) => ((((some x14).bind fun p15 => ((some (0 : Int)).bind fun q16 => (some (decide (p15 = q16))))).bind fun p19 => (if p19 = true then ((some v8.2).bind fun p17 => ((some (2 : Int)).bind fun q18 => (some (decide (q18 < p17))))) else some false)).bind fun p25 => (if p25 = true then some true else (((some x14).bind fun p20 => ((some (1 : Int)).bind fun q21 => (some (decide (p20 = q21))))).bind fun p24 => (if p24 = true then ((some v8.2).bind fun p22 => ((some (5 : Int)).bind fun q23 => (some (decide (p22 < q23))))) else some false))))) (fun (x14 : Int) => (some x14)) xs26)).bind fun x28 => (some (x27, x28)))).bind fun x29 => ((some []).bind fun y30 => (some (x29 :: y30)))).bind fun x31 => (lenK x31)).bind fun (v9 : (List (PyData × (List Int)))) => (((((some (0 : Int)).bind fun x44 => (some (eI.enc x44))).bind fun x60 => ((((some ()).bind fun x45 => (some (eN.enc x45))).bind fun x58 => ((((some true).bind fun x46 => (some (eB.enc x46))).bind fun x56 => ((((some ("1" : Str)).bind fun x47 => (some (eS.enc x47))).bind fun x54 => ((((((some a.1).bind fun x32 => ((some v8.1).bind fun i33 => (L2.atI x32 i33))).bind fun p34 => ((some (1 : Int)).bind fun q35 => (some (p34 + q35)))).bind fun x48 => (some (eI.enc x48))).bind fun x52 => (((((some (10 : Int)).bind fun p36 => ((some (60 : Int)).bind fun q37 => (powC p36 q37))).bind fun x49 => (some (eI.enc x49))).bind fun x50 => ((some []).bind fun y51 => (some (x50 :: y51)))).bind fun y53 => (some (x52 :: y53)))).bind fun y55 => (some (x54 :: y55)))).bind fun y57 => (some (x56 :: y57)))).bind fun y59 => (some (x58 :: y59)))).bind fun y61 => (some (x60 :: y61)))).bind fun x62 => (lenK x62)).bind fun xs161 => bindFO (forO (fun (s63 : (List (PyData × (List Int)))) (x64 : PyData) => ((((((((some a.1).bind fun x68 => ((some (none : Option Int)).bind fun l69 => (((some v8.1).bind fun x67 => (some (some x67))).bind fun h70 => (some (cutL x68 l69 h70))))).bind fun x72 => (some (x72.map eI.enc))).bind fun p73 => (((some x64).bind fun x71 => (some [x71])).bind fun q74 => (catC p73 q74))).bind fun p82 => ((((some a.1).bind fun x78 => ((((some v8.1).bind fun p75 => ((some (1 : Int)).bind fun q76 => (some (p75 + q76)))).bind fun x77 => (some (some x77))).bind fun l79 => ((some (none : Option Int)).bind fun h80 => (some (cutL x78 l79 h80))))).bind fun x81 => (some (x81.map eI.enc))).bind fun q83 => (catC p82 q83))).bind fun x84 => (some ((eT eV).enc x84))).bind fun x85 => ((some ([] : List Int)).bind fun x86 => (some (x85, x86)))).bind fun v65 => ((addO s63 v65).bind fun (l66 : (List (PyData × (List Int)))) => (some (Fl.nx l66))))) xs161 v9) (fun (s63 : (List (PyData × (List Int)))) => (((some s63).bind fun p158 => ((((((some a.1).bind fun x87 => (some ((eL eI).enc x87))).bind fun x88 => ((some ([] : List Int)).bind fun x89 => (some (x88, x89)))).bind fun x155 => (((((some ([] : List Int)).bind fun x90 => (some ((eT eI).enc x90))).bind fun x91 => ((some ([] : List Int)).bind fun x92 => (some (x91, x92)))).bind fun x153 => (((((some ()).bind fun x93 => (some (eN.enc x93))).bind fun x94 => ((some ([] : List Int)).bind fun x95 => (some (x94, x95)))).bind fun x151 => (((((((some (1 : Int)).bind fun x118 => ((((some (1 : Int)).bind fun p96 => (some (-p96))).bind fun x116 => (((some (1 : Int)).bind fun x114 => ((((some (1 : Int)).bind fun p97 => (some (-p97))).bind fun x112 => (((some (1 : Int)).bind fun x110 => ((((some (1 : Int)).bind fun p98 => (some (-p98))).bind fun x108 => (((some (0 : Int)).bind fun x106 => ((some []).bind fun y107 => (some (x106 :: y107)))).bind fun y109 => (some (x108 :: y109)))).bind fun y111 => (some (x110 :: y111)))).bind fun y113 => (some (x112 :: y113)))).bind fun y115 => (some (x114 :: y115)))).bind fun y117 => (some (x116 :: y117)))).bind fun y119 => (some (x118 :: y119)))).bind fun x120 => (lenK x120)).bind fun x121 => (some ((eT eI).enc x121))).bind fun x122 => ((some ([] : List Int)).bind fun x123 => (some (x122, x123)))).bind fun x149 => ((((((((some (1 : Int)).bind fun x125 => (((some (1 : Int)).bind fun p124 => (some (-p124))).bind fun x126 => (some (x125, x126)))).bind fun x127 => (some [x127.1, x127.2])).bind fun x128 => ((some (4 : Int)).bind fun k129 => (repT x128 k129))).bind fun x130 => (some ((eT eI).enc x130))).bind fun x131 => ((some ([] : List Int)).bind fun x132 => (some (x131, x132)))).bind fun x147 => (((((some ("12" : Str)).bind fun x133 => (some (eS.enc x133))).bind fun x134 => ((some ([] : List Int)).bind fun x135 => (some (x134, x135)))).bind fun x145 => (((((some (5 : Int)).bind fun x136 => (some (eI.enc x136))).bind fun x137 => ((some ([] : List Int)).bind fun x138 => (some (x137, x138)))).bind fun x143 => ((((some (PyData.dict [])).bind fun x139 => ((some ([] : List Int)).bind fun x140 => (some (x139, x140)))).bind fun x141 => ((some []).bind fun y142 => (some (x141 :: y142)))).bind fun y144 => (some (x143 :: y144)))).bind fun y146 => (some (x145 :: y146)))).bind fun y148 => (some (x147 :: y148)))).bind fun y150 => (some (x149 :: y150)))).bind fun y152 => (some (x151 :: y152)))).bind fun y154 => (some (x153 :: y154)))).bind fun y156 => (some (x155 :: y156)))).bind fun x157 => (lenK x157)).bind fun q159 => (catC p158 q159))).bind fun x160 => (some (Fl.rt x160))))))
theorem s_law_values (a : (List Int) × Unit) : w_law_values a = ((((((W.ret a.1).bind fun x1 => (W.ret (x1.length : Int))).bind fun x2 => ((W.ret ()).bind fun y3 => (W.ret (x2, y3)))).bind fun a4 => (m_law_roll a4)).bind fun x6 => (((W.ret a.1).bind fun x5 => (W.ret (x5.length : Int))).bind fun x7 => (W.ret (x6, x7))))).bind fun v8 => ofO (p_law_values a v8) := by
  simp only [w_law_values, p_law_values, ofO_rt, ofO_rtN, ofO_bind, ofO_some, ofO_if, ofO_up, ofO_lc, ofO_lca, ofO_lc2, ofO_for, ofO_while, ofO_bindF, ofO_no, ofO_optM]
def m_law_values (a : (List Int) × Unit) : W (List (PyData × (List Int))) := rtOf (w_law_values a)
theorem k_law_values {f : Addr} {fd : FuncData} (F : Fun K "_law_values" "_law_values" slaw_values f fd) (T : Txt K mg) (h_law_roll : Has P w K mg base "_law_roll" 1 ["_law_dice_here", "_law_total"] (SpD (pC qI p0).ra qI m_law_roll)) : FnOk P w K mg base CX0 2 f fd ["_law_dice_here", "_law_ends"] (SpD (pC (qT qI) p0).ra (qL (qP qV (qL qI))) m_law_values) := by
  refine fn_okD (p := (pC (qT qI) p0)) (m := w_law_values) (pn := (fun z _ => nomatch z)) (pl := fun _ _ => []) (env := fun a => [.im (qT qI) a.1, .un, .un, .un, .un, .un]) 5 F sclaw_values rfl rfl (fun _ => rfl) ?hb ?hg
  case hb =>
    intro cdv A outer s H E hr C d a hA
    unfold w_law_values
    exact (xs_asg (up := (uP (uN 4 qI) (uN 5 qI))) (xe_tup2 (xe_callDH h_law_roll hr (by decide) (by rfl) (pv 0) (xa_cons (xe_len (by rfl) T.len (xq_im (xe_var (pv 1)))) xa_nil)) (xe_len (by rfl) T.len (xq_im (xe_var (pv 1))))) (xg_pair rfl (xg_name (pg_name (i := 4) sclaw_values.nd rfl (by first | exact .inl rfl | exact .inr rfl))) (xg_name (pg_name (i := 5) sclaw_values.nd rfl (by first | exact .inl rfl | exact .inr rfl)))) (fun v8 => (xs_setN (i := 2) (xn_lst (xa_consL (xe_tup2 (xe_enc (eT eI) (xe_var (pv 1))) (xe_N (xn_lc (own := [("_law_genus", 6)]) (up := (uN 6 qI)) rfl sclaw_values.nd (xi_seq (xe_row2 (xe_tup2 xe_int xe_int))) (blkOk_by (N := Nlaw_values) (sc := defScope slaw_values) (by decide +kernel)) rfl (fun _ => rfl) (fun _ _ _ _ _ => (xg_name (pg_name (i := 6) sclaw_values.nd rfl (by first | exact .inl rfl | exact .inr rfl)))) (fun _ _ _ _ _ _ x14 => (xts_one (PW.pt (xw_or (PW.pt (xw_and (xt_cmpD cd_eqI (xe_var (pv 6)) xe_int rfl) (xw_and1 (xt_cmpD cd_gt (xe_var (pv 5)) xe_int rfl)))) (xw_or1 (PW.pt (xw_and (xt_cmpD cd_eqI (xe_var (pv 6)) xe_int rfl) (xw_and1 (xt_cmpD cd_lt (xe_var (pv 5)) xe_int rfl))))))))) (fun _ _ _ _ _ _ x14 => (xe_var (pv 6)))))) xa_nilL)) (fun v9 => (xs_for (s0 := v9) (up := (uN 3 qV)) (pt := fun (s63 : (List (PyData × (List Int)))) g => [.iv d (oD g), .im (qT qI) a.1, .ow (qP qV (qL qI)) s63, .un, .im qI v8.1, .im qI v8.2, .un]) PassesOwn.never rfl (xi_seq (xe_tupL (xa_consL (xe_enc eI xe_int) (xa_consL (xe_enc eN xe_non) (xa_consL (xe_enc eB xe_bl) (xa_consL (xe_enc eS xe_str) (xa_consL (xe_enc eI (xe_add (xe_ix (xq_im (xe_var (pv 1))) (xe_var (pv 4))) xe_int)) (xa_consL (xe_enc eI (xe_pow xe_int xe_int)) xa_nilL)))))))) (xg_name (pg_name (i := 3) sclaw_values.nd rfl (by first | exact .inl rfl | exact .inr rfl))) (fun _ => (.keep (.keep (.keep (.keep (.keep (.keep (.keep .nil)))))))) (fun s63 x64 => (xs_app (i := 2) (pv 2) (xe_tup2 (xe_enc (eT eV) (xe_catT (xe_catT (xe_encT eI (xe_slT (xe_var (pv 1)) xo_none (xo_some (xe_var (pv 4))))) (xe_tup1 (xe_var (pv 3)))) (xe_encT eI (xe_slT (xe_var (pv 1)) (xo_some (xe_add (xe_var (pv 4)) xe_int)) xo_none)))) (xe_N (xn_nil (r := qI)))) (fun l66 => (xs_nil (fun _ => (.keep (.keep (.keep (.drop (.keep (.keep (.keep .nil)))))))))) (hb := pe_bm PySem.F.plainAttrs_list PySem.F.slot_list_append PySem.F.type_list_append mt_append (pv 2) (pa_cons (xe_tup2 (xe_enc (eT eV) (xe_catT (xe_catT (xe_encT eI (xe_slT (xe_var (pv 1)) xo_none (xo_some (xe_var (pv 4))))) (xe_tup1 (xe_var (pv 3)))) (xe_encT eI (xe_slT (xe_var (pv 1)) (xo_some (xe_add (xe_var (pv 4)) xe_int)) xo_none)))) (xe_N (xn_nil (r := qI)))) pa_nil)))) (fun s63 => (xs_frzD 2 hA (xs_ret (xe_N (xn_catL (xe_var (pv 2)) (xe_N (xn_lst (xa_consL (xe_tup2 (xe_enc (eL eI) (xe_N (xn_list (by rfl) T.list (xq_im (xe_var (pv 1)))))) (xe_N (xn_nil (r := qI)))) (xa_consL (xe_tup2 (xe_enc (eT eI) (xe_tup0 (r := qI))) (xe_N (xn_nil (r := qI)))) (xa_consL (xe_tup2 (xe_enc eN xe_non) (xe_N (xn_nil (r := qI)))) (xa_consL (xe_tup2 (xe_enc (eT eI) (xe_tupL (xa_consL xe_int (xa_consL (xe_neg xe_int) (xa_consL xe_int (xa_consL (xe_neg xe_int) (xa_consL xe_int (xa_consL (xe_neg xe_int) (xa_consL xe_int xa_nilL))))))))) (xe_N (xn_nil (r := qI)))) (xa_consL (xe_tup2 (xe_enc (eT eI) (xe_repT (xe_row2 (xe_tup2 xe_int (xe_neg xe_int))) xe_int)) (xe_N (xn_nil (r := qI)))) (xa_consL (xe_tup2 (xe_enc eS xe_str) (xe_N (xn_nil (r := qI)))) (xa_consL (xe_tup2 (xe_enc eI xe_int) (xe_N (xn_nil (r := qI)))) (xa_consL (xe_tup2 xe_dict0 (xe_N (xn_nil (r := qI)))) xa_nilL))))))))))))))))) sclaw_values.nd rfl (.inl rfl) rfl rfl)))
  case hg => exact fun _ => rfl
abbrev sis_ends : Stmt := top 15
abbrev Nis_ends : List Str := ["value", "genus"]
theorem scis_ends : FnScope ["value", "genus"] ["value", "genus"] (defScope sis_ends) := ⟨rfl, rfl, rfl, by decide +kernel, rfl, by decide +kernel, by decide +kernel⟩
def w_is_ends (a : PyData × Int × Unit) : W (Fl Bool Empty Unit) :=
  ((((W.ret a.2.1).bind fun x5 => (((W.ret (0 : Int)).bind fun x3 => (((W.ret (1 : Int)).bind fun x1 => ((W.ret ()).bind fun y2 => (W.ret (x1, y2)))).bind fun y4 => (W.ret (x3, y4)))).bind fun y6 => (W.ret (x5, y6)))).bind fun a7 => (ofO (m_check_count a7))).bind fun _v8 => (((W.ret a.2.1).bind fun p9 => ((W.ret (1 : Int)).bind fun q10 => (ofO (some (decide (p9 = q10)))))).bind fun b11 => (if b11 = true then upF ((((W.ret a.1).bind fun x16 => (((W.ret (2 : Int)).bind fun x14 => (((W.ret (4 : Int)).bind fun x12 => ((W.ret ()).bind fun y13 => (W.ret (x12, y13)))).bind fun y15 => (W.ret (x14, y15)))).bind fun y17 => (W.ret (x16, y17)))).bind fun a18 => (ofO (m_are_ends a18))).bind fun x19 => (W.ret (Fl.rt x19))) else ((((W.ret a.1).bind fun x26 => ((((W.ret (2 : Int)).bind fun p20 => ((W.ret (1 : Int)).bind fun q21 => (W.ret (p20 + q21)))).bind fun x24 => (((W.ret (6 : Int)).bind fun x22 => ((W.ret ()).bind fun y23 => (W.ret (x22, y23)))).bind fun y25 => (W.ret (x24, y25)))).bind fun y27 => (W.ret (x26, y27)))).bind fun a28 => (ofO (m_are_ends a28))).bind fun x29 => (W.ret (Fl.rt x29))))))
def o_is_ends (a : PyData × Int × Unit) : Option (Fl Bool Empty Unit) :=
  ((((some a.2.1).bind fun x5 => (((some (0 : Int)).bind fun x3 => (((some (1 : Int)).bind fun x1 => ((some ()).bind fun y2 => (some (x1, y2)))).bind fun y4 => (some (x3, y4)))).bind fun y6 => (some (x5, y6)))).bind fun a7 => (m_check_count a7)).bind fun _v8 => (((some a.2.1).bind fun p9 => ((some (1 : Int)).bind fun q10 => (some (decide (p9 = q10))))).bind fun b11 => (if b11 = true then upO ((((some a.1).bind fun x16 => (((some (2 : Int)).bind fun x14 => (((some (4 : Int)).bind fun x12 => ((some ()).bind fun y13 => (some (x12, y13)))).bind fun y15 => (some (x14, y15)))).bind fun y17 => (some (x16, y17)))).bind fun a18 => (m_are_ends a18)).bind fun x19 => (some (Fl.rt x19))) else ((((some a.1).bind fun x26 => ((((some (2 : Int)).bind fun p20 => ((some (1 : Int)).bind fun q21 => (some (p20 + q21)))).bind fun x24 => (((some (6 : Int)).bind fun x22 => ((some ()).bind fun y23 => (some (x22, y23)))).bind fun y25 => (some (x24, y25)))).bind fun y27 => (some (x26, y27)))).bind fun a28 => (m_are_ends a28)).bind fun x29 => (some (Fl.rt x29))))))
def m_is_ends (a : PyData × Int × Unit) : Option Bool := rtO (o_is_ends a)
theorem k_is_ends {f : Addr} {fd : FuncData} (F : Fun K "is_ends" "is_ends" sis_ends f fd) (T : Txt K mg) (h_are_ends : Has P w K mg base "_are_ends" 3 ["value", "least", "most"] (SpF (pC qV (pC qI (pC qI p0))).ra qB m_are_ends)) (h_check_count : Has P w K mg base "check_count" 4 ["value", "low", "high"] (SpF (pC qI (pC qI (pC qI p0))).ra qN m_check_count)) : FnOk P w K mg base CX0 5 f fd ["value", "genus"] (SpF (pC qV (pC qI p0)).ra qB m_is_ends) := by
  refine fn_okF (p := (pC qV (pC qI p0))) (m := w_is_ends) (pn := (fun z _ => nomatch z)) (pl := fun _ _ => []) (env := fun a => [.im qV a.1, .im qI a.2.1]) 0 F scis_ends rfl rfl (fun _ => rfl) ?hb ?hg
  case hb =>
    intro cdv A outer s H E hr C a hA
    unfold w_is_ends
    exact (xs_exp (xe_callH h_check_count hr (by decide) (by rfl) (xa_cons (xe_var (pv 1)) (xa_cons xe_int (xa_cons xe_int xa_nil)))) (fun _v8 => (xs_ifx (xt_cmpD cd_eqI (xe_var (pv 1)) xe_int rfl) (xs_ret (xe_callH h_are_ends hr (by decide) (by rfl) (xa_cons (xe_var (pv 0)) (xa_cons (xe_gintE (by rfl) T.g_LEAST_ENDS_) (xa_cons (xe_gintE (by rfl) T.MOST_ROUND_) xa_nil))))) (xs_ret (xe_callH h_are_ends hr (by decide) (by rfl) (xa_cons (xe_var (pv 0)) (xa_cons (xe_add (xe_gintE (by rfl) T.g_LEAST_ENDS_) xe_int) (xa_cons (xe_gintE (by rfl) T.MOST_ENDS_) xa_nil))))))))
  case hg =>
    intro a
    simp only [m_is_ends, o_is_ends, w_is_ends, ofO_rt, ofO_rtN, ofO_bind, ofO_some, ofO_if, ofO_up, ofO_lc, ofO_lca, ofO_lc2, ofO_for, ofO_while, ofO_bindF, ofO_no, ofO_optM]
abbrev slaw_power : Stmt := top 31
abbrev Nlaw_power : List Str := ["_law_number", "_law_exponent", "_law_found", "_law_turn"]
theorem sclaw_power : FnScope ["_law_number", "_law_exponent", "_law_found", "_law_turn"] ["_law_number", "_law_exponent"] (defScope slaw_power) := ⟨rfl, rfl, rfl, by decide +kernel, rfl, by decide +kernel, by decide +kernel⟩
def w_law_power (a : Int × Int × Unit) : W (Fl Int Empty Unit) :=
  ((W.ret (1 : Int)).bind fun (v1 : Int) => (((W.ret a.2.1).bind fun i2 => (ofO (rngC 0 i2))).bind fun xs9 => bindF (forL (fun (s3 : Int) (x4 : Int) => (((W.ret s3).bind fun p6 => ((W.ret a.1).bind fun q7 => (ofO (mulC p6 q7)))).bind fun (v5 : Int) => (W.ret (Fl.nx v5)))) xs9 v1) (fun (s3 : Int) => ((W.ret s3).bind fun x8 => (W.ret (Fl.rt x8))))))
def o_law_power (a : Int × Int × Unit) : Option (Fl Int Empty Unit) :=
  ((some (1 : Int)).bind fun (v1 : Int) => (((some a.2.1).bind fun i2 => (rngC 0 i2)).bind fun xs9 => bindFO (forO (fun (s3 : Int) (x4 : Int) => (((some s3).bind fun p6 => ((some a.1).bind fun q7 => (mulC p6 q7))).bind fun (v5 : Int) => (some (Fl.nx v5)))) xs9 v1) (fun (s3 : Int) => ((some s3).bind fun x8 => (some (Fl.rt x8))))))
def m_law_power (a : Int × Int × Unit) : Option Int := rtO (o_law_power a)
theorem k_law_power {f : Addr} {fd : FuncData} (F : Fun K "_law_power" "_law_power" slaw_power f fd) (T : Txt K mg) : FnOk P w K mg base CX0 1 f fd ["_law_number", "_law_exponent"] (SpF (pC qI (pC qI p0)).ra qI m_law_power) := by
  refine fn_okF (p := (pC qI (pC qI p0))) (m := w_law_power) (pn := (fun z _ => nomatch z)) (pl := fun _ _ => []) (env := fun a => [.im qI a.1, .im qI a.2.1, .un, .un]) 2 F sclaw_power rfl rfl (fun _ => rfl) ?hb ?hg
  case hb =>
    intro cdv A outer s H E hr C a hA
    unfold w_law_power
    exact (xs_set (i := 2) xe_int (fun v1 => (xs_for (s0 := v1) (up := (uN 3 qI)) (pt := fun (s3 : Int) g => [.im qI a.1, .im qI a.2.1, .im qI s3, .un]) PassesOwn.never rfl (xi_rng1 (by rfl) T.range (xe_var (pv 1))) (xg_name (pg_name (i := 3) sclaw_power.nd rfl (by first | exact .inl rfl | exact .inr rfl))) (fun _ => (.keep (.keep (.keep (.keep .nil))))) (fun s3 x4 => (xs_set (i := 2) (xe_mul (xe_var (pv 2)) (xe_var (pv 0))) (fun v5 => (xs_nil (fun _ => (.keep (.keep (.keep (.drop .nil))))))) sclaw_power.nd rfl (.inl rfl) rfl rfl)) (fun s3 => (xs_ret (xe_var (pv 2)))))) sclaw_power.nd rfl (.inl rfl) rfl rfl)
  case hg =>
    intro a
    simp only [m_law_power, o_law_power, w_law_power, ofO_rt, ofO_rtN, ofO_bind, ofO_some, ofO_if, ofO_up, ofO_lc, ofO_lca, ofO_lc2, ofO_for, ofO_while, ofO_bindF, ofO_no, ofO_optM]
abbrev slaw_rm_free : Stmt := top 37
abbrev Nlaw_rm_free : List Str := ["_law_dice_here", "_law_size", "_law_most", "_law_turn", "_law_found", "_law_ends", "_law_at"]
theorem sclaw_rm_free : FnScope ["_law_dice_here", "_law_size", "_law_most", "_law_turn", "_law_found", "_law_ends", "_law_at"] ["_law_dice_here", "_law_size", "_law_most"] (defScope slaw_rm_free) := ⟨rfl, rfl, rfl, by decide +kernel, rfl, by decide +kernel, by decide +kernel⟩
def w_law_rm_free (a : Int × Int × Unit) : W (Fl (List Int) Empty Unit) :=
  (((W.ret (12 : Int)).bind fun i1 => (ofO (rngC 0 i1))).bind fun xs46 => bindF (forL (fun (s2 : Unit) (x3 : Int) => ((((W.ret a.1).bind fun x7 => (((W.ret a.2.1).bind fun x5 => ((W.ret ()).bind fun y6 => (W.ret (x5, y6)))).bind fun y8 => (W.ret (x7, y8)))).bind fun a9 => (m_law_rm_ends a9)).bind fun (v4 : (List Int)) => ((((W.ret v4).bind fun x10 => ((W.ret ()).bind fun y11 => (W.ret (x10, y11)))).bind fun a12 => (ofO (m_law_rm_is_free a12))).bind fun b13 => (if b13 = true then upF ((W.ret v4).bind fun x14 => (W.ret (Fl.rt x14))) else (W.ret (Fl.nx ())))))) xs46 ()) (fun (s2 : Unit) => (((((W.ret a.1).bind fun p16 => ((W.ret (1 : Int)).bind fun q17 => (W.ret (p16 - q17)))).bind fun i18 => (ofO (rngC 0 i18))).bind fun xs36 => (lcW (fun (x19 : Int) => (W.ret true)) (fun (x19 : Int) => ((((W.ret (2 : Int)).bind fun x22 => (((W.ret x19).bind fun x20 => ((W.ret ()).bind fun y21 => (W.ret (x20, y21)))).bind fun y23 => (W.ret (x22, y23)))).bind fun a24 => (ofO (m_law_power a24))).bind fun p34 => ((((((W.ret (1 : Int)).bind fun x28 => ((((W.ret (1 : Int)).bind fun p25 => (W.ret (-p25))).bind fun x26 => ((W.ret []).bind fun y27 => (W.ret (x26 :: y27)))).bind fun y29 => (W.ret (x28 :: y29)))).bind fun x30 => (ofO (lenK x30))).bind fun x31 => ((W.ret ()).bind fun y32 => (W.ret (x31, y32)))).bind fun a33 => (m_law_pick a33)).bind fun q35 => (ofO (mulC p34 q35))))) xs36)).bind fun (v15 : (List Int)) => (((W.ret v15).bind fun p43 => (((((W.ret (0 : Int)).bind fun p38 => (((W.ret v15).bind fun x37 => (W.ret x37.sum)).bind fun q39 => (W.ret (p38 - q39)))).bind fun x40 => ((W.ret []).bind fun y41 => (W.ret (x40 :: y41)))).bind fun x42 => (ofO (lenK x42))).bind fun q44 => (ofO (catC p43 q44)))).bind fun x45 => (W.ret (Fl.rt x45))))))
def m_law_rm_free (a : Int × Int × Unit) : W (List Int) := rtOf (w_law_rm_free a)
theorem k_law_rm_free {f : Addr} {fd : FuncData} (F : Fun K "_law_rm_free" "_law_rm_free" slaw_rm_free f fd) (T : Txt K mg) (h_law_pick : Has P w K mg base "_law_pick" 2 ["_law_dice_here", "_law_items"] (SpD (pC (qL qI) p0).ra qI m_law_pick)) (h_law_power : Has P w K mg base "_law_power" 1 ["_law_number", "_law_exponent"] (SpF (pC qI (pC qI p0)).ra qI m_law_power)) (h_law_rm_ends : Has P w K mg base "_law_rm_ends" 3 ["_law_dice_here", "_law_size", "_law_most"] (SpD (pC qI (pC qI p0)).ra (qT qI) m_law_rm_ends)) (h_law_rm_is_free : Has P w K mg base "_law_rm_is_free" 2 ["_law_ends"] (SpF (pC (qT qI) p0).ra qB m_law_rm_is_free)) : FnOk P w K mg base CX0 4 f fd ["_law_dice_here", "_law_size", "_law_most"] (SpD (pC qI (pC qI p0)).ra (qT qI) m_law_rm_free) := by
  refine fn_okD (p := (pC qI (pC qI p0))) (m := w_law_rm_free) (pn := (fun z _ => nomatch z)) (pl := fun _ _ => []) (env := fun a => [.im qI a.1, .im qI a.2.1, .un, .un, .un, .un]) 4 F sclaw_rm_free rfl rfl (fun _ => rfl) ?hb ?hg
  case hb =>
    intro cdv A outer s H E hr C d a hA
    unfold w_law_rm_free
    exact (xs_for (s0 := ()) (up := (uN 3 qI)) (pt := fun (s2 : Unit) g => [.iv d (oD g), .im qI a.1, .im qI a.2.1, .un, .un, .un, .un]) PassesOwn.never rfl (xi_rng1 (by rfl) T.range xe_int) (xg_name (pg_name (i := 3) sclaw_rm_free.nd rfl (by first | exact .inl rfl | exact .inr rfl))) (fun _ => (.keep (.keep (.keep (.keep (.keep (.keep (.keep .nil)))))))) (fun s2 x3 => (xs_set (i := 5) (xe_callDH h_law_rm_ends hr (by decide) (by rfl) (pv 0) (xa_cons (xe_var (pv 1)) (xa_cons (xe_var (pv 2)) xa_nil))) (fun v4 => (xs_ifx (xt_val (xe_callH h_law_rm_is_free hr (by decide) (by rfl) (xa_cons (xe_var (pv 5)) xa_nil))) (xs_ret (xe_var (pv 5))) (xs_nil (fun _ => (.keep (.keep (.keep (.drop (.keep (.drop (.keep .nil))))))))))) sclaw_rm_free.nd rfl (.inl rfl) rfl rfl)) (fun s2 => (xs_setLc (i := 4) (own := [("_law_at", 6)]) (up := (uN 6 qI)) rfl sclaw_rm_free.nd rfl rfl (sw_true rfl rfl rfl (by decide +kernel)) (xi_rng1 (by rfl) T.range (xe_sub (xe_var (pv 1)) xe_int)) (blkOk_by (N := Nlaw_rm_free) (sc := defScope slaw_rm_free) (by decide +kernel)) rfl (fun _ => rfl) (fun _ _ _ _ _ => (xg_name (pg_name (i := 6) sclaw_rm_free.nd rfl (by first | exact .inl rfl | exact .inr rfl)))) (fun _ _ _ _ _ _ x19 => xts_nil) (fun _ _ _ _ _ _ x19 => (xe_mul (xe_callH h_law_power hr (by decide) (by rfl) (xa_cons xe_int (xa_cons (xe_var (pv 6)) xa_nil))) (xe_callDH h_law_pick hr (by decide) (by rfl) (pv 0) (xa_cons (xe_N (xn_lst (xa_consL xe_int (xa_consL (xe_neg xe_int) xa_nilL)))) xa_nil)))) (fun v15 => (xs_ret (xe_tuple (by rfl) T.tuple (xq_im (xe_N (xn_catL (xe_var (pv 4)) (xe_N (xn_lst (xa_consL (xe_sub xe_int (xe_sum rfl (by rfl) T.sum (xq_im (xe_var (pv 4))))) xa_nilL))))))))))))
  case hg => exact fun _ => rfl
abbrev scheck_free2 : Stmt := top 18
abbrev Ncheck_free2 : List Str := ["ends"]
theorem sccheck_free2 : FnScope ["ends"] ["ends"] (defScope scheck_free2) := ⟨rfl, rfl, rfl, by decide +kernel, rfl, by decide +kernel, by decide +kernel⟩
def w_check_free2 (a : (List Int) × Unit) : W (Fl Unit Unit Unit) :=
  (((((W.ret a.1).bind fun x1 => ((W.ret ()).bind fun y2 => (W.ret (x1, y2)))).bind fun a3 => (ofO (m_lain_on a3))).bind fun p4 => ((W.ret ([] : List (List Int))).bind fun q5 => (ofO (some (!PyData.eqv ((dL (dT dI)).d p4) ((dL (dT dI)).d q5)))))).bind fun b6 => (if b6 = true then upF W.no else (W.ret (Fl.nx ()))))
def o_check_free2 (a : (List Int) × Unit) : Option (Fl Unit Unit Unit) :=
  (((((some a.1).bind fun x1 => ((some ()).bind fun y2 => (some (x1, y2)))).bind fun a3 => (m_lain_on a3)).bind fun p4 => ((some ([] : List (List Int))).bind fun q5 => (some (!PyData.eqv ((dL (dT dI)).d p4) ((dL (dT dI)).d q5))))).bind fun b6 => (if b6 = true then upO none else (some (Fl.nx ()))))
def m_check_free2 (a : (List Int) × Unit) : Option Unit := rtNO (o_check_free2 a)
theorem k_check_free2 {f : Addr} {fd : FuncData} (F : Fun K "_check_free" "_check_free" scheck_free2 f fd) (T : Txt K mg) (h_lain_on : Has P w K mg base "_lain_on" 6 ["ends"] (SpN (pC (qT qI) p0).ra (qT qI) m_lain_on)) : FnOk P w K mg base CX0 7 f fd ["ends"] (SpF (pC (qT qI) p0).ra qN m_check_free2) := by
  refine fn_okN (p := (pC (qT qI) p0)) (m := w_check_free2) (pn := (fun _ g => [.un])) (pl := fun _ _ => []) (env := fun a => [.im (qT qI) a.1]) 0 F sccheck_free2 rfl rfl (fun _ => rfl) ?hb ?hg
  case hb =>
    intro cdv A outer s H E hr C a hA
    unfold w_check_free2
    exact (xs_ifx (xt_cmpD (cd_ne (dL (dT dI)) (dL (dT dI)) hr.units) (xe_N (xe_callL h_lain_on hr (by decide) (by rfl) (xa_cons (xe_var (pv 0)) xa_nil))) (xe_N (xn_nil (r := (qT qI)))) rfl) xs_never (xs_nil (fun _ => (.drop .nil))))
  case hg =>
    intro a
    simp only [m_check_free2, o_check_free2, w_check_free2, ofO_rt, ofO_rtN, ofO_bind, ofO_some, ofO_if, ofO_up, ofO_lc, ofO_lca, ofO_lc2, ofO_for, ofO_while, ofO_bindF, ofO_no, ofO_optM]
abbrev sare_one_room : Stmt := top 25
abbrev Nare_one_room : List Str := ["one", "other"]
theorem scare_one_room : FnScope ["one", "other"] ["one", "other"] (defScope sare_one_room) := ⟨rfl, rfl, rfl, by decide +kernel, rfl, by decide +kernel, by decide +kernel⟩
def w_are_one_room (a : (List Int) × (List Int) × Unit) : W (Fl Bool Empty Unit) :=
  (((((W.ret a.1).bind fun x1 => (W.ret ((eT eI).enc x1))).bind fun x2 => ((W.ret ()).bind fun y3 => (W.ret (x2, y3)))).bind fun a4 => (ofO (m_check_ends a4))).bind fun _v5 => (((((W.ret a.2.1).bind fun x6 => (W.ret ((eT eI).enc x6))).bind fun x7 => ((W.ret ()).bind fun y8 => (W.ret (x7, y8)))).bind fun a9 => (ofO (m_check_ends a9))).bind fun _v10 => ((((W.ret a.1).bind fun x11 => ((W.ret ()).bind fun y12 => (W.ret (x11, y12)))).bind fun a13 => (ofO (m_check_free2 a13))).bind fun _v14 => ((((W.ret a.2.1).bind fun x15 => ((W.ret ()).bind fun y16 => (W.ret (x15, y16)))).bind fun a17 => (ofO (m_check_free2 a17))).bind fun _v18 => (((((W.ret a.1).bind fun x19 => ((W.ret ()).bind fun y20 => (W.ret (x19, y20)))).bind fun a21 => (ofO (m_room a21))).bind fun p25 => ((((W.ret a.2.1).bind fun x22 => ((W.ret ()).bind fun y23 => (W.ret (x22, y23)))).bind fun a24 => (ofO (m_room a24))).bind fun q26 => (ofO (some (PyData.eqv ((dP (dT dI) (dT (dT dI))).d p25) ((dP (dT dI) (dT (dT dI))).d q26)))))).bind fun x27 => (W.ret (Fl.rt x27)))))))
def o_are_one_room (a : (List Int) × (List Int) × Unit) : Option (Fl Bool Empty Unit) :=
  (((((some a.1).bind fun x1 => (some ((eT eI).enc x1))).bind fun x2 => ((some ()).bind fun y3 => (some (x2, y3)))).bind fun a4 => (m_check_ends a4)).bind fun _v5 => (((((some a.2.1).bind fun x6 => (some ((eT eI).enc x6))).bind fun x7 => ((some ()).bind fun y8 => (some (x7, y8)))).bind fun a9 => (m_check_ends a9)).bind fun _v10 => ((((some a.1).bind fun x11 => ((some ()).bind fun y12 => (some (x11, y12)))).bind fun a13 => (m_check_free2 a13)).bind fun _v14 => ((((some a.2.1).bind fun x15 => ((some ()).bind fun y16 => (some (x15, y16)))).bind fun a17 => (m_check_free2 a17)).bind fun _v18 => (((((some a.1).bind fun x19 => ((some ()).bind fun y20 => (some (x19, y20)))).bind fun a21 => (m_room a21)).bind fun p25 => ((((some a.2.1).bind fun x22 => ((some ()).bind fun y23 => (some (x22, y23)))).bind fun a24 => (m_room a24)).bind fun q26 => (some (PyData.eqv ((dP (dT dI) (dT (dT dI))).d p25) ((dP (dT dI) (dT (dT dI))).d q26))))).bind fun x27 => (some (Fl.rt x27)))))))
def m_are_one_room (a : (List Int) × (List Int) × Unit) : Option Bool := rtO (o_are_one_room a)
theorem k_are_one_room {f : Addr} {fd : FuncData} (F : Fun K "are_one_room" "are_one_room" sare_one_room f fd) (T : Txt K mg) (h_check_ends : Has P w K mg base "_check_ends" 4 ["value"] (SpF (pC qV p0).ra qN m_check_ends)) (h_check_free2 : Has P w K mg base "_check_free" 7 ["ends"] (SpF (pC (qT qI) p0).ra qN m_check_free2)) (h_room : Has P w K mg base "_room" 6 ["ends"] (SpF (pC (qT qI) p0).ra (qP (qT qI) (qT (qT qI))) m_room)) : FnOk P w K mg base CX0 8 f fd ["one", "other"] (SpF (pC (qT qI) (pC (qT qI) p0)).ra qB m_are_one_room) := by
  refine fn_okF (p := (pC (qT qI) (pC (qT qI) p0))) (m := w_are_one_room) (pn := (fun z _ => nomatch z)) (pl := fun _ _ => []) (env := fun a => [.im (qT qI) a.1, .im (qT qI) a.2.1]) 0 F scare_one_room rfl rfl (fun _ => rfl) ?hb ?hg
  case hb =>
    intro cdv A outer s H E hr C a hA
    unfold w_are_one_room
    exact (xs_exp (xe_callH h_check_ends hr (by decide) (by rfl) (xa_cons (xe_enc (eT eI) (xe_var (pv 0))) xa_nil)) (fun _v5 => (xs_exp (xe_callH h_check_ends hr (by decide) (by rfl) (xa_cons (xe_enc (eT eI) (xe_var (pv 1))) xa_nil)) (fun _v10 => (xs_exp (xe_callH h_check_free2 hr (by decide) (by rfl) (xa_cons (xe_var (pv 0)) xa_nil)) (fun _v14 => (xs_exp (xe_callH h_check_free2 hr (by decide) (by rfl) (xa_cons (xe_var (pv 1)) xa_nil)) (fun _v18 => (xs_ret (xe_cmpD (cd_eq (dP (dT dI) (dT (dT dI))) (dP (dT dI) (dT (dT dI))) hr.units) (xe_callH h_room hr (by decide) (by rfl) (xa_cons (xe_var (pv 0)) xa_nil)) (xe_callH h_room hr (by decide) (by rfl) (xa_cons (xe_var (pv 1)) xa_nil)) rfl))))))))))
  case hg =>
    intro a
    simp only [m_are_one_room, o_are_one_room, w_are_one_room, ofO_rt, ofO_rtN, ofO_bind, ofO_some, ofO_if, ofO_up, ofO_lc, ofO_lca, ofO_lc2, ofO_for, ofO_while, ofO_bindF, ofO_no, ofO_optM]
abbrev sroom_of2 : Stmt := top 23
abbrev Nroom_of2 : List Str := ["ends"]
theorem scroom_of2 : FnScope ["ends"] ["ends"] (defScope sroom_of2) := ⟨rfl, rfl, rfl, by decide +kernel, rfl, by decide +kernel, by decide +kernel⟩
def w_room_of2 (a : (List Int) × Unit) : W (Fl ((List Int) × (List (List Int))) Empty Unit) :=
  (((((W.ret a.1).bind fun x1 => (W.ret ((eT eI).enc x1))).bind fun x2 => ((W.ret ()).bind fun y3 => (W.ret (x2, y3)))).bind fun a4 => (ofO (m_check_ends a4))).bind fun _v5 => ((((W.ret a.1).bind fun x6 => ((W.ret ()).bind fun y7 => (W.ret (x6, y7)))).bind fun a8 => (ofO (m_check_free2 a8))).bind fun _v9 => ((((W.ret a.1).bind fun x10 => ((W.ret ()).bind fun y11 => (W.ret (x10, y11)))).bind fun a12 => (ofO (m_room a12))).bind fun x13 => (W.ret (Fl.rt x13)))))
def o_room_of2 (a : (List Int) × Unit) : Option (Fl ((List Int) × (List (List Int))) Empty Unit) :=
  (((((some a.1).bind fun x1 => (some ((eT eI).enc x1))).bind fun x2 => ((some ()).bind fun y3 => (some (x2, y3)))).bind fun a4 => (m_check_ends a4)).bind fun _v5 => ((((some a.1).bind fun x6 => ((some ()).bind fun y7 => (some (x6, y7)))).bind fun a8 => (m_check_free2 a8)).bind fun _v9 => ((((some a.1).bind fun x10 => ((some ()).bind fun y11 => (some (x10, y11)))).bind fun a12 => (m_room a12)).bind fun x13 => (some (Fl.rt x13)))))
def m_room_of2 (a : (List Int) × Unit) : Option ((List Int) × (List (List Int))) := rtO (o_room_of2 a)
theorem k_room_of2 {f : Addr} {fd : FuncData} (F : Fun K "room_of" "room_of" sroom_of2 f fd) (T : Txt K mg) (h_check_ends : Has P w K mg base "_check_ends" 4 ["value"] (SpF (pC qV p0).ra qN m_check_ends)) (h_check_free2 : Has P w K mg base "_check_free" 7 ["ends"] (SpF (pC (qT qI) p0).ra qN m_check_free2)) (h_room : Has P w K mg base "_room" 6 ["ends"] (SpF (pC (qT qI) p0).ra (qP (qT qI) (qT (qT qI))) m_room)) : FnOk P w K mg base CX0 8 f fd ["ends"] (SpF (pC (qT qI) p0).ra (qP (qT qI) (qT (qT qI))) m_room_of2) := by
  refine fn_okF (p := (pC (qT qI) p0)) (m := w_room_of2) (pn := (fun z _ => nomatch z)) (pl := fun _ _ => []) (env := fun a => [.im (qT qI) a.1]) 0 F scroom_of2 rfl rfl (fun _ => rfl) ?hb ?hg
  case hb =>
    intro cdv A outer s H E hr C a hA
    unfold w_room_of2
    exact (xs_exp (xe_callH h_check_ends hr (by decide) (by rfl) (xa_cons (xe_enc (eT eI) (xe_var (pv 0))) xa_nil)) (fun _v5 => (xs_exp (xe_callH h_check_free2 hr (by decide) (by rfl) (xa_cons (xe_var (pv 0)) xa_nil)) (fun _v9 => (xs_ret (xe_callH h_room hr (by decide) (by rfl) (xa_cons (xe_var (pv 0)) xa_nil)))))))
  case hg =>
    intro a
    simp only [m_room_of2, o_room_of2, w_room_of2, ofO_rt, ofO_rtN, ofO_bind, ofO_some, ofO_if, ofO_up, ofO_lc, ofO_lca, ofO_lc2, ofO_for, ofO_while, ofO_bindF, ofO_no, ofO_optM]
abbrev slaw_shuffled : Stmt := top 30
abbrev Nlaw_shuffled : List Str := ["_law_dice_here", "_law_items", "_law_turn", "_law_left", "_law_found"]
theorem sclaw_shuffled : FnScope ["_law_dice_here", "_law_items", "_law_turn", "_law_left", "_law_found"] ["_law_dice_here", "_law_items"] (defScope slaw_shuffled) := ⟨rfl, rfl, rfl, by decide +kernel, rfl, by decide +kernel, by decide +kernel⟩
def w_law_shuffled (a : (List Int) × Unit) : W (Fl (List Int) Empty Unit) :=
  ((W.ret a.1).bind fun (v1 : (List Int)) => ((W.ret ([] : List Int)).bind fun (v2 : (List Int)) => ((((W.ret a.1).bind fun x3 => (W.ret (x3.length : Int))).bind fun i4 => (ofO (rngC 0 i4))).bind fun xs15 => bindF (forL (fun (s5 : ((List Int) × (List Int))) (x6 : Int) => (((((W.ret s5.1).bind fun x9 => (W.ret (x9.length : Int))).bind fun x10 => ((W.ret ()).bind fun y11 => (W.ret (x10, y11)))).bind fun a12 => (m_law_roll a12)).bind fun k13 => ((ofO (popC s5.1 k13)).bind fun (v7 : Int × (List Int)) => ((ofO (addO s5.2 v7.1)).bind fun (l8 : (List Int)) => (W.ret (Fl.nx (v7.2, l8))))))) xs15 (v1, v2)) (fun (s5 : ((List Int) × (List Int))) => ((W.ret s5.2).bind fun x14 => (W.ret (Fl.rt x14)))))))
def m_law_shuffled (a : (List Int) × Unit) : W (List Int) := rtOf (w_law_shuffled a)
theorem k_law_shuffled {f : Addr} {fd : FuncData} (F : Fun K "_law_shuffled" "_law_shuffled" slaw_shuffled f fd) (T : Txt K mg) (h_law_roll : Has P w K mg base "_law_roll" 1 ["_law_dice_here", "_law_total"] (SpD (pC qI p0).ra qI m_law_roll)) : FnOk P w K mg base CX0 2 f fd ["_law_dice_here", "_law_items"] (SpD (pC (qT qI) p0).ra (qL qI) m_law_shuffled) := by
  refine fn_okD (p := (pC (qT qI) p0)) (m := w_law_shuffled) (pn := (fun z _ => nomatch z)) (pl := fun _ _ => []) (env := fun a => [.im (qT qI) a.1, .un, .un, .un]) 3 F sclaw_shuffled rfl rfl (fun _ => rfl) ?hb ?hg
  case hb =>
    intro cdv A outer s H E hr C d a hA
    unfold w_law_shuffled
    exact (xs_parNN (env := fun g => [.iv d (oD g), .im (qT qI) a.1, .un, .un, .un]) (i := 3) (j := 4) (xn_list (by rfl) T.list (xq_im (xe_var (pv 1)))) (fun _ => (xn_nil (r := qI))) (fun v1 v2 => (xs_for (s0 := (v1, v2)) (up := (uN 2 qI)) (pt := fun (s5 : ((List Int) × (List Int))) g => [.iv d (oD g), .im (qT qI) a.1, .un, .ow qI s5.1, .ow qI s5.2]) PassesOwn.never rfl (xi_rng1 (by rfl) T.range (xe_len (by rfl) T.len (xq_im (xe_var (pv 1))))) (xg_name (pg_name (i := 2) sclaw_shuffled.nd rfl (by first | exact .inl rfl | exact .inr rfl))) (fun _ => (.keep (.keep (.keep (.keep (.keep .nil)))))) (fun s5 x6 => (xs_appPop (i := 4) (j := 3) (xe_callDH h_law_roll hr (by decide) (by rfl) (pv 0) (xa_cons (xe_len (by rfl) T.len (xq_own (pv 3))) xa_nil)) (fun v7 l8 => (xs_nil (fun _ => (.keep (.keep (.drop (.keep (.keep .nil)))))))) (hb := pe_bm PySem.F.plainAttrs_list PySem.F.slot_list_append PySem.F.type_list_append mt_append (pv 4) (pa_cons (pe_bm PySem.F.plainAttrs_list PySem.F.slot_list_pop PySem.F.type_list_pop mt_popAt (pv 3) (pa_cons (xe_callDH h_law_roll hr (by decide) (by rfl) (pv 0) (xa_cons (xe_len (by rfl) T.len (xq_own (pv 3))) xa_nil)) pa_nil)) pa_nil)))) (fun s5 => (xs_frzD 4 hA (xs_ret (xe_var (pv 4))))))) rfl sclaw_shuffled.nd rfl rfl (by decide) rfl rfl rfl)
  case hg => exact fun _ => rfl
abbrev slaw_right : Stmt := top 40
abbrev Nlaw_right : List Str := ["_law_dice_here", "_law_size", "_law_most", "_law_free", "_law_many", "_law_near", "_law_one", "_law_ends", "_law_other", "_law_value", "_law_genera", "_law_genus", "_law_end"]
theorem sclaw_right : FnScope ["_law_dice_here", "_law_size", "_law_most", "_law_free", "_law_many", "_law_near", "_law_one", "_law_ends", "_law_other", "_law_value", "_law_genera", "_law_genus", "_law_end"] ["_law_dice_here"] (defScope slaw_right) := ⟨rfl, rfl, rfl, by decide +kernel, rfl, by decide +kernel, by decide +kernel⟩
def w_law_right (a : Unit) : W (Fl Bool Empty Unit) :=
  (((W.ret (2 : Int)).bind fun p5 => ((((W.ret (5 : Int)).bind fun x2 => ((W.ret ()).bind fun y3 => (W.ret (x2, y3)))).bind fun a4 => (m_law_roll a4)).bind fun q6 => (W.ret (p5 + q6)))).bind fun (v1 : Int) => ((((((W.ret (2 : Int)).bind fun x16 => (((W.ret (4 : Int)).bind fun x14 => (((W.ret (9 : Int)).bind fun x12 => ((((W.ret (10 : Int)).bind fun p8 => ((W.ret (20 : Int)).bind fun q9 => (ofO (powC p8 q9)))).bind fun x10 => ((W.ret []).bind fun y11 => (W.ret (x10 :: y11)))).bind fun y13 => (W.ret (x12 :: y13)))).bind fun y15 => (W.ret (x14 :: y15)))).bind fun y17 => (W.ret (x16 :: y17)))).bind fun x18 => (ofO (lenK x18))).bind fun x19 => ((W.ret ()).bind fun y20 => (W.ret (x19, y20)))).bind fun a21 => (m_law_pick a21)).bind fun (v7 : Int) => ((((W.ret v1).bind fun x26 => (((W.ret v7).bind fun x24 => ((W.ret ()).bind fun y25 => (W.ret (x24, y25)))).bind fun y27 => (W.ret (x26, y27)))).bind fun a28 => (m_law_rm_ends a28)).bind fun (v22 : (List Int)) => ((((W.ret v1).bind fun x31 => (((W.ret v7).bind fun x29 => ((W.ret ()).bind fun y30 => (W.ret (x29, y30)))).bind fun y32 => (W.ret (x31, y32)))).bind fun a33 => (m_law_rm_ends a33)).bind fun (v23 : (List Int)) => ((((((W.ret v1).bind fun x34 => ((W.ret ()).bind fun y35 => (W.ret (x34, y35)))).bind fun a36 => (ofO (m_walls_for a36))).bind fun p40 => ((((W.ret v1).bind fun x37 => ((W.ret ()).bind fun y38 => (W.ret (x37, y38)))).bind fun a39 => (ofO (m_law_rm_shuts a39))).bind fun q41 => (ofO (some (!PyData.eqv ((dT (dT dI)).d p40) ((dT (dT dI)).d q41)))))).bind fun p50 => (if p50 = true then W.ret true else ((((W.ret v22).bind fun x42 => ((W.ret ()).bind fun y43 => (W.ret (x42, y43)))).bind fun a44 => (ofO (m_is_free a44))).bind fun p48 => ((((W.ret v22).bind fun x45 => ((W.ret ()).bind fun y46 => (W.ret (x45, y46)))).bind fun a47 => (ofO (m_law_rm_is_free a47))).bind fun q49 => (ofO (some (!PyData.eqv (dB.d p48) (dB.d q49)))))))).bind fun b51 => (if b51 = true then upF ((W.ret false).bind fun x52 => (W.ret (Fl.rt x52))) else ((((((W.ret v22).bind fun x53 => ((W.ret ()).bind fun y54 => (W.ret (x53, y54)))).bind fun a55 => (ofO (m_law_room a55))).bind fun x69 => (ofO (cleanO x69))).bind fun p67 => ((((((W.ret v22).bind fun x56 => ((W.ret ()).bind fun y57 => (W.ret (x56, y57)))).bind fun a58 => (ofO (m_law_rm_is_free a58))).bind fun p66 => (if p66 = true then ((((W.ret v22).bind fun x59 => ((W.ret ()).bind fun y60 => (W.ret (x59, y60)))).bind fun a61 => (ofO (m_law_rm_room a61))).bind fun x62 => (W.ret ((eP (eT eI) (eT (eT eI))).enc x62))) else (((W.ret ("refused" : Str)).bind fun x63 => ((W.ret ("operation" : Str)).bind fun x64 => (W.ret (x63, x64)))).bind fun x65 => (W.ret ((eP eS eS).enc x65))))).bind fun x70 => (ofO (cleanO x70))).bind fun q68 => (ofO ((eqC p67 q68).bind fun b => some !b)))).bind fun b71 => (if b71 = true then upF ((W.ret false).bind fun x72 => (W.ret (Fl.rt x72))) else ((((W.ret v22).bind fun x73 => ((W.ret ()).bind fun y74 => (W.ret (x73, y74)))).bind fun a75 => (m_law_values a75)).bind fun xs173 => bindF (forL (fun (s76 : Unit) (x77 : (PyData × (List Int))) => ((((((W.ret (0 : Int)).bind fun x78 => ((W.ret (1 : Int)).bind fun x79 => (W.ret (x78, x79)))).bind fun x80 => (W.ret [x80.1, x80.2])).bind fun xs87 => (lcW (fun (x81 : Int) => (((W.ret x77.1).bind fun x84 => (((W.ret x81).bind fun x82 => ((W.ret ()).bind fun y83 => (W.ret (x82, y83)))).bind fun y85 => (W.ret (x84, y85)))).bind fun a86 => (ofO (m_is_ends a86)))) (fun (x81 : Int) => (W.ret x81)) xs87)).bind fun p88 => ((W.ret x77.2).bind fun q89 => (ofO (some (!PyData.eqv ((dL dI).d p88) ((dL dI).d q89)))))).bind fun b90 => (if b90 = true then upF ((W.ret false).bind fun x91 => (W.ret (Fl.rt x91))) else (W.ret (Fl.nx ()))))) xs173 ()) (fun (s76 : Unit) => ((((W.ret v1).bind fun x95 => (((W.ret v7).bind fun x93 => ((W.ret ()).bind fun y94 => (W.ret (x93, y94)))).bind fun y96 => (W.ret (x95, y96)))).bind fun a97 => (m_law_rm_free a97)).bind fun (v92 : (List Int)) => (((W.ret (1 : Int)).bind fun p102 => ((((W.ret (9 : Int)).bind fun x99 => ((W.ret ()).bind fun y100 => (W.ret (x99, y100)))).bind fun a101 => (m_law_roll a101)).bind fun q103 => (W.ret (p102 + q103)))).bind fun (v98 : Int) => ((((((W.ret v92).bind fun x110 => ((((W.ret v92).bind fun xs107 => (lcW (fun (x104 : Int) => (W.ret true)) (fun (x104 : Int) => ((W.ret v98).bind fun p105 => ((W.ret x104).bind fun q106 => (ofO (mulC p105 q106))))) xs107)).bind fun x108 => ((W.ret ()).bind fun y109 => (W.ret (x108, y109)))).bind fun y111 => (W.ret (x110, y111)))).bind fun a112 => (ofO (m_are_one_room a112))).bind fun b113 => (W.ret (!b113))).bind fun p122 => (if p122 = true then W.ret true else ((((W.ret v92).bind fun x114 => ((W.ret ()).bind fun y115 => (W.ret (x114, y115)))).bind fun a116 => (ofO (m_room_of2 a116))).bind fun p120 => ((((W.ret v92).bind fun x117 => ((W.ret ()).bind fun y118 => (W.ret (x117, y118)))).bind fun a119 => (ofO (m_law_rm_room a119))).bind fun q121 => (ofO (some (!PyData.eqv ((dP (dT dI) (dT (dT dI))).d p120) ((dP (dT dI) (dT (dT dI))).d q121)))))))).bind fun b123 => (if b123 = true then upF ((W.ret false).bind fun x124 => (W.ret (Fl.rt x124))) else ((((W.ret v92).bind fun x144 => ((((W.ret v92).bind fun xs129 => (lcW (fun (x126 : Int) => (W.ret true)) (fun (x126 : Int) => ((W.ret (0 : Int)).bind fun p127 => ((W.ret x126).bind fun q128 => (W.ret (p127 - q128))))) xs129)).bind fun x142 => (((((W.ret v92).bind fun x130 => ((W.ret ()).bind fun y131 => (W.ret (x130, y131)))).bind fun a132 => (m_law_shuffled a132)).bind fun x140 => ((((W.ret v92).bind fun x133 => (W.ret x133.reverse)).bind fun x138 => (((W.ret v23).bind fun x136 => (((W.ret v22).bind fun x134 => ((W.ret []).bind fun y135 => (W.ret (x134 :: y135)))).bind fun y137 => (W.ret (x136 :: y137)))).bind fun y139 => (W.ret (x138 :: y139)))).bind fun y141 => (W.ret (x140 :: y141)))).bind fun y143 => (W.ret (x142 :: y143)))).bind fun y145 => (W.ret (x144 :: y145)))).bind fun x146 => (ofO (lenK x146))).bind fun (v125 : (List (List Int))) => (((W.ret v125).bind fun xs151 => (lcW (fun (x147 : (List Int)) => (((W.ret x147).bind fun x148 => ((W.ret ()).bind fun y149 => (W.ret (x148, y149)))).bind fun a150 => (ofO (m_law_rm_is_free a150)))) (fun (x147 : (List Int)) => (W.ret x147)) xs151)).bind fun xs172 => bindF (forL (fun (s152 : Unit) (x153 : (List Int)) => (((((W.ret v92).bind fun x156 => (((W.ret x153).bind fun x154 => ((W.ret ()).bind fun y155 => (W.ret (x154, y155)))).bind fun y157 => (W.ret (x156, y157)))).bind fun a158 => (ofO (m_are_one_room a158))).bind fun p167 => (((((W.ret v92).bind fun x159 => ((W.ret ()).bind fun y160 => (W.ret (x159, y160)))).bind fun a161 => (ofO (m_law_rm_room a161))).bind fun p165 => ((((W.ret x153).bind fun x162 => ((W.ret ()).bind fun y163 => (W.ret (x162, y163)))).bind fun a164 => (ofO (m_law_rm_room a164))).bind fun q166 => (ofO (some (PyData.eqv ((dP (dT dI) (dT (dT dI))).d p165) ((dP (dT dI) (dT (dT dI))).d q166)))))).bind fun q168 => (ofO (some (!PyData.eqv (dB.d p167) (dB.d q168)))))).bind fun b169 => (if b169 = true then upF ((W.ret false).bind fun x170 => (W.ret (Fl.rt x170))) else (W.ret (Fl.nx ()))))) xs172 ()) (fun (s152 : Unit) => ((W.ret true).bind fun x171 => (W.ret (Fl.rt x171))))))))))))))))))))
def m_law_right (a : Unit) : W Bool := rtOf (w_law_right a)
theorem k_law_right {f : Addr} {fd : FuncData} (F : Fun K "_law_right" "_law_right" slaw_right f fd) (T : Txt K mg) (h_are_one_room : Has P w K mg base "are_one_room" 8 ["one", "other"] (SpF (pC (qT qI) (pC (qT qI) p0)).ra qB m_are_one_room)) (h_is_ends : Has P w K mg base "is_ends" 5 ["value", "genus"] (SpF (pC qV (pC qI p0)).ra qB m_is_ends)) (h_is_free : Has P w K mg base "is_free" 7 ["ends"] (SpF (pC (qT qI) p0).ra qB m_is_free)) (h_law_pick : Has P w K mg base "_law_pick" 2 ["_law_dice_here", "_law_items"] (SpD (pC (qL qI) p0).ra qI m_law_pick)) (h_law_rm_ends : Has P w K mg base "_law_rm_ends" 3 ["_law_dice_here", "_law_size", "_law_most"] (SpD (pC qI (pC qI p0)).ra (qT qI) m_law_rm_ends)) (h_law_rm_free : Has P w K mg base "_law_rm_free" 4 ["_law_dice_here", "_law_size", "_law_most"] (SpD (pC qI (pC qI p0)).ra (qT qI) m_law_rm_free)) (h_law_rm_is_free : Has P w K mg base "_law_rm_is_free" 2 ["_law_ends"] (SpF (pC (qT qI) p0).ra qB m_law_rm_is_free)) (h_law_rm_room : Has P w K mg base "_law_rm_room" 2 ["_law_ends"] (SpF (pC (qT qI) p0).ra (qP (qT qI) (qT (qT qI))) m_law_rm_room)) (h_law_rm_shuts : Has P w K mg base "_law_rm_shuts" 1 ["_law_size"] (SpF (pC qI p0).ra (qL (qT qI)) m_law_rm_shuts)) (h_law_roll : Has P w K mg base "_law_roll" 1 ["_law_dice_here", "_law_total"] (SpD (pC qI p0).ra qI m_law_roll)) (h_law_room : Has P w K mg base "_law_room" 9 ["_law_ends"] (SpF (pC (qT qI) p0).ra qV m_law_room)) (h_law_shuffled : Has P w K mg base "_law_shuffled" 2 ["_law_dice_here", "_law_items"] (SpD (pC (qT qI) p0).ra (qL qI) m_law_shuffled)) (h_law_values : Has P w K mg base "_law_values" 2 ["_law_dice_here", "_law_ends"] (SpD (pC (qT qI) p0).ra (qL (qP qV (qL qI))) m_law_values)) (h_room_of2 : Has P w K mg base "room_of" 8 ["ends"] (SpF (pC (qT qI) p0).ra (qP (qT qI) (qT (qT qI))) m_room_of2)) (h_walls_for : Has P w K mg base "walls_for" 5 ["size"] (SpF (pC qI p0).ra (qT (qT qI)) m_walls_for)) : FnOk P w K mg base CX0 10 f fd ["_law_dice_here"] (SpD p0.ra qB m_law_right) := by
  refine fn_okD (p := p0) (m := w_law_right) (pn := (fun z _ => nomatch z)) (pl := fun _ _ => []) (env := fun a => [.un, .un, .un, .un, .un, .un, .un, .un, .un, .un, .un, .un]) 12 F sclaw_right rfl rfl (fun _ => rfl) ?hb ?hg
  case hb =>
    intro cdv A outer s H E hr C d a hA
    unfold w_law_right
    exact (xs_set (i := 1) (xe_add xe_int (xe_callDH h_law_roll hr (by decide) (by rfl) (pv 0) (xa_cons xe_int xa_nil))) (fun v1 => (xs_set (i := 2) (xe_callDH h_law_pick hr (by decide) (by rfl) (pv 0) (xa_cons (xe_N (xn_lst (xa_consL xe_int (xa_consL xe_int (xa_consL xe_int (xa_consL (xe_pow xe_int xe_int) xa_nilL)))))) xa_nil)) (fun v7 => (xs_par (env := fun g => [.iv d (oD g), .im qI v1, .im qI v7, .un, .un, .un, .un, .un, .un, .un, .un, .un, .un]) (i := 7) (j := 8) (xe_callDH h_law_rm_ends hr (by decide) (by rfl) (pv 0) (xa_cons (xe_var (pv 1)) (xa_cons (xe_var (pv 2)) xa_nil))) (xe_callDH h_law_rm_ends hr (by decide) (by rfl) (pv 0) (xa_cons (xe_var (pv 1)) (xa_cons (xe_var (pv 2)) xa_nil))) (fun v22 v23 => (xs_ifx (PW.pt (xw_or (xt_cmpD (cd_ne (dT (dT dI)) (dT (dT dI)) hr.units) (xe_callH h_walls_for hr (by decide) (by rfl) (xa_cons (xe_var (pv 1)) xa_nil)) (xe_tuple (by rfl) T.tuple (xq_im (xe_callH h_law_rm_shuts hr (by decide) (by rfl) (xa_cons (xe_var (pv 1)) xa_nil)))) rfl) (xw_or1 (xt_cmpD (cd_ne dB dB hr.units) (xe_callH h_is_free hr (by decide) (by rfl) (xa_cons (xe_var (pv 7)) xa_nil)) (xe_callH h_law_rm_is_free hr (by decide) (by rfl) (xa_cons (xe_var (pv 7)) xa_nil)) rfl)))) (xs_ret xe_bl) (xs_ifx (xt_cmpD (cd_neD hr.units) (xe_VD (xe_callH h_law_room hr (by decide) (by rfl) (xa_cons (xe_var (pv 7)) xa_nil))) (xe_VD (xe_if (xt_val (xe_callH h_law_rm_is_free hr (by decide) (by rfl) (xa_cons (xe_var (pv 7)) xa_nil))) (xe_enc (eP (eT eI) (eT (eT eI))) (xe_callH h_law_rm_room hr (by decide) (by rfl) (xa_cons (xe_var (pv 7)) xa_nil))) (xe_enc (eP eS eS) (xe_tup2 xe_str xe_str)))) rfl) (xs_ret xe_bl) (xs_for (s0 := ()) (up := (uP (uN 9 qV) (uN 10 (qL qI)))) (pt := fun (s76 : Unit) g => [.iv d (oD g), .im qI v1, .im qI v7, .un, .un, .un, .un, .im (qT qI) v22, .im (qT qI) v23, .un, .un, .un, .un]) PassesOwn.never rfl (xi_seq (xe_callDH h_law_values hr (by decide) (by rfl) (pv 0) (xa_cons (xe_var (pv 7)) xa_nil))) (xg_pair rfl (xg_name (pg_name (i := 9) sclaw_right.nd rfl (by first | exact .inl rfl | exact .inr rfl))) (xg_name (pg_name (i := 10) sclaw_right.nd rfl (by first | exact .inl rfl | exact .inr rfl)))) (fun _ => (.keep (.keep (.keep (.keep (.keep (.keep (.keep (.keep (.keep (.keep (.keep (.keep (.keep .nil)))))))))))))) (fun s76 x77 => (xs_ifx (xt_cmpD (cd_ne (dL dI) (dL dI) hr.units) (xe_N (xn_lc (own := [("_law_genus", 11)]) (up := (uN 11 qI)) rfl sclaw_right.nd (xi_seq (xe_row2 (xe_tup2 xe_int xe_int))) (blkOk_by (N := Nlaw_right) (sc := defScope slaw_right) (by decide +kernel)) rfl (fun _ => rfl) (fun _ _ _ _ _ => (xg_name (pg_name (i := 11) sclaw_right.nd rfl (by first | exact .inl rfl | exact .inr rfl)))) (fun _ _ _ _ _ _ x81 => (xts_one (xt_val (xe_callH h_is_ends hr (by decide) (by rfl) (xa_cons (xe_var (pv 9)) (xa_cons (xe_var (pv 11)) xa_nil)))))) (fun _ _ _ _ _ _ x81 => (xe_var (pv 11))))) (xe_var (pv 10)) rfl) (xs_ret xe_bl) (xs_nil (fun _ => (.keep (.keep (.keep (.keep (.keep (.keep (.keep (.keep (.keep (.drop (.drop (.keep (.keep .nil))))))))))))))))) (fun s76 => (xs_set (i := 3) (xe_callDH h_law_rm_free hr (by decide) (by rfl) (pv 0) (xa_cons (xe_var (pv 1)) (xa_cons (xe_var (pv 2)) xa_nil))) (fun v92 => (xs_set (i := 4) (xe_add xe_int (xe_callDH h_law_roll hr (by decide) (by rfl) (pv 0) (xa_cons xe_int xa_nil))) (fun v98 => (xs_ifx (PW.pt (xw_or (xt_not (xt_val (xe_callH h_are_one_room hr (by decide) (by rfl) (xa_cons (xe_var (pv 3)) (xa_cons (xe_tuple (by rfl) T.tuple (xq_im (xe_N (xn_lc (own := [("_law_end", 12)]) (up := (uN 12 qI)) rfl sclaw_right.nd (xi_seq (xe_var (pv 3))) (blkOk_by (N := Nlaw_right) (sc := defScope slaw_right) (by decide +kernel)) rfl (fun _ => rfl) (fun _ _ _ _ _ => (xg_name (pg_name (i := 12) sclaw_right.nd rfl (by first | exact .inl rfl | exact .inr rfl)))) (fun _ _ _ _ _ _ x104 => xts_nil) (fun _ _ _ _ _ _ x104 => (xe_mul (xe_var (pv 4)) (xe_var (pv 12)))))))) xa_nil))))) (xw_or1 (xt_cmpD (cd_ne (dP (dT dI) (dT (dT dI))) (dP (dT dI) (dT (dT dI))) hr.units) (xe_callH h_room_of2 hr (by decide) (by rfl) (xa_cons (xe_var (pv 3)) xa_nil)) (xe_callH h_law_rm_room hr (by decide) (by rfl) (xa_cons (xe_var (pv 3)) xa_nil)) rfl)))) (xs_ret xe_bl) (xs_set (i := 5) (xe_N (xn_lst (xa_consL (xe_var (pv 3)) (xa_consL (xe_tuple (by rfl) T.tuple (xq_im (xe_N (xn_lc (own := [("_law_end", 12)]) (up := (uN 12 qI)) rfl sclaw_right.nd (xi_seq (xe_var (pv 3))) (blkOk_by (N := Nlaw_right) (sc := defScope slaw_right) (by decide +kernel)) rfl (fun _ => rfl) (fun _ _ _ _ _ => (xg_name (pg_name (i := 12) sclaw_right.nd rfl (by first | exact .inl rfl | exact .inr rfl)))) (fun _ _ _ _ _ _ x126 => xts_nil) (fun _ _ _ _ _ _ x126 => (xe_sub xe_int (xe_var (pv 12)))))))) (xa_consL (xe_tuple (by rfl) T.tuple (xq_im (xe_callDH h_law_shuffled hr (by decide) (by rfl) (pv 0) (xa_cons (xe_var (pv 3)) xa_nil)))) (xa_consL (xe_revT (xe_var (pv 3))) (xa_consL (xe_var (pv 8)) (xa_consL (xe_var (pv 7)) xa_nilL)))))))) (fun v125 => (xs_for (s0 := ()) (up := (uN 6 (qT qI))) (pt := fun (s152 : Unit) g => [.iv d (oD g), .im qI v1, .im qI v7, .im (qT qI) v92, .im qI v98, .im (qL (qT qI)) v125, .un, .im (qT qI) v22, .im (qT qI) v23, .un, .un, .un, .un]) PassesOwn.never rfl (xi_seq (xe_N (xn_lc (own := [("_law_one", 6)]) (up := (uN 6 (qT qI))) rfl sclaw_right.nd (xi_seq (xe_var (pv 5))) (blkOk_by (N := Nlaw_right) (sc := defScope slaw_right) (by decide +kernel)) rfl (fun _ => rfl) (fun _ _ _ _ _ => (xg_name (pg_name (i := 6) sclaw_right.nd rfl (by first | exact .inl rfl | exact .inr rfl)))) (fun _ _ _ _ _ _ x147 => (xts_one (xt_val (xe_callH h_law_rm_is_free hr (by decide) (by rfl) (xa_cons (xe_var (pv 6)) xa_nil))))) (fun _ _ _ _ _ _ x147 => (xe_var (pv 6)))))) (xg_name (pg_name (i := 6) sclaw_right.nd rfl (by first | exact .inl rfl | exact .inr rfl))) (fun _ => (.keep (.keep (.keep (.keep (.keep (.keep (.keep (.keep (.keep (.keep (.keep (.keep (.keep .nil)))))))))))))) (fun s152 x153 => (xs_ifx (xt_cmpD (cd_ne dB dB hr.units) (xe_callH h_are_one_room hr (by decide) (by rfl) (xa_cons (xe_var (pv 3)) (xa_cons (xe_var (pv 6)) xa_nil))) (xe_cmpD (cd_eq (dP (dT dI) (dT (dT dI))) (dP (dT dI) (dT (dT dI))) hr.units) (xe_callH h_law_rm_room hr (by decide) (by rfl) (xa_cons (xe_var (pv 3)) xa_nil)) (xe_callH h_law_rm_room hr (by decide) (by rfl) (xa_cons (xe_var (pv 6)) xa_nil)) rfl) rfl) (xs_ret xe_bl) (xs_nil (fun _ => (.keep (.keep (.keep (.keep (.keep (.keep (.drop (.keep (.keep (.keep (.keep (.keep (.keep .nil))))))))))))))))) (fun s152 => (xs_ret xe_bl)))) sclaw_right.nd rfl (.inl rfl) rfl rfl))) sclaw_right.nd rfl (.inr rfl) rfl rfl)) sclaw_right.nd rfl (.inl rfl) rfl rfl)))))) rfl sclaw_right.nd rfl rfl (by decide) rfl rfl rfl)) sclaw_right.nd rfl (.inl rfl) rfl rfl)) sclaw_right.nd rfl (.inl rfl) rfl rfl)
  case hg => exact fun _ => rfl
abbrev slaw : Stmt := top 41
abbrev Nlaw : List Str := ["_law_script", "_law_spot", "_law_told", "_law_dice_here"]
theorem sclaw : FnScope ["_law_script", "_law_spot", "_law_told", "_law_dice_here"] ["_law_script"] (defScope slaw) := ⟨rfl, rfl, rfl, by decide +kernel, rfl, by decide +kernel, by decide +kernel⟩
def w_law (a : (List Int) × Unit) : W (Fl Bool Empty Unit) :=
  ((((W.ret (1 : Int)).bind fun i4 => (((W.ret (4 : Int)).bind fun i2 => (((W.ret a.1).bind fun x1 => (W.ret (x1.length : Int))).bind fun j3 => (W.ret (if j3 < i2 then j3 else i2)))).bind fun j5 => (W.ret (if j5 > i4 then j5 else i4)))).bind fun i6 => (ofO (rngC 0 i6))).bind fun xs251 => bindF (forL (fun (s7 : Unit) (x8 : Int) => ((((W.ret a.1).bind fun x12 => (((W.ret x8).bind fun x10 => ((W.ret ()).bind fun y11 => (W.ret (x10, y11)))).bind fun y13 => (W.ret (x12, y13)))).bind fun a14 => (ofO (m_law_dice a14))).bind fun (v9 : (List Int)) => ((W.put v9).bind fun _ => (((((W.ret ()).bind fun a15 => (m_law_right a15)).bind fun b16 => (W.ret (!b16))).bind fun p19 => (if p19 = true then W.ret true else (((W.ret ()).bind fun a17 => (m_law_right a17)).bind fun b18 => (W.ret (!b18))))).bind fun b20 => (if b20 = true then upF ((W.ret false).bind fun x21 => (W.ret (Fl.rt x21))) else (W.ret (Fl.nx ()))))))) xs251 ()) (fun (s7 : Unit) => (((((((W.ret (3 : Int)).bind fun x23 => ((W.ret ()).bind fun y24 => (W.ret (x23, y24)))).bind fun a25 => (ofO (m_walls_for a25))).bind fun x83 => (W.ret ((dT (dT dI)).d x83))).bind fun x99 => ((((((W.ret (4 : Int)).bind fun x26 => ((W.ret ()).bind fun y27 => (W.ret (x26, y27)))).bind fun a28 => (ofO (m_walls_for a28))).bind fun x84 => (W.ret ((dT (dT dI)).d x84))).bind fun x97 => ((((((((W.ret (3 : Int)).bind fun x41 => (((W.ret (1 : Int)).bind fun x39 => ((((W.ret (2 : Int)).bind fun p29 => (W.ret (-p29))).bind fun x37 => ((((W.ret (2 : Int)).bind fun p30 => (W.ret (-p30))).bind fun x35 => ((W.ret []).bind fun y36 => (W.ret (x35 :: y36)))).bind fun y38 => (W.ret (x37 :: y38)))).bind fun y40 => (W.ret (x39 :: y40)))).bind fun y42 => (W.ret (x41 :: y42)))).bind fun x43 => (ofO (lenK x43))).bind fun x44 => ((W.ret ()).bind fun y45 => (W.ret (x44, y45)))).bind fun a46 => (ofO (m_is_free a46))).bind fun x85 => (W.ret (dB.d x85))).bind fun x95 => ((((((((W.ret (2 : Int)).bind fun x59 => (((W.ret (1 : Int)).bind fun x57 => ((((W.ret (2 : Int)).bind fun p47 => (W.ret (-p47))).bind fun x55 => ((((W.ret (1 : Int)).bind fun p48 => (W.ret (-p48))).bind fun x53 => ((W.ret []).bind fun y54 => (W.ret (x53 :: y54)))).bind fun y56 => (W.ret (x55 :: y56)))).bind fun y58 => (W.ret (x57 :: y58)))).bind fun y60 => (W.ret (x59 :: y60)))).bind fun x61 => (ofO (lenK x61))).bind fun x62 => ((W.ret ()).bind fun y63 => (W.ret (x62, y63)))).bind fun a64 => (ofO (m_is_free a64))).bind fun x86 => (W.ret (dB.d x86))).bind fun x93 => ((((((((W.ret (3 : Int)).bind fun x66 => (((W.ret (3 : Int)).bind fun p65 => (W.ret (-p65))).bind fun x67 => (W.ret (x66, x67)))).bind fun x68 => (W.ret ((eP eI eI).enc x68))).bind fun x71 => (((W.ret (0 : Int)).bind fun x69 => ((W.ret ()).bind fun y70 => (W.ret (x69, y70)))).bind fun y72 => (W.ret (x71, y72)))).bind fun a73 => (ofO (m_is_ends a73))).bind fun x87 => (W.ret (dB.d x87))).bind fun x91 => ((((((((W.ret (3 : Int)).bind fun x75 => (((W.ret (3 : Int)).bind fun p74 => (W.ret (-p74))).bind fun x76 => (W.ret (x75, x76)))).bind fun x77 => (W.ret ((eP eI eI).enc x77))).bind fun x80 => (((W.ret (1 : Int)).bind fun x78 => ((W.ret ()).bind fun y79 => (W.ret (x78, y79)))).bind fun y81 => (W.ret (x80, y81)))).bind fun a82 => (ofO (m_is_ends a82))).bind fun x88 => (W.ret (dB.d x88))).bind fun x89 => ((W.ret []).bind fun y90 => (W.ret (x89 :: y90)))).bind fun y92 => (W.ret (x91 :: y92)))).bind fun y94 => (W.ret (x93 :: y94)))).bind fun y96 => (W.ret (x95 :: y96)))).bind fun y98 => (W.ret (x97 :: y98)))).bind fun y100 => (W.ret (x99 :: y100)))).bind fun x101 => (ofO (lenK x101))).bind fun (v22 : (List PyData)) => (((((W.ret v22).bind fun x132 => (W.ret (PyData.list x132))).bind fun p130 => ((((((W.ret ([] : List Int)).bind fun x111 => (W.ret ((dT dI).d x111))).bind fun x127 => ((((((W.ret (0 : Int)).bind fun x102 => ((W.ret (1 : Int)).bind fun x103 => (W.ret (x102, x103)))).bind fun x108 => (((W.ret (0 : Int)).bind fun x104 => ((W.ret (2 : Int)).bind fun x105 => (W.ret (x104, x105)))).bind fun x109 => (((W.ret (0 : Int)).bind fun x106 => ((W.ret (3 : Int)).bind fun x107 => (W.ret (x106, x107)))).bind fun x110 => (W.ret (x108, x109, x110))))).bind fun x112 => (W.ret ((dP3 (dP dI dI) (dP dI dI) (dP dI dI)).d x112))).bind fun x125 => ((((W.ret true).bind fun x113 => (W.ret (dB.d x113))).bind fun x123 => ((((W.ret false).bind fun x114 => (W.ret (dB.d x114))).bind fun x121 => ((((W.ret false).bind fun x115 => (W.ret (dB.d x115))).bind fun x119 => ((((W.ret true).bind fun x116 => (W.ret (dB.d x116))).bind fun x117 => ((W.ret []).bind fun y118 => (W.ret (x117 :: y118)))).bind fun y120 => (W.ret (x119 :: y120)))).bind fun y122 => (W.ret (x121 :: y122)))).bind fun y124 => (W.ret (x123 :: y124)))).bind fun y126 => (W.ret (x125 :: y126)))).bind fun y128 => (W.ret (x127 :: y128)))).bind fun x129 => (ofO (lenK x129))).bind fun x133 => (W.ret (PyData.list x133))).bind fun q131 => (ofO ((eqC p130 q131).bind fun b => some !b)))).bind fun p140 => (if p140 = true then W.ret true else (((((W.ret (6 : Int)).bind fun x134 => ((W.ret ()).bind fun y135 => (W.ret (x134, y135)))).bind fun a136 => (ofO (m_walls_for a136))).bind fun x137 => (W.ret (x137.length : Int))).bind fun p138 => ((W.ret (25 : Int)).bind fun q139 => (ofO (some (!decide (p138 = q139)))))))).bind fun b141 => (if b141 = true then upF ((W.ret false).bind fun x142 => (W.ret (Fl.rt x142))) else (((((((((W.ret (3 : Int)).bind fun x156 => (((W.ret (1 : Int)).bind fun x154 => ((((W.ret (2 : Int)).bind fun p144 => (W.ret (-p144))).bind fun x152 => ((((W.ret (2 : Int)).bind fun p145 => (W.ret (-p145))).bind fun x150 => ((W.ret []).bind fun y151 => (W.ret (x150 :: y151)))).bind fun y153 => (W.ret (x152 :: y153)))).bind fun y155 => (W.ret (x154 :: y155)))).bind fun y157 => (W.ret (x156 :: y157)))).bind fun x158 => (ofO (lenK x158))).bind fun x176 => (((((W.ret (9 : Int)).bind fun x171 => (((W.ret (4 : Int)).bind fun x169 => ((((W.ret (6 : Int)).bind fun p159 => (W.ret (-p159))).bind fun x167 => ((((W.ret (7 : Int)).bind fun p160 => (W.ret (-p160))).bind fun x165 => ((W.ret []).bind fun y166 => (W.ret (x165 :: y166)))).bind fun y168 => (W.ret (x167 :: y168)))).bind fun y170 => (W.ret (x169 :: y170)))).bind fun y172 => (W.ret (x171 :: y172)))).bind fun x173 => (ofO (lenK x173))).bind fun x174 => ((W.ret ()).bind fun y175 => (W.ret (x174, y175)))).bind fun y177 => (W.ret (x176, y177)))).bind fun a178 => (ofO (m_are_one_room a178))).bind fun x221 => (W.ret (dB.d x221))).bind fun x228 => ((((((((W.ret (3 : Int)).bind fun x191 => (((W.ret (1 : Int)).bind fun x189 => ((((W.ret (2 : Int)).bind fun p179 => (W.ret (-p179))).bind fun x187 => ((((W.ret (2 : Int)).bind fun p180 => (W.ret (-p180))).bind fun x185 => ((W.ret []).bind fun y186 => (W.ret (x185 :: y186)))).bind fun y188 => (W.ret (x187 :: y188)))).bind fun y190 => (W.ret (x189 :: y190)))).bind fun y192 => (W.ret (x191 :: y192)))).bind fun x193 => (ofO (lenK x193))).bind fun x211 => (((((W.ret (1 : Int)).bind fun x206 => (((W.ret (3 : Int)).bind fun x204 => ((((W.ret (2 : Int)).bind fun p194 => (W.ret (-p194))).bind fun x202 => ((((W.ret (2 : Int)).bind fun p195 => (W.ret (-p195))).bind fun x200 => ((W.ret []).bind fun y201 => (W.ret (x200 :: y201)))).bind fun y203 => (W.ret (x202 :: y203)))).bind fun y205 => (W.ret (x204 :: y205)))).bind fun y207 => (W.ret (x206 :: y207)))).bind fun x208 => (ofO (lenK x208))).bind fun x209 => ((W.ret ()).bind fun y210 => (W.ret (x209, y210)))).bind fun y212 => (W.ret (x211, y212)))).bind fun a213 => (ofO (m_are_one_room a213))).bind fun x222 => (W.ret (dB.d x222))).bind fun x226 => ((((((((W.ret (5 : Int)).bind fun x215 => (((W.ret (5 : Int)).bind fun p214 => (W.ret (-p214))).bind fun x216 => (W.ret (x215, x216)))).bind fun x217 => (W.ret [x217.1, x217.2])).bind fun x218 => ((W.ret ()).bind fun y219 => (W.ret (x218, y219)))).bind fun a220 => (ofO (m_room_of2 a220))).bind fun x223 => (W.ret ((dP (dT dI) (dT (dT dI))).d x223))).bind fun x224 => ((W.ret []).bind fun y225 => (W.ret (x224 :: y225)))).bind fun y227 => (W.ret (x226 :: y227)))).bind fun y229 => (W.ret (x228 :: y229)))).bind fun x230 => (ofO (lenK x230))).bind fun (v143 : (List PyData)) => ((((W.ret v143).bind fun x248 => (W.ret (PyData.list x248))).bind fun p246 => ((((((W.ret true).bind fun x236 => (W.ret (dB.d x236))).bind fun x243 => ((((W.ret false).bind fun x237 => (W.ret (dB.d x237))).bind fun x241 => ((((((W.ret (1 : Int)).bind fun x232 => (((W.ret (1 : Int)).bind fun p231 => (W.ret (-p231))).bind fun x233 => (W.ret (x232, x233)))).bind fun x234 => ((W.ret ([] : List Int)).bind fun x235 => (W.ret (x234, x235)))).bind fun x238 => (W.ret ((dP (dP dI dI) (dT dI)).d x238))).bind fun x239 => ((W.ret []).bind fun y240 => (W.ret (x239 :: y240)))).bind fun y242 => (W.ret (x241 :: y242)))).bind fun y244 => (W.ret (x243 :: y244)))).bind fun x245 => (ofO (lenK x245))).bind fun x249 => (W.ret (PyData.list x249))).bind fun q247 => (ofO (eqC p246 q247)))).bind fun x250 => (W.ret (Fl.rt x250)))))))))
def m_law (a : (List Int) × Unit) : W Bool := rtOf (w_law a)
theorem k_law {f : Addr} {fd : FuncData} (F : Fun K "law" "law" slaw f fd) (T : Txt K mg) (h_are_one_room : Has P w K mg base "are_one_room" 8 ["one", "other"] (SpF (pC (qT qI) (pC (qT qI) p0)).ra qB m_are_one_room)) (h_is_ends : Has P w K mg base "is_ends" 5 ["value", "genus"] (SpF (pC qV (pC qI p0)).ra qB m_is_ends)) (h_is_free : Has P w K mg base "is_free" 7 ["ends"] (SpF (pC (qT qI) p0).ra qB m_is_free)) (h_law_dice : Has P w K mg base "_law_dice" 1 ["_law_script", "_law_spot"] (SpN (pC (qX K) (pC qI p0)).ra qI m_law_dice)) (h_law_right : Has P w K mg base "_law_right" 10 ["_law_dice_here"] (SpD p0.ra qB m_law_right)) (h_room_of2 : Has P w K mg base "room_of" 8 ["ends"] (SpF (pC (qT qI) p0).ra (qP (qT qI) (qT (qT qI))) m_room_of2)) (h_walls_for : Has P w K mg base "walls_for" 5 ["size"] (SpF (pC qI p0).ra (qT (qT qI)) m_walls_for)) : FnOk P w K mg base CX0 11 f fd ["_law_script"] (SpW (pC (qX K) p0).ra qB m_law) := by
  refine fn_okW (p := (pC (qX K) p0)) (m := w_law) (pn := (fun z _ => nomatch z)) (pl := fun _ _ => []) (env := fun a => [.im (qX K) a.1, .un, .un, .un]) 3 F sclaw rfl rfl (fun _ => rfl) ?hb ?hg
  case hb =>
    intro cdv A outer s H E hr C a hA
    unfold w_law
    exact (xs_for (s0 := ()) (up := (uN 1 qI)) (pt := fun (s7 : Unit) g => [.im (qX K) a.1, .un, .un, .un]) PassesOwn.never rfl (xi_rng1 (by rfl) T.range (xe_max2 rfl (by rfl) T.max xe_int (xe_min2 rfl (by rfl) T.min xe_int (xe_lenX (by rfl) T.len (xe_var (pv 0)))))) (xg_name (pg_name (i := 1) sclaw.nd rfl (by first | exact .inl rfl | exact .inr rfl))) (fun _ => (.keep (.keep (.keep (.keep .nil))))) (fun s7 x8 => (xs_setN (i := 3) (xe_callL h_law_dice hr (by decide) (by rfl) (xa_cons (xe_var (pv 0)) (xa_cons (xe_var (pv 1)) xa_nil))) (fun v9 => xs_gh 3 (fun d => (xs_ifx (PW.pt (xw_or (xt_not (xt_val (xe_callDH h_law_right hr (by decide) (by rfl) (pv 3) xa_nil))) (xw_or1 (xt_not (xt_val (xe_callDH h_law_right hr (by decide) (by rfl) (pv 3) xa_nil)))))) (xs_ret xe_bl) (xs_nil (fun _ => (.keep (.drop (.keep (.drop .nil))))))))) sclaw.nd rfl (.inl rfl) rfl rfl)) (fun s7 => (xs_set (i := 2) (xe_N (xn_lst (xa_consL (xe_data (dT (dT dI)) (xe_callH h_walls_for hr (by decide) (by rfl) (xa_cons xe_int xa_nil))) (xa_consL (xe_data (dT (dT dI)) (xe_callH h_walls_for hr (by decide) (by rfl) (xa_cons xe_int xa_nil))) (xa_consL (xe_data dB (xe_callH h_is_free hr (by decide) (by rfl) (xa_cons (xe_tupL (xa_consL xe_int (xa_consL xe_int (xa_consL (xe_neg xe_int) (xa_consL (xe_neg xe_int) xa_nilL))))) xa_nil))) (xa_consL (xe_data dB (xe_callH h_is_free hr (by decide) (by rfl) (xa_cons (xe_tupL (xa_consL xe_int (xa_consL xe_int (xa_consL (xe_neg xe_int) (xa_consL (xe_neg xe_int) xa_nilL))))) xa_nil))) (xa_consL (xe_data dB (xe_callH h_is_ends hr (by decide) (by rfl) (xa_cons (xe_enc (eP eI eI) (xe_tup2 xe_int (xe_neg xe_int))) (xa_cons xe_int xa_nil)))) (xa_consL (xe_data dB (xe_callH h_is_ends hr (by decide) (by rfl) (xa_cons (xe_enc (eP eI eI) (xe_tup2 xe_int (xe_neg xe_int))) (xa_cons xe_int xa_nil)))) xa_nilL)))))))) (fun v22 => (xs_ifx (PW.pt (xw_or (xt_cmpD (cd_neD hr.units) (xe_dataL (xe_var (pv 2))) (xe_dataL (xe_N (xn_lst (xa_consL (xe_data (dT dI) (xe_tup0 (r := qI))) (xa_consL (xe_data (dP3 (dP dI dI) (dP dI dI) (dP dI dI)) (xe_tup3 (xe_tup2 xe_int xe_int) (xe_tup2 xe_int xe_int) (xe_tup2 xe_int xe_int))) (xa_consL (xe_data dB xe_bl) (xa_consL (xe_data dB xe_bl) (xa_consL (xe_data dB xe_bl) (xa_consL (xe_data dB xe_bl) xa_nilL))))))))) rfl) (xw_or1 (xt_cmpD cd_neI (xe_len (by rfl) T.len (xq_im (xe_callH h_walls_for hr (by decide) (by rfl) (xa_cons xe_int xa_nil)))) xe_int rfl)))) (xs_ret xe_bl) (xs_set (i := 2) (xe_N (xn_lst (xa_consL (xe_data dB (xe_callH h_are_one_room hr (by decide) (by rfl) (xa_cons (xe_tupL (xa_consL xe_int (xa_consL xe_int (xa_consL (xe_neg xe_int) (xa_consL (xe_neg xe_int) xa_nilL))))) (xa_cons (xe_tupL (xa_consL xe_int (xa_consL xe_int (xa_consL (xe_neg xe_int) (xa_consL (xe_neg xe_int) xa_nilL))))) xa_nil)))) (xa_consL (xe_data dB (xe_callH h_are_one_room hr (by decide) (by rfl) (xa_cons (xe_tupL (xa_consL xe_int (xa_consL xe_int (xa_consL (xe_neg xe_int) (xa_consL (xe_neg xe_int) xa_nilL))))) (xa_cons (xe_tupL (xa_consL xe_int (xa_consL xe_int (xa_consL (xe_neg xe_int) (xa_consL (xe_neg xe_int) xa_nilL))))) xa_nil)))) (xa_consL (xe_data (dP (dT dI) (dT (dT dI))) (xe_callH h_room_of2 hr (by decide) (by rfl) (xa_cons (xe_row2 (xe_tup2 xe_int (xe_neg xe_int))) xa_nil))) xa_nilL))))) (fun v143 => (xs_ret (xe_cmpD (cd_eqD hr.units) (xe_dataL (xe_var (pv 2))) (xe_dataL (xe_N (xn_lst (xa_consL (xe_data dB xe_bl) (xa_consL (xe_data dB xe_bl) (xa_consL (xe_data (dP (dP dI dI) (dT dI)) (xe_tup2 (xe_tup2 xe_int (xe_neg xe_int)) (xe_tup0 (r := qI)))) xa_nilL)))))) rfl))) sclaw.nd rfl (.inl rfl) rfl rfl))) sclaw.nd rfl (.inl rfl) rfl rfl)))
  case hg => exact fun _ => rfl
end
section
theorem all_mk {l : PySem.W.OpenLaw} {w : World} {K : PySem.W.Frag} {h : Heap} {mg : Str → Option Value} {pp : Program} {lv : List (Str × PySem.W.WData)} {fa f_law_dice f_law_roll f_law_pick f_law_rm_ends f_is_whole f_is_integer f_is_count f_check_count f_walls_for f_law_rm_shuts f_is_whole2 f_is_integer2 f_are_ends f_check_ends f_sum_at f_lain_on f_is_free f_law_rm_sum f_law_rm_is_free f_check_free f_room f_room_of f_law_room f_law_rm_room f_law_values f_is_ends f_law_power f_law_rm_free f_check_free2 f_are_one_room f_room_of2 f_law_shuffled f_law_right f_law : Addr} {t_MOST_ENDS : Tok} {t_MOST_ROUND : Tok} {t_g_LEAST_ENDS : Tok} {c_InvalidOperation : Addr} (KX : K.In h) (G : h.Ns mainGlobals mg) (hfa : mg "law" = some (.ref fa)) (XX : PySem.W.XL pp lv mg h)
    (a_law_dice : PySem.W.nsIn K mainGlobals "_law_dice" = some (some (.ref f_law_dice))) (d_law_dice : Dfn K "_law_dice" slaw_dice f_law_dice)
    (a_law_roll : PySem.W.nsIn K mainGlobals "_law_roll" = some (some (.ref f_law_roll))) (d_law_roll : Dfn K "_law_roll" slaw_roll f_law_roll)
    (a_law_pick : PySem.W.nsIn K mainGlobals "_law_pick" = some (some (.ref f_law_pick))) (d_law_pick : Dfn K "_law_pick" slaw_pick f_law_pick)
    (a_law_rm_ends : PySem.W.nsIn K mainGlobals "_law_rm_ends" = some (some (.ref f_law_rm_ends))) (d_law_rm_ends : Dfn K "_law_rm_ends" slaw_rm_ends f_law_rm_ends)
    (a_is_whole : PySem.W.nsIn K mainGlobals "is_whole" = some (some (.ref f_is_whole))) (d_is_whole : Dfn K "is_whole" sis_whole f_is_whole)
    (a_is_integer : PySem.W.nsIn K mainGlobals "is_integer" = some (some (.ref f_is_integer))) (d_is_integer : Dfn K "is_integer" sis_integer f_is_integer)
    (a_is_count : PySem.W.nsIn K mainGlobals "is_count" = some (some (.ref f_is_count))) (d_is_count : Dfn K "is_count" sis_count f_is_count)
    (a_check_count : PySem.W.nsIn K mainGlobals "check_count" = some (some (.ref f_check_count))) (d_check_count : Dfn K "check_count" scheck_count f_check_count)
    (a_walls_for : PySem.W.nsIn K mainGlobals "walls_for" = some (some (.ref f_walls_for))) (d_walls_for : Dfn K "walls_for" swalls_for f_walls_for)
    (a_law_rm_shuts : PySem.W.nsIn K mainGlobals "_law_rm_shuts" = some (some (.ref f_law_rm_shuts))) (d_law_rm_shuts : Dfn K "_law_rm_shuts" slaw_rm_shuts f_law_rm_shuts)
    (a_is_whole2 : PySem.W.nsIn K mainGlobals "is_whole" = some (some (.ref f_is_whole2))) (d_is_whole2 : Dfn K "is_whole" sis_whole2 f_is_whole2)
    (a_is_integer2 : PySem.W.nsIn K mainGlobals "is_integer" = some (some (.ref f_is_integer2))) (d_is_integer2 : Dfn K "is_integer" sis_integer2 f_is_integer2)
    (a_are_ends : PySem.W.nsIn K mainGlobals "_are_ends" = some (some (.ref f_are_ends))) (d_are_ends : Dfn K "_are_ends" sare_ends f_are_ends)
    (a_check_ends : PySem.W.nsIn K mainGlobals "_check_ends" = some (some (.ref f_check_ends))) (d_check_ends : Dfn K "_check_ends" scheck_ends f_check_ends)
    (a_sum_at : PySem.W.nsIn K mainGlobals "_sum_at" = some (some (.ref f_sum_at))) (d_sum_at : Dfn K "_sum_at" ssum_at f_sum_at)
    (a_lain_on : PySem.W.nsIn K mainGlobals "_lain_on" = some (some (.ref f_lain_on))) (d_lain_on : Dfn K "_lain_on" slain_on f_lain_on)
    (a_is_free : PySem.W.nsIn K mainGlobals "is_free" = some (some (.ref f_is_free))) (d_is_free : Dfn K "is_free" sis_free f_is_free)
    (a_law_rm_sum : PySem.W.nsIn K mainGlobals "_law_rm_sum" = some (some (.ref f_law_rm_sum))) (d_law_rm_sum : Dfn K "_law_rm_sum" slaw_rm_sum f_law_rm_sum)
    (a_law_rm_is_free : PySem.W.nsIn K mainGlobals "_law_rm_is_free" = some (some (.ref f_law_rm_is_free))) (d_law_rm_is_free : Dfn K "_law_rm_is_free" slaw_rm_is_free f_law_rm_is_free)
    (a_check_free : PySem.W.nsIn K mainGlobals "_check_free" = some (some (.ref f_check_free))) (d_check_free : Dfn K "_check_free" scheck_free f_check_free)
    (a_room : PySem.W.nsIn K mainGlobals "_room" = some (some (.ref f_room))) (d_room : Dfn K "_room" sroom f_room)
    (a_room_of : PySem.W.nsIn K mainGlobals "room_of" = some (some (.ref f_room_of))) (d_room_of : Dfn K "room_of" sroom_of f_room_of)
    (a_law_room : PySem.W.nsIn K mainGlobals "_law_room" = some (some (.ref f_law_room))) (d_law_room : Dfn K "_law_room" slaw_room f_law_room)
    (a_law_rm_room : PySem.W.nsIn K mainGlobals "_law_rm_room" = some (some (.ref f_law_rm_room))) (d_law_rm_room : Dfn K "_law_rm_room" slaw_rm_room f_law_rm_room)
    (a_law_values : PySem.W.nsIn K mainGlobals "_law_values" = some (some (.ref f_law_values))) (d_law_values : Dfn K "_law_values" slaw_values f_law_values)
    (a_is_ends : PySem.W.nsIn K mainGlobals "is_ends" = some (some (.ref f_is_ends))) (d_is_ends : Dfn K "is_ends" sis_ends f_is_ends)
    (a_law_power : PySem.W.nsIn K mainGlobals "_law_power" = some (some (.ref f_law_power))) (d_law_power : Dfn K "_law_power" slaw_power f_law_power)
    (a_law_rm_free : PySem.W.nsIn K mainGlobals "_law_rm_free" = some (some (.ref f_law_rm_free))) (d_law_rm_free : Dfn K "_law_rm_free" slaw_rm_free f_law_rm_free)
    (a_check_free2 : PySem.W.nsIn K mainGlobals "_check_free" = some (some (.ref f_check_free2))) (d_check_free2 : Dfn K "_check_free" scheck_free2 f_check_free2)
    (a_are_one_room : PySem.W.nsIn K mainGlobals "are_one_room" = some (some (.ref f_are_one_room))) (d_are_one_room : Dfn K "are_one_room" sare_one_room f_are_one_room)
    (a_room_of2 : PySem.W.nsIn K mainGlobals "room_of" = some (some (.ref f_room_of2))) (d_room_of2 : Dfn K "room_of" sroom_of2 f_room_of2)
    (a_law_shuffled : PySem.W.nsIn K mainGlobals "_law_shuffled" = some (some (.ref f_law_shuffled))) (d_law_shuffled : Dfn K "_law_shuffled" slaw_shuffled f_law_shuffled)
    (a_law_right : PySem.W.nsIn K mainGlobals "_law_right" = some (some (.ref f_law_right))) (d_law_right : Dfn K "_law_right" slaw_right f_law_right)
    (a_law : PySem.W.nsIn K mainGlobals "law" = some (some (.ref f_law))) (d_law : Dfn K "law" slaw f_law)
    (z_abs : PySem.W.nsIn K mainGlobals "abs" = some none) (z_all : PySem.W.nsIn K mainGlobals "all" = some none) (z_bool : PySem.W.nsIn K mainGlobals "bool" = some none) (z_int : PySem.W.nsIn K mainGlobals "int" = some none) (z_isinstance : PySem.W.nsIn K mainGlobals "isinstance" = some none) (z_len : PySem.W.nsIn K mainGlobals "len" = some none) (z_list : PySem.W.nsIn K mainGlobals "list" = some none) (z_max : PySem.W.nsIn K mainGlobals "max" = some none) (z_min : PySem.W.nsIn K mainGlobals "min" = some none) (z_range : PySem.W.nsIn K mainGlobals "range" = some none) (z_sorted : PySem.W.nsIn K mainGlobals "sorted" = some none) (z_sum : PySem.W.nsIn K mainGlobals "sum" = some none) (z_tuple : PySem.W.nsIn K mainGlobals "tuple" = some none)
    (i_MOST_ENDS : PySem.W.nsIn K mainGlobals "MOST_ENDS" = some (some (.int 6 t_MOST_ENDS)))
    (i_MOST_ROUND : PySem.W.nsIn K mainGlobals "MOST_ROUND" = some (some (.int 4 t_MOST_ROUND)))
    (i_g_FIRST_TOO_LONG : (("_FIRST_TOO_LONG" : Str), PySem.W.WData.int 1000000000000000000000000000000000000000000000000000000000000) ∈ lv)
    (i_g_LEAST_ENDS : PySem.W.nsIn K mainGlobals "_LEAST_ENDS" = some (some (.int 2 t_g_LEAST_ENDS)))
    (y_InvalidOperation : PySem.W.nsIn K mainGlobals "InvalidOperation" = some (some (.ref c_InvalidOperation))) (yk_InvalidOperation : PySem.W.keepIn K (.ref c_InvalidOperation) = true) (yq_InvalidOperation : PySem.W.excIn K c_InvalidOperation [.type "ValueError", .type "Exception", .type "BaseException", .type "object"] "ValueError.__new__" = true) (ys_InvalidOperation : PySem.W.subIn K (.ref c_InvalidOperation) (.type "BaseException") = some true) (yt_InvalidOperation : PySem.W.typeIn K (.ref c_InvalidOperation) = some (.type "type")) (yi_InvalidOperation : PySem.W.isClsIn K c_InvalidOperation = true) (ye_InvalidOperation : PySem.W.subIn K (.ref c_InvalidOperation) (.ref c_InvalidOperation) = some true)
    : ∃ fd : FuncData, (∀ (s : Shared) (v : Value), BindsTo s fd ⟨[v], []⟩ [("_law_script", v)]) ∧ ∀ base : Heap, K.In base → base.Ns mainGlobals mg → FnOk l.prog w K mg base CX0 11 fa fd ["_law_script"] (SpW (pC (qX K) p0).ra qB m_law) := by
  have e := hfa.symm.trans (PySem.W.mg_of KX G a_law)
  cases e
  have T : Txt K mg := ⟨PySem.W.mg_none_of KX G z_abs, PySem.W.mg_none_of KX G z_all, PySem.W.mg_none_of KX G z_bool, PySem.W.mg_none_of KX G z_int, PySem.W.mg_none_of KX G z_isinstance, PySem.W.mg_none_of KX G z_len, PySem.W.mg_none_of KX G z_list, PySem.W.mg_none_of KX G z_max, PySem.W.mg_none_of KX G z_min, PySem.W.mg_none_of KX G z_range, PySem.W.mg_none_of KX G z_sorted, PySem.W.mg_none_of KX G z_sum, PySem.W.mg_none_of KX G z_tuple, ⟨_, PySem.W.mg_of KX G i_MOST_ENDS⟩, ⟨_, PySem.W.mg_of KX G i_MOST_ROUND⟩, gint_of XX i_g_FIRST_TOO_LONG, ⟨_, PySem.W.mg_of KX G i_g_LEAST_ENDS⟩⟩
  have x_InvalidOperation : ExcT K mg "InvalidOperation" c_InvalidOperation := ⟨PySem.W.mg_of KX G y_InvalidOperation, yk_InvalidOperation, ⟨_, PySem.F.excBase_ValueError, yq_InvalidOperation⟩, ys_InvalidOperation, yt_InvalidOperation, exmS ys_InvalidOperation yi_InvalidOperation yt_InvalidOperation ye_InvalidOperation⟩
  obtain ⟨fd_law_dice, F_law_dice⟩ := d_law_dice
  obtain ⟨fd_law_roll, F_law_roll⟩ := d_law_roll
  obtain ⟨fd_law_pick, F_law_pick⟩ := d_law_pick
  obtain ⟨fd_law_rm_ends, F_law_rm_ends⟩ := d_law_rm_ends
  obtain ⟨fd_is_whole, F_is_whole⟩ := d_is_whole
  obtain ⟨fd_is_integer, F_is_integer⟩ := d_is_integer
  obtain ⟨fd_is_count, F_is_count⟩ := d_is_count
  obtain ⟨fd_check_count, F_check_count⟩ := d_check_count
  obtain ⟨fd_walls_for, F_walls_for⟩ := d_walls_for
  obtain ⟨fd_law_rm_shuts, F_law_rm_shuts⟩ := d_law_rm_shuts
  obtain ⟨fd_is_whole2, F_is_whole2⟩ := d_is_whole2
  obtain ⟨fd_is_integer2, F_is_integer2⟩ := d_is_integer2
  obtain ⟨fd_are_ends, F_are_ends⟩ := d_are_ends
  obtain ⟨fd_check_ends, F_check_ends⟩ := d_check_ends
  obtain ⟨fd_sum_at, F_sum_at⟩ := d_sum_at
  obtain ⟨fd_lain_on, F_lain_on⟩ := d_lain_on
  obtain ⟨fd_is_free, F_is_free⟩ := d_is_free
  obtain ⟨fd_law_rm_sum, F_law_rm_sum⟩ := d_law_rm_sum
  obtain ⟨fd_law_rm_is_free, F_law_rm_is_free⟩ := d_law_rm_is_free
  obtain ⟨fd_check_free, F_check_free⟩ := d_check_free
  obtain ⟨fd_room, F_room⟩ := d_room
  obtain ⟨fd_room_of, F_room_of⟩ := d_room_of
  obtain ⟨fd_law_room, F_law_room⟩ := d_law_room
  obtain ⟨fd_law_rm_room, F_law_rm_room⟩ := d_law_rm_room
  obtain ⟨fd_law_values, F_law_values⟩ := d_law_values
  obtain ⟨fd_is_ends, F_is_ends⟩ := d_is_ends
  obtain ⟨fd_law_power, F_law_power⟩ := d_law_power
  obtain ⟨fd_law_rm_free, F_law_rm_free⟩ := d_law_rm_free
  obtain ⟨fd_check_free2, F_check_free2⟩ := d_check_free2
  obtain ⟨fd_are_one_room, F_are_one_room⟩ := d_are_one_room
  obtain ⟨fd_room_of2, F_room_of2⟩ := d_room_of2
  obtain ⟨fd_law_shuffled, F_law_shuffled⟩ := d_law_shuffled
  obtain ⟨fd_law_right, F_law_right⟩ := d_law_right
  obtain ⟨fd_law, F_law⟩ := d_law
  refine ⟨fd_law, fun s v => ?_, fun base _ _ => ?_⟩
  · obtain ⟨oc, od, kV, doc, pm, an, cdv, ct, osl, rfl, lk, hcd⟩ := F_law.ex
    exact .of_eq rfl
  · have h_law_dice : Has l.prog w K mg base "_law_dice" 1 ["_law_script", "_law_spot"] (SpN (pC (qX K) (pC qI p0)).ra qI m_law_dice) := ⟨_, _, k_law_dice F_law_dice T, PySem.W.mg_of KX G a_law_dice, F_law_dice.kp, F_law_dice.binds (ps := ["_law_script", "_law_spot"]) fun _ _ _ _ _ _ us hl => match us, hl with | [_, _], _ => rfl⟩
    have h_law_roll : Has l.prog w K mg base "_law_roll" 1 ["_law_dice_here", "_law_total"] (SpD (pC qI p0).ra qI m_law_roll) := ⟨_, _, k_law_roll F_law_roll T, PySem.W.mg_of KX G a_law_roll, F_law_roll.kp, F_law_roll.binds (ps := ["_law_dice_here", "_law_total"]) fun _ _ _ _ _ _ us hl => match us, hl with | [_, _], _ => rfl⟩
    have h_law_pick : Has l.prog w K mg base "_law_pick" 2 ["_law_dice_here", "_law_items"] (SpD (pC (qL qI) p0).ra qI m_law_pick) := ⟨_, _, k_law_pick F_law_pick T h_law_roll, PySem.W.mg_of KX G a_law_pick, F_law_pick.kp, F_law_pick.binds (ps := ["_law_dice_here", "_law_items"]) fun _ _ _ _ _ _ us hl => match us, hl with | [_, _], _ => rfl⟩
    have h_law_rm_ends : Has l.prog w K mg base "_law_rm_ends" 3 ["_law_dice_here", "_law_size", "_law_most"] (SpD (pC qI (pC qI p0)).ra (qT qI) m_law_rm_ends) := ⟨_, _, k_law_rm_ends F_law_rm_ends T h_law_pick h_law_roll, PySem.W.mg_of KX G a_law_rm_ends, F_law_rm_ends.kp, F_law_rm_ends.binds (ps := ["_law_dice_here", "_law_size", "_law_most"]) fun _ _ _ _ _ _ us hl => match us, hl with | [_, _, _], _ => rfl⟩
    have h_is_whole : Has l.prog w K mg base "is_whole" 1 ["value"] (SpF (pC qI p0).ra qB m_is_whole) := ⟨_, _, k_is_whole F_is_whole T, PySem.W.mg_of KX G a_is_whole, F_is_whole.kp, F_is_whole.binds (ps := ["value"]) fun _ _ _ _ _ _ us hl => match us, hl with | [_], _ => rfl⟩
    have h_is_integer : Has l.prog w K mg base "is_integer" 2 ["value"] (SpF (pC qI p0).ra qB m_is_integer) := ⟨_, _, k_is_integer F_is_integer T h_is_whole, PySem.W.mg_of KX G a_is_integer, F_is_integer.kp, F_is_integer.binds (ps := ["value"]) fun _ _ _ _ _ _ us hl => match us, hl with | [_], _ => rfl⟩
    have h_is_count : Has l.prog w K mg base "is_count" 3 ["value", "low", "high"] (SpF (pC qI (pC qI (pC qI p0))).ra qB m_is_count) := ⟨_, _, k_is_count F_is_count T h_is_integer, PySem.W.mg_of KX G a_is_count, F_is_count.kp, F_is_count.binds (ps := ["value", "low", "high"]) fun _ _ _ _ _ _ us hl => match us, hl with | [_, _, _], _ => rfl⟩
    have h_check_count : Has l.prog w K mg base "check_count" 4 ["value", "low", "high"] (SpF (pC qI (pC qI (pC qI p0))).ra qN m_check_count) := ⟨_, _, k_check_count F_check_count T h_is_count, PySem.W.mg_of KX G a_check_count, F_check_count.kp, F_check_count.binds (ps := ["value", "low", "high"]) fun _ _ _ _ _ _ us hl => match us, hl with | [_, _, _], _ => rfl⟩
    have h_walls_for : Has l.prog w K mg base "walls_for" 5 ["size"] (SpF (pC qI p0).ra (qT (qT qI)) m_walls_for) := ⟨_, _, k_walls_for F_walls_for T h_check_count, PySem.W.mg_of KX G a_walls_for, F_walls_for.kp, F_walls_for.binds (ps := ["size"]) fun _ _ _ _ _ _ us hl => match us, hl with | [_], _ => rfl⟩
    have h_law_rm_shuts : Has l.prog w K mg base "_law_rm_shuts" 1 ["_law_size"] (SpF (pC qI p0).ra (qL (qT qI)) m_law_rm_shuts) := ⟨_, _, k_law_rm_shuts F_law_rm_shuts T, PySem.W.mg_of KX G a_law_rm_shuts, F_law_rm_shuts.kp, F_law_rm_shuts.binds (ps := ["_law_size"]) fun _ _ _ _ _ _ us hl => match us, hl with | [_], _ => rfl⟩
    have h_is_whole2 : Has l.prog w K mg base "is_whole" 1 ["value"] (SpF (pC qV p0).ra qB m_is_whole2) := ⟨_, _, k_is_whole2 F_is_whole2 T, PySem.W.mg_of KX G a_is_whole2, F_is_whole2.kp, F_is_whole2.binds (ps := ["value"]) fun _ _ _ _ _ _ us hl => match us, hl with | [_], _ => rfl⟩
    have h_is_integer2 : Has l.prog w K mg base "is_integer" 2 ["value"] (SpF (pC qV p0).ra qB m_is_integer2) := ⟨_, _, k_is_integer2 F_is_integer2 T h_is_whole2, PySem.W.mg_of KX G a_is_integer2, F_is_integer2.kp, F_is_integer2.binds (ps := ["value"]) fun _ _ _ _ _ _ us hl => match us, hl with | [_], _ => rfl⟩
    have h_are_ends : Has l.prog w K mg base "_are_ends" 3 ["value", "least", "most"] (SpF (pC qV (pC qI (pC qI p0))).ra qB m_are_ends) := ⟨_, _, k_are_ends F_are_ends T h_is_integer2, PySem.W.mg_of KX G a_are_ends, F_are_ends.kp, F_are_ends.binds (ps := ["value", "least", "most"]) fun _ _ _ _ _ _ us hl => match us, hl with | [_, _, _], _ => rfl⟩
    have h_check_ends : Has l.prog w K mg base "_check_ends" 4 ["value"] (SpF (pC qV p0).ra qN m_check_ends) := ⟨_, _, k_check_ends F_check_ends T h_are_ends, PySem.W.mg_of KX G a_check_ends, F_check_ends.kp, F_check_ends.binds (ps := ["value"]) fun _ _ _ _ _ _ us hl => match us, hl with | [_], _ => rfl⟩
    have h_sum_at : Has l.prog w K mg base "_sum_at" 1 ["ends", "wall"] (SpF (pC (qT qI) (pC (qT qI) p0)).ra qI m_sum_at) := ⟨_, _, k_sum_at F_sum_at T, PySem.W.mg_of KX G a_sum_at, F_sum_at.kp, F_sum_at.binds (ps := ["ends", "wall"]) fun _ _ _ _ _ _ us hl => match us, hl with | [_, _], _ => rfl⟩
    have h_lain_on : Has l.prog w K mg base "_lain_on" 6 ["ends"] (SpN (pC (qT qI) p0).ra (qT qI) m_lain_on) := ⟨_, _, k_lain_on F_lain_on T h_sum_at h_walls_for, PySem.W.mg_of KX G a_lain_on, F_lain_on.kp, F_lain_on.binds (ps := ["ends"]) fun _ _ _ _ _ _ us hl => match us, hl with | [_], _ => rfl⟩
    have h_is_free : Has l.prog w K mg base "is_free" 7 ["ends"] (SpF (pC (qT qI) p0).ra qB m_is_free) := ⟨_, _, k_is_free F_is_free T h_check_ends h_lain_on, PySem.W.mg_of KX G a_is_free, F_is_free.kp, F_is_free.binds (ps := ["ends"]) fun _ _ _ _ _ _ us hl => match us, hl with | [_], _ => rfl⟩
    have h_law_rm_sum : Has l.prog w K mg base "_law_rm_sum" 1 ["_law_ends", "_law_shut"] (SpF (pC (qT qI) (pC (qT qI) p0)).ra qI m_law_rm_sum) := ⟨_, _, k_law_rm_sum F_law_rm_sum T, PySem.W.mg_of KX G a_law_rm_sum, F_law_rm_sum.kp, F_law_rm_sum.binds (ps := ["_law_ends", "_law_shut"]) fun _ _ _ _ _ _ us hl => match us, hl with | [_, _], _ => rfl⟩
    have h_law_rm_is_free : Has l.prog w K mg base "_law_rm_is_free" 2 ["_law_ends"] (SpF (pC (qT qI) p0).ra qB m_law_rm_is_free) := ⟨_, _, k_law_rm_is_free F_law_rm_is_free T h_law_rm_shuts h_law_rm_sum, PySem.W.mg_of KX G a_law_rm_is_free, F_law_rm_is_free.kp, F_law_rm_is_free.binds (ps := ["_law_ends"]) fun _ _ _ _ _ _ us hl => match us, hl with | [_], _ => rfl⟩
    have h_check_free : HasX l.prog w K mg base "_check_free" 7 ["ends"] (SpX c_InvalidOperation (pC (qT qI) p0).ra qN m_check_free) := ⟨_, _, k_check_free F_check_free T x_InvalidOperation h_lain_on, PySem.W.mg_of KX G a_check_free, F_check_free.kp, F_check_free.binds (ps := ["ends"]) fun _ _ _ _ _ _ us hl => match us, hl with | [_], _ => rfl⟩
    have h_room : Has l.prog w K mg base "_room" 6 ["ends"] (SpF (pC (qT qI) p0).ra (qP (qT qI) (qT (qT qI))) m_room) := ⟨_, _, k_room F_room T h_sum_at h_walls_for, PySem.W.mg_of KX G a_room, F_room.kp, F_room.binds (ps := ["ends"]) fun _ _ _ _ _ _ us hl => match us, hl with | [_], _ => rfl⟩
    have h_room_of : HasX l.prog w K mg base "room_of" 8 ["ends"] (SpX c_InvalidOperation (pC (qT qI) p0).ra (qP (qT qI) (qT (qT qI))) m_room_of) := ⟨_, _, k_room_of F_room_of T x_InvalidOperation h_check_ends h_check_free h_room, PySem.W.mg_of KX G a_room_of, F_room_of.kp, F_room_of.binds (ps := ["ends"]) fun _ _ _ _ _ _ us hl => match us, hl with | [_], _ => rfl⟩
    have h_law_room : Has l.prog w K mg base "_law_room" 9 ["_law_ends"] (SpF (pC (qT qI) p0).ra qV m_law_room) := ⟨_, _, k_law_room F_law_room T x_InvalidOperation h_room_of, PySem.W.mg_of KX G a_law_room, F_law_room.kp, F_law_room.binds (ps := ["_law_ends"]) fun _ _ _ _ _ _ us hl => match us, hl with | [_], _ => rfl⟩
    have h_law_rm_room : Has l.prog w K mg base "_law_rm_room" 2 ["_law_ends"] (SpF (pC (qT qI) p0).ra (qP (qT qI) (qT (qT qI))) m_law_rm_room) := ⟨_, _, k_law_rm_room F_law_rm_room T h_law_rm_shuts h_law_rm_sum, PySem.W.mg_of KX G a_law_rm_room, F_law_rm_room.kp, F_law_rm_room.binds (ps := ["_law_ends"]) fun _ _ _ _ _ _ us hl => match us, hl with | [_], _ => rfl⟩
    have h_law_values : Has l.prog w K mg base "_law_values" 2 ["_law_dice_here", "_law_ends"] (SpD (pC (qT qI) p0).ra (qL (qP qV (qL qI))) m_law_values) := ⟨_, _, k_law_values F_law_values T h_law_roll, PySem.W.mg_of KX G a_law_values, F_law_values.kp, F_law_values.binds (ps := ["_law_dice_here", "_law_ends"]) fun _ _ _ _ _ _ us hl => match us, hl with | [_, _], _ => rfl⟩
    have h_is_ends : Has l.prog w K mg base "is_ends" 5 ["value", "genus"] (SpF (pC qV (pC qI p0)).ra qB m_is_ends) := ⟨_, _, k_is_ends F_is_ends T h_are_ends h_check_count, PySem.W.mg_of KX G a_is_ends, F_is_ends.kp, F_is_ends.binds (ps := ["value", "genus"]) fun _ _ _ _ _ _ us hl => match us, hl with | [_, _], _ => rfl⟩
    have h_law_power : Has l.prog w K mg base "_law_power" 1 ["_law_number", "_law_exponent"] (SpF (pC qI (pC qI p0)).ra qI m_law_power) := ⟨_, _, k_law_power F_law_power T, PySem.W.mg_of KX G a_law_power, F_law_power.kp, F_law_power.binds (ps := ["_law_number", "_law_exponent"]) fun _ _ _ _ _ _ us hl => match us, hl with | [_, _], _ => rfl⟩
    have h_law_rm_free : Has l.prog w K mg base "_law_rm_free" 4 ["_law_dice_here", "_law_size", "_law_most"] (SpD (pC qI (pC qI p0)).ra (qT qI) m_law_rm_free) := ⟨_, _, k_law_rm_free F_law_rm_free T h_law_pick h_law_power h_law_rm_ends h_law_rm_is_free, PySem.W.mg_of KX G a_law_rm_free, F_law_rm_free.kp, F_law_rm_free.binds (ps := ["_law_dice_here", "_law_size", "_law_most"]) fun _ _ _ _ _ _ us hl => match us, hl with | [_, _, _], _ => rfl⟩
    have h_check_free2 : Has l.prog w K mg base "_check_free" 7 ["ends"] (SpF (pC (qT qI) p0).ra qN m_check_free2) := ⟨_, _, k_check_free2 F_check_free2 T h_lain_on, PySem.W.mg_of KX G a_check_free2, F_check_free2.kp, F_check_free2.binds (ps := ["ends"]) fun _ _ _ _ _ _ us hl => match us, hl with | [_], _ => rfl⟩
    have h_are_one_room : Has l.prog w K mg base "are_one_room" 8 ["one", "other"] (SpF (pC (qT qI) (pC (qT qI) p0)).ra qB m_are_one_room) := ⟨_, _, k_are_one_room F_are_one_room T h_check_ends h_check_free2 h_room, PySem.W.mg_of KX G a_are_one_room, F_are_one_room.kp, F_are_one_room.binds (ps := ["one", "other"]) fun _ _ _ _ _ _ us hl => match us, hl with | [_, _], _ => rfl⟩
    have h_room_of2 : Has l.prog w K mg base "room_of" 8 ["ends"] (SpF (pC (qT qI) p0).ra (qP (qT qI) (qT (qT qI))) m_room_of2) := ⟨_, _, k_room_of2 F_room_of2 T h_check_ends h_check_free2 h_room, PySem.W.mg_of KX G a_room_of2, F_room_of2.kp, F_room_of2.binds (ps := ["ends"]) fun _ _ _ _ _ _ us hl => match us, hl with | [_], _ => rfl⟩
    have h_law_shuffled : Has l.prog w K mg base "_law_shuffled" 2 ["_law_dice_here", "_law_items"] (SpD (pC (qT qI) p0).ra (qL qI) m_law_shuffled) := ⟨_, _, k_law_shuffled F_law_shuffled T h_law_roll, PySem.W.mg_of KX G a_law_shuffled, F_law_shuffled.kp, F_law_shuffled.binds (ps := ["_law_dice_here", "_law_items"]) fun _ _ _ _ _ _ us hl => match us, hl with | [_, _], _ => rfl⟩
    have h_law_right : Has l.prog w K mg base "_law_right" 10 ["_law_dice_here"] (SpD p0.ra qB m_law_right) := ⟨_, _, k_law_right F_law_right T h_are_one_room h_is_ends h_is_free h_law_pick h_law_rm_ends h_law_rm_free h_law_rm_is_free h_law_rm_room h_law_rm_shuts h_law_roll h_law_room h_law_shuffled h_law_values h_room_of2 h_walls_for, PySem.W.mg_of KX G a_law_right, F_law_right.kp, F_law_right.binds (ps := ["_law_dice_here"]) fun _ _ _ _ _ _ us hl => match us, hl with | [_], _ => rfl⟩
    exact k_law F_law T h_are_one_room h_is_ends h_is_free h_law_dice h_law_right h_room_of2 h_walls_for
end

end K

set_option maxRecDepth 100000
set_option maxHeartbeats 4000000
/-! V1: paths and cycles of a map of integers; how a swap behind it parts or joins them. -/
namespace K
open PySem L2 Rt
def Path (f : Int → Int) : Int → List Int → Int → Prop
  | a, [], b => f a = b
  | a, x :: xs, b => f a = x ∧ Path f x xs b
def IsCyc (f : Int → Int) : List Int → Prop
  | [] => False
  | a :: xs => Path f a xs a
theorem path_append {f : Int → Int} {h b : Int} : ∀ {a : Int} {xs ys : List Int}, Path f a (xs ++ h :: ys) b ↔ Path f a xs h ∧ Path f h ys b
  | a, [], ys => by
    show f a = h ∧ Path f h ys b ↔ f a = h ∧ Path f h ys b
    exact Iff.rfl
  | a, x :: xs, ys => by
    show f a = x ∧ Path f x (xs ++ h :: ys) b ↔ (f a = x ∧ Path f x xs h) ∧ Path f h ys b
    rw [path_append, and_assoc]
theorem path_last {f : Int → Int} : ∀ {a : Int} {xs : List Int} {b : Int}, Path f a xs b → ∃ z ∈ a :: xs, f z = b
  | a, [], b, h => ⟨a, List.mem_cons_self, h⟩
  | a, x :: xs, b, h => by
    obtain ⟨z, hz, e⟩ := path_last h.2
    exact ⟨z, List.mem_cons_of_mem _ hz, e⟩
theorem path_snoc {f : Int → Int} {a b : Int} {xs : List Int} (h : Path f a xs b) : Path f a (xs ++ [b]) (f b) := path_append.mpr ⟨h, rfl⟩
/-- what leads to a place of a cycle stands in it -/
theorem cyc_pred {f : Int → Int} {c : List Int} {p : Int} (h : IsCyc f c) (hp : p ∈ c) : ∃ z ∈ c, f z = p := by
  cases c with
  | nil => cases hp
  | cons a xs =>
    have h : Path f a xs a := h
    rcases List.mem_cons.mp hp with e | hp
    · subst e
      exact path_last h
    · obtain ⟨as, bs, e⟩ := List.append_of_mem hp
      subst e
      obtain ⟨z, hz, ez⟩ := path_last (path_append.mp h).1
      refine ⟨z, ?_, ez⟩
      rcases List.mem_cons.mp hz with e | hz
      · rw [e]; exact List.mem_cons_self
      · exact List.mem_cons_of_mem _ (List.mem_append_left _ hz)
theorem cyc_next {f : Int → Int} : ∀ {a : Int} {xs : List Int} {b p : Int}, Path f a xs b → p ∈ a :: xs → f p ∈ xs ∨ f p = b
  | a, [], b, p, h, hp => by
    rw [List.mem_singleton.mp hp]
    exact .inr h
  | a, x :: xs, b, p, h, hp => by
    rcases List.mem_cons.mp hp with e | hp
    · rw [e, h.1]
      exact .inl List.mem_cons_self
    · rcases cyc_next h.2 hp with z | z
      · exact .inl (List.mem_cons_of_mem _ z)
      · exact .inr z
theorem cyc_mem {f : Int → Int} {c : List Int} {p : Int} (h : IsCyc f c) (hp : p ∈ c) : f p ∈ c := by
  cases c with
  | nil => cases hp
  | cons a xs =>
    rcases cyc_next h hp with z | z
    · exact List.mem_cons_of_mem _ z
    · rw [z]; exact List.mem_cons_self
def itn (f : Int → Int) : Nat → Int → Int
  | 0, x => x
  | k + 1, x => itn f k (f x)
theorem itn_add (f : Int → Int) : ∀ (j k : Nat) (x : Int), itn f (j + k) x = itn f k (itn f j x)
  | 0, k, x => by rw [Nat.zero_add]; rfl
  | j + 1, k, x => by
    rw [show j + 1 + k = (j + k) + 1 by omega]
    show itn f (j + k) (f x) = itn f k (itn f j (f x))
    exact itn_add f j k (f x)
theorem path_itn {f : Int → Int} : ∀ {a : Int} {xs : List Int} {b : Int}, Path f a xs b → ∃ k, itn f k a = b
  | a, [], b, h => ⟨1, h⟩
  | a, x :: xs, b, h => by
    obtain ⟨k, e⟩ := path_itn h.2
    refine ⟨k + 1, ?_⟩
    show itn f k (f a) = b
    rw [h.1, e]
theorem cyc_itn {f : Int → Int} {c : List Int} (h : IsCyc f c) : ∀ x ∈ c, ∀ y ∈ c, ∃ k, itn f k x = y := by
  cases c with
  | nil => intro x hx; cases hx
  | cons a xs =>
    have h : Path f a xs a := h
    have up : ∀ y ∈ a :: xs, ∃ k, itn f k a = y := fun y hy => by
      rcases List.mem_cons.mp hy with e | hy
      · exact ⟨0, e.symm⟩
      · obtain ⟨as, bs, e⟩ := List.append_of_mem hy
        subst e
        exact path_itn (path_append.mp h).1
    have dn : ∀ y ∈ a :: xs, ∃ k, itn f k y = a := fun y hy => by
      rcases List.mem_cons.mp hy with e | hy
      · exact ⟨0, e⟩
      · obtain ⟨as, bs, e⟩ := List.append_of_mem hy
        subst e
        exact path_itn (path_append.mp h).2
    intro x hx y hy
    obtain ⟨j, ej⟩ := dn x hx
    obtain ⟨k, ek⟩ := up y hy
    exact ⟨j + k, by rw [itn_add, ej, ek]⟩
theorem cyc_stay {f : Int → Int} {c : List Int} (h : IsCyc f c) : ∀ (k : Nat) x, x ∈ c → itn f k x ∈ c
  | 0, x, hx => hx
  | k + 1, x, hx => cyc_stay h k (f x) (cyc_mem h hx)
/-- a place that is the least of all to which it leads -/
def Low (f : Int → Int) (x : Int) : Prop := ∀ k, x ≤ itn f k x
open Classical in
noncomputable def lowB (f : Int → Int) (x : Int) : Bool := decide (Low f x)
theorem lowB_iff {f : Int → Int} {x : Int} : lowB f x = true ↔ Low f x := by
  unfold lowB
  simp
theorem min_mem : ∀ (c : List Int), c ≠ [] → ∃ m ∈ c, ∀ y ∈ c, m ≤ y
  | [], h => absurd rfl h
  | [a], _ => ⟨a, List.mem_cons_self, fun y hy => by rw [List.mem_singleton.mp hy]; exact Int.le_refl _⟩
  | a :: b :: c, _ => by
    obtain ⟨m, hm, h⟩ := min_mem (b :: c) (by simp)
    by_cases z : a ≤ m
    · refine ⟨a, List.mem_cons_self, fun y hy => ?_⟩
      rcases List.mem_cons.mp hy with e | hy
      · rw [e]; exact Int.le_refl _
      · exact Int.le_trans z (h y hy)
    · refine ⟨m, List.mem_cons_of_mem _ hm, fun y hy => ?_⟩
      rcases List.mem_cons.mp hy with e | hy
      · rw [e]; omega
      · exact h y hy
theorem countP_zero {p : Int → Bool} : ∀ {c : List Int}, (∀ x ∈ c, p x = false) → c.countP p = 0
  | [], _ => rfl
  | x :: c, h => by
    rw [List.countP_cons, countP_zero fun y hy => h y (List.mem_cons_of_mem _ hy), h x List.mem_cons_self]
    rfl
theorem countP_one {p : Int → Bool} {m : Int} : ∀ {c : List Int}, c.Nodup → m ∈ c → (∀ x ∈ c, p x = true ↔ x = m) → c.countP p = 1
  | [], _, hm, _ => by cases hm
  | x :: c, nd, hm, h => by
    obtain ⟨n1, n2⟩ := List.nodup_cons.mp nd
    rw [List.countP_cons]
    by_cases z : x = m
    · rw [if_pos ((h x List.mem_cons_self).mpr z), countP_zero fun y hy => by
        cases hp : p y with
        | false => rfl
        | true =>
          have := (h y (List.mem_cons_of_mem _ hy)).mp hp
          exact absurd (this.trans z.symm ▸ hy) n1]
    · have hm : m ∈ c := by
        rcases List.mem_cons.mp hm with e | hm
        · exact absurd e.symm z
        · exact hm
      rw [if_neg fun hp => z ((h x List.mem_cons_self).mp hp), countP_one n2 hm fun y hy => h y (List.mem_cons_of_mem _ hy)]
theorem count_cyc {f : Int → Int} {c : List Int} (h : IsCyc f c) (nd : c.Nodup) : c.countP (lowB f) = 1 := by
  obtain ⟨m, hm, hl⟩ := min_mem c (by rintro rfl; exact h)
  refine countP_one nd hm fun x hx => ?_
  rw [lowB_iff]
  constructor
  · intro hL
    obtain ⟨k, e⟩ := cyc_itn h x hx m hm
    have a := hL k
    rw [e] at a
    have b := hl x hx
    omega
  · rintro rfl k
    exact hl _ (cyc_stay h k x hx)
theorem count_dec {f : Int → Int} : ∀ {D : List (List Int)}, (∀ c ∈ D, IsCyc f c) → D.flatten.Nodup → D.flatten.countP (lowB f) = D.length
  | [], _, _ => rfl
  | c :: D, h, nd => by
    rw [List.flatten_cons] at nd ⊢
    obtain ⟨n1, n2, _⟩ := List.nodup_append.mp nd
    rw [List.countP_append, count_cyc (h c List.mem_cons_self) n1, count_dec (fun d hd => h d (List.mem_cons_of_mem _ hd)) n2, List.length_cons]
    omega
/-- all ways to part the same places into cycles have as many -/
theorem dec_unique {f : Int → Int} {D E : List (List Int)} (hD : ∀ c ∈ D, IsCyc f c) (hE : ∀ c ∈ E, IsCyc f c) (nd : D.flatten.Nodup) (hp : D.flatten.Perm E.flatten) : D.length = E.length := by
  rw [← count_dec hD nd, ← count_dec hE (hp.nodup_iff.mp nd)]
  exact hp.countP_eq _
/-! ### a swap behind -/
def sf (l h x : Int) : Int := if x = l then h else if x = h then l else x
theorem sf_l (l h : Int) : sf l h l = h := by unfold sf; rw [if_pos rfl]
theorem sf_h (l h : Int) : sf l h h = l := by
  unfold sf
  split
  · rename_i e; exact e
  · rw [if_pos rfl]
theorem sf_o {l h x : Int} (h1 : x ≠ l) (h2 : x ≠ h) : sf l h x = x := by unfold sf; rw [if_neg h1, if_neg h2]
theorem sf_sf (l h x : Int) : sf l h (sf l h x) = x := by
  by_cases h1 : x = l
  · subst h1; rw [sf_l, sf_h]
  · by_cases h2 : x = h
    · subst h2; rw [sf_h, sf_l]
    · rw [sf_o h1 h2, sf_o h1 h2]
theorem path_swap {f g : Int → Int} {l h : Int} : ∀ {a : Int} {xs : List Int} {b : Int}, Path f a xs b → (∀ y ∈ xs, y ≠ l ∧ y ≠ h) → (∀ x ∈ a :: xs, g x = sf l h (f x)) → Path g a xs (sf l h b)
  | a, [], b, hp, _, hg => by
    have hp : f a = b := hp
    show g a = _
    rw [hg a List.mem_cons_self, hp]
  | a, x :: xs, b, hp, hn, hg => by
    obtain ⟨h1, h2⟩ := hn x List.mem_cons_self
    refine ⟨?_, path_swap hp.2 (fun y hy => hn y (List.mem_cons_of_mem _ hy)) fun y hy => hg y (List.mem_cons_of_mem _ hy)⟩
    rw [hg a List.mem_cons_self, hp.1, sf_o h1 h2]
theorem cyc_swap {f g : Int → Int} {l h : Int} {c : List Int} (hc : IsCyc f c) (hl : l ∉ c) (hh : h ∉ c) (hg : ∀ x ∈ c, g x = sf l h (f x)) : IsCyc g c := by
  cases c with
  | nil => exact hc
  | cons a xs =>
    have := path_swap (l := l) (h := h) hc (fun y hy => ⟨fun e => hl (e ▸ List.mem_cons_of_mem _ hy), fun e => hh (e ▸ List.mem_cons_of_mem _ hy)⟩) hg
    rw [sf_o (x := a) (fun e => hl (by rw [← e]; exact List.mem_cons_self)) (fun e => hh (by rw [← e]; exact List.mem_cons_self))] at this
    exact this
/-- a cycle begun at another of its places -/
theorem cyc_turn {f : Int → Int} {c : List Int} {x : Int} (hc : IsCyc f c) (hx : x ∈ c) : ∃ xs, IsCyc f (x :: xs) ∧ (x :: xs).Perm c := by
  cases c with
  | nil => cases hx
  | cons a xs =>
    have hc : Path f a xs a := hc
    rcases List.mem_cons.mp hx with e | hx
    · subst e
      exact ⟨xs, hc, .refl _⟩
    · obtain ⟨as, bs, e⟩ := List.append_of_mem hx
      subst e
      obtain ⟨p1, p2⟩ := path_append.mp hc
      refine ⟨bs ++ a :: as, path_append.mpr ⟨p2, p1⟩, ?_⟩
      have := List.perm_append_comm (l₁ := x :: bs) (l₂ := a :: as)
      simpa using this
theorem pull {f : Int → Int} {D : List (List Int)} {x : Int} (hD : ∀ c ∈ D, IsCyc f c) (hx : x ∈ D.flatten) :
    ∃ (c xs : List Int) (D' : List (List Int)), c ∈ D ∧ x ∈ c ∧ D.length = D'.length + 1 ∧ (∀ d ∈ D', d ∈ D) ∧ IsCyc f (x :: xs) ∧ (x :: xs).Perm c ∧ D.flatten.Perm ((x :: xs) ++ D'.flatten) := by
  obtain ⟨c, hc, hxc⟩ := List.mem_flatten.mp hx
  obtain ⟨A, B, e⟩ := List.append_of_mem hc
  obtain ⟨xs, h1, h2⟩ := cyc_turn (hD c hc) hxc
  subst e
  refine ⟨c, xs, A ++ B, hc, hxc, by simp; omega, fun d hd => ?_, h1, h2, ?_⟩
  · rcases List.mem_append.mp hd with h | h
    · exact List.mem_append_left _ h
    · exact List.mem_append_right _ (List.mem_cons_of_mem _ h)
  · rw [List.flatten_append, List.flatten_cons, List.flatten_append]
    refine .trans ?_ (h2.symm.append_right _)
    rw [← List.append_assoc, ← List.append_assoc]
    exact List.perm_append_comm.append_right _
theorem swap_dec {f g : Int → Int} {l h : Int} {D : List (List Int)} (hD : ∀ c ∈ D, IsCyc f c) (nd : D.flatten.Nodup) (hg : ∀ x ∈ D.flatten, g x = sf l h (f x)) (hl : l ∈ D.flatten) (hh : h ∈ D.flatten) (ne : l ≠ h) :
    ∃ E : List (List Int), (∀ c ∈ E, IsCyc g c) ∧ E.flatten.Perm D.flatten ∧ ((∃ c ∈ D, l ∈ c ∧ h ∈ c) ∧ E.length = D.length + 1 ∨ (∀ c ∈ D, l ∈ c → h ∉ c) ∧ E.length + 1 = D.length) := by
  obtain ⟨c, xs, D', hc, hlc, hlen, hsub, hcy, hpc, hpm⟩ := pull hD hl
  have nd2 := hpm.nodup_iff.mp nd
  obtain ⟨n1, n2, n3⟩ := List.nodup_append.mp nd2
  have nl : ∀ d ∈ D', l ∉ d := fun d hd z => n3 l List.mem_cons_self l (List.mem_flatten.mpr ⟨d, hd, z⟩) rfl
  have in1 : ∀ x ∈ l :: xs, x ∈ D.flatten := fun x hx => hpm.mem_iff.mpr (List.mem_append_left _ hx)
  have in2 : ∀ x ∈ D'.flatten, x ∈ D.flatten := fun x hx => hpm.mem_iff.mpr (List.mem_append_right _ hx)
  have hcy : Path f l xs l := hcy
  by_cases z : h ∈ l :: xs
  · have hx : h ∈ xs := by
      rcases List.mem_cons.mp z with e | z
      · exact absurd e.symm ne
      · exact z
    obtain ⟨A, B, e⟩ := List.append_of_mem hx
    subst e
    obtain ⟨p1, p2⟩ := path_append.mp hcy
    have m1 : l ∉ A ++ h :: B := (List.nodup_cons.mp n1).1
    obtain ⟨a1, a2, a3⟩ := List.nodup_append.mp (List.nodup_cons.mp n1).2
    have hA : h ∉ A := fun z => a3 h z h List.mem_cons_self rfl
    have hB : h ∉ B := (List.nodup_cons.mp a2).1
    have q1 : Path g l A l := by
      have := path_swap (l := l) (h := h) p1 (fun y hy => ⟨fun e => m1 (e ▸ List.mem_append_left _ hy), fun e => hA (e ▸ hy)⟩) fun x hx => hg x (in1 x (by
        rcases List.mem_cons.mp hx with e | hx
        · rw [e]; exact List.mem_cons_self
        · exact List.mem_cons_of_mem _ (List.mem_append_left _ hx)))
      rwa [sf_h] at this
    have q2 : Path g h B h := by
      have := path_swap (l := l) (h := h) p2 (fun y hy => ⟨fun e => m1 (e ▸ List.mem_append_right _ (List.mem_cons_of_mem _ hy)), fun e => hB (e ▸ hy)⟩) fun x hx => hg x (in1 x (List.mem_cons_of_mem _ (List.mem_append_right _ hx)))
      rwa [sf_l] at this
    have nh : ∀ d ∈ D', h ∉ d := fun d hd w => n3 h z h (List.mem_flatten.mpr ⟨d, hd, w⟩) rfl
    refine ⟨(l :: A) :: (h :: B) :: D', fun d hd => ?_, ?_, .inl ⟨⟨c, hc, hlc, hpc.mem_iff.mp z⟩, by simp; omega⟩⟩
    · rcases List.mem_cons.mp hd with e | hd
      · rw [e]; exact q1
      · rcases List.mem_cons.mp hd with e | hd
        · rw [e]; exact q2
        · exact cyc_swap (hD d (hsub d hd)) (nl d hd) (nh d hd) fun x hx => hg x (in2 x (List.mem_flatten.mpr ⟨d, hd, hx⟩))
    · refine .trans (.of_eq ?_) hpm.symm
      simp
  · have hd : h ∈ D'.flatten := by
      rcases List.mem_append.mp (hpm.mem_iff.mp hh) with w | w
      · exact absurd w z
      · exact w
    obtain ⟨d, ys, D2, hd1, hhd, hlen2, hsub2, hcy2, hpd, hpm2⟩ := pull (fun d hd => hD d (hsub d hd)) hd
    have hcy2 : Path f h ys h := hcy2
    obtain ⟨b1, b2, b3⟩ := List.nodup_append.mp (hpm2.nodup_iff.mp n2)
    have lys : l ∉ h :: ys := fun w => nl d hd1 (hpd.mem_iff.mp w)
    have q1 : Path g l xs h := by
      have := path_swap (l := l) (h := h) hcy (fun y hy => ⟨fun e => (List.nodup_cons.mp n1).1 (e ▸ hy), fun e => z (e ▸ List.mem_cons_of_mem _ hy)⟩) fun x hx => hg x (in1 x hx)
      rwa [sf_l] at this
    have q2 : Path g h ys l := by
      have := path_swap (l := l) (h := h) hcy2 (fun y hy => ⟨fun e => lys (e ▸ List.mem_cons_of_mem _ hy), fun e => (List.nodup_cons.mp b1).1 (e ▸ hy)⟩) fun x hx => hg x (in2 x (hpm2.mem_iff.mpr (List.mem_append_left _ hx)))
      rwa [sf_h] at this
    refine ⟨(l :: xs ++ h :: ys) :: D2, fun e he => ?_, ?_, .inr ⟨fun e he hle hhe => ?_, by simp; omega⟩⟩
    · rcases List.mem_cons.mp he with e1 | he
      · rw [e1]; exact path_append.mpr ⟨q1, q2⟩
      · exact cyc_swap (hD e (hsub e (hsub2 e he))) (nl e (hsub2 e he)) (fun w => b3 h List.mem_cons_self h (List.mem_flatten.mpr ⟨e, he, w⟩) rfl) fun x hx => hg x (in2 x (List.mem_flatten.mpr ⟨e, hsub2 e he, hx⟩))
    · rw [List.flatten_cons, List.append_assoc]
      exact ((List.Perm.append_left (l :: xs) hpm2.symm).trans hpm.symm)
    · -- a cycle with both is the one of l
      obtain ⟨A, B, eD⟩ := List.append_of_mem he
      obtain ⟨k, ek⟩ := cyc_itn (hD e he) l hle h hhe
      exact z (ek ▸ cyc_stay (c := l :: xs) hcy k l List.mem_cons_self)
end K

set_option maxRecDepth 100000
set_option maxHeartbeats 4000000
/-! V2: moves as lists: entries, one behind another, back, swaps behind, rows. -/
namespace K
open PySem L2 Rt
theorem mem_irange {a b x : Int} : x ∈ irange a b ↔ a ≤ x ∧ x < b := by
  unfold irange
  constructor
  · intro h
    obtain ⟨i, hi, rfl⟩ := List.mem_map.mp h
    have := List.mem_range.mp hi
    omega
  · intro h
    exact List.mem_map.mpr ⟨(x - a).toNat, List.mem_range.mpr (by omega), by omega⟩
theorem irange_nodup (a b : Int) : (irange a b).Nodup := by
  unfold irange
  refine List.pairwise_map.mpr (List.nodup_range.imp fun {i j} h e => h ?_)
  omega
theorem irange_sorted (a b : Int) : (irange a b).Pairwise (· ≤ ·) := by
  unfold irange
  refine List.pairwise_map.mpr (List.pairwise_lt_range.imp fun {i j} h => ?_)
  omega
/-- the entry of a move -/
def fn (s : List Int) (x : Int) : Int := (s[x.toNat]?).getD 0
theorem atI_fn {s : List Int} {x : Int} (h0 : 0 ≤ x) (h1 : x < s.length) : L2.atI s x = some (fn s x) := by
  unfold L2.atI ixN fn
  rw [if_pos h0, if_pos h1]
  have e : x.toNat < s.length := by omega
  simp [e]
theorem fn_map {s : List Int} {f : Int → Int} {x : Int} (h0 : 0 ≤ x) (h1 : x < s.length) : fn (s.map f) x = f (fn s x) := by
  unfold fn
  have e : x.toNat < s.length := by omega
  simp [e]
theorem fn_irange {n x : Int} (h0 : 0 ≤ x) (h1 : x < n) : fn (irange 0 n) x = x := by
  unfold fn irange
  have e : x.toNat < (n - 0).toNat := by omega
  simp [e]
  rw [List.getElem?_range (by omega)]
  simp
  omega
structure Mv (n : Int) (s : List Int) : Prop where
  pm : s.Perm (irange 0 n)
theorem Mv.len {n : Int} {s : List Int} (h : Mv n s) (h0 : 0 ≤ n) : (s.length : Int) = n := by
  rw [h.pm.length_eq, irange_length]
  omega
theorem Mv.mem {n : Int} {s : List Int} (h : Mv n s) {x : Int} : x ∈ s ↔ 0 ≤ x ∧ x < n := by
  rw [h.pm.mem_iff, mem_irange]
theorem Mv.nd {n : Int} {s : List Int} (h : Mv n s) : s.Nodup := h.pm.nodup_iff.mpr (irange_nodup 0 n)
theorem fn_mem {s : List Int} {x : Int} (h0 : 0 ≤ x) (h1 : x < s.length) : fn s x ∈ s := by
  unfold fn
  have e : x.toNat < s.length := by omega
  rw [List.getElem?_eq_getElem e]
  exact List.getElem_mem _
theorem Mv.rg {n : Int} {s : List Int} (h : Mv n s) {x : Int} (h0 : 0 ≤ x) (h1 : x < n) : 0 ≤ fn s x ∧ fn s x < n := by
  have := h.len (by omega)
  exact h.mem.mp (fn_mem h0 (by omega))
theorem Mv.inj {n : Int} {s : List Int} (h : Mv n s) {x y : Int} (x0 : 0 ≤ x) (x1 : x < n) (y0 : 0 ≤ y) (y1 : y < n) (e : fn s x = fn s y) : x = y := by
  have hl := h.len (by omega)
  unfold fn at e
  have e1 : x.toNat < s.length := by omega
  have e2 : y.toNat < s.length := by omega
  rw [List.getElem?_eq_getElem e1, List.getElem?_eq_getElem e2] at e
  have e : s[x.toNat] = s[y.toNat] := e
  have key := List.pairwise_iff_getElem.mp h.nd
  rcases Nat.lt_trichotomy x.toNat y.toNat with z | z | z
  · exact absurd e (key _ _ e1 e2 z)
  · omega
  · exact absurd e.symm (key _ _ e2 e1 z)
theorem Mv.sur {n : Int} {s : List Int} (h : Mv n s) {y : Int} (y0 : 0 ≤ y) (y1 : y < n) : ∃ x, 0 ≤ x ∧ x < n ∧ fn s x = y := by
  have hl := h.len (by omega)
  obtain ⟨i, hi, e⟩ := List.mem_iff_getElem.mp (h.mem.mpr ⟨y0, y1⟩)
  refine ⟨i, by omega, by omega, ?_⟩
  unfold fn
  rw [show ((i : Int)).toNat = i by omega, List.getElem?_eq_getElem hi]
  exact e
theorem ext_fn {s t : List Int} (hl : s.length = t.length) (h : ∀ x : Int, 0 ≤ x → x < s.length → fn s x = fn t x) : s = t := by
  refine List.ext_getElem hl fun i h1 h2 => ?_
  have := h i (by omega) (by omega)
  unfold fn at this
  rw [show ((i : Int)).toNat = i by omega, List.getElem?_eq_getElem h1, List.getElem?_eq_getElem h2] at this
  exact this
theorem Mv.ext {n : Int} {s t : List Int} (h0 : 0 ≤ n) (hs : Mv n s) (ht : Mv n t) (h : ∀ x : Int, 0 ≤ x → x < n → fn s x = fn t x) : s = t := by
  have a := hs.len h0
  have b := ht.len h0
  exact ext_fn (by omega) fun x x0 x1 => h x x0 (by omega)
theorem mv_idle (n : Int) : Mv n (irange 0 n) := ⟨.refl _⟩
theorem fn_all {n : Int} {s : List Int} (hl : (s.length : Int) = n) : (irange 0 n).map (fn s) = s := by
  refine ext_fn ?_ fun x h0 h1 => ?_
  · rw [List.length_map, irange_length]; omega
  · rw [List.length_map, irange_length] at h1
    rw [fn_map h0 (by rw [irange_length]; omega), fn_irange h0 (by omega)]
/-- one move, then another one -/
def cmp (s t : List Int) : List Int := s.map (fn t)
theorem Mv.cmp {n : Int} {s t : List Int} (h0 : 0 ≤ n) (hs : Mv n s) (ht : Mv n t) : Mv n (cmp s t) := by
  refine ⟨(hs.pm.map (fn t)).trans ?_⟩
  rw [fn_all (ht.len h0)]
  exact ht.pm
theorem fn_cmp {s t : List Int} {x : Int} (h0 : 0 ≤ x) (h1 : x < s.length) : fn (cmp s t) x = fn t (fn s x) := fn_map h0 h1
theorem cmp_idle {n : Int} {s : List Int} (hs : Mv n s) : cmp s (irange 0 n) = s := by
  refine (List.map_congr_left fun x hx => ?_).trans (List.map_id s)
  obtain ⟨a, b⟩ := hs.mem.mp hx
  exact fn_irange a b
theorem idle_cmp {n : Int} {s : List Int} (h0 : 0 ≤ n) (hs : Mv n s) : cmp (irange 0 n) s = s := fn_all (hs.len h0)
/-- a move, then a swap -/
def swp (s : List Int) (p : Int × Int) : List Int := s.map (sf p.1 p.2)
def Sw (n : Int) (p : Int × Int) : Prop := 0 ≤ p.1 ∧ p.1 < p.2 ∧ p.2 < n
theorem sf_rg {n l h x : Int} (hp : Sw n (l, h)) (x0 : 0 ≤ x) (x1 : x < n) : 0 ≤ sf l h x ∧ sf l h x < n := by
  obtain ⟨a, b, c⟩ := hp
  have a : 0 ≤ l := a
  have b : l < h := b
  have c : h < n := c
  unfold sf
  split
  · omega
  · split <;> omega
theorem sf_inj {l h x y : Int} (e : sf l h x = sf l h y) : x = y := by
  rw [← sf_sf l h x, e, sf_sf]
theorem nodup_map {f : Int → Int} : ∀ {s : List Int}, (∀ x ∈ s, ∀ y ∈ s, f x = f y → x = y) → s.Nodup → (s.map f).Nodup
  | [], _, _ => List.nodup_nil
  | x :: s, h, nd => by
    obtain ⟨a, b⟩ := List.nodup_cons.mp nd
    refine List.nodup_cons.mpr ⟨fun z => ?_, nodup_map (fun y hy z hz => h y (List.mem_cons_of_mem _ hy) z (List.mem_cons_of_mem _ hz)) b⟩
    obtain ⟨y, hy, e⟩ := List.mem_map.mp z
    rw [h y (List.mem_cons_of_mem _ hy) x List.mem_cons_self e] at hy
    exact a hy
theorem subset_len : ∀ {s t : List Int}, s.Nodup → (∀ x ∈ s, x ∈ t) → s.length ≤ t.length
  | [], t, _, _ => Nat.zero_le _
  | x :: s, t, nd, h => by
    obtain ⟨a, b⟩ := List.nodup_cons.mp nd
    have ht := h x List.mem_cons_self
    have := subset_len (s := s) (t := t.erase x) b fun y hy => (List.mem_erase_of_ne (fun e => a (by rw [← e]; exact hy))).mpr (h y (List.mem_cons_of_mem _ hy))
    rw [List.length_erase_of_mem ht] at this
    have := List.length_pos_of_mem ht
    simp only [List.length_cons]
    omega
/-- places that are unlike, and as many as there are -/
theorem mv_of {n : Int} {s : List Int} (h0 : 0 ≤ n) (hl : (s.length : Int) = n) (nd : s.Nodup) (h : ∀ x ∈ s, 0 ≤ x ∧ x < n) : Mv n s := by
  refine ⟨(List.perm_ext_iff_of_nodup nd (irange_nodup 0 n)).mpr fun x => ⟨fun hx => mem_irange.mpr (h x hx), fun hx => ?_⟩⟩
  refine Classical.byContradiction fun z => ?_
  have := subset_len (s := x :: s) (t := irange 0 n) (List.nodup_cons.mpr ⟨z, nd⟩) fun y hy => by
    rcases List.mem_cons.mp hy with e | hy
    · rw [e]; exact hx
    · exact mem_irange.mpr (h y hy)
  rw [irange_length] at this
  simp only [List.length_cons] at this
  omega
theorem Mv.swp {n : Int} {s : List Int} {p : Int × Int} (h0 : 0 ≤ n) (hs : Mv n s) (hp : Sw n p) : Mv n (swp s p) := by
  refine mv_of h0 ?_ (nodup_map (fun x _ y _ e => sf_inj e) hs.nd) fun x hx => ?_
  · rw [show (K.swp s p).length = s.length from List.length_map _]
    exact hs.len h0
  · obtain ⟨y, hy, e⟩ := List.mem_map.mp hx
    obtain ⟨a, b⟩ := hs.mem.mp hy
    rw [← e]
    exact sf_rg hp a b
theorem fn_swp {s : List Int} {p : Int × Int} {x : Int} (h0 : 0 ≤ x) (h1 : x < s.length) : fn (swp s p) x = sf p.1 p.2 (fn s x) := fn_map h0 h1
theorem swp_swp (s : List Int) (p : Int × Int) : swp (swp s p) p = s := by
  unfold swp
  rw [List.map_map]
  exact (List.map_congr_left fun x _ => sf_sf p.1 p.2 x).trans (List.map_id s)
theorem swp_cmp {n : Int} {s t : List Int} {p : Int × Int} (h0 : 0 ≤ n) (hs : Mv n s) (ht : Mv n t) : swp (cmp s t) p = cmp s (swp t p) := by
  unfold swp cmp
  rw [List.map_map]
  refine List.map_congr_left fun x hx => ?_
  obtain ⟨a, b⟩ := hs.mem.mp hx
  have := ht.len h0
  exact (fn_map a (by omega)).symm
/-- the product of a row -/
def prd (n : Int) (row : List (Int × Int)) : List Int := row.foldl swp (irange 0 n)
theorem mv_fold {n : Int} (h0 : 0 ≤ n) : ∀ (row : List (Int × Int)) {s : List Int}, Mv n s → (∀ p ∈ row, Sw n p) → Mv n (row.foldl swp s)
  | [], s, hs, _ => hs
  | p :: row, s, hs, h => mv_fold h0 row (hs.swp h0 (h p List.mem_cons_self)) fun q hq => h q (List.mem_cons_of_mem _ hq)
theorem mv_prd {n : Int} (h0 : 0 ≤ n) {row : List (Int × Int)} (h : ∀ p ∈ row, Sw n p) : Mv n (prd n row) := mv_fold h0 row (mv_idle n) h
theorem fold_cmp {n : Int} (h0 : 0 ≤ n) : ∀ (row : List (Int × Int)) {s t : List Int}, Mv n s → Mv n t → (∀ p ∈ row, Sw n p) → row.foldl swp (cmp s t) = cmp s (row.foldl swp t)
  | [], s, t, _, _, _ => rfl
  | p :: row, s, t, hs, ht, h => by
    show row.foldl swp (swp (cmp s t) p) = _
    rw [swp_cmp h0 hs ht, fold_cmp h0 row hs (ht.swp h0 (h p List.mem_cons_self)) fun q hq => h q (List.mem_cons_of_mem _ hq)]
    rfl
theorem prd_append {n : Int} (h0 : 0 ≤ n) {row other : List (Int × Int)} (h : ∀ p ∈ row, Sw n p) (ho : ∀ p ∈ other, Sw n p) : prd n (row ++ other) = cmp (prd n row) (prd n other) := by
  have := fold_cmp h0 other (mv_prd h0 h) (mv_idle n) ho
  rw [cmp_idle (mv_prd h0 h)] at this
  unfold prd at this ⊢
  rw [List.foldl_append]
  exact this
theorem cmp_assoc {n : Int} {r s t : List Int} (h0 : 0 ≤ n) (hr : Mv n r) (hs : Mv n s) : cmp (cmp r s) t = cmp r (cmp s t) := by
  unfold cmp
  rw [List.map_map]
  refine List.map_congr_left fun x hx => ?_
  obtain ⟨a, b⟩ := hr.mem.mp hx
  have := hs.len h0
  exact (fn_map a (by omega)).symm
theorem prd_rev {n : Int} (h0 : 0 ≤ n) : ∀ (row : List (Int × Int)), (∀ p ∈ row, Sw n p) → cmp (prd n row) (prd n row.reverse) = irange 0 n
  | [], _ => cmp_idle (mv_idle n)
  | p :: row, h => by
    have h1 := h p List.mem_cons_self
    have h2 : ∀ q ∈ row, Sw n q := fun q hq => h q (List.mem_cons_of_mem _ hq)
    have h3 : ∀ q ∈ row.reverse, Sw n q := fun q hq => h2 q (List.mem_reverse.mp hq)
    have hp : ∀ q ∈ [p], Sw n q := fun q hq => List.mem_singleton.mp hq ▸ h1
    have m1 := mv_prd h0 hp
    have m2 := mv_prd h0 h2
    have m3 := mv_prd h0 h3
    rw [show p :: row = [p] ++ row from rfl, prd_append h0 hp h2, List.reverse_append, show [p].reverse = [p] from rfl, prd_append h0 h3 hp, cmp_assoc h0 m1 m2, ← cmp_assoc h0 m2 m3, prd_rev h0 row h2, idle_cmp h0 m1,
      show prd n [p] = swp (irange 0 n) p from rfl, ← swp_cmp h0 ((mv_idle n).swp h0 h1) (mv_idle n), cmp_idle ((mv_idle n).swp h0 h1), swp_swp]
/-- what undoes a move -/
structure Inv (n : Int) (s b : List Int) : Prop where
  mv : Mv n b
  eq : ∀ x : Int, 0 ≤ x → x < n → fn b (fn s x) = x
theorem Inv.unique {n : Int} {s b c : List Int} (h0 : 0 ≤ n) (hs : Mv n s) (hb : Inv n s b) (hc : Mv n c) (h : ∀ x : Int, 0 ≤ x → x < n → fn c (fn s x) = x) : b = c :=
  Mv.ext h0 hb.mv hc fun y y0 y1 => by
    obtain ⟨x, x0, x1, e⟩ := hs.sur y0 y1
    rw [← e, hb.eq x x0 x1, h x x0 x1]
/-! setting entries one by one -/
theorem fn_set {s : List Int} {x y v : Int} (x0 : 0 ≤ x) (y0 : 0 ≤ y) (y1 : y < s.length) : fn (s.set y.toNat v) x = if x = y then v else fn s x := by
  unfold fn
  by_cases e : x = y
  · subst e
    rw [if_pos rfl, List.getElem?_set_self (by omega)]
    rfl
  · rw [if_neg e, List.getElem?_set_ne (by omega)]
def sets (ps : List (Int × Int)) (s : List Int) : List Int := ps.foldl (fun s p => s.set p.2.toNat p.1) s
theorem sets_len : ∀ (ps : List (Int × Int)) (s : List Int), (sets ps s).length = s.length
  | [], _ => rfl
  | p :: ps, s => (sets_len ps _).trans (List.length_set ..)
theorem sets_fn {n : Int} : ∀ (ps : List (Int × Int)) (s : List Int), (s.length : Int) = n → (∀ p ∈ ps, 0 ≤ p.2 ∧ p.2 < n) → (ps.map (·.2)).Nodup → (∀ p ∈ ps, fn (sets ps s) p.2 = p.1) ∧ ∀ x : Int, 0 ≤ x → x ∉ ps.map (·.2) → fn (sets ps s) x = fn s x
  | [], s, _, _, _ => ⟨(fun p hp => nomatch hp), fun _ _ _ => rfl⟩
  | p :: ps, s, hl, h, nd => by
    obtain ⟨n1, n2⟩ := List.nodup_cons.mp nd
    obtain ⟨a, b⟩ := h p List.mem_cons_self
    obtain ⟨k1, k2⟩ := sets_fn (n := n) ps (s.set p.2.toNat p.1) (by rw [List.length_set]; exact hl) (fun q hq => h q (List.mem_cons_of_mem _ hq)) n2
    refine ⟨fun q hq => ?_, fun x x0 hx => ?_⟩
    · rcases List.mem_cons.mp hq with e | hq
      · subst e
        refine (k2 q.2 a n1).trans ?_
        rw [fn_set a a (by omega), if_pos rfl]
      · exact k1 q hq
    · have hx : x ≠ p.2 ∧ x ∉ ps.map (·.2) := by simpa using hx
      refine (k2 x x0 hx.2).trans ?_
      rw [fn_set x0 a (by omega), if_neg hx.1]
end K

set_option maxRecDepth 100000
set_option maxHeartbeats 4000000
/-! V3: going round from a place until it comes again; the cycles one after the other. -/
namespace K
open PySem L2 Rt
/-- from p on, until s comes, these places are met -/
def Orb (f : Int → Int) (s : Int) : Int → List Int → Prop
  | p, [] => p = s
  | p, y :: ys => p = y ∧ p ≠ s ∧ Orb f s (f p) ys
theorem orbit {n : Int} {σ : List Int} {D : List (List Int)} {s : Int} (M : Mv n σ) (hD : ∀ c ∈ D, IsCyc (fn σ) c) (hDr : ∀ x ∈ D.flatten, 0 ≤ x ∧ x < n) :
    ∀ (k : Nat) (xs : List Int) (p : Int), Path (fn σ) s xs p → (s :: xs).Nodup → (∀ x ∈ s :: xs, 0 ≤ x ∧ x < n) → (∀ x ∈ s :: xs, x ∉ D.flatten) → n ≤ xs.length + k →
      ∃ ys, Orb (fn σ) s p ys ∧ Path (fn σ) s (xs ++ ys) s ∧ (s :: (xs ++ ys)).Nodup ∧ (∀ x ∈ s :: (xs ++ ys), 0 ≤ x ∧ x < n) ∧ ∀ x ∈ s :: (xs ++ ys), x ∉ D.flatten
  | 0, xs, p, hp, nd, hr, hd, hk => by
    have := subset_len (t := irange 0 n) nd fun x hx => mem_irange.mpr (hr x hx)
    rw [irange_length] at this
    simp only [List.length_cons] at this
    omega
  | k + 1, xs, p, hp, nd, hr, hd, hk => by
    by_cases z : p = s
    · subst z
      exact ⟨[], rfl, by rw [List.append_nil]; exact hp, by rw [List.append_nil]; exact nd, by rw [List.append_nil]; exact hr, by rw [List.append_nil]; exact hd⟩
    · obtain ⟨y, hy, ey⟩ := path_last hp
      obtain ⟨y0, y1⟩ := hr y hy
      have pr : 0 ≤ p ∧ p < n := by
        rw [← ey]
        exact M.rg y0 y1
      have np : p ∉ xs := fun w => by
        obtain ⟨as, bs, e⟩ := List.append_of_mem w
        subst e
        obtain ⟨p1, p2⟩ := path_append.mp hp
        obtain ⟨u, hu, eu⟩ := path_last p1
        obtain ⟨v, hv, ev⟩ := path_last p2
        have hu2 : u ∈ s :: (as ++ p :: bs) := by
          rcases List.mem_cons.mp hu with e | hu
          · rw [e]; exact List.mem_cons_self
          · exact List.mem_cons_of_mem _ (List.mem_append_left _ hu)
        have hv2 : v ∈ s :: (as ++ p :: bs) := List.mem_cons_of_mem _ (List.mem_append_right _ hv)
        obtain ⟨u0, u1⟩ := hr u hu2
        obtain ⟨v0, v1⟩ := hr v hv2
        have e := M.inj u0 u1 v0 v1 (eu.trans ev.symm)
        subst e
        obtain ⟨n1, n2⟩ := List.nodup_cons.mp nd
        rcases List.mem_cons.mp hu with e | hu
        · subst e
          exact n1 (List.mem_append_right _ hv)
        · exact (List.nodup_append.mp n2).2.2 u hu u hv rfl
      have nD : p ∉ D.flatten := fun w => by
        obtain ⟨c, hc, hpc⟩ := List.mem_flatten.mp w
        obtain ⟨u, hu, eu⟩ := cyc_pred (hD c hc) hpc
        have ur := hDr u (List.mem_flatten.mpr ⟨c, hc, hu⟩)
        have e := M.inj ur.1 ur.2 y0 y1 (eu.trans ey.symm)
        subst e
        exact hd u hy (List.mem_flatten.mpr ⟨c, hc, hu⟩)
      obtain ⟨ys, h1, h2, h3, h4, h5⟩ := orbit M hD hDr k (xs ++ [p]) (fn σ p) (path_snoc hp) (by
          have : (s :: (xs ++ [p])) = (s :: xs) ++ [p] := rfl
          rw [this]
          refine List.nodup_append.mpr ⟨nd, by simp, fun a ha b hb e => ?_⟩
          rw [List.mem_singleton.mp hb] at e
          subst e
          rcases List.mem_cons.mp ha with e | ha
          · exact z e
          · exact np ha) (fun x hx => by
          rcases List.mem_cons.mp hx with e | hx
          · exact hr x (e ▸ List.mem_cons_self)
          · rcases List.mem_append.mp hx with hx | hx
            · exact hr x (List.mem_cons_of_mem _ hx)
            · rw [List.mem_singleton.mp hx]; exact pr) (fun x hx => by
          rcases List.mem_cons.mp hx with e | hx
          · exact hd x (e ▸ List.mem_cons_self)
          · rcases List.mem_append.mp hx with hx | hx
            · exact hd x (List.mem_cons_of_mem _ hx)
            · rw [List.mem_singleton.mp hx]; exact nD) (by simp only [List.length_append, List.length_cons, List.length_nil]; omega)
      rw [List.append_assoc] at h2 h3 h4 h5
      exact ⟨p :: ys, ⟨rfl, z, h1⟩, h2, h3, h4, h5⟩
/-! the loops -/
theorem while_orb {ρ γ' : Type} {σ : List Int} {n s : Int} {c : List Int × Int → Option Bool} {b : List Int × Int → Option (Fl ρ (List Int × Int) (List Int × Int))} (M : Mv n σ)
    (hc : ∀ st, c st = some (!decide (st.2 = s))) (hb : ∀ acc p, 0 ≤ p → p < n → acc.length ≤ 100 → b (acc, p) = some (.nx (acc ++ [p], fn σ p))) :
    ∀ (ys acc : List Int) (p : Int) (fuel : Nat), Orb (fn σ) s p ys → (∀ x ∈ ys, 0 ≤ x ∧ x < n) → ys.length < fuel → acc.length + ys.length ≤ 100 → whileO (γ' := γ') c b fuel (acc, p) = some (.nx (acc ++ ys, s))
  | [], acc, p, 0, _, _, hf, _ => absurd hf (by simp)
  | y :: ys, acc, p, 0, _, _, hf, _ => absurd hf (by simp)
  | [], acc, p, fuel + 1, ho, _, _, _ => by
    have ho : p = s := ho
    subst ho
    unfold whileO
    rw [hc]
    simp
  | y :: ys, acc, p, fuel + 1, ho, hr, hf, ha => by
    obtain ⟨rfl, h1, h2⟩ := ho
    obtain ⟨p0, p1⟩ := hr p List.mem_cons_self
    simp only [List.length_cons] at hf ha
    unfold whileO
    rw [hc]
    simp only [h1, decide_false, Bool.not_false, Option.bind_some, if_true]
    rw [hb acc p p0 p1 (by omega)]
    show whileO c b fuel (acc ++ [p], fn σ p) = _
    rw [while_orb M hc hb ys (acc ++ [p]) (fn σ p) fuel h2 (fun x hx => hr x (List.mem_cons_of_mem _ hx)) (by omega) (by simp; omega), List.append_assoc]
    rfl
def flags (n : Int) (S : List Int) : List Bool := (irange 0 n).map fun i => decide (i ∈ S)
theorem flags_len (n : Int) (S : List Int) : (flags n S).length = n.toNat := by
  unfold flags
  rw [List.length_map, irange_length]
  congr 1
  omega
theorem flags_get {n : Int} {S : List Int} {x : Int} (h0 : 0 ≤ x) (h1 : x < n) : L2.atI (flags n S) x = some (decide (x ∈ S)) := by
  have hl := flags_len n S
  unfold L2.atI ixN
  rw [if_pos h0, if_pos (by omega)]
  have e : x.toNat < (flags n S).length := by omega
  have : (flags n S)[x.toNat]? = some (decide (x ∈ S)) := by
    unfold flags irange
    have e2 : x.toNat < (n - 0).toNat := by omega
    rw [List.map_map, List.getElem?_map, List.getElem?_range e2]
    simp
    rw [show max x 0 = x by omega]
  simp [this]
theorem flags_set {n : Int} {S : List Int} {x : Int} (h0 : 0 ≤ x) (h1 : x < n) : setC (flags n S) x true = some (flags n (S ++ [x])) := by
  have hl := flags_len n S
  have hl2 := flags_len n (S ++ [x])
  unfold setC ixN
  rw [if_pos h0, if_pos (by omega)]
  show some ((flags n S).set x.toNat true) = _
  congr 1
  refine List.ext_getElem (by rw [List.length_set]; omega) fun i i1 i2 => ?_
  rw [List.getElem_set]
  have i3 : i < n.toNat := by omega
  unfold flags irange
  simp only [List.map_map, List.getElem_map, List.getElem_range]
  by_cases e : x.toNat = i
  · rw [if_pos e]
    subst e
    have : ((fun i : Int => decide (i ∈ S ++ [x])) ∘ fun i : Nat => 0 + (i : Int)) x.toNat = decide ((0 + (x.toNat : Int)) ∈ S ++ [x]) := rfl
    rw [this, show (0 + (x.toNat : Int)) = x by omega]
    simp
  · rw [if_neg e]
    show decide ((0 + (i : Int)) ∈ S) = decide ((0 + (i : Int)) ∈ S ++ [x])
    have : (0 + (i : Int)) ≠ x := by omega
    rw [Bool.eq_iff_iff, decide_eq_true_iff, decide_eq_true_iff, List.mem_append, List.mem_singleton]
    exact ⟨.inl, fun w => w.resolve_right this⟩
theorem while_seen {ρ γ' : Type} {σ : List Int} {n s : Int} {c : List Bool × List Int × Int → Option Bool} {b : List Bool × List Int × Int → Option (Fl ρ (List Bool × List Int × Int) (List Bool × List Int × Int))} (M : Mv n σ)
    (hc : ∀ S acc p, 0 ≤ p → p < n → c (flags n S, acc, p) = some (!decide (p ∈ S))) (hb : ∀ S acc p, 0 ≤ p → p < n → acc.length ≤ 100 → b (flags n S, acc, p) = some (.nx (flags n (S ++ [p]), acc ++ [p], fn σ p))) :
    ∀ (ys acc S : List Int) (p : Int) (fuel : Nat), Orb (fn σ) s p ys → s ∈ S → 0 ≤ s → s < n → (∀ x ∈ ys, (0 ≤ x ∧ x < n) ∧ x ∉ S) → ys.Nodup → ys.length < fuel → acc.length + ys.length ≤ 100 → whileO (γ' := γ') c b fuel (flags n S, acc, p) = some (.nx (flags n (S ++ ys), acc ++ ys, s))
  | [], acc, S, p, 0, _, _, _, _, _, _, hf, _ => absurd hf (by simp)
  | y :: ys, acc, S, p, 0, _, _, _, _, _, _, hf, _ => absurd hf (by simp)
  | [], acc, S, p, fuel + 1, ho, hs, s0, s1, _, _, _, _ => by
    have ho : p = s := ho
    subst ho
    unfold whileO
    rw [hc S acc p s0 s1]
    simp [hs]
  | y :: ys, acc, S, p, fuel + 1, ho, hs, s0, s1, hr, nd, hf, ha => by
    obtain ⟨rfl, h1, h2⟩ := ho
    obtain ⟨⟨p0, p1⟩, pS⟩ := hr p List.mem_cons_self
    obtain ⟨n1, n2⟩ := List.nodup_cons.mp nd
    simp only [List.length_cons] at hf ha
    unfold whileO
    rw [hc S acc p p0 p1]
    simp only [pS, decide_false, Bool.not_false, Option.bind_some, if_true]
    rw [hb S acc p p0 p1 (by omega)]
    show whileO c b fuel (flags n (S ++ [p]), acc ++ [p], fn σ p) = _
    rw [while_seen M hc hb ys (acc ++ [p]) (S ++ [p]) (fn σ p) fuel h2 (List.mem_append_left _ hs) s0 s1 (fun x hx => ⟨(hr x (List.mem_cons_of_mem _ hx)).1, fun w => by
      rcases List.mem_append.mp w with w | w
      · exact (hr x (List.mem_cons_of_mem _ hx)).2 w
      · rw [List.mem_singleton.mp w] at hx
        exact n1 hx⟩) n2 (by omega) (by simp; omega), List.append_assoc, List.append_assoc]
    rfl
/-- what the loops over the starts keep -/
structure Part (n : Int) (σ : List Int) (D : List (List Int)) : Prop where
  cyc : ∀ c ∈ D, IsCyc (fn σ) c
  nd : D.flatten.Nodup
  rg : ∀ x ∈ D.flatten, 0 ≤ x ∧ x < n
theorem Part.new {n : Int} {σ : List Int} {D : List (List Int)} {s : Int} (M : Mv n σ) (h : Part n σ D) (s0 : 0 ≤ s) (s1 : s < n) (hs : s ∉ D.flatten) :
    ∃ ys, Orb (fn σ) s (fn σ s) ys ∧ (ys.length : Int) < n ∧ (s :: ys).Nodup ∧ (∀ x ∈ ys, (0 ≤ x ∧ x < n) ∧ x ∉ D.flatten) ∧ Part n σ (D ++ [s :: ys]) := by
  obtain ⟨ys, h1, h2, h3, h4, h5⟩ := orbit M h.cyc h.rg n.toNat [] (fn σ s) rfl (by simp) (fun x hx => by rw [List.mem_singleton.mp hx]; exact ⟨s0, s1⟩) (fun x hx => by rw [List.mem_singleton.mp hx]; exact hs) (by simp; omega)
  rw [List.nil_append] at h2 h3 h4 h5
  have hl := subset_len (t := irange 0 n) h3 fun x hx => mem_irange.mpr (h4 x hx)
  rw [irange_length] at hl
  simp only [List.length_cons] at hl
  refine ⟨ys, h1, by omega, h3, fun x hx => ⟨h4 x (List.mem_cons_of_mem _ hx), h5 x (List.mem_cons_of_mem _ hx)⟩, fun c hc => ?_, ?_, fun x hx => ?_⟩
  · rcases List.mem_append.mp hc with hc | hc
    · exact h.cyc c hc
    · rw [List.mem_singleton.mp hc]
      exact h2
  · rw [List.flatten_append]
    refine List.nodup_append.mpr ⟨h.nd, by simpa using h3, fun a ha b hb e => ?_⟩
    subst e
    exact h5 a (by simpa using hb) ha
  · rw [List.flatten_append] at hx
    rcases List.mem_append.mp hx with hx | hx
    · exact h.rg x hx
    · exact h4 x (by simpa using hx)
theorem Part.full {n : Int} {σ : List Int} {D : List (List Int)} (h : Part n σ D) (hall : ∀ x : Int, 0 ≤ x → x < n → x ∈ D.flatten) : D.flatten.Perm (irange 0 n) :=
  (List.perm_ext_iff_of_nodup h.nd (irange_nodup 0 n)).mpr fun x => ⟨fun hx => mem_irange.mpr (h.rg x hx), fun hx => by
    obtain ⟨a, b⟩ := mem_irange.mp hx
    exact hall x a b⟩
end K

set_option maxRecDepth 100000
set_option maxHeartbeats 4000000
/-! V4: the dice, and what is drawn. -/
namespace K
open PySem L2 Rt
def DI (n : Int) (g : Gh) : Prop := ∃ l s c : Int, g = [l, s, c] ∧ 0 ≤ l ∧ 0 ≤ s ∧ s < 2 ^ 80 ∧ 0 ≤ c ∧ c ≤ n
theorem log_le {i : Int} (h1 : -(2 ^ 200) < i) (h2 : i < 2 ^ 200) : i.natAbs.log2 ≤ 200 := by
  by_cases z : i.natAbs = 0
  · rw [z]; decide
  · refine Nat.le_of_lt ((Nat.log2_lt z).mpr ?_)
    omega
theorem mulC_of {i j : Int} (h1 : -(2 ^ 200) < i) (h2 : i < 2 ^ 200) (h3 : -(2 ^ 200) < j) (h4 : j < 2 ^ 200) : mulC i j = some (i * j) := by
  unfold mulC
  have a := log_le h1 h2
  have b := log_le h3 h4
  rw [if_pos (by omega)]
theorem modC_of {i j : Int} (h : 0 < j) : modC i j = some (i % j) := by
  unfold modC
  rw [if_pos h]
theorem divC_of {i j : Int} (h : 0 < j) (h2 : j < 2 ^ 200) : divC i j = some (i / j) := by
  unfold divC
  have := log_le (i := j) (by omega) h2
  rw [if_pos ⟨h, by omega⟩]
theorem at0 (l s c : Int) : L2.atI [l, s, c] 0 = some l := rfl
theorem at1 (l s c : Int) : L2.atI [l, s, c] 1 = some s := rfl
theorem at2 (l s c : Int) : L2.atI [l, s, c] 2 = some c := rfl
theorem roll_ok {n total : Int} {g : Gh} {P : Int → Gh → Prop} (h : DI n g) (hn : n < 1000000) (h0 : 0 < total) (h1 : total < 2 ^ 80) (k : ∀ r g', 0 ≤ r → r < total → DI (n + 1) g' → P r g') : m_law_roll (total, ()) g P := by
  obtain ⟨l, s, c, rfl, hl, hs, hs2, hc, hc2⟩ := h
  unfold m_law_roll w_law_roll
  by_cases z : 0 < l
  · simp [rtOf, rtK, upF, Fl.up, W.bind, W.ret, W.get, W.gset, ofO, at0, z, modC, h0]
    refine ⟨l / total, divC_of h0 (by omega), 0, rfl, k _ _ (Int.emod_nonneg _ (by omega)) (Int.emod_lt_of_pos _ h0) ⟨l / total, s, c, rfl, Int.ediv_nonneg hl (by omega), hs, hs2, hc, by omega⟩⟩
  · simp [rtOf, rtK, upF, Fl.up, W.bind, W.ret, W.get, W.gset, ofO, at0, at1, at2, z]
    have m1 : ∀ x : Int, 0 ≤ x % 2305843009213693403 ∧ x % 2305843009213693403 < 2305843009213693403 := fun x => ⟨Int.emod_nonneg _ (by decide), Int.emod_lt_of_pos _ (by decide)⟩
    have m2 : ∀ x : Int, 0 ≤ x % 2305843009213693373 ∧ x % 2305843009213693373 < 2305843009213693373 := fun x => ⟨Int.emod_nonneg _ (by decide), Int.emod_lt_of_pos _ (by decide)⟩
    refine ⟨2, rfl, s, rfl, c + 1, rfl, _, mulC_of (by omega) (by omega) (by omega) (by omega), _, modC_of (by decide), ?_⟩
    obtain ⟨a1, a2⟩ := m1 (s + 99990001 * (c + 1))
    refine ⟨_, mulC_of (by omega) (by omega) (by omega) (by omega), c + 1, rfl, _, mulC_of (by omega) (by omega) (by omega) (by omega), _, modC_of (by decide), ?_⟩
    obtain ⟨b1, b2⟩ := m2 ((s + 99990001 * (c + 1)) % 2305843009213693403 * ((s + 99990001 * (c + 1)) % 2305843009213693403) + 83 * (c + 1))
    refine ⟨_, mulC_of (by omega) (by omega) (by omega) (by omega), _, divC_of (by decide) (by decide), _, modC_of h0, ?_⟩
    exact k _ _ (Int.emod_nonneg _ (by omega)) (Int.emod_lt_of_pos _ h0) ⟨l, s, c + 1, rfl, hl, hs, hs2, by omega, by omega⟩
theorem powC_of {i j : Int} (h0 : 0 ≤ j) (h1 : j ≤ 1000000) (h2 : i.natAbs < 2 ^ 64) : powC i j = some (i ^ j.toNat) := by
  unfold powC
  rw [if_pos ⟨h0, h1, h2⟩]
theorem atI_in {ns : List Int} {i : Int} (h0 : 0 ≤ i) (h1 : i < ns.length) : ∃ x, L2.atI ns i = some x := by
  have e : i.toNat < ns.length := by omega
  refine ⟨ns[i.toNat], ?_⟩
  unfold L2.atI ixN
  rw [if_pos h0, if_pos h1]
  simp [e]
theorem big : (10 : Int) ^ 57 * 10 ^ 60 = 10 ^ 117 := by decide +kernel
theorem bill : (0 : Int) < 1000000000000000000000000000000000000000000000000000000000000000000000000000000000000000000000000000000000000000000000 := by decide
theorem dice_ok (ns : List Int) (spot : Int) (h0 : 0 ≤ spot) (h1 : spot < 5) : ∃ g, m_law_dice (ns, spot, ()) = some g ∧ DI 0 g := by
  have key : ∀ v : Int, 0 ≤ (v.natAbs : Int) % 1152921504606846883 ∧ (v.natAbs : Int) % 1152921504606846883 < 1152921504606846883 := fun v => ⟨Int.emod_nonneg _ (by decide), Int.emod_lt_of_pos _ (by decide)⟩
  have fin : ∀ v : Int, ∃ s : Int, mulC ((v.natAbs : Int) % 1152921504606846883) 59 = some ((v.natAbs : Int) % 1152921504606846883 * 59) ∧ mulC 977 spot = some (977 * spot) ∧ mulC 47 (if v < 0 then 1 else 0) = some (47 * (if v < 0 then 1 else 0)) ∧
      s = (v.natAbs : Int) % 1152921504606846883 * 59 + 977 * spot + 47 * (if v < 0 then 1 else 0) + 13 ∧ 0 ≤ s ∧ s < 2 ^ 80 := fun v => by
    obtain ⟨a, b⟩ := key v
    have c : (0 : Int) ≤ (if v < 0 then 1 else 0) ∧ (if v < 0 then (1 : Int) else 0) ≤ 1 := by split <;> decide
    exact ⟨_, mulC_of (by omega) (by omega) (by omega) (by omega), mulC_of (by omega) (by omega) (by omega) (by omega), mulC_of (by omega) (by omega) (by omega) (by omega), rfl, by omega, by omega⟩
  have go : ∀ v : Int, ∃ g, (((modC (if 100000000000000000 < (v.natAbs : Int) then (v.natAbs : Int) - 100000000000000000 else 0) 1000000000000000000000000000000000000000000000000000000000000000000000000000000000000000000000000000000000000000000000).bind fun v12 =>
      (((((((((modC (↑v.natAbs) 1152921504606846883).bind fun p31 => mulC p31 59).bind fun p35 => (mulC 977 spot).bind fun q36 => some (p35 + q36)).bind fun p42 => (mulC 47 (if v < 0 then 1 else 0)).bind fun q43 => some (p42 + q43)).bind fun p44 => some (p44 + 13)).bind fun x48 => some [x48, 0]).bind
        fun y51 => some (v12 :: y51)).bind fun x52 => lenK x52).bind fun x53 => some (Fl.rt (β := Empty) (γ := Unit) x53))).bind rtKO) = some g ∧ DI 0 g := fun v => by
    obtain ⟨s, e1, e2, e3, es, s0, s1⟩ := fin v
    rw [modC_of bill, modC_of (by decide)]
    simp only [Option.bind_some, e1, e2, e3]
    rw [← es]
    refine ⟨_, rfl, _, s, 0, rfl, Int.emod_nonneg _ (by decide), s0, s1, by decide, by decide⟩
  unfold m_law_dice o_law_dice rtO
  by_cases hlt : spot < ns.length
  · obtain ⟨x, hx⟩ := atI_in h0 hlt
    have := go x
    simp [rtKO, powC, mulC_of, b2, hlt, hx]
    simpa using this
  · have := go (73 * spot + 41)
    simp [rtKO, powC, mulC_of, b2, hlt]
    rw [mulC_of (by decide) (by decide) (by omega) (by omega)]
    simpa using this
theorem pick_ok {n : Int} {g : Gh} {items : List Int} {P : Int → Gh → Prop} (h : DI n g) (hn : n < 1000000) (h0 : 0 < items.length) (h1 : items.length < 1000000) (k : ∀ x g', x ∈ items → DI (n + 1) g' → P x g') : m_law_pick (items, ()) g P := by
  unfold m_law_pick w_law_pick
  simp [rtOf, rtK, W.bind, W.ret, ofO]
  refine roll_ok h hn (by omega) (by omega) fun r g' r0 r1 hg => ?_
  obtain ⟨x, hx⟩ := atI_in (ns := items) r0 r1
  refine ⟨x, hx, k x g' ?_ hg⟩
  unfold L2.atI ixN at hx
  rw [if_pos r0, if_pos r1] at hx
  exact List.mem_of_getElem? hx
end K

set_option maxRecDepth 100000
set_option maxHeartbeats 4000000
/-! V4: what is drawn. -/
namespace K
open PySem L2 Rt
theorem bindI {α β : Type} {m : W α} {f : α → W β} {g : Gh} {P : β → Gh → Prop} (h : m g fun a g1 => f a g1 P) : W.bind m f g P := h
theorem retI {α : Type} {a : α} {g : Gh} {P : α → Gh → Prop} (h : P a g) : W.ret a g P := h
theorem putI {g g0 : Gh} {P : Unit → Gh → Prop} (h : P () g0) : W.put g0 g P := h
theorem ofI {α : Type} {o : Option α} {a : α} {g : Gh} {P : α → Gh → Prop} (e : o = some a) (h : P a g) : ofO o g P := ⟨a, e, h⟩
theorem bindFI {ρ β β' γ : Type} {m : W (Fl ρ β γ)} {k : β → W (Fl ρ β' γ)} {g : Gh} {P : Fl ρ β' γ → Gh → Prop} (h : m g fun a g1 => bindK k a g1 P) : bindF m k g P := h
theorem rtOfI {ρ β γ : Type} {m : W (Fl ρ β γ)} {g : Gh} {P : ρ → Gh → Prop} (h : m g fun a g1 => rtK a g1 P) : rtOf m g P := h
theorem rtKI {ρ β γ : Type} {a : ρ} {g : Gh} {P : ρ → Gh → Prop} (h : P a g) : rtK (Fl.rt a : Fl ρ β γ) g P := h
theorem bindKI {ρ β β' γ : Type} {b : β} {k : β → W (Fl ρ β' γ)} {g : Gh} {P : Fl ρ β' γ → Gh → Prop} (h : k b g P) : bindK k (Fl.nx b) g P := h
theorem DI.mono {n m : Int} {g : Gh} (h : DI n g) (e : n ≤ m) : DI m g :=
  let ⟨l, s, c, a1, a2, a3, a4, a5, a6⟩ := h
  ⟨l, s, c, a1, a2, a3, a4, a5, Int.le_trans a6 e⟩
theorem lcO_map {α β : Type} {f : α → Option β} {h : α → β} : ∀ {xs : List α}, (∀ x ∈ xs, f x = some (h x)) → lcO (fun _ => some true) f xs = some (xs.map h)
  | [], _ => rfl
  | x :: xs, e => by
    unfold lcO
    simp [e x List.mem_cons_self, lcO_map (xs := xs) fun y hy => e y (List.mem_cons_of_mem _ hy)]
theorem lcO_filter {α : Type} {c : α → Bool} : ∀ {xs : List α}, lcO (fun x => some (c x)) (fun x => some x) xs = some (xs.filter c)
  | [] => rfl
  | x :: xs => by
    unfold lcO
    rw [lcO_filter (xs := xs)]
    cases h : c x <;> simp [h]
theorem whole_ok (x : Int) : m_is_whole (x, ()) = some true := rfl
theorem integer_ok {x : Int} (h1 : -(10 ^ 60) < x) (h2 : x < 10 ^ 60) : m_is_integer (x, ()) = some true := by
  unfold m_is_integer o_is_integer rtO
  have a : -1000000000000000000000000000000000000000000000000000000000000 < x := by omega
  have b : x < 1000000000000000000000000000000000000000000000000000000000000 := by omega
  simp [whole_ok, a, b, rtKO]
theorem atI_get {l : List Int} {i : Nat} (h : i < l.length) : L2.atI l (i : Int) = some l[i] := by
  unfold L2.atI ixN
  rw [if_pos (by omega), if_pos (by omega)]
  simp [h]
theorem forL_all {ρ α γ' : Type} {f : Unit → α → W (Fl ρ Unit Unit)} : ∀ (xs : List α) (g : Gh) (Q : Fl ρ Unit γ' → Gh → Prop), (∀ x ∈ xs, ∀ g (P : Fl ρ Unit Unit → Gh → Prop), (∀ g', P (.nx ()) g') → f () x g P) → (∀ g, Q (.nx ()) g) → forL f xs () g Q
  | [], g, Q, _, k => k g
  | x :: xs, g, Q, h, k => by
    unfold forL
    refine h x List.mem_cons_self g _ fun g' => ?_
    exact forL_all xs g' Q (fun y hy => h y (List.mem_cons_of_mem _ hy)) k
theorem eqv_same (l : List Int) : PyData.eqv ((dT dI).d l) ((dT dI).d l) = true := by
  show PyData.eqv (.tuple (l.map PyData.int)) (.tuple (l.map PyData.int)) = true
  have key : ∀ l : List Int, PyData.eqvAll (l.map PyData.int) (l.map PyData.int) = true := by
    intro l
    induction l with
    | nil => simp [PyData.eqvAll]
    | cons x l ih => simp [PyData.eqvAll, PyData.eqv, ih]
  simp [PyData.eqv, key]
theorem eqv_sameL (l : List Int) : PyData.eqv ((dL dI).d l) ((dL dI).d l) = true := by
  show PyData.eqv (.list (l.map PyData.int)) (.list (l.map PyData.int)) = true
  have key : ∀ l : List Int, PyData.eqvAll (l.map PyData.int) (l.map PyData.int) = true := by
    intro l
    induction l with
    | nil => simp [PyData.eqvAll]
    | cons x l ih => simp [PyData.eqvAll, PyData.eqv, ih]
  simp [PyData.eqv, key]
theorem eqv_sameS (l : List (Int × Int)) : PyData.eqv ((dT (dP dI dI)).d l) ((dT (dP dI dI)).d l) = true := by
  show PyData.eqv (.tuple (l.map (dP dI dI).d)) (.tuple (l.map (dP dI dI).d)) = true
  have key : ∀ l : List (Int × Int), PyData.eqvAll (l.map (dP dI dI).d) (l.map (dP dI dI).d) = true := by
    intro l
    induction l with
    | nil => simp [PyData.eqvAll]
    | cons x l ih =>
      have ih2 : PyData.eqvAll (l.map fun a : Int × Int => PyData.tuple [.int a.1, .int a.2]) (l.map fun a : Int × Int => PyData.tuple [.int a.1, .int a.2]) = true := ih
      simp [PyData.eqvAll, PyData.eqv, dP, dI, ih2]
  simp [PyData.eqv, key]


theorem rng_ok {a b : Int} (h1 : -1000000 ≤ a) (h2 : a ≤ 1000000) (h3 : -1000000 ≤ b) (h4 : b ≤ 1000000) : rngC a b = some (irange a b) := by
  unfold rngC
  rw [if_pos ⟨h1, h2, h3, h4⟩]
/-- a loop with dice that keeps something -/
theorem forL_inv {ρ α γ γ' : Type} {f : γ → α → W (Fl ρ γ γ)} {I : Nat → γ → Gh → Prop} : ∀ (xs : List α) (k : Nat) (s : γ) (g : Gh) (Q : Fl ρ γ γ' → Gh → Prop),
    (∀ (i : Nat) x s g (P : Fl ρ γ γ → Gh → Prop), i < k + xs.length → x ∈ xs → I i s g → (∀ s' g', I (i + 1) s' g' → P (.nx s') g') → f s x g P) → I k s g → (∀ s g, I (k + xs.length) s g → Q (.nx s) g) → forL f xs s g Q
  | [], k, s, g, Q, _, hI, q => q s g hI
  | x :: xs, k, s, g, Q, h, hI, q => by
    unfold forL
    refine h k x s g _ (by simp) List.mem_cons_self hI fun s' g' hI' => ?_
    refine forL_inv xs (k + 1) s' g' Q (fun i y s g P hi hy => h i y s g P (by simp only [List.length_cons]; omega) (List.mem_cons_of_mem _ hy)) hI' fun s g hI2 => q s g ?_
    rw [List.length_cons, show k + (xs.length + 1) = k + 1 + xs.length by omega]
    exact hI2
theorem perm_pop {l : List Int} {i : Nat} {x : Int} (h : l[i]? = some x) : l.Perm (x :: l.eraseIdx i) := by
  induction l generalizing i with
  | nil => simp at h
  | cons y l ih =>
    cases i with
    | zero =>
      simp at h
      subst h
      exact .refl _
    | succ i =>
      simp only [List.getElem?_cons_succ] at h
      exact ((ih h).cons y).trans (.swap x y _)
theorem shuffled_ok {items : List Int} {n : Int} {g : Gh} {P : List Int → Gh → Prop} (h : DI n g) (hn : n + items.length ≤ 100000) (hl : items.length ≤ 1000) (k : ∀ l g', l.Perm items → DI (n + items.length) g' → P l g') : m_law_shuffled (items, ()) g P := by
  unfold m_law_shuffled w_law_shuffled
  simp only [rtOf, rtK, W.bind, W.ret, bindF, ofO]
  refine ⟨irange 0 items.length, rng_ok (by omega) (by omega) (by omega) (by omega), ?_⟩
  refine forL_inv (I := fun i s g => (s.1 ++ s.2).Perm items ∧ s.2.length = i ∧ DI (n + i) g) _ 0 _ _ _ ?_ ⟨by simp, rfl, by simpa using h⟩ ?_
  · rintro i x ⟨left, found⟩ g P hi hx ⟨hp, hf, hd⟩ kk
    rw [irange_length] at hi
    have hlen := hp.length_eq
    simp only [List.length_append] at hlen
    have hf : found.length = i := hf
    refine roll_ok hd (by omega) (by show (0 : Int) < left.length; omega) (by show (left.length : Int) < 2 ^ 80; omega) fun r g' r0 r1 hd' => ?_
    have r1 : r < left.length := r1
    have e : r.toNat < left.length := by omega
    refine ⟨(left[r.toNat], left.eraseIdx r.toNat), ?_, found ++ [left[r.toNat]], ?_, kk _ _ ⟨?_, by simp; omega, ?_⟩⟩
    · unfold popC
      rw [if_pos (by omega)]
      have : seqIndex? r left.length = some r.toNat := by
        unfold seqIndex?
        have a : ¬ r < 0 := by omega
        simp [a, r0, r1]
      simp [this, e]
    · unfold addO
      rw [if_pos (by show found.length ≤ 1000000; omega)]
    · have := perm_pop (List.getElem?_eq_getElem e)
      refine .trans ?_ hp
      show (left.eraseIdx r.toNat ++ (found ++ [left[r.toNat]])).Perm (left ++ found)
      refine .trans ?_ (this.symm.append_right found)
      rw [← List.append_assoc]
      exact (List.perm_append_singleton _ _)
    · rw [show n + ((i + 1 : Nat) : Int) = n + (i : Int) + 1 by omega]
      exact hd'
  · rintro ⟨left, found⟩ g ⟨hp, hf, hd⟩
    rw [irange_length] at hf hd
    have hlen := hp.length_eq
    simp only [List.length_append] at hlen
    have hf : found.length = 0 + ((items.length : Int) - 0).toNat := hf
    have el : left = [] := List.length_eq_zero_iff.mp (by omega)
    subst el
    refine k found g (by simpa using hp) (hd.mono (by omega))
theorem lcW_all {α β : Type} {f : α → W β} {R : β → Prop} {n d : Int} : ∀ {xs : List α} {k : Nat} {g : Gh} {P : List β → Gh → Prop}, DI (n + k * d) g → (∀ x ∈ xs, ∀ (i : Nat) g (Q : β → Gh → Prop), i < k + xs.length → DI (n + i * d) g → (∀ b g', R b → DI (n + (i + 1 : Nat) * d) g' → Q b g') → f x g Q) → (∀ bs g', bs.length = xs.length → (∀ b ∈ bs, R b) → DI (n + (k + xs.length : Nat) * d) g' → P bs g') → lcW (fun _ => W.ret true) f xs g P
  | [], k, g, P, h, _, q => q [] g rfl (fun _ hb => nomatch hb) h
  | x :: xs, k, g, P, h, hf, q => by
    unfold lcW
    show ((f x).bind _) g P
    refine hf x List.mem_cons_self k g _ (by simp) h fun b g1 hb hd => ?_
    refine lcW_all (xs := xs) (k := k + 1) hd (fun y hy i g Q hi => hf y (List.mem_cons_of_mem _ hy) i g Q (by simp only [List.length_cons]; omega)) fun bs g2 hl hbs hd2 => ?_
    refine q (b :: bs) g2 (by simp [hl]) (fun c hc => ?_) (by rw [List.length_cons, show k + (xs.length + 1) = k + 1 + xs.length by omega]; exact hd2)
    rcases List.mem_cons.mp hc with e | hc
    · rw [e]; exact hb
    · exact hbs c hc
end K

set_option maxRecDepth 100000
set_option maxHeartbeats 4000000
/-! A1: walls and ends. -/
namespace K
open PySem L2 Rt
def chkW (n : Int) : Bool := match m_walls_for (n, ()), m_law_rm_shuts (n, ()) with
  | some a, some b => decide (a = b) && a.all fun w => w.all fun i => decide (0 ≤ i) && decide (i < n)
  | _, _ => false
theorem chkW_2 : chkW 2 = true := by decide +kernel
theorem chkW_3 : chkW 3 = true := by decide +kernel
theorem chkW_4 : chkW 4 = true := by decide +kernel
theorem chkW_5 : chkW 5 = true := by decide +kernel
theorem chkW_6 : chkW 6 = true := by decide +kernel
theorem walls_ok {n : Int} (h1 : 2 ≤ n) (h2 : n ≤ 6) : ∃ ws, m_walls_for (n, ()) = some ws ∧ m_law_rm_shuts (n, ()) = some ws ∧ ∀ w ∈ ws, ∀ i ∈ w, 0 ≤ i ∧ i < n := by
  have hc : chkW n = true := by
    have : n = 2 ∨ n = 3 ∨ n = 4 ∨ n = 5 ∨ n = 6 := by omega
    rcases this with e | e | e | e | e <;> rw [e]
    · exact chkW_2
    · exact chkW_3
    · exact chkW_4
    · exact chkW_5
    · exact chkW_6
  unfold chkW at hc
  cases e1 : m_walls_for (n, ()) with
  | none => rw [e1] at hc; cases hc
  | some a =>
    cases e2 : m_law_rm_shuts (n, ()) with
    | none => rw [e1, e2] at hc; cases hc
    | some b =>
      rw [e1, e2] at hc
      obtain ⟨c1, c2⟩ := Bool.and_eq_true_iff.mp (show (decide (a = b) && a.all fun w => w.all fun i => decide (0 ≤ i) && decide (i < n)) = true from hc)
      refine ⟨a, rfl, by rw [of_decide_eq_true c1], fun w hw i hi => ?_⟩
      have := List.all_eq_true.mp (List.all_eq_true.mp c2 w hw) i hi
      simpa using this
/-- the sum of the ends of a wall -/
def fnI (e : List Int) (i : Int) : Int := (e[i.toNat]?).getD 0
def wsum (e w : List Int) : Int := (w.map (fnI e)).sum
theorem lcO_map2 {α β : Type} {f : α → Option β} {c : α → Bool} {h : α → β} : ∀ {xs : List α}, (∀ x ∈ xs, f x = some (h x)) → lcO (fun x => some (c x)) f xs = some ((xs.filter c).map h)
  | [], _ => rfl
  | x :: xs, hf => by
    unfold lcO
    rw [Option.bind_some]
    cases hc : c x with
    | true =>
      rw [if_pos rfl, hf x List.mem_cons_self, lcO_map2 fun y hy => hf y (List.mem_cons_of_mem _ hy)]
      simp [hc]
    | false =>
      rw [if_neg (by decide), lcO_map2 fun y hy => hf y (List.mem_cons_of_mem _ hy)]
      simp [hc]
theorem sum_ok {e w : List Int} (h : ∀ i ∈ w, 0 ≤ i ∧ i < (e.length : Int)) : m_sum_at (e, w, ()) = some (wsum e w) ∧ m_law_rm_sum (e, w, ()) = some (wsum e w) := by
  have e1 : lcO (fun _ : Int => some true) (fun i => L2.atI e i) w = some (w.map (fnI e)) := lcO_map fun i hi => by
    obtain ⟨a, b⟩ := h i hi
    have : i.toNat < e.length := by omega
    unfold L2.atI ixN fnI
    rw [if_pos a, if_pos b]
    simp [this]
  constructor
  · unfold m_sum_at o_sum_at rtO
    simp only [Option.bind_some, e1]
    rfl
  · unfold m_law_rm_sum o_law_rm_sum rtO
    simp only [Option.bind_some, e1]
    rfl
/-- ends of two to six places -/
structure En (e : List Int) : Prop where
  lo : 2 ≤ (e.length : Int)
  hi : (e.length : Int) ≤ 6
  nz : ∀ x ∈ e, x ≠ 0 ∧ -(10 ^ 60) < x ∧ x < 10 ^ 60
  sm : e.sum = 0
def lain (ws : List (List Int)) (e : List Int) : List (List Int) := ws.filter fun w => decide (wsum e w = 0)
def over (ws : List (List Int)) (e : List Int) : List (List Int) := ws.filter fun w => decide (0 < wsum e w)
def sgn (e : List Int) : List Int := e.map fun x => if 0 < x then 1 else -1
theorem lcO_ex {α β : Type} {f : α → Option β} {c : α → Option Bool} {c' : α → Bool} {h : α → β} : ∀ {xs : List α}, (∀ x ∈ xs, c x = some (c' x)) → (∀ x ∈ xs, f x = some (h x)) → lcO c f xs = some ((xs.filter c').map h)
  | [], _, _ => rfl
  | x :: xs, hc, hf => by
    unfold lcO
    rw [hc x List.mem_cons_self, Option.bind_some]
    cases hx : c' x with
    | true =>
      rw [if_pos rfl, hf x List.mem_cons_self, lcO_ex (fun y hy => hc y (List.mem_cons_of_mem _ hy)) fun y hy => hf y (List.mem_cons_of_mem _ hy)]
      simp [hx]
    | false =>
      rw [if_neg (by decide), lcO_ex (fun y hy => hc y (List.mem_cons_of_mem _ hy)) fun y hy => hf y (List.mem_cons_of_mem _ hy)]
      simp [hx]
theorem lcO_filt {α : Type} {c : α → Option Bool} {c' : α → Bool} {xs : List α} (hc : ∀ x ∈ xs, c x = some (c' x)) : lcO c (fun x => some x) xs = some (xs.filter c') := by
  have := lcO_ex (f := fun x : α => some x) (h := id) hc fun x _ => rfl
  rwa [List.map_id] at this
end K

set_option maxRecDepth 100000
set_option maxHeartbeats 4000000
/-! A1: what lies on a wall, what lies over it (obS, no law of rfl: with Option.bind_some the kernel unfolds m_walls_for). -/
namespace K
open PySem L2 Rt
theorem obS {α β : Type} (a : α) (f : α → Option β) : (some a).bind f = f a := Eq.symm (Eq.symm rfl)
theorem ends_ok {e : List Int} (h1 : 2 ≤ (e.length : Int)) (h2 : (e.length : Int) ≤ 6) : ∃ ws, m_lain_on (e, ()) = some (lain ws e) ∧ m_law_rm_is_free (e, ()) = some (PyData.eqv ((dL (dT dI)).d (lain ws e)) ((dL (dT dI)).d [])) ∧ m_room (e, ()) = some (sgn e, over ws e) ∧ m_law_rm_room (e, ()) = some (sgn e, over ws e) ∧ m_walls_for (e.length, ()) = some ws := by
  obtain ⟨ws, w1, w2, w3⟩ := walls_ok h1 h2
  have s1 : lcO (fun _ : Int => some true) (fun x => if decide (0 < x) = true then some (1 : Int) else some (-1)) e = some (sgn e) := lcO_map fun x hx => by
    by_cases z : 0 < x <;> simp [z]
  have a1 : lcO (fun x => (m_sum_at (e, x, ())).bind fun p => some (decide (p = 0))) (fun x => some x) ws = some (lain ws e) := lcO_filt fun w hw => by rw [(sum_ok (w3 w hw)).1]; rfl
  have a2 : lcO (fun x => (m_law_rm_sum (e, x, ())).bind fun p => some (decide (p = 0))) (fun x => some x) ws = some (lain ws e) := lcO_filt fun w hw => by rw [(sum_ok (w3 w hw)).2]; rfl
  have a3 : lcO (fun x => (m_sum_at (e, x, ())).bind fun p => some (decide (0 < p))) (fun x => some x) ws = some (over ws e) := lcO_filt fun w hw => by rw [(sum_ok (w3 w hw)).1]; rfl
  have a4 : lcO (fun x => (m_law_rm_sum (e, x, ())).bind fun p => some (decide (0 < p))) (fun x => some x) ws = some (over ws e) := lcO_filt fun w hw => by rw [(sum_ok (w3 w hw)).2]; rfl
  refine ⟨ws, ?_, ?_, ?_, ?_, w1⟩
  · unfold m_lain_on o_lain_on rtO
    simp only [obS, w1, a1]
    unfold rtKO
    rfl
  · unfold m_law_rm_is_free o_law_rm_is_free rtO
    simp only [obS, w2, a2]
    unfold rtKO
    rfl
  · unfold m_room o_room rtO
    simp only [obS, w1, a3, s1]
    unfold rtKO
    rfl
  · unfold m_law_rm_room o_law_rm_room rtO
    simp only [obS, w2, a4, s1]
    unfold rtKO
    rfl
end K

set_option maxRecDepth 100000
set_option maxHeartbeats 4000000
/-! A2: the checks of ends. -/
namespace K
open PySem L2 Rt
theorem int2_ok {x : Int} (h1 : -(10 ^ 60) < x) (h2 : x < 10 ^ 60) : m_is_integer2 (.int x, ()) = some true := by
  have w : m_is_whole2 (.int x, ()) = some true := rfl
  unfold m_is_integer2 o_is_integer2 rtO
  simp only [obS, w, if_pos]
  have e : eI.dec (.int x) = some x := rfl
  have d1 : decide (-1000000000000000000000000000000000000000000000000000000000000 < x) = true := decide_eq_true (by omega)
  have d2 : decide (x < 1000000000000000000000000000000000000000000000000000000000000) = true := decide_eq_true (by omega)
  simp only [e, obS, d1, d2, if_pos]
  rfl
theorem dec_ints (e : List Int) : (eT eI).dec ((eT eI).enc e) = some e := (eT eI).ret e
theorem dec_vals (e : List Int) : (eT eV).dec ((eT eI).enc e) = some (e.map .int) := by
  have a : (eT eI).enc e = (eT eV).enc (e.map .int) := by
    show PyData.tuple (e.map .int) = PyData.tuple ((e.map .int).map id)
    rw [List.map_id]
  rw [a, (eT eV).ret]
theorem eqC_ints {x : Int} (h : x ≠ 0) : ((cleanO (.int x)).bind fun p => (eqC p (dI.d 0)).bind fun b => some !b) = some true := by
  have c : cleanO (.int x) = some (.int x) := rfl
  rw [c, obS]
  unfold eqC
  rw [if_pos ⟨by rfl, by rfl⟩, obS]
  have z : PyData.eqv (.int x) (dI.d 0) = false := by
    show PyData.eqv (.int x) (.int 0) = false
    simp [PyData.eqv, h]
  rw [z]
  rfl
theorem are_ok {e : List Int} (h : En e) {lo hi : Int} (l1 : lo ≤ e.length) (l2 : (e.length : Int) ≤ hi) : m_are_ends ((eT eI).enc e, lo, hi, ()) = some true := by
  have t : isTupV ((eT eI).enc e) = true := rfl
  have d1 : decide (lo ≤ ((e.map PyData.int).length : Int)) = true := decide_eq_true (by rw [List.length_map]; exact l1)
  have d2 : decide (((e.map PyData.int).length : Int) ≤ hi) = true := decide_eq_true (by rw [List.length_map]; exact l2)
  unfold m_are_ends o_are_ends rtO
  simp only [obS, t, dec_vals, d1, d2, dec_ints, if_pos, Bool.not_true, if_neg, Bool.false_eq_true, not_false_eq_true]
  have q : lcO (fun _ : PyData => some true) (fun x14 => (m_is_integer2 (x14, ())).bind fun p22 => (if p22 = true then (cleanO x14).bind fun p18 => (eqC p18 (dI.d 0)).bind fun b => some !b else some false)) (e.map PyData.int) = some (e.map fun _ => true) := by
    rw [show e.map (fun _ => true) = (e.map PyData.int).map fun _ => true from by rw [List.map_map]; rfl]
    exact lcO_map fun d hd => by
      obtain ⟨x, hx, rfl⟩ := List.mem_map.mp hd
      obtain ⟨a, b, c⟩ := h.nz x hx
      rw [int2_ok b c, obS, if_pos rfl, eqC_ints a]
  have al : ((e.map fun _ => true).all id) = true := List.all_eq_true.mpr fun b hb => by
    obtain ⟨x, hx, rfl⟩ := List.mem_map.mp hb
    rfl
  have s : decide (e.sum = 0) = true := decide_eq_true h.sm
  simp only [q, obS, al, if_pos, s]
  unfold rtKO
  rfl
theorem check_ok {e : List Int} (h : En e) : m_check_ends ((eT eI).enc e, ()) = some () := by
  unfold m_check_ends o_check_ends rtNO
  simp only [obS, are_ok h h.lo h.hi, Bool.not_true, Bool.false_eq_true, if_neg, not_false_eq_true]
  unfold rtKNO
  rfl
theorem eqv_nil (xs : List (List Int)) : PyData.eqv ((dL (dT dI)).d xs) ((dL (dT dI)).d []) = decide (xs = []) := by
  show PyData.eqv (.list (xs.map (dT dI).d)) (.list []) = decide (xs = [])
  cases xs <;> simp [PyData.eqv, PyData.eqvAll]
/-- all that the law asks of one tuple of ends -/
structure Rm (e : List Int) (ws : List (List Int)) : Prop where
  en : En e
  wl : m_walls_for (e.length, ()) = some ws
  fr : m_is_free (e, ()) = some (decide (lain ws e = []))
  lf : m_law_rm_is_free (e, ()) = some (decide (lain ws e = []))
  rm : m_room (e, ()) = some (sgn e, over ws e)
  lr : m_law_rm_room (e, ()) = some (sgn e, over ws e)
  ck : m_check_ends ((eT eI).enc e, ()) = some ()
  c1 : m_check_free (e, ()) = some (if lain ws e = [] then some () else none)
  c2 : lain ws e = [] → m_check_free2 (e, ()) = some ()
theorem rm_ok {e : List Int} (h : En e) : ∃ ws, Rm e ws := by
  obtain ⟨ws, a, b, c, d, w⟩ := ends_ok h.lo h.hi
  rw [eqv_nil] at b
  have ck := check_ok h
  refine ⟨ws, h, w, ?_, b, c, d, ck, ?_, fun z => ?_⟩
  · unfold m_is_free o_is_free rtO
    simp only [obS, ck, a, eqv_nil]
    unfold rtKO
    rfl
  · unfold m_check_free o1_check_free
    simp only [obS, a, eqv_nil]
    by_cases z : lain ws e = []
    · rw [if_pos z, decide_eq_true z]; rfl
    · rw [if_neg z, decide_eq_false z]; rfl
  · unfold m_check_free2 o_check_free2 rtNO
    simp only [obS, a, eqv_nil, decide_eq_true z, Bool.not_true, Bool.false_eq_true, if_neg, not_false_eq_true]
    unfold rtKNO
    rfl
theorem one_room_ok {e f : List Int} {ws vs : List (List Int)} (h : Rm e ws) (g : Rm f vs) (z : lain ws e = []) (y : lain vs f = []) : m_are_one_room (e, f, ()) = some (PyData.eqv ((dP (dT dI) (dT (dT dI))).d (sgn e, over ws e)) ((dP (dT dI) (dT (dT dI))).d (sgn f, over vs f))) := by
  unfold m_are_one_room o_are_one_room rtO
  simp only [obS, h.ck, g.ck, h.c2 z, g.c2 y, h.rm, g.rm]
  unfold rtKO
  rfl
theorem room_of2_ok {e : List Int} {ws : List (List Int)} (h : Rm e ws) (z : lain ws e = []) : m_room_of2 (e, ()) = some (sgn e, over ws e) := by
  unfold m_room_of2 o_room_of2 rtO
  simp only [obS, h.ck, h.c2 z, h.rm]
  unfold rtKO
  rfl
theorem law_room_ok {e : List Int} {ws : List (List Int)} (h : Rm e ws) : m_law_room (e, ()) = some (if lain ws e = [] then (eP (eT eI) (eT (eT eI))).enc (sgn e, over ws e) else (eP eS eS).enc ("refused", "operation")) := by
  have r : m_room_of (e, ()) = some (if lain ws e = [] then some (sgn e, over ws e) else none) := by
    have c1 := h.c1
    unfold m_room_of o1_room_of o3_room_of i2_room_of
    by_cases z : lain ws e = []
    · rw [if_pos z] at c1 ⊢
      simp only [obS, h.ck, c1, h.rm]
      rfl
    · rw [if_neg z] at c1 ⊢
      simp only [obS, h.ck, c1, h.rm]
  unfold m_law_room o_law_room rtO
  simp only [obS, r]
  by_cases z : lain ws e = []
  · rw [if_pos z, if_pos z]; rfl
  · rw [if_neg z, if_neg z]; rfl
end K

set_option maxRecDepth 100000
set_option maxHeartbeats 4000000
/-! A3: the drawn ends. -/
namespace K
open PySem L2 Rt
theorem ifF {ρ : Type} {b : Bool} {x y : W ρ} {g : Gh} {P : ρ → Gh → Prop} (e : b = false) (h : y g P) : (if b = true then x else y) g P := by
  subst e
  exact h
theorem ifT {ρ : Type} {b : Bool} {x y : W ρ} {g : Gh} {P : ρ → Gh → Prop} (e : b = true) (h : x g P) : (if b = true then x else y) g P := by
  subst e
  exact h
theorem branch {β : Type} {R : β → Gh → Prop} {ρ γ : Type} {m : W (Fl ρ β γ)} {g : Gh} {Q : Fl ρ β γ → Gh → Prop} (hm : ∀ Q' : Fl ρ β γ → Gh → Prop, (∀ s g', R s g' → Q' (.nx s) g') → m g Q') (hk : ∀ s g', R s g' → Q (.nx s) g') : m g Q := hm Q hk
theorem branchV {β : Type} {R : β → Gh → Prop} {m : W β} {g : Gh} {Q : β → Gh → Prop} (hm : ∀ Q' : β → Gh → Prop, (∀ s g', R s g' → Q' s g') → m g Q') (hk : ∀ s g', R s g' → Q s g') : m g Q := hm Q hk
/-- one end, as it is drawn -/
def Sm (x : Int) : Prop := x ≠ 0 ∧ -(10 ^ 30) < x ∧ x < 10 ^ 30
theorem sum_lt : ∀ {xs : List Int}, (∀ x ∈ xs, Sm x) → -(10 ^ 30 * (xs.length : Int)) ≤ xs.sum ∧ xs.sum ≤ 10 ^ 30 * (xs.length : Int)
  | [], _ => by simp
  | x :: xs, h => by
    obtain ⟨a, b⟩ := sum_lt fun y hy => h y (List.mem_cons_of_mem _ hy)
    obtain ⟨_, c, d⟩ := h x List.mem_cons_self
    rw [List.sum_cons, List.length_cons]
    omega
def Lo (e : List Int) : Prop := ∀ x ∈ e, -(10 ^ 40) < x ∧ x < 10 ^ 40
theorem lo_of {s : List Int} (h : ∀ x ∈ s, Sm x) (l2 : s.length ≤ 5) : Lo (s ++ [0 - s.sum]) := by
  obtain ⟨a, b⟩ := sum_lt h
  intro x hx
  rcases List.mem_append.mp hx with hx | hx
  · obtain ⟨c, d, e⟩ := h x hx
    exact ⟨by omega, by omega⟩
  · rw [List.mem_singleton.mp hx]
    omega
theorem en_of {s : List Int} (h : ∀ x ∈ s, Sm x) (z : s.sum ≠ 0) (l1 : 1 ≤ s.length) (l2 : s.length ≤ 5) : En (s ++ [0 - s.sum]) := by
  obtain ⟨a, b⟩ := sum_lt h
  refine ⟨by simp; omega, by simp; omega, fun x hx => ?_, by rw [List.sum_append, List.sum_singleton]; omega⟩
  rcases List.mem_append.mp hx with hx | hx
  · obtain ⟨c, d, e⟩ := h x hx
    exact ⟨c, by omega, by omega⟩
  · rw [List.mem_singleton.mp hx]
    omega
theorem end_ok {n most : Int} {g : Gh} {P : Int → Gh → Prop} (h : DI n g) (hn : n < 900000) (m1 : 1 ≤ most) (m2 : most ≤ 10 ^ 20) (k : ∀ x g', x ≠ 0 → -(10 ^ 20) ≤ x → x ≤ 10 ^ 20 → DI (n + 2) g' → P x g') :
    (((W.ret (1 : Int)).bind fun p9 => ((((W.ret most).bind fun x6 => ((W.ret ()).bind fun y7 => (W.ret (x6, y7)))).bind fun a8 => (m_law_roll a8)).bind fun q10 => (W.ret (p9 + q10)))).bind fun p20 => ((((((W.ret (1 : Int)).bind fun x14 => ((((W.ret (1 : Int)).bind fun p11 => (W.ret (-p11))).bind fun x12 => ((W.ret []).bind fun y13 => (W.ret (x12 :: y13)))).bind fun y15 => (W.ret (x14 :: y15)))).bind fun x16 => (ofO (lenK x16))).bind fun x17 => ((W.ret ()).bind fun y18 => (W.ret (x17, y18)))).bind fun a19 => (m_law_pick a19)).bind fun q21 => (ofO (mulC p20 q21)))) g P := by
  repeat (first | with_reducible apply rtOfI | with_reducible apply bindFI | with_reducible apply bindI | with_reducible apply retI | with_reducible apply rtKI | with_reducible apply bindKI | with_reducible apply putI)
  refine roll_ok h (by omega) (by omega) (by omega) fun r g1 r0 r1 d1 => ?_
  repeat (first | with_reducible apply rtOfI | with_reducible apply bindFI | with_reducible apply bindI | with_reducible apply retI | with_reducible apply rtKI | with_reducible apply bindKI | with_reducible apply putI)
  refine ofI (a := [1, -1]) rfl ?_
  repeat (first | with_reducible apply rtOfI | with_reducible apply bindFI | with_reducible apply bindI | with_reducible apply retI | with_reducible apply rtKI | with_reducible apply bindKI | with_reducible apply putI)
  refine pick_ok d1 (by omega) (by decide) (by decide) fun y g2 hy d2 => ?_
  have hy : y = 1 ∨ y = -1 := by simpa using hy
  refine ofI (mulC_of (by omega) (by omega) (by omega) (by omega)) ?_
  have d3 : DI (n + 2) g2 := d2.mono (by omega)
  rcases hy with rfl | rfl
  · exact k _ _ (by omega) (by omega) (by omega) d3
  · exact k _ _ (by omega) (by omega) (by omega) d3
theorem rm_ends_ok {n size most : Int} {g : Gh} {P : List Int → Gh → Prop} (h : DI n g) (hn : n < 800000) (s1 : 2 ≤ size) (s2 : size ≤ 6) (m1 : 2 ≤ most) (m2 : most ≤ 10 ^ 20) (k : ∀ e g', En e → Lo e → (e.length : Int) = size → DI (n + 10) g' → P e g') : m_law_rm_ends (size, most, ()) g P := by
  unfold m_law_rm_ends w_law_rm_ends
  repeat (first | with_reducible apply rtOfI | with_reducible apply bindFI | with_reducible apply bindI | with_reducible apply retI | with_reducible apply rtKI | with_reducible apply bindKI | with_reducible apply putI)
  refine ofI (rng_ok (by omega) (by show (0 : Int) ≤ 1000000; omega) (by show (-1000000 : Int) ≤ size - 1; omega) (by show size - 1 ≤ 1000000; omega)) ?_
  refine lcW_all (R := fun x => x ≠ 0 ∧ -(10 ^ 20) ≤ x ∧ x ≤ 10 ^ 20) (n := n) (d := 2) (k := 0) (by simpa using h) ?_ ?_
  · intro x hx i g Q hi hd kk
    rw [irange_length] at hi
    refine end_ok hd (by omega) (by show 1 ≤ most; omega) m2 fun y g' a b c d => kk y g' ⟨a, b, c⟩ (d.mono (by omega))
  · intro bs g' hl hb hd
    rw [irange_length] at hl hd
    repeat (first | with_reducible apply rtOfI | with_reducible apply bindFI | with_reducible apply bindI | with_reducible apply retI | with_reducible apply rtKI | with_reducible apply bindKI | with_reducible apply putI)
    refine ofI (a := decide (bs.sum = 0)) rfl ?_
    obtain ⟨x, r, rfl⟩ : ∃ x r, bs = x :: r := by
      cases bs with
      | nil => simp at hl; omega
      | cons x r => exact ⟨x, r, rfl⟩
    have hx := hb x List.mem_cons_self
    have hr : ∀ y ∈ r, Sm y := fun y hy => by
      obtain ⟨a, b, c⟩ := hb y (List.mem_cons_of_mem _ hy)
      exact ⟨a, by omega, by omega⟩
    have at0' : L2.atI (x :: r) 0 = some x := by unfold L2.atI ixN; simp
    have st0 : ∀ v, setC (x :: r) 0 v = some (v :: r) := fun v => by unfold setC ixN; simp
    rw [List.length_cons] at hl
    have hd' : DI (n + 10) g' := hd.mono (by omega)
    have fin : ∀ s : List Int, s.sum ≠ 0 → (∀ y ∈ s, Sm y) → s.length = r.length + 1 → P (s ++ [0 - s.sum]) g' := fun s a b c => k _ g' (en_of b a (by omega) (by omega)) (lo_of b (by omega)) (by simp; omega) hd'
    repeat (first | with_reducible apply rtOfI | with_reducible apply bindFI | with_reducible apply bindI | with_reducible apply retI | with_reducible apply rtKI | with_reducible apply bindKI | with_reducible apply putI)
    refine branch (β := List Int) (R := fun s g1 => g1 = g' ∧ s.sum ≠ 0 ∧ (∀ y ∈ s, Sm y) ∧ s.length = r.length + 1) (fun Q' kq => ?_) ?_
    · by_cases z : (x :: r).sum = 0
      · refine ifT (decide_eq_true z) ?_
        rw [List.sum_cons] at z
        repeat (first | with_reducible apply rtOfI | with_reducible apply bindFI | with_reducible apply bindI | with_reducible apply retI | with_reducible apply rtKI | with_reducible apply bindKI | with_reducible apply putI)
        refine ofI at0' ?_
        repeat (first | with_reducible apply rtOfI | with_reducible apply bindFI | with_reducible apply bindI | with_reducible apply retI | with_reducible apply rtKI | with_reducible apply bindKI | with_reducible apply putI)
        refine ofI rfl ?_
        by_cases y : x = -1
        · refine ifF (by simp [y]) ?_
          repeat (first | with_reducible apply rtOfI | with_reducible apply bindFI | with_reducible apply bindI | with_reducible apply retI | with_reducible apply rtKI | with_reducible apply bindKI | with_reducible apply putI)
          refine ofI (st0 1) ?_
          refine kq _ _ ⟨rfl, by rw [List.sum_cons]; omega, fun y hy => ?_, rfl⟩
          rcases List.mem_cons.mp hy with e | hy
          · rw [e]; exact ⟨by decide, by decide, by decide⟩
          · exact hr y hy
        · refine ifT (by simp [y]) ?_
          repeat (first | with_reducible apply rtOfI | with_reducible apply bindFI | with_reducible apply bindI | with_reducible apply retI | with_reducible apply rtKI | with_reducible apply bindKI | with_reducible apply putI)
          refine ofI at0' ?_
          repeat (first | with_reducible apply rtOfI | with_reducible apply bindFI | with_reducible apply bindI | with_reducible apply retI | with_reducible apply rtKI | with_reducible apply bindKI | with_reducible apply putI)
          refine ofI (st0 (x + 1)) ?_
          refine kq _ _ ⟨rfl, by rw [List.sum_cons]; omega, fun y hy => ?_, rfl⟩
          rcases List.mem_cons.mp hy with e | hy
          · rw [e]; exact ⟨by omega, by omega, by omega⟩
          · exact hr y hy
      · refine ifF (decide_eq_false z) ?_
        refine kq _ _ ⟨rfl, z, fun y hy => ?_, rfl⟩
        obtain ⟨a, b, c⟩ := hb y hy
        exact ⟨a, by omega, by omega⟩
    · rintro s g1 ⟨rfl, a, b, c⟩
      repeat (first | with_reducible apply rtOfI | with_reducible apply bindFI | with_reducible apply bindI | with_reducible apply retI | with_reducible apply rtKI | with_reducible apply bindKI | with_reducible apply putI)
      refine ofI (a := decide (s.sum = 0)) rfl ?_
      repeat (first | with_reducible apply rtOfI | with_reducible apply bindFI | with_reducible apply bindI | with_reducible apply retI | with_reducible apply rtKI | with_reducible apply bindKI | with_reducible apply putI)
      refine ifF (decide_eq_false a) ?_
      repeat (first | with_reducible apply rtOfI | with_reducible apply bindFI | with_reducible apply bindI | with_reducible apply retI | with_reducible apply rtKI | with_reducible apply bindKI | with_reducible apply putI)
      refine ofI (a := [0 - s.sum]) rfl ?_
      refine ofI (a := s ++ [0 - s.sum]) (by unfold catC; rw [if_pos]; simp; omega) ?_
      exact fin s a b c
end K

set_option maxRecDepth 100000
set_option maxHeartbeats 4000000
/-! A4: ends that are drawn until they lie on no wall. -/
namespace K
open PySem L2 Rt
theorem upFI {ρ β γ : Type} {m : W (Fl ρ Empty γ)} {g : Gh} {P : Fl ρ β γ → Gh → Prop} (h : m g fun x g' => P x.up g') : upF m g P := h
def Fr (e : List Int) : Prop := (∃ ws, Rm e ws ∧ lain ws e = []) ∧ Lo e
theorem forL_ret {ρ α γ' : Type} {f : Unit → α → W (Fl ρ Unit Unit)} {A : ρ → Gh → Prop} {I : Nat → Gh → Prop} : ∀ (xs : List α) (k : Nat) (g : Gh) (Q : Fl ρ Unit γ' → Gh → Prop), I k g →
    (∀ i x g (P : Fl ρ Unit Unit → Gh → Prop), i < k + xs.length → x ∈ xs → I i g → (∀ g', I (i + 1) g' → P (.nx ()) g') → (∀ e g', A e g' → P (.rt e) g') → f () x g P) →
    (∀ g', I (k + xs.length) g' → Q (.nx ()) g') → (∀ e g', A e g' → Q (.rt e) g') → forL f xs () g Q
  | [], k, g, Q, hI, _, q, _ => q g hI
  | x :: xs, k, g, Q, hI, h, q, r => by
    unfold forL
    refine h k x g _ (by simp) List.mem_cons_self hI (fun g' hI' => ?_) fun e g' he => r e g' he
    refine forL_ret xs (k + 1) g' Q hI' (fun i y g P hi hy => h i y g P (by simp only [List.length_cons]; omega) (List.mem_cons_of_mem _ hy)) (fun g hI2 => q g ?_) r
    rw [List.length_cons, show k + (xs.length + 1) = k + 1 + xs.length by omega]
    exact hI2
theorem lcW_two {α β : Type} {f : α → W β} {R : α → β → Prop} {n d : Int} : ∀ {xs : List α} {k : Nat} {g : Gh} {P : List β → Gh → Prop}, DI (n + k * d) g → (∀ x ∈ xs, ∀ (i : Nat) g (Q : β → Gh → Prop), i < k + xs.length → DI (n + i * d) g → (∀ b g', R x b → DI (n + (i + 1 : Nat) * d) g' → Q b g') → f x g Q) → (∀ bs g', All2 R xs bs → DI (n + (k + xs.length : Nat) * d) g' → P bs g') → lcW (fun _ => W.ret true) f xs g P
  | [], k, g, P, h, _, q => q [] g trivial h
  | x :: xs, k, g, P, h, hf, q => by
    unfold lcW
    show ((f x).bind _) g P
    refine hf x List.mem_cons_self k g _ (by simp) h fun b g1 hb hd => ?_
    refine lcW_two (R := R) (xs := xs) (k := k + 1) hd (fun y hy i g Q hi => hf y (List.mem_cons_of_mem _ hy) i g Q (by simp only [List.length_cons]; omega)) fun bs g2 hbs hd2 => ?_
    exact q (b :: bs) g2 ⟨hb, hbs⟩ (by rw [List.length_cons, show k + (xs.length + 1) = k + 1 + xs.length by omega]; exact hd2)
def pw : List Int → List (List Int)
  | [] => [[]]
  | x :: xs => (pw xs).flatMap fun r => [(2 : Int) ^ x.toNat :: r, -(2 : Int) ^ x.toNat :: r]
theorem pw_mem : ∀ {xs bs : List Int}, All2 (fun x b => b = (2 : Int) ^ x.toNat ∨ b = -(2 : Int) ^ x.toNat) xs bs → bs ∈ pw xs
  | [], [], _ => by simp [pw]
  | x :: xs, b :: bs, ⟨h, t⟩ => by
    unfold pw
    refine List.mem_flatMap.mpr ⟨bs, pw_mem t, ?_⟩
    rcases h with rfl | rfl <;> simp
def chkP (n : Int) : Bool := match m_walls_for (n, ()) with
  | some ws => (pw (irange 0 (n - 1))).all fun v => decide (lain ws (v ++ [0 - v.sum]) = []) && decide (v.sum ≠ 0) && v.all fun x => decide (x ≠ 0) && decide (-100 < x) && decide (x < 100)
  | none => false
theorem chkP_2 : chkP 2 = true := by decide +kernel
theorem chkP_3 : chkP 3 = true := by decide +kernel
theorem chkP_4 : chkP 4 = true := by decide +kernel
theorem chkP_5 : chkP 5 = true := by decide +kernel
theorem chkP_6 : chkP 6 = true := by decide +kernel
theorem pow_free {n : Int} (h1 : 2 ≤ n) (h2 : n ≤ 6) {v : List Int} (hv : v ∈ pw (irange 0 (n - 1))) (hl : (v.length : Int) = n - 1) : Fr (v ++ [0 - v.sum]) := by
  have hc : chkP n = true := by
    have : n = 2 ∨ n = 3 ∨ n = 4 ∨ n = 5 ∨ n = 6 := by omega
    rcases this with e | e | e | e | e <;> rw [e]
    · exact chkP_2
    · exact chkP_3
    · exact chkP_4
    · exact chkP_5
    · exact chkP_6
  unfold chkP at hc
  cases e1 : m_walls_for (n, ()) with
  | none => rw [e1] at hc; cases hc
  | some ws =>
    rw [e1] at hc
    have := List.all_eq_true.mp hc v hv
    obtain ⟨c12, c3⟩ := Bool.and_eq_true_iff.mp this
    obtain ⟨c1, c2⟩ := Bool.and_eq_true_iff.mp c12
    have sm : ∀ x ∈ v, Sm x := (fun x hx => by
      have := List.all_eq_true.mp c3 x hx
      obtain ⟨d12, d3⟩ := Bool.and_eq_true_iff.mp this
      obtain ⟨d1, d2⟩ := Bool.and_eq_true_iff.mp d12
      have d1 := of_decide_eq_true d1
      have d2 := of_decide_eq_true d2
      have d3 := of_decide_eq_true d3
      exact ⟨d1, by omega, by omega⟩)
    have en : En (v ++ [0 - v.sum]) := en_of sm (of_decide_eq_true c2) (by omega) (by omega)
    obtain ⟨vs, r⟩ := rm_ok en
    have wl := r.wl
    have el : ((v ++ [0 - v.sum]).length : Int) = n := by rw [List.length_append]; simp; omega
    rw [el, e1] at wl
    cases wl
    exact ⟨⟨ws, r, of_decide_eq_true c1⟩, lo_of sm (by omega)⟩
theorem power_ok {x : Int} (h0 : 0 ≤ x) (h1 : x ≤ 4) : m_law_power (2, x, ()) = some ((2 : Int) ^ x.toNat) := by
  have : x = 0 ∨ x = 1 ∨ x = 2 ∨ x = 3 ∨ x = 4 := by omega
  rcases this with e | e | e | e | e <;> rw [e] <;> decide +kernel
theorem rm_free_ok {n size most : Int} {g : Gh} {P : List Int → Gh → Prop} (h : DI n g) (hn : n < 700000) (s1 : 2 ≤ size) (s2 : size ≤ 6) (m1 : 2 ≤ most) (m2 : most ≤ 10 ^ 20) (k : ∀ e g', Fr e → DI (n + 130) g' → P e g') : m_law_rm_free (size, most, ()) g P := by
  unfold m_law_rm_free w_law_rm_free
  repeat (first | with_reducible apply rtOfI | with_reducible apply bindFI | with_reducible apply bindI | with_reducible apply retI | with_reducible apply rtKI | with_reducible apply bindKI | with_reducible apply putI)
  refine ofI (a := irange 0 12) rfl ?_
  repeat (first | with_reducible apply rtOfI | with_reducible apply bindFI | with_reducible apply bindI | with_reducible apply retI | with_reducible apply rtKI | with_reducible apply bindKI | with_reducible apply putI)
  refine forL_ret (A := fun e g' => Fr e ∧ DI (n + 130) g') (I := fun i g => DI (n + i * 10) g) _ 0 _ _ (by simpa using h) ?_ ?_ fun e g' he => ?_
  · intro i x g P hi hx hd kn kr
    have hi : i < 12 := hi
    repeat (first | with_reducible apply rtOfI | with_reducible apply bindFI | with_reducible apply bindI | with_reducible apply retI | with_reducible apply rtKI | with_reducible apply bindKI | with_reducible apply putI)
    refine rm_ends_ok hd (by omega) s1 s2 m1 m2 fun e g1 en lo el d1 => ?_
    obtain ⟨ws, r⟩ := rm_ok en
    repeat (first | with_reducible apply rtOfI | with_reducible apply bindFI | with_reducible apply bindI | with_reducible apply retI | with_reducible apply rtKI | with_reducible apply bindKI | with_reducible apply putI)
    refine ofI r.lf ?_
    repeat (first | with_reducible apply rtOfI | with_reducible apply bindFI | with_reducible apply bindI | with_reducible apply retI | with_reducible apply rtKI | with_reducible apply bindKI | with_reducible apply putI)
    by_cases z : lain ws e = []
    · refine ifT (decide_eq_true z) (upFI ?_)
      repeat (first | with_reducible apply rtOfI | with_reducible apply bindFI | with_reducible apply bindI | with_reducible apply retI | with_reducible apply rtKI | with_reducible apply bindKI | with_reducible apply putI)
      exact kr e g1 ⟨⟨⟨ws, r, z⟩, lo⟩, d1.mono (by omega)⟩
    · refine ifF (decide_eq_false z) ?_
      exact kn g1 (d1.mono (by omega))
  · intro g' hd
    have hd : DI (n + 120) g' := hd.mono (by simp [irange])
    repeat (first | with_reducible apply rtOfI | with_reducible apply bindFI | with_reducible apply bindI | with_reducible apply retI | with_reducible apply rtKI | with_reducible apply bindKI | with_reducible apply putI)
    refine ofI (rng_ok (by omega) (by show (0 : Int) ≤ 1000000; omega) (by show (-1000000 : Int) ≤ size - 1; omega) (by show size - 1 ≤ 1000000; omega)) ?_
    refine lcW_two (R := fun x b => b = (2 : Int) ^ x.toNat ∨ b = -(2 : Int) ^ x.toNat) (n := n + 120) (d := 1) (k := 0) (by simpa using hd) ?_ ?_
    · intro x hx i g Q hi hd kk
      rw [irange_length] at hi
      have hx := mem_irange.mp hx
      repeat (first | with_reducible apply rtOfI | with_reducible apply bindFI | with_reducible apply bindI | with_reducible apply retI | with_reducible apply rtKI | with_reducible apply bindKI | with_reducible apply putI)
      refine ofI (power_ok (by omega) (by omega)) ?_
      repeat (first | with_reducible apply rtOfI | with_reducible apply bindFI | with_reducible apply bindI | with_reducible apply retI | with_reducible apply rtKI | with_reducible apply bindKI | with_reducible apply putI)
      refine ofI (a := [1, -1]) rfl ?_
      repeat (first | with_reducible apply rtOfI | with_reducible apply bindFI | with_reducible apply bindI | with_reducible apply retI | with_reducible apply rtKI | with_reducible apply bindKI | with_reducible apply putI)
      refine pick_ok hd (by omega) (by decide) (by decide) fun y g2 hy d2 => ?_
      have hy : y = 1 ∨ y = -1 := by simpa using hy
      have px : (2 : Int) ^ x.toNat ≤ 16 ∧ 0 < (2 : Int) ^ x.toNat := by
        have : x = 0 ∨ x = 1 ∨ x = 2 ∨ x = 3 ∨ x = 4 := by omega
        rcases this with e | e | e | e | e <;> rw [e] <;> decide
      refine ofI (mulC_of (by omega) (by omega) (by omega) (by omega)) ?_
      refine kk _ _ ?_ (d2.mono (by omega))
      rcases hy with rfl | rfl
      · left; omega
      · right; omega
    · intro bs g2 hb hd2
      rw [irange_length] at hd2
      have hl := hb.length
      repeat (first | with_reducible apply rtOfI | with_reducible apply bindFI | with_reducible apply bindI | with_reducible apply retI | with_reducible apply rtKI | with_reducible apply bindKI | with_reducible apply putI)
      refine ofI (a := [0 - bs.sum]) rfl ?_
      rw [irange_length] at hl
      refine ofI (a := bs ++ [0 - bs.sum]) (by unfold catC; rw [if_pos]; simp; omega) ?_
      exact k _ _ (pow_free s1 s2 (pw_mem hb) (by omega)) (hd2.mono (by omega))
  · exact k e g' he.1 he.2
end K

set_option maxRecDepth 100000
set_option maxHeartbeats 4000000
/-! A5: what are ends, and what are none. -/
namespace K
open PySem L2 Rt
/-- one end, as are_ends looks at it -/
def eend (d : PyData) : Option Bool := (m_is_integer2 (d, ())).bind fun p22 => (if p22 = true then (cleanO d).bind fun p18 => (eqC p18 (dI.d 0)).bind fun b => some !b else some false)
theorem eend_int {x : Int} (h1 : -(10 ^ 60) < x) (h2 : x < 10 ^ 60) : ∃ b, eend (.int x) = some b := by
  have c : cleanO (.int x) = some (.int x) := rfl
  unfold eend
  rw [int2_ok h1 h2, obS, if_pos rfl, c, obS]
  unfold eqC
  rw [if_pos ⟨by rfl, by rfl⟩, obS]
  exact ⟨_, rfl⟩
theorem eend_big : eend (.int (10 ^ 60)) = some false := by decide +kernel
theorem eend_zero : eend (.int 0) = some false := by decide +kernel
theorem eend_none : eend .none = some false := rfl
theorem eend_bool (b : Bool) : eend (.bool b) = some false := rfl
theorem eend_str (s : Str) : eend (.str s) = some false := rfl
theorem are_short {ds : List PyData} {lo hi : Int} (h : (ds.length : Int) < lo ∨ hi < ds.length) : m_are_ends ((eT eV).enc ds, lo, hi, ()) = some false := by
  have t : isTupV ((eT eV).enc ds) = true := rfl
  have dc : (eT eV).dec ((eT eV).enc ds) = some ds := (eT eV).ret ds
  unfold m_are_ends o_are_ends rtO
  simp only [obS, t, dc, if_pos, Bool.not_true, if_neg, Bool.false_eq_true, not_false_eq_true]
  by_cases z : lo ≤ (ds.length : Int)
  · have d1 : decide (lo ≤ (ds.length : Int)) = true := decide_eq_true z
    have d2 : decide ((ds.length : Int) ≤ hi) = false := decide_eq_false (by omega)
    simp only [obS, d1, d2, if_pos, Bool.not_false]
    rfl
  · have d1 : decide (lo ≤ (ds.length : Int)) = false := decide_eq_false z
    simp only [obS, d1, if_pos, if_neg, Bool.not_false, Bool.false_eq_true, not_false_eq_true]
    rfl
theorem are_odd {ds : List PyData} {lo hi : Int} (h : ∀ d ∈ ds, ∃ b, eend d = some b) (o : ∃ d ∈ ds, eend d = some false) : m_are_ends ((eT eV).enc ds, lo, hi, ()) = some false := by
  by_cases z : lo ≤ (ds.length : Int) ∧ (ds.length : Int) ≤ hi
  · have t : isTupV ((eT eV).enc ds) = true := rfl
    have dc : (eT eV).dec ((eT eV).enc ds) = some ds := (eT eV).ret ds
    have d1 : decide (lo ≤ (ds.length : Int)) = true := decide_eq_true z.1
    have d2 : decide ((ds.length : Int) ≤ hi) = true := decide_eq_true z.2
    unfold m_are_ends o_are_ends rtO
    simp only [obS, t, dc, d1, d2, if_pos, Bool.not_true, if_neg, Bool.false_eq_true, not_false_eq_true]
    have q : lcO (fun _ : PyData => some true) (fun x14 => (m_is_integer2 (x14, ())).bind fun p22 => (if p22 = true then (cleanO x14).bind fun p18 => (eqC p18 (dI.d 0)).bind fun b => some !b else some false)) ds = some (ds.map fun d => (eend d).getD false) := lcO_map fun d hd => by
      obtain ⟨b, hb⟩ := h d hd
      show eend d = _
      rw [hb]; rfl
    have al : ((ds.map fun d => (eend d).getD false).all id) = false := by
      obtain ⟨d, hd, e⟩ := o
      refine List.all_eq_false.mpr ⟨false, List.mem_map.mpr ⟨d, hd, by rw [e]; rfl⟩, by decide⟩
    simp only [q, obS, al, if_neg, Bool.false_eq_true, not_false_eq_true]
    unfold rtKO
    rfl
  · exact are_short (by omega)
theorem are_sum {e : List Int} {lo hi : Int} (h : ∀ x ∈ e, -(10 ^ 60) < x ∧ x < 10 ^ 60) (z : e.sum ≠ 0) : m_are_ends ((eT eI).enc e, lo, hi, ()) = some false := by
  have te : (eT eI).enc e = (eT eV).enc (e.map .int) := by
    show PyData.tuple (e.map .int) = PyData.tuple ((e.map .int).map id)
    rw [List.map_id]
  by_cases o : ∃ d ∈ e.map PyData.int, eend d = some false
  · rw [te]
    refine are_odd (fun d hd => ?_) o
    obtain ⟨x, hx, rfl⟩ := List.mem_map.mp hd
    exact eend_int (h x hx).1 (h x hx).2
  by_cases l : lo ≤ (e.length : Int) ∧ (e.length : Int) ≤ hi
  · have t : isTupV ((eT eI).enc e) = true := rfl
    have d1 : decide (lo ≤ ((e.map PyData.int).length : Int)) = true := decide_eq_true (by rw [List.length_map]; exact l.1)
    have d2 : decide (((e.map PyData.int).length : Int) ≤ hi) = true := decide_eq_true (by rw [List.length_map]; exact l.2)
    unfold m_are_ends o_are_ends rtO
    simp only [obS, t, dec_vals, d1, d2, dec_ints, if_pos, Bool.not_true, if_neg, Bool.false_eq_true, not_false_eq_true]
    have q : lcO (fun _ : PyData => some true) (fun x14 => (m_is_integer2 (x14, ())).bind fun p22 => (if p22 = true then (cleanO x14).bind fun p18 => (eqC p18 (dI.d 0)).bind fun b => some !b else some false)) (e.map PyData.int) = some ((e.map PyData.int).map fun _ => true) := lcO_map fun d hd => by
      obtain ⟨x, hx, rfl⟩ := List.mem_map.mp hd
      obtain ⟨b, hb⟩ := eend_int (h x hx).1 (h x hx).2
      cases b with
      | false => exact absurd ⟨_, hd, hb⟩ o
      | true => exact hb
    have al : (((e.map PyData.int).map fun _ => true).all id) = true := List.all_eq_true.mpr fun b hb => by
      obtain ⟨x, hx, rfl⟩ := List.mem_map.mp hb
      rfl
    have s : decide (e.sum = 0) = false := decide_eq_false z
    simp only [q, obS, al, if_pos, s]
    unfold rtKO
    rfl
  · rw [te]
    exact are_short (by rw [List.length_map]; omega)
theorem are_no {d : PyData} (h : isTupV d = false) {lo hi : Int} : m_are_ends (d, lo, hi, ()) = some false := by
  unfold m_are_ends o_are_ends rtO
  simp only [obS, h, Bool.not_false, if_pos]
  rfl
theorem is_ends0 (d : PyData) : m_is_ends (d, 0, ()) = m_are_ends (d, 3, 6, ()) := by
  have c : m_check_count (0, 0, 1, ()) = some () := by decide +kernel
  unfold m_is_ends o_is_ends rtO
  simp only [obS, c, show (2 : Int) + 1 = 3 from rfl]
  cases m_are_ends (d, 3, 6, ()) <;> rfl
theorem is_ends1 (d : PyData) : m_is_ends (d, 1, ()) = m_are_ends (d, 2, 4, ()) := by
  have c : m_check_count (1, 0, 1, ()) = some () := by decide +kernel
  unfold m_is_ends o_is_ends rtO
  simp only [obS, c]
  cases m_are_ends (d, 2, 4, ()) <;> rfl
end K

set_option maxRecDepth 100000
set_option maxHeartbeats 4000000
/-! A6: the values that are asked whether they are ends. -/
namespace K
open PySem L2 Rt
def gen (b0 b1 : Bool) : List Int := (if b0 = true then [0] else []) ++ (if b1 = true then [1] else [])
def OkV (p : PyData × List Int) : Prop := ∃ b0 b1, m_is_ends (p.1, 0, ()) = some b0 ∧ m_is_ends (p.1, 1, ()) = some b1 ∧ p.2 = gen b0 b1
theorem ok_no {d : PyData} (h : ∀ lo hi, m_are_ends (d, lo, hi, ()) = some false) : OkV (d, []) :=
  ⟨false, false, by rw [is_ends0]; exact h _ _, by rw [is_ends1]; exact h _ _, rfl⟩
theorem ok_long {ds : List PyData} (h : 6 < ds.length ∨ ds.length < 2) : OkV ((eT eV).enc ds, []) :=
  ⟨false, false, by rw [is_ends0]; exact are_short (by omega), by rw [is_ends1]; exact are_short (by omega), rfl⟩
theorem ok_yes {e : List Int} (h : En e) : OkV ((eT eI).enc e, gen (decide (2 < (e.length : Int))) (decide ((e.length : Int) < 5))) := by
  have te : (eT eI).enc e = (eT eV).enc (e.map .int) := by
    show PyData.tuple (e.map .int) = PyData.tuple ((e.map .int).map id)
    rw [List.map_id]
  have lo := h.lo
  have hi := h.hi
  refine ⟨_, _, ?_, ?_, rfl⟩
  · rw [is_ends0]
    by_cases z : 2 < (e.length : Int)
    · rw [decide_eq_true z]; exact are_ok h (by omega) hi
    · rw [decide_eq_false z, te]; exact are_short (by rw [List.length_map]; omega)
  · rw [is_ends1]
    by_cases z : (e.length : Int) < 5
    · rw [decide_eq_true z]; exact are_ok h lo (by omega)
    · rw [decide_eq_false z, te]; exact are_short (by rw [List.length_map]; omega)
/-- one end put to another -/
theorem ok_put {e : List Int} (h : En e) {i : Nat} {x : PyData} (o : eend x = some false) : OkV ((eT eV).enc (((e.take i).map eI.enc ++ [x]) ++ (e.drop (i + 1)).map eI.enc), []) := by
  have ii : ∀ y ∈ e, ∃ b, eend (.int y) = some b := fun y hy => eend_int (h.nz y hy).2.1 (h.nz y hy).2.2
  refine ok_no fun lo hi => are_odd (fun d hd => ?_) ⟨x, by simp, o⟩
  rcases List.mem_append.mp hd with hd | hd
  · rcases List.mem_append.mp hd with hd | hd
    · obtain ⟨y, hy, rfl⟩ := List.mem_map.mp hd
      exact ii y (List.mem_of_mem_take hy)
    · rw [List.mem_singleton.mp hd]
      exact ⟨_, o⟩
  · obtain ⟨y, hy, rfl⟩ := List.mem_map.mp hd
    exact ii y (List.mem_of_mem_drop hy)
theorem ok_inc {e : List Int} (h : En e) {i : Nat} {x : Int} (o : e[i]? = some x) : OkV ((eT eV).enc (((e.take i).map eI.enc ++ [eI.enc (x + 1)]) ++ (e.drop (i + 1)).map eI.enc), []) := by
  have te : (eT eV).enc (((e.take i).map eI.enc ++ [eI.enc (x + 1)]) ++ (e.drop (i + 1)).map eI.enc) = (eT eI).enc ((e.take i ++ [x + 1]) ++ e.drop (i + 1)) := by
    show PyData.tuple ((((e.take i).map PyData.int ++ [PyData.int (x + 1)]) ++ (e.drop (i + 1)).map PyData.int).map id) = PyData.tuple (((e.take i ++ [x + 1]) ++ e.drop (i + 1)).map PyData.int)
    rw [List.map_id, List.map_append, List.map_append]
    rfl
  obtain ⟨hi, hx⟩ := List.getElem?_eq_some_iff.mp o
  have sp : e = (e.take i ++ [x]) ++ e.drop (i + 1) := by
    rw [← hx, List.append_assoc, List.singleton_append, ← List.drop_eq_getElem_cons hi, List.take_append_drop]
  have sm := h.sm
  by_cases zx : x + 1 < 10 ^ 60
  · rw [te]
    refine ok_no fun lo hi2 => are_sum (fun y hy => ?_) ?_
    · rcases List.mem_append.mp hy with hy | hy
      · rcases List.mem_append.mp hy with hy | hy
        · exact (h.nz y (List.mem_of_mem_take hy)).2
        · rw [List.mem_singleton.mp hy]
          have := (h.nz x (by rw [← hx]; exact List.getElem_mem hi)).2
          omega
      · exact (h.nz y (List.mem_of_mem_drop hy)).2
    · have a : e.sum = (e.take i).sum + x + (e.drop (i + 1)).sum := by
        conv => lhs; rw [sp]
        rw [List.sum_append, List.sum_append, List.sum_singleton]
      rw [List.sum_append, List.sum_append, List.sum_singleton]
      omega
  · have := (h.nz x (by rw [← hx]; exact List.getElem_mem hi)).2
    have ex : x + 1 = 10 ^ 60 := by omega
    rw [ex]
    exact ok_put h eend_big
end K

set_option maxRecDepth 100000
set_option maxHeartbeats 4000000
/-! A7: law_values. -/
namespace K
open PySem L2 Rt
theorem catC_ok {α : Type} {xs ys : List α} (h : xs.length + ys.length ≤ 1000000) : catC xs ys = some (xs ++ ys) := by unfold catC; rw [if_pos h]
theorem cut_take {α : Type} (xs : List α) (i : Nat) : cutL xs none (some (i : Int)) = xs.take i := by
  unfold cutL
  rw [HT.sIx_none, HT.sIx_nat, List.drop_zero, Nat.sub_zero]
  by_cases h : i ≤ xs.length
  · rw [Nat.min_eq_left h]
  · rw [Nat.min_eq_right (by omega), List.take_of_length_le (by omega), List.take_of_length_le (by omega)]
theorem cut_drop {α : Type} (xs : List α) (i : Nat) : cutL xs (some (i : Int)) none = xs.drop i := by
  unfold cutL
  rw [HT.sIx_none, HT.sIx_nat]
  by_cases h : i ≤ xs.length
  · rw [Nat.min_eq_left h, List.take_of_length_le (by rw [List.length_drop]; omega)]
  · rw [Nat.min_eq_right (by omega), Nat.sub_self, List.take_zero, List.drop_of_length_le (by omega)]
theorem lenK_ok {α : Type} (xs : List α) (h : Nat.ble xs.length 100 = true) : lenK xs = some xs := by
  have := Nat.le_of_ble_eq_true h
  unfold lenK
  rw [if_pos (by omega)]
theorem lcW_ret {α : Type} {c : α → W Bool} {c' : α → Bool} : ∀ {xs : List α} {g : Gh} {P : List α → Gh → Prop}, (∀ x ∈ xs, ∀ g (Q : Bool → Gh → Prop), Q (c' x) g → c x g Q) → P (xs.filter c') g → lcW c (fun x => W.ret x) xs g P
  | [], g, P, _, q => q
  | x :: xs, g, P, h, q => by
    unfold lcW
    show ((c x).bind _) g P
    refine h x List.mem_cons_self g _ ?_
    cases e : c' x with
    | true =>
      refine ifT rfl ?_
      show lcW c (fun x => W.ret x) xs g _
      refine lcW_ret (fun y hy => h y (List.mem_cons_of_mem _ hy)) ?_
      rw [List.filter_cons_of_pos e] at q
      exact q
    | false =>
      refine ifF rfl ?_
      refine lcW_ret (fun y hy => h y (List.mem_cons_of_mem _ hy)) ?_
      rw [List.filter_cons_of_neg (by rw [e]; decide)] at q
      exact q
theorem gen_filter (b0 b1 : Bool) : [(0 : Int), 1].filter (fun x => (decide (x = 0) && b0) || (decide (x = 1) && b1)) = gen b0 b1 := by
  cases b0 <;> cases b1 <;> decide
theorem values_ok {n : Int} {e : List Int} {g : Gh} {P : List (PyData × List Int) → Gh → Prop} (en : En e) (h : DI n g) (hn : n < 700000) (k : ∀ vs g', (∀ p ∈ vs, OkV p) → DI (n + 1) g' → P vs g') : m_law_values (e, ()) g P := by
  have lo := en.lo
  have hi := en.hi
  unfold m_law_values w_law_values
  repeat (first | with_reducible apply rtOfI | with_reducible apply bindFI | with_reducible apply bindI | with_reducible apply retI | with_reducible apply rtKI | with_reducible apply bindKI | with_reducible apply putI)
  refine roll_ok h (by omega) (by show (0 : Int) < e.length; omega) (by show (e.length : Int) < 2 ^ 80; omega) fun r g1 r0 r1 d1 => ?_
  obtain ⟨i, rfl⟩ := Int.eq_ofNat_of_zero_le r0
  have hi2 : i < e.length := by
    have : (i : Int) < (e.length : Int) := r1
    omega
  have ei : e[i]? = some e[i] := List.getElem?_eq_getElem hi2
  have ea : L2.atI e (i : Int) = some e[i] := by
    unfold L2.atI ixN
    rw [if_pos (by omega), if_pos (by omega)]
    simp [hi2]
  repeat (first | with_reducible apply rtOfI | with_reducible apply bindFI | with_reducible apply bindI | with_reducible apply retI | with_reducible apply rtKI | with_reducible apply bindKI | with_reducible apply putI)
  refine lcW_ret (c' := fun x => (decide (x = 0) && decide (2 < (e.length : Int))) || (decide (x = 1) && decide ((e.length : Int) < 5))) (fun x hx g Q q => ?_) ?_
  · have hx : x = 0 ∨ x = 1 := by simpa using hx
    repeat (first | with_reducible apply rtOfI | with_reducible apply bindFI | with_reducible apply bindI | with_reducible apply retI | with_reducible apply rtKI | with_reducible apply bindKI | with_reducible apply putI)
    refine ofI (a := decide (x = 0)) rfl ?_
    repeat (first | with_reducible apply rtOfI | with_reducible apply bindFI | with_reducible apply bindI | with_reducible apply retI | with_reducible apply rtKI | with_reducible apply bindKI | with_reducible apply putI)
    rcases hx with rfl | rfl
    · refine ifT rfl ?_
      repeat (first | with_reducible apply rtOfI | with_reducible apply bindFI | with_reducible apply bindI | with_reducible apply retI | with_reducible apply rtKI | with_reducible apply bindKI | with_reducible apply putI)
      refine ofI (a := decide (2 < (e.length : Int))) rfl ?_
      cases z : decide (2 < (e.length : Int)) with
      | true =>
        rw [z] at q
        exact ifT rfl q
      | false =>
        rw [z] at q
        refine ifF rfl ?_
        repeat (first | with_reducible apply rtOfI | with_reducible apply bindFI | with_reducible apply bindI | with_reducible apply retI | with_reducible apply rtKI | with_reducible apply bindKI | with_reducible apply putI)
        refine ofI (a := false) rfl ?_
        exact ifF rfl q
    · refine ifF rfl ?_
      repeat (first | with_reducible apply rtOfI | with_reducible apply bindFI | with_reducible apply bindI | with_reducible apply retI | with_reducible apply rtKI | with_reducible apply bindKI | with_reducible apply putI)
      refine ifF rfl ?_
      repeat (first | with_reducible apply rtOfI | with_reducible apply bindFI | with_reducible apply bindI | with_reducible apply retI | with_reducible apply rtKI | with_reducible apply bindKI | with_reducible apply putI)
      refine ofI (a := true) rfl ?_
      refine ifT rfl ?_
      repeat (first | with_reducible apply rtOfI | with_reducible apply bindFI | with_reducible apply bindI | with_reducible apply retI | with_reducible apply rtKI | with_reducible apply bindKI | with_reducible apply putI)
      exact ofI (a := decide ((e.length : Int) < 5)) rfl q
  rw [gen_filter]
  repeat (first | with_reducible apply rtOfI | with_reducible apply bindFI | with_reducible apply bindI | with_reducible apply retI | with_reducible apply rtKI | with_reducible apply bindKI | with_reducible apply putI)
  refine ofI (lenK_ok _ rfl) ?_
  repeat (first | with_reducible apply rtOfI | with_reducible apply bindFI | with_reducible apply bindI | with_reducible apply retI | with_reducible apply rtKI | with_reducible apply bindKI | with_reducible apply putI)
  refine ofI ea ?_
  repeat (first | with_reducible apply rtOfI | with_reducible apply bindFI | with_reducible apply bindI | with_reducible apply retI | with_reducible apply rtKI | with_reducible apply bindKI | with_reducible apply putI)
  refine ofI (powC_of (by decide) (by decide) (by decide)) ?_
  repeat (first | with_reducible apply rtOfI | with_reducible apply bindFI | with_reducible apply bindI | with_reducible apply retI | with_reducible apply rtKI | with_reducible apply bindKI | with_reducible apply putI)
  refine ofI (lenK_ok _ rfl) ?_
  repeat (first | with_reducible apply rtOfI | with_reducible apply bindFI | with_reducible apply bindI | with_reducible apply retI | with_reducible apply rtKI | with_reducible apply bindKI | with_reducible apply putI)
  refine forL_inv (I := fun j s g => (∀ p ∈ s, OkV p) ∧ s.length ≤ 1 + j ∧ DI (n + 1) g) _ 0 _ _ _ ?A ⟨fun p hp => ?B, Nat.le_of_ble_eq_true rfl, d1⟩ ?C
  case B =>
    rw [List.mem_singleton.mp hp]
    exact ok_yes en
  case A =>
    intro j x s g2 Q hj hx ⟨hs, hl, hd⟩ kk
    have hj : j < 6 := hj
    have lt : (e.take i).length ≤ e.length := by rw [List.length_take]; omega
    have ld : (e.drop (i + 1)).length ≤ e.length := by rw [List.length_drop]; omega
    repeat (first | with_reducible apply rtOfI | with_reducible apply bindFI | with_reducible apply bindI | with_reducible apply retI | with_reducible apply rtKI | with_reducible apply bindKI | with_reducible apply putI)
    refine ofI (catC_ok (by rw [cut_take, List.length_map]; simp; omega)) ?_
    repeat (first | with_reducible apply rtOfI | with_reducible apply bindFI | with_reducible apply bindI | with_reducible apply retI | with_reducible apply rtKI | with_reducible apply bindKI | with_reducible apply putI)
    rw [cut_take, show (i : Int) + 1 = ((i + 1 : Nat) : Int) from rfl, cut_drop]
    refine ofI (catC_ok (by simp; omega)) ?_
    repeat (first | with_reducible apply rtOfI | with_reducible apply bindFI | with_reducible apply bindI | with_reducible apply retI | with_reducible apply rtKI | with_reducible apply bindKI | with_reducible apply putI)
    refine ofI (a := s ++ [((eT eV).enc (((e.take i).map eI.enc ++ [x]) ++ (e.drop (i + 1)).map eI.enc), [])]) (by unfold addO; rw [if_pos (by omega)]) ?_
    refine kk _ _ ⟨fun p hp => ?_, by rw [List.length_append]; simp; omega, hd⟩
    rcases List.mem_append.mp hp with hp | hp
    · exact hs p hp
    · rw [List.mem_singleton.mp hp]
      rcases List.mem_cons.mp hx with rfl | hx
      · exact ok_put en eend_zero
      rcases List.mem_cons.mp hx with rfl | hx
      · exact ok_put en eend_none
      rcases List.mem_cons.mp hx with rfl | hx
      · exact ok_put en (eend_bool true)
      rcases List.mem_cons.mp hx with rfl | hx
      · exact ok_put en (eend_str _)
      rcases List.mem_cons.mp hx with rfl | hx
      · exact ok_inc en ei
      rcases List.mem_cons.mp hx with rfl | hx
      · exact ok_put en eend_big
      · cases hx
  case C =>
    intro s g2 ⟨hs, hl, hd⟩
    have hl : s.length ≤ 7 := hl
    repeat (first | with_reducible apply rtOfI | with_reducible apply bindFI | with_reducible apply bindI | with_reducible apply retI | with_reducible apply rtKI | with_reducible apply bindKI | with_reducible apply putI)
    refine ofI (lenK_ok _ rfl) ?_
    repeat (first | with_reducible apply rtOfI | with_reducible apply bindFI | with_reducible apply bindI | with_reducible apply retI | with_reducible apply rtKI | with_reducible apply bindKI | with_reducible apply putI)
    refine ofI (a := [1, -1, 1, -1, 1, -1, 1, -1]) rfl ?_
    repeat (first | with_reducible apply rtOfI | with_reducible apply bindFI | with_reducible apply bindI | with_reducible apply retI | with_reducible apply rtKI | with_reducible apply bindKI | with_reducible apply putI)
    refine ofI (lenK_ok _ rfl) ?_
    refine ofI (catC_ok (by simp; omega)) ?_
    refine k _ _ (fun p hp => ?_) hd
    rcases List.mem_append.mp hp with hp | hp
    · exact hs p hp
    rcases List.mem_cons.mp hp with rfl | hp
    · exact ok_no fun lo hi => are_no rfl
    rcases List.mem_cons.mp hp with rfl | hp
    · exact ok_long (ds := []) (.inr (by decide))
    rcases List.mem_cons.mp hp with rfl | hp
    · exact ok_no fun lo hi => are_no rfl
    rcases List.mem_cons.mp hp with rfl | hp
    · exact ok_long (ds := [.int 1, .int (-1), .int 1, .int (-1), .int 1, .int (-1), .int 0]) (.inl (by decide))
    rcases List.mem_cons.mp hp with rfl | hp
    · exact ok_long (ds := [.int 1, .int (-1), .int 1, .int (-1), .int 1, .int (-1), .int 1, .int (-1)]) (.inl (by decide))
    rcases List.mem_cons.mp hp with rfl | hp
    · exact ok_no fun lo hi => are_no rfl
    rcases List.mem_cons.mp hp with rfl | hp
    · exact ok_no fun lo hi => are_no rfl
    rcases List.mem_cons.mp hp with rfl | hp
    · exact ok_no fun lo hi => are_no rfl
    · cases hp
end K

set_option maxRecDepth 100000
set_option maxHeartbeats 4000000
/-! A8: what is the same as itself; ends made of ends. -/
namespace K
open PySem L2 Rt
mutual
theorem eqv_self : ∀ d : PyData, cleanD d = true → PyData.eqv d d = true
  | .none, _ => by simp [PyData.eqv]
  | .bool b, _ => by simp [PyData.eqv]
  | .int b, _ => by simp [PyData.eqv]
  | .str b, _ => by simp [PyData.eqv]
  | .list ds, h => by
    unfold cleanD at h
    have := eqv_selfL ds h
    simp [PyData.eqv, this]
  | .tuple ds, h => by
    unfold cleanD at h
    have := eqv_selfL ds h
    simp [PyData.eqv, this]
  | .dict kvs, h => by unfold cleanD at h; cases h
theorem eqv_selfL : ∀ ds : List PyData, cleanL ds = true → PyData.eqvAll ds ds = true
  | [], _ => by simp [PyData.eqvAll]
  | d :: ds, h => by
    unfold cleanL at h
    obtain ⟨a, b⟩ := Bool.and_eq_true_iff.mp h
    simp [PyData.eqvAll, eqv_self d a, eqv_selfL ds b]
end
theorem cleanL_map {α : Type} {f : α → PyData} (h : ∀ a, cleanD (f a) = true) : ∀ xs : List α, cleanL (xs.map f) = true
  | [] => by simp [cleanL]
  | x :: xs => by simp [cleanL, h x, cleanL_map h xs]
theorem clean_ints (l : List Int) : cleanD (.tuple (l.map .int)) = true := by
  unfold cleanD
  exact cleanL_map (fun a => rfl) l
theorem clean_lots (l : List (List Int)) : cleanD (.tuple (l.map fun w => .tuple (w.map .int))) = true := by
  unfold cleanD
  exact cleanL_map clean_ints l
theorem clean_room (p : List Int × List (List Int)) : cleanD ((dP (dT dI) (dT (dT dI))).d p) = true := by
  show cleanD (.tuple [.tuple (p.1.map .int), .tuple (p.2.map fun w => .tuple (w.map .int))]) = true
  unfold cleanD cleanL cleanL cleanL
  rw [clean_ints, clean_lots]
  rfl
theorem eqv_room (p : List Int × List (List Int)) : PyData.eqv ((dP (dT dI) (dT (dT dI))).d p) ((dP (dT dI) (dT (dT dI))).d p) = true := eqv_self _ (clean_room p)
theorem eqv_lots (l : List (List Int)) : PyData.eqv ((dT (dT dI)).d l) ((dT (dT dI)).d l) = true := eqv_self _ (clean_lots l)
theorem eqv_dB (b : Bool) : PyData.eqv (dB.d b) (dB.d b) = true := by cases b <;> rfl
/-- what law_room gives is the same as itself -/
theorem room_same {D : PyData} (h : cleanD D = true) (s : SeqAt.shaped D = true) : cleanO D = some D ∧ eqC D D = some true := by
  unfold cleanO eqC
  rw [if_pos h, if_pos ⟨s, s⟩, eqv_self D h]
  exact ⟨rfl, rfl⟩
theorem shaped_room (p : List Int × List (List Int)) : SeqAt.shaped ((dP (dT dI) (dT (dT dI))).d p) = true := (dP (dT dI) (dT (dT dI))).shaped (by decide) p
theorem sum_map_mul (v : Int) : ∀ l : List Int, (l.map fun x => v * x).sum = v * l.sum
  | [] => by simp
  | x :: l => by rw [List.map_cons, List.sum_cons, List.sum_cons, sum_map_mul v l, Int.mul_add]
theorem sum_map_neg : ∀ l : List Int, (l.map fun x => 0 - x).sum = 0 - l.sum
  | [] => by simp
  | x :: l => by rw [List.map_cons, List.sum_cons, List.sum_cons, sum_map_neg l]; omega
theorem wsum_mul (v : Int) (e w : List Int) : wsum (e.map fun x => v * x) w = v * wsum e w := by
  unfold wsum
  rw [← sum_map_mul, List.map_map]
  congr 1
  refine List.map_congr_left fun i _ => ?_
  show fnI _ i = v * fnI e i
  unfold fnI
  rw [List.getElem?_map]
  cases e[i.toNat]? with
  | none => simp
  | some x => rfl
theorem en_mul {e : List Int} (h : En e) (l : Lo e) {v : Int} (v1 : 1 ≤ v) (v2 : v ≤ 9) : En (e.map fun x => v * x) := by
  refine ⟨by rw [List.length_map]; exact h.lo, by rw [List.length_map]; exact h.hi, fun y hy => ?_, by rw [sum_map_mul, h.sm, Int.mul_zero]⟩
  obtain ⟨x, hx, rfl⟩ := List.mem_map.mp hy
  obtain ⟨a, b⟩ := l x hx
  have c := (h.nz x hx).1
  have : v = 1 ∨ v = 2 ∨ v = 3 ∨ v = 4 ∨ v = 5 ∨ v = 6 ∨ v = 7 ∨ v = 8 ∨ v = 9 := by omega
  rcases this with e | e | e | e | e | e | e | e | e <;> rw [e] <;> omega
theorem mul_pos' {v : Int} (x : Int) (h : 0 < v) : 0 < v * x ↔ 0 < x := by
  refine ⟨fun z => ?_, fun z => Int.mul_pos h z⟩
  by_cases y : 0 < x
  · exact y
  · have a := Int.mul_le_mul_of_nonneg_left (show x ≤ 0 by omega) (show 0 ≤ v by omega)
    rw [Int.mul_zero] at a
    omega
theorem sgn_mul (e : List Int) {v : Int} (v1 : 1 ≤ v) : sgn (e.map fun x => v * x) = sgn e := by
  unfold sgn
  rw [List.map_map]
  refine List.map_congr_left fun x _ => ?_
  show (if 0 < v * x then (1 : Int) else -1) = if 0 < x then 1 else -1
  have : 0 < v * x ↔ 0 < x := mul_pos' _ (by omega)
  by_cases z : 0 < x
  · rw [if_pos z, if_pos (this.mpr z)]
  · rw [if_neg z, if_neg fun y => z (this.mp y)]
theorem over_mul (ws : List (List Int)) (e : List Int) {v : Int} (v1 : 1 ≤ v) : over ws (e.map fun x => v * x) = over ws e := by
  unfold over
  refine List.filter_congr fun w _ => ?_
  rw [wsum_mul]
  have : 0 < v * wsum e w ↔ 0 < wsum e w := mul_pos' _ (by omega)
  exact decide_eq_decide.mpr this
theorem lain_mul (ws : List (List Int)) (e : List Int) {v : Int} (v1 : 1 ≤ v) : lain ws (e.map fun x => v * x) = lain ws e := by
  unfold lain
  refine List.filter_congr fun w _ => ?_
  rw [wsum_mul]
  have : v * wsum e w = 0 ↔ wsum e w = 0 := ⟨fun h => (Int.mul_eq_zero.mp h).resolve_left (by omega), fun h => by rw [h, Int.mul_zero]⟩
  exact decide_eq_decide.mpr this
theorem en_neg {e : List Int} (h : En e) : En (e.map fun x => 0 - x) := by
  refine ⟨by rw [List.length_map]; exact h.lo, by rw [List.length_map]; exact h.hi, fun y hy => ?_, by rw [sum_map_neg, h.sm]; rfl⟩
  obtain ⟨x, hx, rfl⟩ := List.mem_map.mp hy
  obtain ⟨a, b, c⟩ := h.nz x hx
  exact ⟨by omega, by omega, by omega⟩
theorem sum_perm {l m : List Int} (p : l.Perm m) : l.sum = m.sum := by
  induction p with
  | nil => rfl
  | cons x _ ih => rw [List.sum_cons, List.sum_cons, ih]
  | swap x y l => simp only [List.sum_cons]; omega
  | trans _ _ a b => rw [a, b]
theorem en_perm {e f : List Int} (p : f.Perm e) (h : En e) : En f := by
  have l := p.length_eq
  exact ⟨by rw [l]; exact h.lo, by rw [l]; exact h.hi, fun y hy => h.nz y (p.mem_iff.mp hy), by rw [sum_perm p, h.sm]⟩
theorem lcW_pure {α β : Type} {f : α → W β} {h : α → β} : ∀ {xs : List α} {g : Gh} {P : List β → Gh → Prop}, (∀ x ∈ xs, ∀ g (Q : β → Gh → Prop), Q (h x) g → f x g Q) → P (xs.map h) g → lcW (fun _ => W.ret true) f xs g P
  | [], g, P, _, q => q
  | x :: xs, g, P, hf, q => by
    unfold lcW
    show ((f x).bind _) g P
    refine hf x List.mem_cons_self g _ ?_
    refine lcW_pure (h := h) (fun y hy => hf y (List.mem_cons_of_mem _ hy)) ?_
    exact q
end K

set_option maxRecDepth 100000
set_option maxHeartbeats 4000000
/-! A9: law_right. -/
namespace K
open PySem L2 Rt
theorem right_ok {n : Int} {g : Gh} {P : Bool → Gh → Prop} (h : DI n g) (hn : n < 50000) (k : ∀ g', DI (n + 300) g' → P true g') : m_law_right () g P := by
  unfold m_law_right w_law_right
  repeat (first | with_reducible apply rtOfI | with_reducible apply bindFI | with_reducible apply bindI | with_reducible apply retI | with_reducible apply rtKI | with_reducible apply bindKI | with_reducible apply putI)
  refine roll_ok h (by omega) (by decide) (by decide) fun r g1 r0 r1 d1 => ?_
  repeat (first | with_reducible apply rtOfI | with_reducible apply bindFI | with_reducible apply bindI | with_reducible apply retI | with_reducible apply rtKI | with_reducible apply bindKI | with_reducible apply putI)
  refine ofI (powC_of (by decide) (by decide) (by decide)) ?_
  repeat (first | with_reducible apply rtOfI | with_reducible apply bindFI | with_reducible apply bindI | with_reducible apply retI | with_reducible apply rtKI | with_reducible apply bindKI | with_reducible apply putI)
  refine ofI (lenK_ok _ rfl) ?_
  repeat (first | with_reducible apply rtOfI | with_reducible apply bindFI | with_reducible apply bindI | with_reducible apply retI | with_reducible apply rtKI | with_reducible apply bindKI | with_reducible apply putI)
  refine pick_ok d1 (by omega) (by decide) (by decide) fun most g2 hm d2 => ?_
  have hm : 2 ≤ most ∧ most ≤ 10 ^ 20 := by
    have hm : most = 2 ∨ most = 4 ∨ most = 9 ∨ most = 10 ^ 20 := by
      rcases List.mem_cons.mp hm with e | hm
      · exact .inl e
      rcases List.mem_cons.mp hm with e | hm
      · exact .inr (.inl e)
      rcases List.mem_cons.mp hm with e | hm
      · exact .inr (.inr (.inl e))
      rcases List.mem_cons.mp hm with e | hm
      · exact .inr (.inr (.inr e))
      · cases hm
    omega
  repeat (first | with_reducible apply rtOfI | with_reducible apply bindFI | with_reducible apply bindI | with_reducible apply retI | with_reducible apply rtKI | with_reducible apply bindKI | with_reducible apply putI)
  refine rm_ends_ok d2 (by omega) (by omega) (by omega) hm.1 hm.2 fun e g3 en lo el d3 => ?_
  repeat (first | with_reducible apply rtOfI | with_reducible apply bindFI | with_reducible apply bindI | with_reducible apply retI | with_reducible apply rtKI | with_reducible apply bindKI | with_reducible apply putI)
  refine rm_ends_ok d3 (by omega) (by omega) (by omega) hm.1 hm.2 fun o g4 eno loo elo d4 => ?_
  obtain ⟨ws, w1, w2, _⟩ := walls_ok (n := 2 + r) (by omega) (by omega)
  obtain ⟨es, re⟩ := rm_ok en
  repeat (first | with_reducible apply rtOfI | with_reducible apply bindFI | with_reducible apply bindI | with_reducible apply retI | with_reducible apply rtKI | with_reducible apply bindKI | with_reducible apply putI)
  refine ofI w1 ?_
  repeat (first | with_reducible apply rtOfI | with_reducible apply bindFI | with_reducible apply bindI | with_reducible apply retI | with_reducible apply rtKI | with_reducible apply bindKI | with_reducible apply putI)
  refine ofI w2 ?_
  repeat (first | with_reducible apply rtOfI | with_reducible apply bindFI | with_reducible apply bindI | with_reducible apply retI | with_reducible apply rtKI | with_reducible apply bindKI | with_reducible apply putI)
  refine ofI (a := false) (by rw [eqv_lots]; rfl) ?_
  refine ifF rfl ?_
  repeat (first | with_reducible apply rtOfI | with_reducible apply bindFI | with_reducible apply bindI | with_reducible apply retI | with_reducible apply rtKI | with_reducible apply bindKI | with_reducible apply putI)
  refine ofI re.fr ?_
  repeat (first | with_reducible apply rtOfI | with_reducible apply bindFI | with_reducible apply bindI | with_reducible apply retI | with_reducible apply rtKI | with_reducible apply bindKI | with_reducible apply putI)
  refine ofI re.lf ?_
  repeat (first | with_reducible apply rtOfI | with_reducible apply bindFI | with_reducible apply bindI | with_reducible apply retI | with_reducible apply rtKI | with_reducible apply bindKI | with_reducible apply putI)
  refine ofI (a := false) (by rw [eqv_dB]; rfl) ?_
  refine ifF rfl ?_
  repeat (first | with_reducible apply rtOfI | with_reducible apply bindFI | with_reducible apply bindI | with_reducible apply retI | with_reducible apply rtKI | with_reducible apply bindKI | with_reducible apply putI)
  have key : ∃ D, (if lain es e = [] then (eP (eT eI) (eT (eT eI))).enc (sgn e, over es e) else (eP eS eS).enc ("refused", "operation")) = D ∧ cleanO D = some D ∧ eqC D D = some true := by
    refine ⟨_, rfl, ?_⟩
    by_cases z : lain es e = []
    · rw [if_pos z]
      exact room_same (clean_room _) (shaped_room _)
    · rw [if_neg z]
      exact room_same (by decide +kernel) (by decide +kernel)
  obtain ⟨D, hD, cD, qD⟩ := key
  refine ofI (law_room_ok re) ?_
  rw [hD]
  refine ofI cD ?_
  repeat (first | with_reducible apply rtOfI | with_reducible apply bindFI | with_reducible apply bindI | with_reducible apply retI | with_reducible apply rtKI | with_reducible apply bindKI | with_reducible apply putI)
  refine ofI re.lf ?_
  refine branchV (R := fun x g' => x = D ∧ g' = g4) (fun Q q => ?_) ?_
  · by_cases z : lain es e = []
    · rw [if_pos z] at hD
      refine ifT (decide_eq_true z) ?_
      repeat (first | with_reducible apply rtOfI | with_reducible apply bindFI | with_reducible apply bindI | with_reducible apply retI | with_reducible apply rtKI | with_reducible apply bindKI | with_reducible apply putI)
      refine ofI re.lr ?_
      repeat (first | with_reducible apply rtOfI | with_reducible apply bindFI | with_reducible apply bindI | with_reducible apply retI | with_reducible apply rtKI | with_reducible apply bindKI | with_reducible apply putI)
      exact q _ _ ⟨hD, rfl⟩
    · rw [if_neg z] at hD
      refine ifF (decide_eq_false z) ?_
      repeat (first | with_reducible apply rtOfI | with_reducible apply bindFI | with_reducible apply bindI | with_reducible apply retI | with_reducible apply rtKI | with_reducible apply bindKI | with_reducible apply putI)
      exact q _ _ ⟨hD, rfl⟩
  rintro x g' ⟨rfl, rfl⟩
  refine ofI cD ?_
  refine ofI (a := false) (by rw [qD]; rfl) ?_
  refine ifF rfl ?_
  repeat (first | with_reducible apply rtOfI | with_reducible apply bindFI | with_reducible apply bindI | with_reducible apply retI | with_reducible apply rtKI | with_reducible apply bindKI | with_reducible apply putI)
  refine values_ok en d4 (by omega) fun vs g5 hv d5 => ?_
  repeat (first | with_reducible apply rtOfI | with_reducible apply bindFI | with_reducible apply bindI | with_reducible apply retI | with_reducible apply rtKI | with_reducible apply bindKI | with_reducible apply putI)
  refine forL_inv (I := fun _ _ g => DI (n + 23) g) _ 0 _ _ _ ?A (d5.mono (by omega)) ?C
  case A =>
    intro i p s g Q hi hp hd kk
    obtain ⟨b0, b1, i0, i1, gp⟩ := hv p hp
    repeat (first | with_reducible apply rtOfI | with_reducible apply bindFI | with_reducible apply bindI | with_reducible apply retI | with_reducible apply rtKI | with_reducible apply bindKI | with_reducible apply putI)
    refine lcW_ret (c' := fun x => (decide (x = 0) && b0) || (decide (x = 1) && b1)) (fun x hx g Q q => ?_) ?_
    · have hx : x = 0 ∨ x = 1 := by simpa using hx
      repeat (first | with_reducible apply rtOfI | with_reducible apply bindFI | with_reducible apply bindI | with_reducible apply retI | with_reducible apply rtKI | with_reducible apply bindKI | with_reducible apply putI)
      rcases hx with rfl | rfl
      · refine ofI i0 ?_
        simpa using q
      · refine ofI i1 ?_
        simpa using q
    rw [gen_filter]
    repeat (first | with_reducible apply rtOfI | with_reducible apply bindFI | with_reducible apply bindI | with_reducible apply retI | with_reducible apply rtKI | with_reducible apply bindKI | with_reducible apply putI)
    refine ofI (a := false) (by rw [gp, eqv_sameL]; rfl) ?_
    refine ifF rfl ?_
    exact kk _ _ hd
  case C =>
    intro s g6 d6
    repeat (first | with_reducible apply rtOfI | with_reducible apply bindFI | with_reducible apply bindI | with_reducible apply retI | with_reducible apply rtKI | with_reducible apply bindKI | with_reducible apply putI)
    refine rm_free_ok d6 (by omega) (by omega) (by omega) hm.1 hm.2 fun f g7 hf d7 => ?_
    obtain ⟨⟨fs, rf, zf⟩, lf⟩ := hf
    repeat (first | with_reducible apply rtOfI | with_reducible apply bindFI | with_reducible apply bindI | with_reducible apply retI | with_reducible apply rtKI | with_reducible apply bindKI | with_reducible apply putI)
    refine roll_ok d7 (by omega) (by decide) (by decide) fun v g8 v0 v1 d8 => ?_
    repeat (first | with_reducible apply rtOfI | with_reducible apply bindFI | with_reducible apply bindI | with_reducible apply retI | with_reducible apply rtKI | with_reducible apply bindKI | with_reducible apply putI)
    refine lcW_pure (h := fun x => (1 + v) * x) (fun x hx g Q q => ?_) ?_
    · repeat (first | with_reducible apply rtOfI | with_reducible apply bindFI | with_reducible apply bindI | with_reducible apply retI | with_reducible apply rtKI | with_reducible apply bindKI | with_reducible apply putI)
      have := lf x hx
      exact ofI (mulC_of (by omega) (by omega) (by omega) (by omega)) q
    have enm := en_mul rf.en lf (v := 1 + v) (by omega) (by omega)
    obtain ⟨ms, rm⟩ := rm_ok enm
    have ems : ms = fs := by
      have a := rm.wl
      rw [List.length_map, rf.wl] at a
      cases a
      rfl
    subst ems
    repeat (first | with_reducible apply rtOfI | with_reducible apply bindFI | with_reducible apply bindI | with_reducible apply retI | with_reducible apply rtKI | with_reducible apply bindKI | with_reducible apply putI)
    refine ofI (one_room_ok rf rm zf (by rw [lain_mul _ _ (by omega)]; exact zf)) ?_
    repeat (first | with_reducible apply rtOfI | with_reducible apply bindFI | with_reducible apply bindI | with_reducible apply retI | with_reducible apply rtKI | with_reducible apply bindKI | with_reducible apply putI)
    rw [sgn_mul _ (by omega), over_mul _ _ (by omega), eqv_room]
    refine ifF rfl ?_
    repeat (first | with_reducible apply rtOfI | with_reducible apply bindFI | with_reducible apply bindI | with_reducible apply retI | with_reducible apply rtKI | with_reducible apply bindKI | with_reducible apply putI)
    refine ofI (room_of2_ok rf zf) ?_
    repeat (first | with_reducible apply rtOfI | with_reducible apply bindFI | with_reducible apply bindI | with_reducible apply retI | with_reducible apply rtKI | with_reducible apply bindKI | with_reducible apply putI)
    refine ofI rf.lr ?_
    repeat (first | with_reducible apply rtOfI | with_reducible apply bindFI | with_reducible apply bindI | with_reducible apply retI | with_reducible apply rtKI | with_reducible apply bindKI | with_reducible apply putI)
    refine ofI (a := false) (by rw [eqv_room]; rfl) ?_
    refine ifF rfl ?_
    repeat (first | with_reducible apply rtOfI | with_reducible apply bindFI | with_reducible apply bindI | with_reducible apply retI | with_reducible apply rtKI | with_reducible apply bindKI | with_reducible apply putI)
    refine lcW_pure (h := fun x => 0 - x) (fun x hx g Q q => q) ?_
    have fl := rf.en.hi
    refine shuffled_ok d8 (by omega) (by omega) fun sh g9 hsh d9 => ?_
    repeat (first | with_reducible apply rtOfI | with_reducible apply bindFI | with_reducible apply bindI | with_reducible apply retI | with_reducible apply rtKI | with_reducible apply bindKI | with_reducible apply putI)
    refine ofI (lenK_ok _ rfl) ?_
    have near : ∀ x ∈ [f, f.map fun x => 0 - x, sh, f.reverse, o, e], ∃ ws, Rm x ws := fun x hx => by
      refine rm_ok ?_
      rcases List.mem_cons.mp hx with rfl | hx
      · exact rf.en
      rcases List.mem_cons.mp hx with rfl | hx
      · exact en_neg rf.en
      rcases List.mem_cons.mp hx with rfl | hx
      · exact en_perm hsh rf.en
      rcases List.mem_cons.mp hx with rfl | hx
      · exact en_perm (List.reverse_perm f) rf.en
      rcases List.mem_cons.mp hx with rfl | hx
      · exact eno
      rcases List.mem_cons.mp hx with rfl | hx
      · exact en
      · cases hx
    repeat (first | with_reducible apply rtOfI | with_reducible apply bindFI | with_reducible apply bindI | with_reducible apply retI | with_reducible apply rtKI | with_reducible apply bindKI | with_reducible apply putI)
    refine lcW_ret (c' := fun x => (m_law_rm_is_free (x, ())).getD false) (fun x hx g Q q => ?_) ?_
    · obtain ⟨xs, rx⟩ := near x hx
      rw [rx.lf] at q
      exact ofI rx.lf q
    repeat (first | with_reducible apply rtOfI | with_reducible apply bindFI | with_reducible apply bindI | with_reducible apply retI | with_reducible apply rtKI | with_reducible apply bindKI | with_reducible apply putI)
    refine forL_inv (I := fun _ _ g => DI (n + 300) g) _ 0 _ _ _ ?E (d9.mono (by omega)) ?F
    case E =>
      intro i x s g Q hi hx hd kk
      obtain ⟨hx, hc⟩ := List.mem_filter.mp hx
      obtain ⟨xs, rx⟩ := near x hx
      rw [rx.lf] at hc
      have zx : lain xs x = [] := of_decide_eq_true hc
      repeat (first | with_reducible apply rtOfI | with_reducible apply bindFI | with_reducible apply bindI | with_reducible apply retI | with_reducible apply rtKI | with_reducible apply bindKI | with_reducible apply putI)
      refine ofI (one_room_ok rf rx zf zx) ?_
      repeat (first | with_reducible apply rtOfI | with_reducible apply bindFI | with_reducible apply bindI | with_reducible apply retI | with_reducible apply rtKI | with_reducible apply bindKI | with_reducible apply putI)
      refine ofI rf.lr ?_
      repeat (first | with_reducible apply rtOfI | with_reducible apply bindFI | with_reducible apply bindI | with_reducible apply retI | with_reducible apply rtKI | with_reducible apply bindKI | with_reducible apply putI)
      refine ofI rx.lr ?_
      refine ofI rfl ?_
      refine ofI (a := false) (by rw [eqv_dB]; rfl) ?_
      refine ifF rfl ?_
      exact kk _ _ hd
    case F =>
      intro s g10 d10
      repeat (first | with_reducible apply rtOfI | with_reducible apply bindFI | with_reducible apply bindI | with_reducible apply retI | with_reducible apply rtKI | with_reducible apply bindKI | with_reducible apply putI)
      exact k _ d10
end K

set_option maxRecDepth 100000
set_option maxHeartbeats 4000000
/-! A10: the law. -/
namespace K
open PySem L2 Rt
theorem t3 : m_walls_for (3, ()) = some [] := by decide +kernel
theorem t4 : m_walls_for (4, ()) = some [[0, 1], [0, 2], [0, 3]] := by decide +kernel
theorem f1 : m_is_free ([3, 1, -2, -2], ()) = some true := by decide +kernel
theorem f2 : m_is_free ([2, 1, -2, -1], ()) = some false := by decide +kernel
theorem e0 : m_is_ends ((eP eI eI).enc (3, -3), 0, ()) = some false := by decide +kernel
theorem e1 : m_is_ends ((eP eI eI).enc (3, -3), 1, ()) = some true := by decide +kernel
theorem w6 : ∃ ws, m_walls_for (6, ()) = some ws ∧ (ws.length : Int) = 25 := by
  have : (match m_walls_for (6, ()) with | some ws => decide ((ws.length : Int) = 25) | none => false) = true := by decide +kernel
  cases h : m_walls_for (6, ()) with
  | none => rw [h] at this; cases this
  | some ws => rw [h] at this; exact ⟨ws, rfl, of_decide_eq_true this⟩
theorem o1 : m_are_one_room ([3, 1, -2, -2], [9, 4, -6, -7], ()) = some true := by decide +kernel
theorem o2 : m_are_one_room ([3, 1, -2, -2], [1, 3, -2, -2], ()) = some false := by decide +kernel
theorem r1 : m_room_of2 ([5, -5], ()) = some ([1, -1], []) := by decide +kernel
theorem law_holds (ns : List Int) (hl : ns.length ≤ 63) : m_law (ns, ()) [] (fun b _ => b = true) := by
  unfold m_law w_law
  repeat (first | with_reducible apply rtOfI | with_reducible apply bindFI | with_reducible apply bindI | with_reducible apply retI | with_reducible apply rtKI | with_reducible apply bindKI | with_reducible apply putI)
  have hi : ∀ L i : Int, 0 ≤ L → i = (if (if L < 4 then L else 4) > 1 then (if L < 4 then L else 4) else 1) → 1 ≤ i ∧ i ≤ 4 := fun L i h e => by
    by_cases a : L < 4
    · rw [if_pos a] at e
      by_cases b : L > 1
      · rw [if_pos b] at e; omega
      · rw [if_neg b] at e; omega
    · rw [if_neg a] at e
      rw [if_pos (by decide)] at e; omega
  obtain ⟨i1, i2⟩ := hi ns.length _ (by omega) rfl
  refine ofI (rng_ok (by omega) (by omega) (by exact Int.le_trans (by decide) i1) (by exact Int.le_trans i2 (by decide))) ?_
  repeat (first | with_reducible apply rtOfI | with_reducible apply bindFI | with_reducible apply bindI | with_reducible apply retI | with_reducible apply rtKI | with_reducible apply bindKI | with_reducible apply putI)
  refine forL_inv (I := fun _ _ _ => True) _ 0 _ _ _ ?A trivial ?C
  case A =>
    intro i x s g Q hi2 hx _ kk
    obtain ⟨x0, x1⟩ := mem_irange.mp hx
    obtain ⟨d, hd, di⟩ := dice_ok ns x x0 (by omega)
    repeat (first | with_reducible apply rtOfI | with_reducible apply bindFI | with_reducible apply bindI | with_reducible apply retI | with_reducible apply rtKI | with_reducible apply bindKI | with_reducible apply putI)
    refine ofI hd ?_
    repeat (first | with_reducible apply rtOfI | with_reducible apply bindFI | with_reducible apply bindI | with_reducible apply retI | with_reducible apply rtKI | with_reducible apply bindKI | with_reducible apply putI)
    refine right_ok di (by omega) fun g1 d1 => ?_
    repeat (first | with_reducible apply rtOfI | with_reducible apply bindFI | with_reducible apply bindI | with_reducible apply retI | with_reducible apply rtKI | with_reducible apply bindKI | with_reducible apply putI)
    refine ifF rfl ?_
    repeat (first | with_reducible apply rtOfI | with_reducible apply bindFI | with_reducible apply bindI | with_reducible apply retI | with_reducible apply rtKI | with_reducible apply bindKI | with_reducible apply putI)
    refine right_ok d1 (by omega) fun g2 d2 => ?_
    repeat (first | with_reducible apply rtOfI | with_reducible apply bindFI | with_reducible apply bindI | with_reducible apply retI | with_reducible apply rtKI | with_reducible apply bindKI | with_reducible apply putI)
    refine ifF rfl ?_
    exact kk _ _ trivial
  case C =>
    intro s g _
    obtain ⟨ws, hw, lw⟩ := w6
    repeat (first | with_reducible apply rtOfI | with_reducible apply bindFI | with_reducible apply bindI | with_reducible apply retI | with_reducible apply rtKI | with_reducible apply bindKI | with_reducible apply putI)
    refine ofI t3 ?_
    repeat (first | with_reducible apply rtOfI | with_reducible apply bindFI | with_reducible apply bindI | with_reducible apply retI | with_reducible apply rtKI | with_reducible apply bindKI | with_reducible apply putI)
    refine ofI t4 ?_
    repeat (first | with_reducible apply rtOfI | with_reducible apply bindFI | with_reducible apply bindI | with_reducible apply retI | with_reducible apply rtKI | with_reducible apply bindKI | with_reducible apply putI)
    refine ofI (lenK_ok _ rfl) ?_
    repeat (first | with_reducible apply rtOfI | with_reducible apply bindFI | with_reducible apply bindI | with_reducible apply retI | with_reducible apply rtKI | with_reducible apply bindKI | with_reducible apply putI)
    refine ofI f1 ?_
    repeat (first | with_reducible apply rtOfI | with_reducible apply bindFI | with_reducible apply bindI | with_reducible apply retI | with_reducible apply rtKI | with_reducible apply bindKI | with_reducible apply putI)
    refine ofI (lenK_ok _ rfl) ?_
    repeat (first | with_reducible apply rtOfI | with_reducible apply bindFI | with_reducible apply bindI | with_reducible apply retI | with_reducible apply rtKI | with_reducible apply bindKI | with_reducible apply putI)
    refine ofI f2 ?_
    repeat (first | with_reducible apply rtOfI | with_reducible apply bindFI | with_reducible apply bindI | with_reducible apply retI | with_reducible apply rtKI | with_reducible apply bindKI | with_reducible apply putI)
    refine ofI e0 ?_
    repeat (first | with_reducible apply rtOfI | with_reducible apply bindFI | with_reducible apply bindI | with_reducible apply retI | with_reducible apply rtKI | with_reducible apply bindKI | with_reducible apply putI)
    refine ofI e1 ?_
    repeat (first | with_reducible apply rtOfI | with_reducible apply bindFI | with_reducible apply bindI | with_reducible apply retI | with_reducible apply rtKI | with_reducible apply bindKI | with_reducible apply putI)
    refine ofI (lenK_ok _ rfl) ?_
    repeat (first | with_reducible apply rtOfI | with_reducible apply bindFI | with_reducible apply bindI | with_reducible apply retI | with_reducible apply rtKI | with_reducible apply bindKI | with_reducible apply putI)
    refine ofI (lenK_ok _ rfl) ?_
    repeat (first | with_reducible apply rtOfI | with_reducible apply bindFI | with_reducible apply bindI | with_reducible apply retI | with_reducible apply rtKI | with_reducible apply bindKI | with_reducible apply putI)
    refine ofI (a := false) (by decide +kernel) ?_
    refine ifF rfl ?_
    repeat (first | with_reducible apply rtOfI | with_reducible apply bindFI | with_reducible apply bindI | with_reducible apply retI | with_reducible apply rtKI | with_reducible apply bindKI | with_reducible apply putI)
    refine ofI hw ?_
    repeat (first | with_reducible apply rtOfI | with_reducible apply bindFI | with_reducible apply bindI | with_reducible apply retI | with_reducible apply rtKI | with_reducible apply bindKI | with_reducible apply putI)
    refine ofI (a := false) (by rw [decide_eq_true lw]; rfl) ?_
    refine ifF rfl ?_
    repeat (first | with_reducible apply rtOfI | with_reducible apply bindFI | with_reducible apply bindI | with_reducible apply retI | with_reducible apply rtKI | with_reducible apply bindKI | with_reducible apply putI)
    refine ofI (lenK_ok _ rfl) ?_
    repeat (first | with_reducible apply rtOfI | with_reducible apply bindFI | with_reducible apply bindI | with_reducible apply retI | with_reducible apply rtKI | with_reducible apply bindKI | with_reducible apply putI)
    refine ofI (lenK_ok _ rfl) ?_
    repeat (first | with_reducible apply rtOfI | with_reducible apply bindFI | with_reducible apply bindI | with_reducible apply retI | with_reducible apply rtKI | with_reducible apply bindKI | with_reducible apply putI)
    refine ofI o1 ?_
    repeat (first | with_reducible apply rtOfI | with_reducible apply bindFI | with_reducible apply bindI | with_reducible apply retI | with_reducible apply rtKI | with_reducible apply bindKI | with_reducible apply putI)
    refine ofI (lenK_ok _ rfl) ?_
    repeat (first | with_reducible apply rtOfI | with_reducible apply bindFI | with_reducible apply bindI | with_reducible apply retI | with_reducible apply rtKI | with_reducible apply bindKI | with_reducible apply putI)
    refine ofI (lenK_ok _ rfl) ?_
    repeat (first | with_reducible apply rtOfI | with_reducible apply bindFI | with_reducible apply bindI | with_reducible apply retI | with_reducible apply rtKI | with_reducible apply bindKI | with_reducible apply putI)
    refine ofI o2 ?_
    repeat (first | with_reducible apply rtOfI | with_reducible apply bindFI | with_reducible apply bindI | with_reducible apply retI | with_reducible apply rtKI | with_reducible apply bindKI | with_reducible apply putI)
    refine ofI r1 ?_
    repeat (first | with_reducible apply rtOfI | with_reducible apply bindFI | with_reducible apply bindI | with_reducible apply retI | with_reducible apply rtKI | with_reducible apply bindKI | with_reducible apply putI)
    refine ofI (lenK_ok _ rfl) ?_
    repeat (first | with_reducible apply rtOfI | with_reducible apply bindFI | with_reducible apply bindI | with_reducible apply retI | with_reducible apply rtKI | with_reducible apply bindKI | with_reducible apply putI)
    refine ofI (lenK_ok _ rfl) ?_
    repeat (first | with_reducible apply rtOfI | with_reducible apply bindFI | with_reducible apply bindI | with_reducible apply retI | with_reducible apply rtKI | with_reducible apply bindKI | with_reducible apply putI)
    refine ofI (a := true) (by decide +kernel) ?_
    repeat (first | with_reducible apply rtOfI | with_reducible apply bindFI | with_reducible apply bindI | with_reducible apply retI | with_reducible apply rtKI | with_reducible apply bindKI | with_reducible apply putI)
    rfl
end K

open PySem PySem.W PyProof.Rows
set_option maxHeartbeats 0 in
theorem PySem.Challenge.cw_swapsheets_k70_whole_rooms_and_walls_holds : PySem.Challenge.rw_swapsheets_k70_whole_rooms_and_walls.Holds := by
  w_on; o_law; k_head; (case hw => w_witness2)
  k_fill
  refine Rt.walk_ofX (l := PySem.Challenge.rw_swapsheets_k70_whole_rooms_and_walls) (n := 63) (k := 11) (x := "_law_script") (CX := fun _ => L2.CX0) (sp := fun w => Rt.SpW (Rt.pC (Rt.qX _) Rt.p0).ra Rt.qB K.m_law) rfl (by decide) rfl ⟨rfl, by decide, by decide⟩ (fun w h Y => PySem.W.kIn_of Y) ?F (fun _ H a ns hl _ hS => Rt.law_end K.law_holds H a ns hl hS) (fun _ _ _ _ _ h => h)
  case F =>
    intro w mg fa h KX G hmg XX
    refine' K.all_mk KX G hmg XX ?a_law_dice ?d_law_dice ?a_law_roll ?d_law_roll ?a_law_pick ?d_law_pick ?a_law_rm_ends ?d_law_rm_ends ?a_is_whole ?d_is_whole ?a_is_integer ?d_is_integer ?a_is_count ?d_is_count ?a_check_count ?d_check_count ?a_walls_for ?d_walls_for ?a_law_rm_shuts ?d_law_rm_shuts ?a_is_whole2 ?d_is_whole2 ?a_is_integer2 ?d_is_integer2 ?a_are_ends ?d_are_ends ?a_check_ends ?d_check_ends ?a_sum_at ?d_sum_at ?a_lain_on ?d_lain_on ?a_is_free ?d_is_free ?a_law_rm_sum ?d_law_rm_sum ?a_law_rm_is_free ?d_law_rm_is_free ?a_check_free ?d_check_free ?a_room ?d_room ?a_room_of ?d_room_of ?a_law_room ?d_law_room ?a_law_rm_room ?d_law_rm_room ?a_law_values ?d_law_values ?a_is_ends ?d_is_ends ?a_law_power ?d_law_power ?a_law_rm_free ?d_law_rm_free ?a_check_free2 ?d_check_free2 ?a_are_one_room ?d_are_one_room ?a_room_of2 ?d_room_of2 ?a_law_shuffled ?d_law_shuffled ?a_law_right ?d_law_right ?a_law ?d_law ?z_abs ?z_all ?z_bool ?z_int ?z_isinstance ?z_len ?z_list ?z_max ?z_min ?z_range ?z_sorted ?z_sum ?z_tuple ?i_MOST_ENDS ?i_MOST_ROUND ?i_g_FIRST_TOO_LONG ?i_g_LEAST_ENDS ?y_InvalidOperation ?yk_InvalidOperation ?yq_InvalidOperation ?ys_InvalidOperation ?yt_InvalidOperation ?yi_InvalidOperation ?ye_InvalidOperation
    (case a_law_dice => k_is)
    (case d_law_dice => refine' ⟨_, L2.fun_mk (st := K.slaw_dice) ?l ?c ?k⟩; (case l => k_is); (case c => k_is); (case k => k_is))
    (case a_law_roll => k_is)
    (case d_law_roll => refine' ⟨_, L2.fun_mk (st := K.slaw_roll) ?l ?c ?k⟩; (case l => k_is); (case c => k_is); (case k => k_is))
    (case a_law_pick => k_is)
    (case d_law_pick => refine' ⟨_, L2.fun_mk (st := K.slaw_pick) ?l ?c ?k⟩; (case l => k_is); (case c => k_is); (case k => k_is))
    (case a_law_rm_ends => k_is)
    (case d_law_rm_ends => refine' ⟨_, L2.fun_mk (st := K.slaw_rm_ends) ?l ?c ?k⟩; (case l => k_is); (case c => k_is); (case k => k_is))
    (case a_is_whole => k_is)
    (case d_is_whole => refine' ⟨_, L2.fun_mk (st := K.sis_whole) ?l ?c ?k⟩; (case l => k_is); (case c => k_is); (case k => k_is))
    (case a_is_integer => k_is)
    (case d_is_integer => refine' ⟨_, L2.fun_mk (st := K.sis_integer) ?l ?c ?k⟩; (case l => k_is); (case c => k_is); (case k => k_is))
    (case a_is_count => k_is)
    (case d_is_count => refine' ⟨_, L2.fun_mk (st := K.sis_count) ?l ?c ?k⟩; (case l => k_is); (case c => k_is); (case k => k_is))
    (case a_check_count => k_is)
    (case d_check_count => refine' ⟨_, L2.fun_mk (st := K.scheck_count) ?l ?c ?k⟩; (case l => k_is); (case c => k_is); (case k => k_is))
    (case a_walls_for => k_is)
    (case d_walls_for => refine' ⟨_, L2.fun_mk (st := K.swalls_for) ?l ?c ?k⟩; (case l => k_is); (case c => k_is); (case k => k_is))
    (case a_law_rm_shuts => k_is)
    (case d_law_rm_shuts => refine' ⟨_, L2.fun_mk (st := K.slaw_rm_shuts) ?l ?c ?k⟩; (case l => k_is); (case c => k_is); (case k => k_is))
    (case a_is_whole2 => k_is)
    (case d_is_whole2 => refine' ⟨_, L2.fun_mk (st := K.sis_whole2) ?l ?c ?k⟩; (case l => k_is); (case c => k_is); (case k => k_is))
    (case a_is_integer2 => k_is)
    (case d_is_integer2 => refine' ⟨_, L2.fun_mk (st := K.sis_integer2) ?l ?c ?k⟩; (case l => k_is); (case c => k_is); (case k => k_is))
    (case a_are_ends => k_is)
    (case d_are_ends => refine' ⟨_, L2.fun_mk (st := K.sare_ends) ?l ?c ?k⟩; (case l => k_is); (case c => k_is); (case k => k_is))
    (case a_check_ends => k_is)
    (case d_check_ends => refine' ⟨_, L2.fun_mk (st := K.scheck_ends) ?l ?c ?k⟩; (case l => k_is); (case c => k_is); (case k => k_is))
    (case a_sum_at => k_is)
    (case d_sum_at => refine' ⟨_, L2.fun_mk (st := K.ssum_at) ?l ?c ?k⟩; (case l => k_is); (case c => k_is); (case k => k_is))
    (case a_lain_on => k_is)
    (case d_lain_on => refine' ⟨_, L2.fun_mk (st := K.slain_on) ?l ?c ?k⟩; (case l => k_is); (case c => k_is); (case k => k_is))
    (case a_is_free => k_is)
    (case d_is_free => refine' ⟨_, L2.fun_mk (st := K.sis_free) ?l ?c ?k⟩; (case l => k_is); (case c => k_is); (case k => k_is))
    (case a_law_rm_sum => k_is)
    (case d_law_rm_sum => refine' ⟨_, L2.fun_mk (st := K.slaw_rm_sum) ?l ?c ?k⟩; (case l => k_is); (case c => k_is); (case k => k_is))
    (case a_law_rm_is_free => k_is)
    (case d_law_rm_is_free => refine' ⟨_, L2.fun_mk (st := K.slaw_rm_is_free) ?l ?c ?k⟩; (case l => k_is); (case c => k_is); (case k => k_is))
    (case a_check_free => k_is)
    (case d_check_free => refine' ⟨_, L2.fun_mk (st := K.scheck_free) ?l ?c ?k⟩; (case l => k_is); (case c => k_is); (case k => k_is))
    (case a_room => k_is)
    (case d_room => refine' ⟨_, L2.fun_mk (st := K.sroom) ?l ?c ?k⟩; (case l => k_is); (case c => k_is); (case k => k_is))
    (case a_room_of => k_is)
    (case d_room_of => refine' ⟨_, L2.fun_mk (st := K.sroom_of) ?l ?c ?k⟩; (case l => k_is); (case c => k_is); (case k => k_is))
    (case a_law_room => k_is)
    (case d_law_room => refine' ⟨_, L2.fun_mk (st := K.slaw_room) ?l ?c ?k⟩; (case l => k_is); (case c => k_is); (case k => k_is))
    (case a_law_rm_room => k_is)
    (case d_law_rm_room => refine' ⟨_, L2.fun_mk (st := K.slaw_rm_room) ?l ?c ?k⟩; (case l => k_is); (case c => k_is); (case k => k_is))
    (case a_law_values => k_is)
    (case d_law_values => refine' ⟨_, L2.fun_mk (st := K.slaw_values) ?l ?c ?k⟩; (case l => k_is); (case c => k_is); (case k => k_is))
    (case a_is_ends => k_is)
    (case d_is_ends => refine' ⟨_, L2.fun_mk (st := K.sis_ends) ?l ?c ?k⟩; (case l => k_is); (case c => k_is); (case k => k_is))
    (case a_law_power => k_is)
    (case d_law_power => refine' ⟨_, L2.fun_mk (st := K.slaw_power) ?l ?c ?k⟩; (case l => k_is); (case c => k_is); (case k => k_is))
    (case a_law_rm_free => k_is)
    (case d_law_rm_free => refine' ⟨_, L2.fun_mk (st := K.slaw_rm_free) ?l ?c ?k⟩; (case l => k_is); (case c => k_is); (case k => k_is))
    (case a_check_free2 => k_is)
    (case d_check_free2 => refine' ⟨_, L2.fun_mk (st := K.scheck_free2) ?l ?c ?k⟩; (case l => k_is); (case c => k_is); (case k => k_is))
    (case a_are_one_room => k_is)
    (case d_are_one_room => refine' ⟨_, L2.fun_mk (st := K.sare_one_room) ?l ?c ?k⟩; (case l => k_is); (case c => k_is); (case k => k_is))
    (case a_room_of2 => k_is)
    (case d_room_of2 => refine' ⟨_, L2.fun_mk (st := K.sroom_of2) ?l ?c ?k⟩; (case l => k_is); (case c => k_is); (case k => k_is))
    (case a_law_shuffled => k_is)
    (case d_law_shuffled => refine' ⟨_, L2.fun_mk (st := K.slaw_shuffled) ?l ?c ?k⟩; (case l => k_is); (case c => k_is); (case k => k_is))
    (case a_law_right => k_is)
    (case d_law_right => refine' ⟨_, L2.fun_mk (st := K.slaw_right) ?l ?c ?k⟩; (case l => k_is); (case c => k_is); (case k => k_is))
    (case a_law => k_is)
    (case d_law => refine' ⟨_, L2.fun_mk (st := K.slaw) ?l ?c ?k⟩; (case l => k_is); (case c => k_is); (case k => k_is))
    (case z_abs => k_is)
    (case z_all => k_is)
    (case z_bool => k_is)
    (case z_int => k_is)
    (case z_isinstance => k_is)
    (case z_len => k_is)
    (case z_list => k_is)
    (case z_max => k_is)
    (case z_min => k_is)
    (case z_range => k_is)
    (case z_sorted => k_is)
    (case z_sum => k_is)
    (case z_tuple => k_is)
    (case i_MOST_ENDS => k_is)
    (case i_MOST_ROUND => k_is)
    (case i_g_FIRST_TOO_LONG => simp)
    (case i_g_LEAST_ENDS => k_is)
    (case y_InvalidOperation => k_is)
    (case yk_InvalidOperation => k_is)
    (case yq_InvalidOperation => k_exc)
    (case ys_InvalidOperation => k_is)
    (case yt_InvalidOperation => k_is)
    (case yi_InvalidOperation => k_is)
    (case ye_InvalidOperation => k_is)

