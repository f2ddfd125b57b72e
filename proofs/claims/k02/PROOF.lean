import PyProof.Rows.All
import Wide.All
import OpenK.AllK
import Wide.FinOn
import HandS.ForMost
import HandS.ForExc
import HandS.EndBits
import HandS.Wide
import HandS.WideMore
import HandS.Flow
import HandS.IsInst
import HandS.RaiseMore
import HandS.StrMore
import HandS.Replace
import HandS.WrittenGet
import HandS.Style
import HandS.Steps
import HandS.ExcIs
import HandS.TryMany
import HandS.Codes
import HandS.TupAny
import PySem.Challenge.RW_cayleywalk_k02_products_and_powers
section
set_option Elab.async false
set_option linter.all false
set_option maxRecDepth 100000
set_option maxHeartbeats 4000000
namespace DW
open PySem PySem.Spec PyProof.Rows L2

abbrev D := PyData
abbrev Exn := Str × List (Str × D)
inductive R (α : Type) where
  | stuck | ok (a : α) | err (e : Exn)
namespace R
def bind {α β : Type} : R α → (α → R β) → R β
  | .stuck, _ => .stuck
  | .ok a, f => f a
  | .err e, _ => .err e
@[simp] theorem bind_ok {α β : Type} (a : α) (f : α → R β) : (R.ok a).bind f = f a := rfl
@[simp] theorem bind_stuck {α β : Type} (f : α → R β) : (R.stuck : R α).bind f = .stuck := rfl
@[simp] theorem bind_err {α β : Type} (e : Exn) (f : α → R β) : (R.err e : R α).bind f = .err e := rfl
/-- no error may leave -/
def quiet {α : Type} : R α → R α
  | .err _ => .stuck
  | r => r
@[simp] theorem quiet_ok {α : Type} (a : α) : (R.ok a).quiet = .ok a := rfl
@[simp] theorem quiet_err {α : Type} (e : Exn) : (R.err e : R α).quiet = .stuck := rfl
@[simp] theorem quiet_stuck {α : Type} : (R.stuck : R α).quiet = .stuck := rfl
def guard (b : Bool) : R Unit := if b then .ok () else .stuck
@[simp] theorem guard_true : guard true = .ok () := rfl
@[simp] theorem guard_false : guard false = .stuck := rfl
end R

theorem Same.new {H : Hp} {p : Addr} {o : HO} (h : H p = none) : Same H (upd H p o) := fun b x e => by
  rw [upd_ne (ne_of_none e h)]
  exact e
structure Fr (H H0 H' H0' : Hp) : Prop where
  ex : Same H H'
  ez : Same H0 H0'
  sb : Same H0' H'
  ow : ∀ p, H0 p = none → H p ≠ none → H0' p = none
section
variable {H H0 H1 H01 H2 H02 : Hp}
theorem Fr.refl (h : Same H0 H) : Fr H H0 H H0 := ⟨Same.refl _, Same.refl _, h, fun _ h _ => h⟩
theorem Fr.trans (a : Fr H H0 H1 H01) (b : Fr H1 H01 H2 H02) : Fr H H0 H2 H02 :=
  ⟨a.ex.trans b.ex, a.ez.trans b.ez, b.sb, fun p h0 h => b.ow p (a.ow p h0 h) (by
    cases e : H p with
    | none => exact absurd e h
    | some o => rw [a.ex p o e]; simp)⟩
/-- a new object, known at once -/
theorem Fr.new {p : Addr} {o : HO} (h : Same H0 H) (n : H p = none) : Fr H H0 (upd H p o) (upd H0 p o) := by
  have n0 : H0 p = none := h.free n
  refine ⟨Same.new n, Same.new n0, fun b x e => ?_, fun q h0 hq => ?_⟩
  · by_cases hb : b = p
    · subst hb; rw [upd_same] at e ⊢; exact e
    · rw [upd_ne hb] at e ⊢; exact h b x e
  · have : q ≠ p := fun z => hq (by rw [z]; exact n)
    rw [upd_ne this]; exact h0
/-- a new object, not known to the base -/
theorem Fr.loose {p : Addr} {o : HO} (h : Same H0 H) (n : H p = none) : Fr H H0 (upd H p o) H0 :=
  ⟨Same.new n, Same.refl _, fun b x e => Same.new n b x (h b x e), fun _ h0 _ => h0⟩
end

section
variable {K : PySem.W.Frag} {H H' : Hp}
theorem sqT_mono {a : Addr} {xs : List V} (e : Same H H') (h : SqT K H a xs) : SqT K H' a xs := by
  rcases h with (h | ⟨o, h⟩) | h
  · exact .inl (.inl (e _ _ h))
  · exact .inl (.inr ⟨o, e _ _ h⟩)
  · exact .inr h
mutual
theorem dp_mono (e : Same H H') : ∀ (d : D) (v : V), Dp K H v d → Dp K H' v d
  | .none, _, h => by cases h; exact .non
  | .bool _, _, h => by cases h; exact .bl _
  | .int _, _, h => by cases h; exact .int _
  | .str _, _, h => by cases h; exact .str _
  | .list ds, _, h => by cases h with | lst hs ha => exact .lst (e.seq hs) (dpAll_mono e ds _ ha)
  | .tuple ds, _, h => by cases h with | tup hs ha => exact .tup (sqT_mono e hs) (dpAll_mono e ds _ ha)
  | .dict _, _, h => by cases h
theorem dpAll_mono (e : Same H H') : ∀ (ds : List D) (vs : List V), DpAll K H vs ds → DpAll K H' vs ds
  | [], _, h => by cases h; exact .nil
  | d :: ds, _, h => by cases h with | cons h1 h2 => exact .cons (dp_mono e d _ h1) (dpAll_mono e ds _ h2)
end
theorem DpAll.length : ∀ {vs : List V} {ds : List D}, DpAll K H vs ds → vs.length = ds.length
  | _, _, .nil => rfl
  | _, _, .cons _ t => by rw [List.length_cons, List.length_cons, DpAll.length t]
theorem DpAll.get : ∀ {vs : List V} {ds : List D} {i : Nat} {d : D}, DpAll K H vs ds → ds[i]? = some d → ∃ v, vs[i]? = some v ∧ Dp K H v d
  | _, _, _, _, .nil, e => by simp at e
  | _, _, 0, _, .cons r _, e => by simp at e; subst e; exact ⟨_, rfl, r⟩
  | _, _, i + 1, _, .cons _ t, e => by
    obtain ⟨v, h1, h2⟩ := DpAll.get (i := i) t (by simpa using e)
    exact ⟨v, by simpa using h1, h2⟩
theorem DpAll.append : ∀ {vs ws : List V} {ds es : List D}, DpAll K H vs ds → DpAll K H ws es → DpAll K H (vs ++ ws) (ds ++ es)
  | _, _, _, _, .nil, s => s
  | _, _, _, _, .cons r t, s => .cons r (DpAll.append t s)
theorem DpAll.take : ∀ {vs : List V} {ds : List D} (n : Nat), DpAll K H vs ds → DpAll K H (vs.take n) (ds.take n)
  | _, _, 0, _ => .nil
  | _, _, _ + 1, .nil => .nil
  | _, _, n + 1, .cons r t => .cons r (DpAll.take n t)
theorem DpAll.drop : ∀ {vs : List V} {ds : List D} (n : Nat), DpAll K H vs ds → DpAll K H (vs.drop n) (ds.drop n)
  | _, _, 0, r => r
  | _, _, _ + 1, .nil => .nil
  | _, _, n + 1, .cons _ t => DpAll.drop n t
theorem DpAll.set {v : V} {d : D} (r : Dp K H v d) : ∀ {vs : List V} {ds : List D} (n : Nat), DpAll K H vs ds → DpAll K H (vs.set n v) (ds.set n d)
  | _, _, _, .nil => .nil
  | _, _, 0, .cons _ t => .cons r t
  | _, _, n + 1, .cons q t => .cons q (DpAll.set r n t)
theorem DpAll.reverse : ∀ {vs : List V} {ds : List D}, DpAll K H vs ds → DpAll K H vs.reverse ds.reverse
  | _, _, .nil => .nil
  | _, _, .cons r t => by
    rw [List.reverse_cons, List.reverse_cons]
    exact DpAll.append (DpAll.reverse t) (.cons r .nil)
/-- all ints, all texts, all bools -/
theorem DpAll.ints : ∀ {vs : List V} {ns : List Int}, DpAll K H vs (ns.map PyData.int) → vs = ns.map V.int
  | _, [], h => by cases h; rfl
  | _, n :: ns, h => by
    cases h with
    | cons h1 h2 => cases h1; rw [List.map_cons, DpAll.ints h2]
theorem DpAll.strs : ∀ {vs : List V} {ns : List Str}, DpAll K H vs (ns.map PyData.str) → vs = ns.map V.str
  | _, [], h => by cases h; rfl
  | _, n :: ns, h => by
    cases h with
    | cons h1 h2 => cases h1; rw [List.map_cons, DpAll.strs h2]
theorem DpAll.bools : ∀ {vs : List V} {ns : List Bool}, DpAll K H vs (ns.map PyData.bool) → vs = ns.map V.bl
  | _, [], h => by cases h; rfl
  | _, n :: ns, h => by
    cases h with
    | cons h1 h2 => cases h1; rw [List.map_cons, DpAll.bools h2]
end

def ErrOk (K : PySem.W.Frag) (mg : Str → Option Value) (E : XK) (e : Exn) (H H0 : Hp) : Prop := ∃ C, mg e.1 = some (.ref C) ∧ match e.2 with
  | [] => E (.ref C) none H
  | (f, d) :: _ => ∀ v dx, Dp K H0 v d → H dx = none → E (.ref C) (some dx) (upd H dx (.xd [(f, v)]))

/-- what is to be shown of a result -/
def Post {α β : Type} (rel : Hp → β → α → Prop) (K : PySem.W.Frag) (mg : Str → Option Value) (md : Bool) (H H0 : Hp) (r : R α) (Q : β → Hp → Prop) (E : XK) : Prop :=
  match r with
  | .stuck => False
  | .ok d => ∀ v H' H0', Fr H H0 H' H0' → rel (bif md then H0' else H') v d → Q v H'
  | .err e => ∀ H' H0', Fr H H0 H' H0' → ErrOk K mg E e H' H0'
section
variable {K : PySem.W.Frag} {mg : Str → Option Value} {α β γ δ : Type} {rel : Hp → β → α → Prop} {rel' : Hp → δ → γ → Prop} {md md' : Bool} {H H0 H' H0' : Hp} {r : R α} {Q Q1 : β → Hp → Prop} {E : XK}
theorem Post.step (h : Post rel K mg md H H0 r Q E) (f : Fr H H0 H' H0') : Post rel K mg md H' H0' r Q E := by
  cases r with
  | stuck => exact h
  | ok d => exact fun v H2 H02 g => h v H2 H02 (f.trans g)
  | err e => exact fun H2 H02 g => h H2 H02 (f.trans g)
theorem Post.imp (h : Post rel K mg md H H0 r Q E) (q : ∀ v H', Q v H' → Q1 v H') : Post rel K mg md H H0 r Q1 E := by
  cases r with
  | stuck => exact h
  | ok d => exact fun v H2 H02 g x => q _ _ (h v H2 H02 g x)
  | err e => exact h
theorem Post.bind {f : α → R γ} {Q : δ → Hp → Prop} (h : Post rel' K mg md' H H0 (r.bind f) Q E) :
    Post rel K mg md H H0 r (fun v H' => ∃ d H0', r = .ok d ∧ Fr H H0 H' H0' ∧ rel (bif md then H0' else H') v d ∧ Post rel' K mg md' H' H0' (f d) Q E) E := by
  cases r with
  | stuck => exact h
  | ok d => exact fun v H2 H02 g x => ⟨d, H02, rfl, g, x, Post.step h g⟩
  | err e => exact h
theorem Post.quiet (h : Post rel K mg md H H0 r.quiet Q E) : Post rel K mg md H H0 r Q (fun _ _ _ => False) := by
  cases r with
  | stuck => exact h
  | ok d => exact h
  | err e => exact False.elim h
theorem Post.ok {d : α} {v : β} (h : Post rel K mg md H H0 (.ok d) Q E) (f : Fr H H0 H' H0') (x : rel (bif md then H0' else H') v d) : Q v H' := h v H' H0' f x
end

/-! ### slots -/
inductive SD where
  | sh (d : D) | own (ds : List D) | exc
abbrev En := List (Option SD)
structure Rel (K : PySem.W.Frag) (ea : Addr) (Hs H0s : Hp) (σ : L2.St) (H H0 : Hp) (ρ : En) : Prop where
  fr : Fr Hs H0s H H0
  len : σ.length = ρ.length
  sh : ∀ (i : Nat) (d : D), ρ[i]? = some (some (.sh d)) → ∃ v, σ[i]? = some (some v) ∧ Dp K H0 v d
  own : ∀ (i : Nat) (ds : List D), ρ[i]? = some (some (.own ds)) → ∃ p vs, σ[i]? = some (some (.ref p)) ∧ Hs p = none ∧ H0 p = none ∧ H p = some (.lst vs) ∧ DpAll K H0 vs ds
  dis : ∀ (i j : Nat) (ds es : List D) (p : Addr), i ≠ j → ρ[i]? = some (some (.own ds)) → ρ[j]? = some (some (.own es)) → σ[i]? = some (some (.ref p)) → σ[j]? = some (some (.ref p)) → False
  exc : ∀ (i : Nat), ρ[i]? = some (some .exc) → σ[i]? = some (some (.ref ea))
section
variable {K : PySem.W.Frag} {ea : Addr} {Hs H0s H H0 H' H0' : Hp} {σ : L2.St} {ρ : En}
theorem Rel.sub (h : Rel K ea Hs H0s σ H H0 ρ) : Same H0 H := h.fr.sb
theorem Rel.step (h : Rel K ea Hs H0s σ H H0 ρ) (f : Fr H H0 H' H0') : Rel K ea Hs H0s σ H' H0' ρ where
  fr := h.fr.trans f
  len := h.len
  sh := fun i d e => let ⟨v, h1, h2⟩ := h.sh i d e; ⟨v, h1, dp_mono f.ez _ _ h2⟩
  own := fun i ds e => let ⟨p, vs, h1, h2, h3, h4, h5⟩ := h.own i ds e
    ⟨p, vs, h1, h2, f.ow p h3 (by rw [h4]; simp), f.ex _ _ h4, dpAll_mono f.ez _ _ h5⟩
  dis := h.dis
  exc := h.exc
/-- a slot set to something of the base, or forgotten -/
theorem Rel.set (h : Rel K ea Hs H0s σ H H0 ρ) {v : V} {d : D} (i : Nat) (x : Dp K H0 v d) : Rel K ea Hs H0s (σ.set i (some v)) H H0 (ρ.set i (some (.sh d))) where
  fr := h.fr
  len := by rw [List.length_set, List.length_set, h.len]
  sh := fun j e q => by
    by_cases hj : i = j
    · subst hj
      rw [List.getElem?_set] at q ⊢
      rw [if_pos rfl] at q ⊢
      split at q
      · rename_i hl
        cases q
        exact ⟨v, by rw [if_pos (by rw [h.len]; exact hl)], x⟩
      · cases q
    · rw [List.getElem?_set_ne hj] at q ⊢
      exact h.sh j e q
  own := fun j ds q => by
    by_cases hj : i = j
    · subst hj
      rw [List.getElem?_set] at q
      rw [if_pos rfl] at q
      split at q <;> cases q
    · rw [List.getElem?_set_ne hj] at q ⊢
      exact h.own j ds q
  dis := fun j k ds es p hjk q1 q2 q3 q4 => by
    have nj : i ≠ j := fun z => by
      subst z
      rw [List.getElem?_set, if_pos rfl] at q1
      split at q1 <;> cases q1
    have nk : i ≠ k := fun z => by
      subst z
      rw [List.getElem?_set, if_pos rfl] at q2
      split at q2 <;> cases q2
    rw [List.getElem?_set_ne nj] at q1 q3
    rw [List.getElem?_set_ne nk] at q2 q4
    exact h.dis j k ds es p hjk q1 q2 q3 q4
  exc := fun j q => by
    by_cases hj : i = j
    · subst hj
      rw [List.getElem?_set, if_pos rfl] at q
      split at q <;> cases q
    · rw [List.getElem?_set_ne hj] at q ⊢
      exact h.exc j q
theorem Rel.forget (h : Rel K ea Hs H0s σ H H0 ρ) (i : Nat) (v : Option V) : Rel K ea Hs H0s (σ.set i v) H H0 (ρ.set i none) where
  fr := h.fr
  len := by rw [List.length_set, List.length_set, h.len]
  sh := fun j e q => by
    by_cases hj : i = j
    · subst hj
      rw [List.getElem?_set, if_pos rfl] at q
      split at q <;> cases q
    · rw [List.getElem?_set_ne hj] at q ⊢
      exact h.sh j e q
  own := fun j ds q => by
    by_cases hj : i = j
    · subst hj
      rw [List.getElem?_set, if_pos rfl] at q
      split at q <;> cases q
    · rw [List.getElem?_set_ne hj] at q ⊢
      exact h.own j ds q
  dis := fun j k ds es p hjk q1 q2 q3 q4 => by
    have nj : i ≠ j := fun z => by
      subst z
      rw [List.getElem?_set, if_pos rfl] at q1
      split at q1 <;> cases q1
    have nk : i ≠ k := fun z => by
      subst z
      rw [List.getElem?_set, if_pos rfl] at q2
      split at q2 <;> cases q2
    rw [List.getElem?_set_ne nj] at q1 q3
    rw [List.getElem?_set_ne nk] at q2 q4
    exact h.dis j k ds es p hjk q1 q2 q3 q4
  exc := fun j q => by
    by_cases hj : i = j
    · subst hj
      rw [List.getElem?_set, if_pos rfl] at q
      split at q <;> cases q
    · rw [List.getElem?_set_ne hj] at q ⊢
      exact h.exc j q
/-- a slot set to a list that is its own: new, in no other slot, not in the base -/
theorem Rel.setOwn (h : Rel K ea Hs H0s σ H H0 ρ) {p : Addr} {vs : List V} {ds : List D} (i : Nat) (hs : Hs p = none) (h0 : H0 p = none) (hp : H p = some (.lst vs)) (x : DpAll K H0 vs ds)
    (hd : ∀ (j : Nat) (es : List D), j ≠ i → ρ[j]? = some (some (.own es)) → σ[j]? = some (some (.ref p)) → False) : Rel K ea Hs H0s (σ.set i (some (.ref p))) H H0 (ρ.set i (some (.own ds))) where
  fr := h.fr
  len := by rw [List.length_set, List.length_set, h.len]
  sh := fun j e q => by
    by_cases hj : i = j
    · subst hj
      rw [List.getElem?_set, if_pos rfl] at q
      split at q <;> cases q
    · rw [List.getElem?_set_ne hj] at q ⊢
      exact h.sh j e q
  own := fun j es q => by
    by_cases hj : i = j
    · subst hj
      rw [List.getElem?_set] at q ⊢
      rw [if_pos rfl] at q ⊢
      split at q
      · rename_i hl
        cases q
        exact ⟨p, vs, by rw [if_pos (by rw [h.len]; exact hl)], hs, h0, hp, x⟩
      · cases q
    · rw [List.getElem?_set_ne hj] at q ⊢
      exact h.own j es q
  dis := fun j k es fs q hjk q1 q2 q3 q4 => by
    by_cases hj : i = j
    · subst hj
      by_cases hk : i = k
      · exact hjk hk
      · rw [List.getElem?_set_ne hk] at q2 q4
        rw [List.getElem?_set, if_pos rfl] at q3
        split at q3
        · have e : p = q := by injection q3 with q3; injection q3 with q3; injection q3
          subst e
          exact hd k fs (Ne.symm hk) q2 q4
        · cases q3
    · rw [List.getElem?_set_ne hj] at q1 q3
      by_cases hk : i = k
      · subst hk
        rw [List.getElem?_set, if_pos rfl] at q4
        split at q4
        · have e : p = q := by injection q4 with q4; injection q4 with q4; injection q4
          subst e
          exact hd j es (Ne.symm hj) q1 q3
        · cases q4
      · rw [List.getElem?_set_ne hk] at q2 q4
        exact h.dis j k es fs q hjk q1 q2 q3 q4
  exc := fun j q => by
    by_cases hj : i = j
    · subst hj
      rw [List.getElem?_set, if_pos rfl] at q
      split at q <;> cases q
    · rw [List.getElem?_set_ne hj] at q ⊢
      exact h.exc j q
/-- an own list becomes part of the base -/
theorem Rel.freeze (h : Rel K ea Hs H0s σ H H0 ρ) {i : Nat} {ds : List D} (e : ρ[i]? = some (some (.own ds))) : ∃ H0', Same H0 H0' ∧ Rel K ea Hs H0s σ H H0' (ρ.set i (some (.sh (.list ds)))) := by
  obtain ⟨p, vs, h1, h2, h3, h4, h5⟩ := h.own i ds e
  have ex : Same H0 (upd H0 p (.lst vs)) := Same.new h3
  refine ⟨upd H0 p (.lst vs), ex, ⟨h.fr.ex, h.fr.ez.trans ex, fun b x q => ?_, fun q z1 z2 => ?_⟩, by rw [List.length_set, h.len], fun j d q => ?_, fun j es q => ?_, fun j k es fs q hjk q1 q2 q3 q4 => ?_, fun j q => ?_⟩
  · by_cases hb : b = p
    · subst hb; rw [upd_same] at q; rw [← q]; exact h4
    · rw [upd_ne hb] at q; exact h.fr.sb b x q
  · have : q ≠ p := fun z => z2 (by rw [z]; exact h2)
    rw [upd_ne this]
    exact h.fr.ow q z1 z2
  · by_cases hj : i = j
    · subst hj
      rw [List.getElem?_set, if_pos rfl] at q
      split at q
      · cases q
        exact ⟨.ref p, h1, .lst (.inl (.inl upd_same)) (dpAll_mono ex _ _ h5)⟩
      · cases q
    · rw [List.getElem?_set_ne hj] at q
      obtain ⟨v, a, b⟩ := h.sh j d q
      exact ⟨v, a, dp_mono ex _ _ b⟩
  · by_cases hj : i = j
    · subst hj
      rw [List.getElem?_set, if_pos rfl] at q
      split at q <;> cases q
    · rw [List.getElem?_set_ne hj] at q
      obtain ⟨p', vs', a1, a2, a3, a4, a5⟩ := h.own j es q
      have np : p' ≠ p := fun z => h.dis i j ds es p hj e q h1 (z ▸ a1)
      exact ⟨p', vs', a1, a2, by rw [upd_ne np]; exact a3, a4, dpAll_mono ex _ _ a5⟩
  · have nj : i ≠ j := fun z => by
      subst z
      rw [List.getElem?_set, if_pos rfl] at q1
      split at q1 <;> cases q1
    have nk : i ≠ k := fun z => by
      subst z
      rw [List.getElem?_set, if_pos rfl] at q2
      split at q2 <;> cases q2
    rw [List.getElem?_set_ne nj] at q1
    rw [List.getElem?_set_ne nk] at q2
    exact h.dis j k es fs q hjk q1 q2 q3 q4
  · have nj : i ≠ j := fun z => by
      subst z
      rw [List.getElem?_set, if_pos rfl] at q
      split at q <;> cases q
    rw [List.getElem?_set_ne nj] at q
    exact h.exc j q
/-- an own list is written -/
theorem Rel.write (h : Rel K ea Hs H0s σ H H0 ρ) {i : Nat} {ds es : List D} {p : Addr} {ws : List V} (e : ρ[i]? = some (some (.own ds))) (hp : σ[i]? = some (some (.ref p))) (x : DpAll K H0 ws es) :
    Rel K ea Hs H0s σ (upd H p (.lst ws)) H0 (ρ.set i (some (.own es))) := by
  obtain ⟨p', vs, h1, h2, h3, h4, h5⟩ := h.own i ds e
  have ep : p' = p := by rw [h1] at hp; injection hp with hp; injection hp with hp; injection hp
  subst ep
  refine ⟨⟨fun b x q => ?_, h.fr.ez, fun b x q => ?_, h.fr.ow⟩, by rw [List.length_set, h.len], fun j d q => ?_, fun j fs q => ?_, fun j k fs gs q hjk q1 q2 q3 q4 => ?_, fun j q => ?_⟩
  · have : b ≠ p' := fun z => by rw [z, h2] at q; cases q
    rw [upd_ne this]; exact h.fr.ex b x q
  · have : b ≠ p' := fun z => by rw [z, h3] at q; cases q
    rw [upd_ne this]; exact h.fr.sb b x q
  · by_cases hj : i = j
    · subst hj
      rw [List.getElem?_set, if_pos rfl] at q
      split at q <;> cases q
    · rw [List.getElem?_set_ne hj] at q
      exact h.sh j d q
  · by_cases hj : i = j
    · subst hj
      rw [List.getElem?_set, if_pos rfl] at q
      split at q
      · cases q
        exact ⟨p', ws, h1, h2, h3, upd_same, x⟩
      · cases q
    · rw [List.getElem?_set_ne hj] at q
      obtain ⟨p2, vs', a1, a2, a3, a4, a5⟩ := h.own j fs q
      have np : p2 ≠ p' := fun z => h.dis i j ds fs p' hj e q h1 (z ▸ a1)
      exact ⟨p2, vs', a1, a2, a3, by rw [upd_ne np]; exact a4, a5⟩
  · have own' : ∀ (m : Nat) (zs : List D), (ρ.set i (some (.own es)))[m]? = some (some (.own zs)) → ∃ ys, ρ[m]? = some (some (.own ys)) := fun m zs q => by
      by_cases hm : i = m
      · subst hm; exact ⟨ds, e⟩
      · rw [List.getElem?_set_ne hm] at q; exact ⟨zs, q⟩
    obtain ⟨y1, r1⟩ := own' j fs q1
    obtain ⟨y2, r2⟩ := own' k gs q2
    exact h.dis j k y1 y2 q hjk r1 r2 q3 q4
  · have nj : i ≠ j := fun z => by
      subst z
      rw [List.getElem?_set, if_pos rfl] at q
      split at q <;> cases q
    rw [List.getElem?_set_ne nj] at q
    exact h.exc j q
/-- a slot set to the caught error -/
theorem Rel.setExc (h : Rel K ea Hs H0s σ H H0 ρ) (i : Nat) : Rel K ea Hs H0s (σ.set i (some (.ref ea))) H H0 (ρ.set i (some .exc)) where
  fr := h.fr
  len := by rw [List.length_set, List.length_set, h.len]
  sh := fun j e q => by
    by_cases hj : i = j
    · subst hj
      rw [List.getElem?_set, if_pos rfl] at q
      split at q <;> cases q
    · rw [List.getElem?_set_ne hj] at q ⊢
      exact h.sh j e q
  own := fun j ds q => by
    by_cases hj : i = j
    · subst hj
      rw [List.getElem?_set, if_pos rfl] at q
      split at q <;> cases q
    · rw [List.getElem?_set_ne hj] at q ⊢
      exact h.own j ds q
  dis := fun j k ds es p hjk q1 q2 q3 q4 => by
    have nj : i ≠ j := fun z => by
      subst z
      rw [List.getElem?_set, if_pos rfl] at q1
      split at q1 <;> cases q1
    have nk : i ≠ k := fun z => by
      subst z
      rw [List.getElem?_set, if_pos rfl] at q2
      split at q2 <;> cases q2
    rw [List.getElem?_set_ne nj] at q1 q3
    rw [List.getElem?_set_ne nk] at q2 q4
    exact h.dis j k ds es p hjk q1 q2 q3 q4
  exc := fun j q => by
    by_cases hj : i = j
    · subst hj
      rw [List.getElem?_set] at q ⊢
      rw [if_pos rfl] at q ⊢
      split at q
      · rename_i hl
        rw [if_pos (by rw [h.len]; exact hl)]
      · cases q
    · rw [List.getElem?_set_ne hj] at q ⊢
      exact h.exc j q
/-- errors forgotten -/
def unx : Option SD → Option SD
  | some .exc => none
  | s => s
def clean (ρ : En) : En := ρ.map unx
theorem clean_at {ρ : En} {i : Nat} {s : SD} (h : (clean ρ)[i]? = some (some s)) : ρ[i]? = some (some s) ∧ s ≠ .exc := by
  unfold clean at h
  rw [List.getElem?_map] at h
  cases e : ρ[i]? with
  | none => rw [e] at h; cases h
  | some x =>
    rw [e] at h
    have h : some (unx x) = some (some s) := h
    have h : unx x = some s := Option.some.inj h
    cases x with
    | none => cases h
    | some y =>
      cases y with
      | exc => cases h
      | sh d => have h : some (SD.sh d) = some s := h; cases h; exact ⟨rfl, fun z => nomatch z⟩
      | own d => have h : some (SD.own d) = some s := h; cases h; exact ⟨rfl, fun z => nomatch z⟩
theorem Rel.clean {ea' : Addr} (h : Rel K ea Hs H0s σ H H0 ρ) : Rel K ea' Hs H0s σ H H0 (clean ρ) where
  fr := h.fr
  len := by unfold DW.clean; rw [List.length_map, h.len]
  sh := fun j e q => h.sh j e (clean_at q).1
  own := fun j ds q => h.own j ds (clean_at q).1
  dis := fun j k ds es p hjk q1 q2 q3 q4 => h.dis j k ds es p hjk (clean_at q1).1 (clean_at q2).1 q3 q4
  exc := fun j q => absurd rfl (clean_at q).2
end
end DW

end
section
set_option Elab.async false
set_option linter.all false
set_option maxRecDepth 100000
set_option maxHeartbeats 4000000
namespace DW
open PySem PySem.Spec PyProof.Rows L2

abbrev ME := En → R D
abbrev MT := En → R Bool
abbrev MA := En → R (List D)
abbrev MO := En → R (Option Int)
abbrev beqr {α : Type} : Hp → α → α → Prop := fun _ a b => a = b

/-- the error that a suite handles -/
def excOf (X : Cx) : Addr := match X.pn with
  | p :: _ => p.1
  | [] => 0
structure BE (X : Cx) (W : WX) (md : Bool) (e : Expr) (t : TE) (m : ME) : Prop where
  pe : PE X e t
  ev : ∀ Hs H0s σ H H0 ρ Q, Rel X.K (excOf X) Hs H0s σ H H0 ρ → Post (Dp X.K) X.K X.mg md H H0 (m ρ) Q (WE W σ) → t σ H Q
structure BT (X : Cx) (W : WX) (e : Expr) (t : TT) (m : MT) : Prop where
  pe : PT X e t
  ev : ∀ Hs H0s σ H H0 ρ Q, Rel X.K (excOf X) Hs H0s σ H H0 ρ → Post beqr X.K X.mg true H H0 (m ρ) Q (WE W σ) → t σ H Q
structure BW (X : Cx) (W : WX) (e : Expr) (t : TT) (m : MT) : Prop where
  pe : PW X e t
  ev : ∀ Hs H0s σ H H0 ρ Q, Rel X.K (excOf X) Hs H0s σ H H0 ρ → Post beqr X.K X.mg true H H0 (m ρ) Q (WE W σ) → t σ H Q
structure BA (X : Cx) (W : WX) (md : Bool) (es : List Expr) (t : TA) (m : MA) : Prop where
  pe : PA X es t
  ev : ∀ Hs H0s σ H H0 ρ Q, Rel X.K (excOf X) Hs H0s σ H H0 ρ → Post (DpAll X.K) X.K X.mg md H H0 (m ρ) Q (WE W σ) → t σ H Q
structure BO (X : Cx) (W : WX) (e : Option Expr) (t : TO) (m : MO) : Prop where
  pe : PO X e t
  ev : ∀ Hs H0s σ H H0 ρ Q, Rel X.K (excOf X) Hs H0s σ H H0 ρ → Post beqr X.K X.mg true H H0 (m ρ) Q (WE W σ) → t σ H Q

section
variable {X : Cx} {W : WX} {md : Bool} {e a b c : Expr} {t ta tb tc te : TE} {m ma mb mc : ME} {pos : Pos}
theorem dp_md {K : PySem.W.Frag} {H H0 : Hp} {v : V} {d : D} (s : Same H0 H) (h : Dp K (bif md then H0 else H) v d) : Dp K H v d := by
  cases md with
  | true => exact dp_mono s _ _ h
  | false => exact h
theorem dpAll_md {K : PySem.W.Frag} {H H0 : Hp} {v : List V} {d : List D} (s : Same H0 H) (h : DpAll K (bif md then H0 else H) v d) : DpAll K H v d := by
  cases md with
  | true => exact dpAll_mono s _ _ h
  | false => exact h
theorem Post.loose {K : PySem.W.Frag} {mg : Str → Option Value} {H H0 : Hp} {r : R D} {Q : VK} {E : XK} (h : Post (Dp K) K mg false H H0 r Q E) : Post (Dp K) K mg true H H0 r Q E := by
  cases r with
  | stuck => exact h
  | ok d => exact fun v H' H0' f x => h v H' H0' f (dp_mono f.sb _ _ x)
  | err e => exact h
theorem Post.loose' {K : PySem.W.Frag} {mg : Str → Option Value} {H H0 : Hp} {r : R D} {Q : VK} {E : XK} (h : Post (Dp K) K mg md H H0 r Q E) : Post (Dp K) K mg true H H0 r Q E := by
  cases md with
  | true => exact h
  | false => exact h.loose
theorem BE.p (h : BE X W true e t m) : BE X W false e t m := ⟨h.pe, fun Hs H0s σ H H0 ρ Q r p => h.ev Hs H0s σ H H0 ρ Q r p.loose⟩

/-! ### names, constants -/
def mVar (i : Nat) : ME := fun ρ => match ρ[i]? with | some (some (.sh d)) => .ok d | _ => .stuck
def mVarP (i : Nat) : ME := fun ρ => match ρ[i]? with | some (some (.sh d)) => .ok d | some (some (.own ds)) => .ok (.list ds) | _ => .stuck
def mC (d : D) : ME := fun _ => .ok d
theorem be_var (i : Nat) {x : Str} (h : PE X (.Name x pos) (tVar i)) : BE X W true (.Name x pos) (tVar i) (mVar i) := by
  refine ⟨h, fun Hs H0s σ H H0 ρ Q r p => ?_⟩
  unfold mVar at p
  split at p
  · rename_i d e
    obtain ⟨v, h1, h2⟩ := r.sh _ _ e
    exact ⟨v, h1, p v H H0 (.refl r.sub) h2⟩
  · exact False.elim p
theorem be_varP (i : Nat) {x : Str} (h : PE X (.Name x pos) (tVar i)) : BE X W false (.Name x pos) (tVar i) (mVarP i) := by
  refine ⟨h, fun Hs H0s σ H H0 ρ Q r p => ?_⟩
  unfold mVarP at p
  split at p
  · rename_i d e
    obtain ⟨v, h1, h2⟩ := r.sh _ _ e
    exact ⟨v, h1, p v H H0 (.refl r.sub) (dp_mono r.sub _ _ h2)⟩
  · rename_i ds e
    obtain ⟨q, vs, h1, h2, h3, h4, h5⟩ := r.own _ _ e
    exact ⟨_, h1, p _ H H0 (.refl r.sub) (.lst (.inl (.inl h4)) (dpAll_mono r.sub _ _ h5))⟩
  · exact False.elim p
theorem be_c {v : V} {d : D} (h : PE X e (tC v)) (hd : ∀ H, Dp X.K H v d) : BE X W md e (tC v) (mC d) :=
  ⟨h, fun Hs H0s σ H H0 ρ Q r p => p v H H0 (.refl r.sub) (by cases md <;> exact hd _)⟩
theorem be_int {i : Int} {j : Nat} : BE X W md (.Constant (.int i) j pos) (tC (.int i)) (mC (.int i)) := be_c pe_int fun _ => .int i
theorem be_str {x : Str} {j : Nat} : BE X W md (.Constant (.str x) j pos) (tC (.str x)) (mC (.str x)) := be_c pe_str fun _ => .str x
theorem be_bool {x : Bool} {j : Nat} : BE X W md (.Constant (.bool x) j pos) (tC (.bl x)) (mC (.bool x)) := be_c pe_bl fun _ => .bl x
theorem be_none {j : Nat} : BE X W md (.Constant .none j pos) (tC .non) (mC .none) := be_c pe_non fun _ => .non
theorem be_glob {x : Str} {v : V} {u : Value} {d : D} (hg : Gl X x) (hm : X.mg x = some u) (r : RelV v u) (hd : ∀ H, Dp X.K H v d) (hdb : (x == ("__debug__" : Str)) = false := by decide) : BE X W md (.Name x pos) (tC v) (mC d) := be_c (pe_glob hg hm r hdb) hd

theorem be_globI {x : Str} {i : Int} {tk : Tok} (hg : Gl X x) (hm : X.mg x = some (.int i tk)) (hdb : (x == ("__debug__" : Str)) = false := by decide) : BE X W md (.Name x pos) (tC (.int i)) (mC (.int i)) := be_c (pe_glob hg hm ⟨_, rfl⟩ hdb) fun _ => .int _
theorem be_globS {x : Str} {i : Str} {tk : Tok} (hg : Gl X x) (hm : X.mg x = some (.str i tk)) (hdb : (x == ("__debug__" : Str)) = false := by decide) : BE X W md (.Name x pos) (tC (.str i)) (mC (.str i)) := be_c (pe_glob hg hm ⟨_, rfl⟩ hdb) fun _ => .str _
/-! ### operations on two values -/
def Op2 (K : PySem.W.Frag) (mg : Str → Option Value) (md : Bool) (r : R2) (f : D → D → R D) : Prop :=
  ∀ (x y : V) (d e : D) (H H0 : Hp) (Q : VK) (E : XK), Same H0 H → Dp K (bif md then H0 else H) x d → Dp K (bif md then H0 else H) y e → Post (Dp K) K mg true H H0 (f d e) Q E → r x y H Q
def m2 (f : D → D → R D) (ma mb : ME) : ME := fun ρ => (ma ρ).bind fun d => (mb ρ).bind fun e => f d e
theorem keep_md {K : PySem.W.Frag} {H H0 H' H0' : Hp} {v : V} {d : D} (f : Fr H H0 H' H0') (h : Dp K (bif md then H0 else H) v d) : Dp K (bif md then H0' else H') v d := by
  cases md with
  | true => exact dp_mono f.ez _ _ h
  | false => exact dp_mono f.ex _ _ h
theorem keepAll_md {K : PySem.W.Frag} {H H0 H' H0' : Hp} {v : List V} {d : List D} (f : Fr H H0 H' H0') (h : DpAll K (bif md then H0 else H) v d) : DpAll K (bif md then H0' else H') v d := by
  cases md with
  | true => exact dpAll_mono f.ez _ _ h
  | false => exact dpAll_mono f.ex _ _ h
theorem ev_op {r : R2} {f : D → D → R D} (hr : Op2 X.K X.mg md r f) (ha : BE X W md a ta ma) (hb : BE X W md b tb mb) :
    ∀ Hs H0s σ H H0 ρ Q, Rel X.K (excOf X) Hs H0s σ H H0 ρ → Post (Dp X.K) X.K X.mg true H H0 (m2 f ma mb ρ) Q (WE W σ) → tOp r ta tb σ H Q := fun Hs H0s σ H H0 ρ Q rl p => by
  refine ha.ev Hs H0s σ H H0 ρ _ rl ((Post.bind p).imp ?_)
  rintro v H1 ⟨d, H01, _, f1, x1, p1⟩
  refine hb.ev Hs H0s σ H1 H01 ρ _ (rl.step f1) ((Post.bind p1).imp ?_)
  rintro u H2 ⟨e, H02, _, f2, x2, p2⟩
  exact hr v u d e H2 H02 Q _ f2.sb (keep_md f2 x1) x2 p2
theorem be_op {r : R2} {op : Operator} (f : D → D → R D) (ho : OpR X (binaryOp op) r) (hr : Op2 X.K X.mg md r f) (ha : BE X W md a ta ma) (hb : BE X W md b tb mb) : BE X W true (.BinOp a op b pos) (tOp r ta tb) (m2 f ma mb) :=
  ⟨pe_op ho ha.pe hb.pe, ev_op hr ha hb⟩
theorem be_cmp {r : R2} {op : CmpOp} (f : D → D → R D) (ho : OpR X (compareOp op) r) (hr : Op2 X.K X.mg md r f) (ha : BE X W md a ta ma) (hb : BE X W md b tb mb) (hm : behindInMarks op b = false) : BE X W true (.Compare a [op] [b] pos) (tOp r ta tb) (m2 f ma mb) :=
  ⟨pe_cmpR ho ha.pe hb.pe hm, ev_op hr ha hb⟩
def asB : D → R Bool
  | .bool b => .ok b
  | _ => .stuck
theorem post_asB {K : PySem.W.Frag} {mg : Str → Option Value} {H H0 : Hp} {r : R D} {Q : Bool → Hp → Prop} {E : XK} (h : Post beqr K mg true H H0 (r.bind asB) Q E) :
    Post (Dp K) K mg true H H0 r (fun x H' => ∃ k, x = .bl k ∧ Q k H') E := by
  cases r with
  | stuck => exact h
  | ok d =>
    cases d with
    | bool b => exact fun v H' H0' f x => by cases x; exact ⟨b, rfl, h b H' H0' f rfl⟩
    | _ => exact False.elim h
  | err e => exact h
def mT (m : ME) : MT := fun ρ => (m ρ).bind asB
theorem bt_cmp {r : R2} {op : CmpOp} (f : D → D → R D) (ho : OpR X (compareOp op) r) (hr : Op2 X.K X.mg md r f) (ha : BE X W md a ta ma) (hb : BE X W md b tb mb) (hm : behindInMarks op b = false) : BT X W (.Compare a [op] [b] pos) (tTest (tOp r ta tb)) (mT (m2 f ma mb)) :=
  ⟨pt_cmpR ho ha.pe hb.pe hm, fun Hs H0s σ H H0 ρ Q rl p => ev_op hr ha hb Hs H0s σ H H0 ρ _ rl (post_asB p)⟩
/-- a op b op' c -/
def mChain (f g : D → D → R D) (ma mb mc : ME) : ME := fun ρ => (ma ρ).bind fun d => (mb ρ).bind fun e => (f d e).bind fun k => (asB k).bind fun k => if k then (mc ρ).bind fun z => g e z else .ok (.bool false)
theorem ev_chain {r r' : R2} {f g : D → D → R D} (hr : Op2 X.K X.mg false r f) (hr' : Op2 X.K X.mg false r' g) (ha : BE X W false a ta ma) (hb : BE X W false b tb mb) (hc : BE X W false c tc mc) :
    ∀ Hs H0s σ H H0 ρ Q, Rel X.K (excOf X) Hs H0s σ H H0 ρ → Post (Dp X.K) X.K X.mg true H H0 (mChain f g ma mb mc ρ) Q (WE W σ) → tChain r r' ta tb tc σ H Q := fun Hs H0s σ H H0 ρ Q rl p => by
  refine ha.ev Hs H0s σ H H0 ρ _ rl ((Post.bind p).imp ?_)
  rintro v H1 ⟨d, H01, _, f1, x1, p1⟩
  refine hb.ev Hs H0s σ H1 H01 ρ _ (rl.step f1) ((Post.bind p1).imp ?_)
  rintro u H2 ⟨e, H02, _, f2, x2, p2⟩
  refine hr v u d e H2 H02 _ (WE W σ) f2.sb (keep_md (md := false) f2 x1) x2 ((Post.bind (rel := Dp X.K) (md := true) p2).imp ?_)
  rintro k H3 ⟨kd, H03, _, f3, x3, p3⟩
  cases kd with
  | bool b =>
    cases x3
    refine ⟨b, rfl, ?_⟩
    cases b with
    | true =>
      rw [if_pos rfl]
      refine hc.ev Hs H0s σ H3 H03 ρ _ (((rl.step f1).step f2).step f3) ((Post.bind (rel := Dp X.K) p3).imp ?_)
      rintro z H4 ⟨ze, H04, _, f4, x4, p4⟩
      exact hr' u z e ze H4 H04 Q (WE W σ) f4.sb (keep_md (md := false) (f3.trans f4) x2) x4 p4
    | false =>
      rw [if_neg (by decide)]
      exact p3 (.bl false) H3 H03 (.refl f3.sb) (.bl false)
  | _ => exact False.elim p3
theorem be_chain {r r' : R2} {op op' : CmpOp} (f g : D → D → R D) (ho : OpR X (compareOp op) r) (ho' : OpR X (compareOp op') r') (hr : Op2 X.K X.mg false r f) (hr' : Op2 X.K X.mg false r' g) (ha : BE X W false a ta ma) (hb : BE X W false b tb mb) (hc : BE X W false c tc mc)
    (h1 : lastMarks [op, op'] [b, c] = false) : BE X W true (.Compare a [op, op'] [b, c] pos) (tChain r r' ta tb tc) (mChain f g ma mb mc) := ⟨pe_chain ho ho' ha.pe hb.pe hc.pe h1, ev_chain hr hr' ha hb hc⟩
theorem bt_chain {r r' : R2} {op op' : CmpOp} (f g : D → D → R D) (ho : OpR X (compareOp op) r) (ho' : OpR X (compareOp op') r') (hr : Op2 X.K X.mg false r f) (hr' : Op2 X.K X.mg false r' g) (ha : BE X W false a ta ma) (hb : BE X W false b tb mb) (hc : BE X W false c tc mc)
    (h1 : lastMarks [op, op'] [b, c] = false) : BT X W (.Compare a [op, op'] [b, c] pos) (tTest (tChain r r' ta tb tc)) (mT (mChain f g ma mb mc)) :=
  ⟨pt_chain ho ho' ha.pe hb.pe hc.pe h1, fun Hs H0s σ H H0 ρ Q rl p => ev_chain hr hr' ha hb hc Hs H0s σ H H0 ρ _ rl (post_asB p)⟩

/-! ### truth -/
def dTruth : D → R Bool
  | .none => .ok false
  | .bool b => .ok b
  | .int i => .ok (i != 0)
  | .str x => if x.length ≤ sizeLine then .ok ((x.length : Int) != 0) else .stuck
  | .list xs => .ok (!xs.isEmpty)
  | .tuple xs => .ok (!xs.isEmpty)
  | .dict _ => .stuck
theorem isEmpty_all {K : PySem.W.Frag} {H : Hp} {xs : List V} {ds : List D} (h : DpAll K H xs ds) : xs.isEmpty = ds.isEmpty := by cases h <;> rfl
theorem tru_of {K : PySem.W.Frag} {H : Hp} {v : V} {d : D} {k : Bool} (x : Dp K H v d) (e : dTruth d = .ok k) : TruV K v H k := by
  cases x with
  | non => exact (R.ok.inj e).symm
  | bl b => exact (R.ok.inj e).symm
  | int i => exact (R.ok.inj e).symm
  | str x =>
    have e : (if x.length ≤ sizeLine then R.ok ((x.length : Int) != 0) else R.stuck) = R.ok k := e
    by_cases h : x.length ≤ sizeLine
    · rw [if_pos h] at e; exact ⟨h, (R.ok.inj e).symm⟩
    · rw [if_neg h] at e; cases e
  | lst hs ha => exact .inl ⟨_, hs, by rw [isEmpty_all ha]; exact (R.ok.inj e).symm⟩
  | tup hs ha => exact .inr (.inl ⟨_, hs, by rw [isEmpty_all ha]; exact (R.ok.inj e).symm⟩)
theorem dTruth_ne {d : D} {e : Exn} : dTruth d ≠ .err e := by
  cases d with
  | str x =>
    show (if x.length ≤ sizeLine then R.ok ((x.length : Int) != 0) else R.stuck) ≠ R.err e
    split <;> simp
  | _ => simp [dTruth]
theorem post_truth {K : PySem.W.Frag} {mg : Str → Option Value} {H H0 : Hp} {r : R D} {Q : Bool → Hp → Prop} {E : XK} (h : Post beqr K mg true H H0 (r.bind dTruth) Q E) :
    Post (Dp K) K mg false H H0 r (fun x H' => ∃ k, TruV K x H' k ∧ Q k H') E := by
  cases r with
  | stuck => exact h
  | ok d =>
    intro v H' H0' f x
    have h : Post beqr K mg true H H0 (dTruth d) Q E := h
    cases q : dTruth d with
    | stuck => rw [q] at h; exact False.elim h
    | ok k => rw [q] at h; exact ⟨k, tru_of x q, h k H' H0' f rfl⟩
    | err z => exact absurd q dTruth_ne
  | err e => exact h
def mTru (m : ME) : MT := fun ρ => (m ρ).bind dTruth
theorem bt_truth (ha : BE X W false a ta ma) (he : ∀ whole, isTrue a X.env whole = (do let v ← whole; standAt a.pos; holding [v] (truthy v)) := by intro _; rfl) : BT X W a (fun σ H Q => ta σ H fun x H' => ∃ k, TruV X.K x H' k ∧ Q k H') (mTru ma) :=
  ⟨pt_truth ha.pe he, fun Hs H0s σ H H0 ρ Q rl p => ha.ev Hs H0s σ H H0 ρ _ rl (post_truth p)⟩
variable {tA tB' : TT} {mA mB : MT} {rest : List Expr}
theorem bw_and1 (ha : BT X W a tA mA) : BW X W (.BoolOp .And [a] pos) tA mA := ⟨pw_and1 ha.pe, ha.ev⟩
theorem bw_or1 (ha : BT X W a tA mA) : BW X W (.BoolOp .Or [a] pos) tA mA := ⟨pw_or1 ha.pe, ha.ev⟩
def mAndT (x y : MT) : MT := fun ρ => (x ρ).bind fun k => if k then y ρ else .ok false
def mOrT (x y : MT) : MT := fun ρ => (x ρ).bind fun k => if k then .ok true else y ρ
def mNotT (x : MT) : MT := fun ρ => (x ρ).bind fun k => .ok (!k)
theorem bw_and (ha : BT X W a tA mA) (hb : BW X W (.BoolOp .And (b :: rest) pos) tB' mB) : BW X W (.BoolOp .And (a :: b :: rest) pos) (tAnd tA tB') (mAndT mA mB) := by
  refine ⟨pw_and ha.pe hb.pe, fun Hs H0s σ H H0 ρ Q rl p => ha.ev Hs H0s σ H H0 ρ _ rl ((Post.bind p).imp ?_)⟩
  rintro k H1 ⟨d, H01, _, f1, x1, p1⟩
  have x1 : k = d := x1
  subst x1
  cases k with
  | true => exact hb.ev Hs H0s σ H1 H01 ρ Q (rl.step f1) p1
  | false => exact p1 false H1 H01 (.refl f1.sb) rfl
theorem bw_or (ha : BT X W a tA mA) (hb : BW X W (.BoolOp .Or (b :: rest) pos) tB' mB) : BW X W (.BoolOp .Or (a :: b :: rest) pos) (tOr tA tB') (mOrT mA mB) := by
  refine ⟨pw_or ha.pe hb.pe, fun Hs H0s σ H H0 ρ Q rl p => ha.ev Hs H0s σ H H0 ρ _ rl ((Post.bind p).imp ?_)⟩
  rintro k H1 ⟨d, H01, _, f1, x1, p1⟩
  have x1 : k = d := x1
  subst x1
  cases k with
  | false => exact hb.ev Hs H0s σ H1 H01 ρ Q (rl.step f1) p1
  | true => exact p1 true H1 H01 (.refl f1.sb) rfl
theorem bt_w (h : BW X W e tA mA) : BT X W e tA mA := ⟨h.pe.pt, h.ev⟩
theorem bt_not (ha : BT X W a tA mA) : BT X W (.UnaryOp .Not a pos) (tNot tA) (mNotT mA) := by
  refine ⟨pt_not ha.pe, fun Hs H0s σ H H0 ρ Q rl p => ha.ev Hs H0s σ H H0 ρ _ rl ((Post.bind p).imp ?_)⟩
  rintro k H1 ⟨d, H01, _, f1, x1, p1⟩
  have x1 : k = d := x1
  subst x1
  exact p1 _ H1 H01 (.refl f1.sb) rfl
/-! .. as values -/
def mAnd (x y : ME) : ME := fun ρ => (x ρ).bind fun d => (dTruth d).bind fun k => if k then y ρ else .ok d
def mOr (x y : ME) : ME := fun ρ => (x ρ).bind fun d => (dTruth d).bind fun k => if k then .ok d else y ρ
def mNot (x : ME) : ME := fun ρ => (x ρ).bind fun d => (dTruth d).bind fun k => .ok (.bool (!k))
theorem be_one {op : BoolOp} (h : BE X W md a ta ma) : BE X W md (.BoolOp op [a] pos) ta ma := ⟨pe_one h.pe, h.ev⟩
theorem be_and (ha : BE X W md a ta ma) (hb : BE X W md (.BoolOp .And (b :: rest) pos) tb mb) : BE X W md (.BoolOp .And (a :: b :: rest) pos) (tAndT X.K ta tb) (mAnd ma mb) := by
  refine ⟨pe_andT ha.pe hb.pe, fun Hs H0s σ H H0 ρ Q rl p => ha.ev Hs H0s σ H H0 ρ _ rl ((Post.bind p).imp ?_)⟩
  rintro v H1 ⟨d, H01, _, f1, x1, p1⟩
  cases q : dTruth d with
  | stuck => rw [q] at p1; exact False.elim p1
  | err z => exact absurd q dTruth_ne
  | ok k =>
    rw [q] at p1
    refine ⟨k, tru_of (dp_md f1.sb x1) q, ?_⟩
    cases k with
    | true => rw [if_pos rfl]; exact hb.ev Hs H0s σ H1 H01 ρ Q (rl.step f1) p1
    | false => rw [if_neg (by decide)]; exact p1 v H1 H01 (.refl f1.sb) x1
theorem be_or (ha : BE X W md a ta ma) (hb : BE X W md (.BoolOp .Or (b :: rest) pos) tb mb) : BE X W md (.BoolOp .Or (a :: b :: rest) pos) (tOrT X.K ta tb) (mOr ma mb) := by
  refine ⟨pe_orT ha.pe hb.pe, fun Hs H0s σ H H0 ρ Q rl p => ha.ev Hs H0s σ H H0 ρ _ rl ((Post.bind p).imp ?_)⟩
  rintro v H1 ⟨d, H01, _, f1, x1, p1⟩
  cases q : dTruth d with
  | stuck => rw [q] at p1; exact False.elim p1
  | err z => exact absurd q dTruth_ne
  | ok k =>
    rw [q] at p1
    refine ⟨k, tru_of (dp_md f1.sb x1) q, ?_⟩
    cases k with
    | false => rw [if_neg (by decide)]; exact hb.ev Hs H0s σ H1 H01 ρ Q (rl.step f1) p1
    | true => rw [if_pos rfl]; exact p1 v H1 H01 (.refl f1.sb) x1
theorem be_not (ha : BE X W false a ta ma) : BE X W true (.UnaryOp .Not a pos) (tNotT X.K ta) (mNot ma) := by
  refine ⟨pe_notT ha.pe, fun Hs H0s σ H H0 ρ Q rl p => ha.ev Hs H0s σ H H0 ρ _ rl ((Post.bind p).imp ?_)⟩
  rintro v H1 ⟨d, H01, _, f1, x1, p1⟩
  cases q : dTruth d with
  | stuck => rw [q] at p1; exact False.elim p1
  | err z => exact absurd q dTruth_ne
  | ok k =>
    rw [q] at p1
    exact ⟨k, tru_of (dp_md f1.sb x1) q, p1 _ H1 H01 (.refl f1.sb) (.bl _)⟩
def mIf (x : MT) (y z : ME) : ME := fun ρ => (x ρ).bind fun k => if k then y ρ else z ρ
theorem be_if (hc : BT X W c tA mA) (ha : BE X W md a ta ma) (hb : BE X W md b tb mb) : BE X W md (.IfExp c a b pos) (tIf tA ta tb) (mIf mA ma mb) := by
  refine ⟨pe_ifExp hc.pe ha.pe hb.pe, fun Hs H0s σ H H0 ρ Q rl p => hc.ev Hs H0s σ H H0 ρ _ rl ((Post.bind p).imp ?_)⟩
  rintro k H1 ⟨d, H01, _, f1, x1, p1⟩
  have x1 : k = d := x1
  subst x1
  cases k with
  | true => rw [if_pos rfl]; exact ha.ev Hs H0s σ H1 H01 ρ Q (rl.step f1) p1
  | false => rw [if_neg (by decide)]; exact hb.ev Hs H0s σ H1 H01 ρ Q (rl.step f1) p1

/-! ### unary minus -/
def dNeg : D → R D
  | .int i => .ok (.int (-i))
  | _ => .stuck
def m1 (f : D → R D) (ma : ME) : ME := fun ρ => (ma ρ).bind f
theorem be_neg (ha : BE X W false a ta ma) : BE X W true (.UnaryOp .USub a pos) (tUn (rU fun i => .int (-i)) ta) (m1 dNeg ma) := by
  refine ⟨pe_un un_neg ha.pe, fun Hs H0s σ H H0 ρ Q rl p => ha.ev Hs H0s σ H H0 ρ _ rl ((Post.bind p).imp ?_)⟩
  rintro v H1 ⟨d, H01, _, f1, x1, p1⟩
  cases d with
  | int i => cases x1; exact ⟨i, rfl, p1 _ H1 H01 (.refl f1.sb) (.int _)⟩
  | _ => exact False.elim p1

/-! ### arguments, displays -/
variable {es : List Expr} {tr : TA} {mr : MA}
def aNil : MA := fun _ => .ok []
def aCons (m : ME) (r : MA) : MA := fun ρ => (m ρ).bind fun d => (r ρ).bind fun ds => .ok (d :: ds)
theorem ba_nil : BA X W md [] tNil aNil := ⟨pa_nil, fun Hs H0s σ H H0 ρ Q rl p => p [] H H0 (.refl rl.sub) (by cases md <;> exact .nil)⟩
theorem ba_cons (ha : BE X W md e te m) (hr : BA X W md es tr mr) (hs : starEach (e :: es) X.env = (false, eval e X.env) :: starEach es X.env := by rfl) : BA X W md (e :: es) (tCons te tr) (aCons m mr) := by
  refine ⟨pa_cons ha.pe hr.pe hs, fun Hs H0s σ H H0 ρ Q rl p => ha.ev Hs H0s σ H H0 ρ _ rl ((Post.bind p).imp ?_)⟩
  rintro v H1 ⟨d, H01, _, f1, x1, p1⟩
  refine hr.ev Hs H0s σ H1 H01 ρ _ (rl.step f1) ((Post.bind p1).imp ?_)
  rintro vs H2 ⟨ds, H02, _, f2, x2, p2⟩
  exact p2 (v :: vs) H2 H02 (.refl f2.sb) (by
    have x1 := keep_md f2 x1
    cases md with
    | true => exact .cons x1 x2
    | false => exact .cons x1 x2)
def mTup (r : MA) : ME := fun ρ => (r ρ).bind fun ds => if ds.length ≤ sizeLine then .ok (.tuple ds) else .stuck
def mLst (r : MA) : ME := fun ρ => (r ρ).bind fun ds => if ds.length ≤ sizeLine then .ok (.list ds) else .stuck
theorem be_tup {k : Nat} (h : BA X W true es tr mr) : BE X W true (.Tuple es k pos) (tTup tr) (mTup mr) := by
  refine ⟨pe_tup h.pe, fun Hs H0s σ H H0 ρ Q rl p => h.ev Hs H0s σ H H0 ρ _ rl ((Post.bind p).imp ?_)⟩
  rintro vs H1 ⟨ds, H01, _, f1, x1, p1⟩
  split at p1
  · rename_i hl
    exact ⟨by rw [DpAll.length x1]; exact hl, fun q hq => p1 _ _ _ (Fr.new f1.sb hq) (.tup (.inl (.inl upd_same)) (dpAll_mono (Same.new (f1.sb.free hq)) _ _ x1))⟩
  · exact False.elim p1
theorem be_lst (h : BA X W true es tr mr) : BE X W true (.List es pos) (tLst tr) (mLst mr) := by
  refine ⟨pe_lst h.pe, fun Hs H0s σ H H0 ρ Q rl p => h.ev Hs H0s σ H H0 ρ _ rl ((Post.bind p).imp ?_)⟩
  rintro vs H1 ⟨ds, H01, _, f1, x1, p1⟩
  split at p1
  · rename_i hl
    exact ⟨by rw [DpAll.length x1]; exact hl, fun q hq => p1 _ _ _ (Fr.new f1.sb hq) (.lst (.inl (.inl upd_same)) (dpAll_mono (Same.new (f1.sb.free hq)) _ _ x1))⟩
  · exact False.elim p1

/-! ### calls -/
/-- a built-in, by values -/
def Fn (K : PySem.W.Frag) (mg : Str → Option Value) (md : Bool) (r : List V → Hp → VK → Prop) (f : List D → R D) : Prop :=
  ∀ (xs : List V) (ds : List D) (H H0 : Hp) (Q : VK) (E : XK), Same H0 H → DpAll K (bif md then H0 else H) xs ds → Post (Dp K) K mg true H H0 (f ds) Q E → r xs H Q
def mF (f : List D → R D) (r : MA) : ME := fun ρ => (r ρ).bind f
theorem be_callB {x : Str} {p : Pos} {id : String} {r : List V → Hp → VK → Prop} (f : List D → R D) (hc : CallR X (.builtin id) r) (hf : Fn X.K X.mg md r f) (hg : Gl X x) (hm : X.mg x = none) (hv : bootBuiltins x = some (.builtin id)) (ha : BA X W md (e :: es) tr mr)
    (hn : x ≠ "__name__" := by decide) (hd : (x == ("__debug__" : Str)) = false := by decide) (he : starEach (e :: es) X.env = (false, eval e X.env) :: starEach es X.env := by rfl) (hpl : (backTo pos (starEach es X.env)).any (·.1) = false := by rfl) :
    BE X W true (.Call (.Name x p) (e :: es) [] pos) (tCB r tr) (mF f mr) := by
  refine ⟨pe_callB hc hg hm hv ha.pe hn hd he hpl, fun Hs H0s σ H H0 ρ Q rl p => ha.ev Hs H0s σ H H0 ρ _ rl ((Post.bind p).imp ?_)⟩
  rintro vs H1 ⟨ds, H01, _, f1, x1, p1⟩
  exact hf vs ds H1 H01 Q _ f1.sb x1 p1
theorem be_callTy {x : Str} {p : Pos} {T : String} {r : List V → Hp → VK → Prop} (f : List D → R D) (hc : CallR X (.type T) r) (hf : Fn X.K X.mg md r f) (hg : Gl X x) (hm : X.mg x = none) (hv : bootBuiltins x = some (.type T)) (ha : BA X W md (e :: es) tr mr)
    (hn : x ≠ "__name__" := by decide) (hd : (x == ("__debug__" : Str)) = false := by decide) (he : starEach (e :: es) X.env = (false, eval e X.env) :: starEach es X.env := by rfl) (hpl : (backTo pos (starEach es X.env)).any (·.1) = false := by rfl) :
    BE X W true (.Call (.Name x p) (e :: es) [] pos) (tCB r tr) (mF f mr) := by
  refine ⟨pe_callTy hc hg hm hv ha.pe hn hd he hpl, fun Hs H0s σ H H0 ρ Q rl p => ha.ev Hs H0s σ H H0 ρ _ rl ((Post.bind p).imp ?_)⟩
  rintro vs H1 ⟨ds, H01, _, f1, x1, p1⟩
  exact hf vs ds H1 H01 Q _ f1.sb x1 p1
/-- the promise of a def by its mirror -/
def spM (K : PySem.W.Frag) (mg : Str → Option Value) (n : Nat) (f : List D → R D) : Sp := fun vs H Q E => ∃ H0 ds, Same H0 H ∧ DpAll K H0 vs ds ∧ ds.length = n ∧ Post (Dp K) K mg true H H0 (f ds) Q E
/-- what is known of a def of one's own -/
structure Def (P : Program) (w : World) (K : PySem.W.Frag) (mg : Str → Option Value) (base : Heap) (x : Str) (ps : List Str) (k : Nat) (f : List D → R D) : Prop where
  ex : ∃ (a : Addr) (fd : FuncData), FnOk P w K mg base (L2.CX P w) k a fd ps (spM K mg ps.length f) ∧ mg x = some (.ref a) ∧ PySem.W.keepIn K (.ref a) = true ∧ L2.Binds K fd ps []
def mCall (n : Nat) (f : List D → R D) (r : MA) : ME := fun ρ => (r ρ).bind fun ds => if ds.length = n then f ds else .stuck
theorem be_call {x : Str} {p : Pos} {ps : List Str} {k j n : Nat} {f : List D → R D} (F : Def X.prog X.w X.K X.mg X.base x ps k f) (hr : Room j X.A) (hk : k ≤ j) (hg : Gl X x) (tk : Takes X W) (ha : BA X W true (e :: es) tr mr) (hn : ps.length = n := by rfl)
    (hd : (x == ("__debug__" : Str)) = false := by decide) (he : starEach (e :: es) X.env = (false, eval e X.env) :: starEach es X.env := by rfl) (hpl : (backTo pos (starEach es X.env)).any (·.1) = false := by rfl) :
    BE X W true (.Call (.Name x p) (e :: es) [] pos) (tCallS (spM X.K X.mg n f) (WE W) tr) (mCall n f mr) := by
  subst hn
  obtain ⟨a, fd, h1, h2, h3, h4⟩ := F.ex
  refine ⟨pe_callS h1 (hr.mono hk) hg h2 h3 h4 (fun σ => passAt tk σ) ha.pe hd he hpl, fun Hs H0s σ H H0 ρ Q rl p => ha.ev Hs H0s σ H H0 ρ _ rl ((Post.bind p).imp ?_)⟩
  rintro vs H1 ⟨ds, H01, _, f1, x1, p1⟩
  split at p1
  · rename_i hl
    exact ⟨H01, ds, f1.sb, x1, hl, p1⟩
  · exact False.elim p1

/-! ### slices -/
def oNone : MO := fun _ => .ok none
def oSome (m : ME) : MO := fun ρ => (m ρ).bind fun d => match d with | .int i => .ok (some i) | _ => .stuck
theorem bo_none : BO X W none tNoPart oNone := ⟨po_none, fun Hs H0s σ H H0 ρ Q rl p => p none H H0 (.refl rl.sub) rfl⟩
theorem bo_some (h : BE X W false e te m) : BO X W (some e) (tPart te) (oSome m) := by
  refine ⟨po_some h.pe, fun Hs H0s σ H H0 ρ Q rl p => h.ev Hs H0s σ H H0 ρ _ rl ((Post.bind p).imp ?_)⟩
  rintro v H1 ⟨d, H01, _, f1, x1, p1⟩
  cases d with
  | int i => cases x1; exact ⟨i, rfl, p1 _ H1 H01 (.refl f1.sb) rfl⟩
  | _ => exact False.elim p1
end
end DW

end
section
set_option Elab.async false
set_option linter.all false
set_option maxRecDepth 100000
set_option maxHeartbeats 4000000
namespace DW
open PySem PySem.Spec PyProof.Rows L2

inductive O where
  | nx (ρ : En) | rt (d : D) | bk (ρ : En) | ct (ρ : En) | err (e : Exn) (ρ : En) | stuck
abbrev MS := En → O
def O.of {α : Type} (r : R α) (ρ : En) (f : α → O) : O := match r with
  | .stuck => .stuck
  | .ok a => f a
  | .err e => .err e ρ
@[simp] theorem O.of_ok {α : Type} (a : α) (ρ : En) (f : α → O) : O.of (.ok a) ρ f = f a := rfl
@[simp] theorem O.of_err {α : Type} (e : Exn) (ρ : En) (f : α → O) : O.of (.err e) ρ f = .err e ρ := rfl
@[simp] theorem O.of_stuck {α : Type} (ρ : En) (f : α → O) : O.of (.stuck : R α) ρ f = .stuck := rfl
def O.thn (o : O) (f : MS) : O := match o with
  | .nx ρ => f ρ
  | o => o
@[simp] theorem O.thn_nx (ρ : En) (f : MS) : (O.nx ρ).thn f = f ρ := rfl
@[simp] theorem O.thn_rt (d : D) (f : MS) : (O.rt d).thn f = .rt d := rfl
@[simp] theorem O.thn_bk (ρ : En) (f : MS) : (O.bk ρ).thn f = .bk ρ := rfl
@[simp] theorem O.thn_ct (ρ : En) (f : MS) : (O.ct ρ).thn f = .ct ρ := rfl
@[simp] theorem O.thn_err (e : Exn) (ρ : En) (f : MS) : (O.err e ρ).thn f = .err e ρ := rfl
@[simp] theorem O.thn_stuck (f : MS) : O.stuck.thn f = .stuck := rfl

def PostS (K : PySem.W.Frag) (mg : Str → Option Value) (ea : Addr) (Hs H0s : Hp) (o : O) (D : Ends) (W : WX) : Prop := match o with
  | .stuck => False
  | .nx ρ => ∀ σ H H0, Rel K ea Hs H0s σ H H0 ρ → D.nx σ H
  | .bk ρ => ∀ σ H H0, Rel K ea Hs H0s σ H H0 ρ → D.bk σ H
  | .ct ρ => ∀ σ H H0, Rel K ea Hs H0s σ H H0 ρ → D.ct σ H
  | .rt d => ∀ v H H0, Fr Hs H0s H H0 → Dp K H0 v d → D.rt v H
  | .err e ρ => ∀ σ H H0, Rel K ea Hs H0s σ H H0 ρ → ErrOk K mg (WE W σ) e H H0
structure BS (X : Cx) (W : WX) (s : Stmt) (t : TS) (m : MS) : Prop where
  pe : PS X s t
  ev : ∀ Hs H0s σ H H0 ρ D, Rel X.K (excOf X) Hs H0s σ H H0 ρ → PostS X.K X.mg (excOf X) Hs H0s (m ρ) D W → t D σ H
structure BSs (X : Cx) (W : WX) (s : List Stmt) (t : TS) (m : MS) : Prop where
  pe : PSs X s t
  ev : ∀ Hs H0s σ H H0 ρ D, Rel X.K (excOf X) Hs H0s σ H H0 ρ → PostS X.K X.mg (excOf X) Hs H0s (m ρ) D W → t D σ H
theorem PostS.of {K : PySem.W.Frag} {mg : Str → Option Value} {ea : Addr} {Hs H0s H H0 : Hp} {σ : L2.St} {ρ : En} {α β : Type} {rel : Hp → β → α → Prop} {md : Bool} {r : R α} {f : α → O} {D : Ends} {W : WX}
    (h : PostS K mg ea Hs H0s (O.of r ρ f) D W) (rl : Rel K ea Hs H0s σ H H0 ρ) :
    Post rel K mg md H H0 r (fun v H' => ∃ d H0', r = .ok d ∧ Fr H H0 H' H0' ∧ rel (bif md then H0' else H') v d ∧ PostS K mg ea Hs H0s (f d) D W) (WE W σ) := by
  cases r with
  | stuck => exact h
  | ok d => exact fun v H' H0' g x => ⟨d, H0', rfl, g, x, h⟩
  | err e => exact fun H' H0' g => h σ H' H0' (rl.step g)
/-- the ends changed -/
theorem PostS.imp {K : PySem.W.Frag} {mg : Str → Option Value} {ea : Addr} {Hs H0s : Hp} {o : O} {D D' : Ends} {W : WX} (h : PostS K mg ea Hs H0s o D W)
    (h1 : ∀ ρ, o = .nx ρ → ∀ σ H H0, Rel K ea Hs H0s σ H H0 ρ → D.nx σ H → D'.nx σ H) (h2 : ∀ v H, D.rt v H → D'.rt v H)
    (h3 : ∀ ρ, o = .bk ρ → ∀ σ H H0, Rel K ea Hs H0s σ H H0 ρ → D.bk σ H → D'.bk σ H) (h4 : ∀ ρ, o = .ct ρ → ∀ σ H H0, Rel K ea Hs H0s σ H H0 ρ → D.ct σ H → D'.ct σ H) : PostS K mg ea Hs H0s o D' W := by
  cases o with
  | stuck => exact h
  | nx ρ => exact fun σ H H0 r => h1 ρ rfl σ H H0 r (h σ H H0 r)
  | bk ρ => exact fun σ H H0 r => h3 ρ rfl σ H H0 r (h σ H H0 r)
  | ct ρ => exact fun σ H H0 r => h4 ρ rfl σ H H0 r (h σ H H0 r)
  | rt d => exact fun v H H0 f x => h2 v H (h v H H0 f x)
  | err e ρ => exact h

theorem Fr.rebase {Hs H0s H1 H01 H H0 : Hp} (f : Fr Hs H0s H1 H01) (g : Fr Hs H01 H H0) : Fr Hs H0s H H0 :=
  ⟨g.ex, f.ez.trans g.ez, g.sb, fun p h0 h => g.ow p (f.ow p h0 h) h⟩
theorem Rel.unbase {K : PySem.W.Frag} {ea : Addr} {Hs H0s H1 H01 H H0 : Hp} {σ : L2.St} {ρ : En} (f : Fr Hs H0s H1 H01) (r : Rel K ea Hs H01 σ H H0 ρ) : Rel K ea Hs H0s σ H H0 ρ :=
  ⟨f.rebase r.fr, r.len, r.sh, r.own, r.dis, r.exc⟩
theorem Rel.rebase {K : PySem.W.Frag} {ea : Addr} {Hs H0s H01 H H0 : Hp} {σ : L2.St} {ρ : En} (r : Rel K ea Hs H0s σ H H0 ρ) (s1 : Same H0s H01) (s2 : Same H01 H0) : Rel K ea Hs H01 σ H H0 ρ :=
  ⟨⟨r.fr.ex, s2, r.fr.sb, fun p h0 h => r.fr.ow p (s1.free h0) h⟩, r.len, r.sh, r.own, r.dis, r.exc⟩
section
variable {X : Cx} {W : WX} {md : Bool} {e a b c : Expr} {t ta tb tc te : TE} {m ma mb mc : ME} {pos : Pos} {st : Stmt} {sts rest : List Stmt} {s u : TS} {ms mu : MS}
/-! ### blocks -/
def sNil : MS := fun ρ => .nx ρ
def sCons (x y : MS) : MS := fun ρ => (x ρ).thn y
theorem bss_nil : BSs X W [] tNext sNil := ⟨pss_nil, fun Hs H0s σ H H0 ρ D rl p => p σ H H0 rl⟩
theorem bss_cons (h1 : BS X W st s ms) (h2 : BSs X W rest u mu) : BSs X W (st :: rest) (tSeq s u) (sCons ms mu) := by
  refine ⟨pss_cons h1.pe h2.pe, fun Hs H0s σ H H0 ρ D rl p => h1.ev Hs H0s σ H H0 ρ _ rl ?_⟩
  unfold sCons at p
  cases q : ms ρ with
  | nx ρ' => rw [q] at p; exact fun σ H H0 r => h2.ev Hs H0s σ H H0 ρ' D r p
  | stuck => rw [q] at p; exact p
  | bk ρ => rw [q] at p; exact p
  | ct ρ => rw [q] at p; exact p
  | rt d => rw [q] at p; exact p
  | err e ρ => rw [q] at p; exact p
theorem bss_one (h : BS X W st s ms) : BSs X W [st] s ms := ⟨pss_one h.pe, h.ev⟩
/-- own lists at these slots are given to the base ahead of a statement -/
def frz (i : Nat) (ρ : En) : En := match ρ[i]? with
  | some (some (.own ds)) => ρ.set i (some (.sh (.list ds)))
  | _ => ρ
def sFrz (i : Nat) (x : MS) : MS := fun ρ => x (frz i ρ)
theorem Rel.frz {K : PySem.W.Frag} {ea : Addr} {Hs H0s H H0 : Hp} {σ : L2.St} {ρ : En} (i : Nat) (h : Rel K ea Hs H0s σ H H0 ρ) : ∃ H0', Rel K ea Hs H0s σ H H0' (frz i ρ) := by
  unfold DW.frz
  split
  · rename_i ds e
    obtain ⟨H0', _, r⟩ := h.freeze e
    exact ⟨H0', r⟩
  · exact ⟨H0, h⟩
theorem bs_frz (i : Nat) (h : BS X W st s ms) : BS X W st s (sFrz i ms) := ⟨h.pe, fun Hs H0s σ H H0 ρ D rl p => by
  obtain ⟨H0', r⟩ := rl.frz i
  exact h.ev Hs H0s σ H H0' _ D r p⟩

/-! ### plain statements -/
theorem bs_pass : BS X W (.Pass pos) tNext sNil := ⟨ps_pass, fun Hs H0s σ H H0 ρ D rl p => p σ H H0 rl⟩
def sBreak : MS := fun ρ => .bk ρ
def sCont : MS := fun ρ => .ct ρ
theorem bs_break : BS X W (.Break pos) tBreak sBreak := ⟨ps_break, fun Hs H0s σ H H0 ρ D rl p => p σ H H0 rl⟩
theorem bs_cont : BS X W (.Continue pos) tCont sCont := ⟨ps_continue, fun Hs H0s σ H H0 ρ D rl p => p σ H H0 rl⟩
def sRet (m : ME) : MS := fun ρ => O.of (m ρ) ρ .rt
def sRetN : MS := fun _ => .rt .none
theorem bs_ret (h : BE X W true e t m) : BS X W (.Return (some e) pos) (tRet t) (sRet m) := by
  refine ⟨ps_ret h.pe, fun Hs H0s σ H H0 ρ D rl p => h.ev Hs H0s σ H H0 ρ _ rl ((PostS.of p rl).imp ?_)⟩
  rintro v H1 ⟨d, H01, _, f1, x1, p1⟩
  exact p1 v H1 H01 (rl.fr.trans f1) x1
theorem bs_retN : BS X W (.Return none pos) tRetN sRetN := ⟨ps_retN, fun Hs H0s σ H H0 ρ D rl p => p .non H H0 rl.fr .non⟩
def sExpr (m : ME) : MS := fun ρ => O.of (m ρ) ρ fun _ => .nx ρ
theorem bs_expr (h : BE X W md e t m) (hs : swapsWith e none pos.line X.env = pure false := by rfl) : BS X W (.Expr e pos) (tDrop t) (sExpr m) := by
  refine ⟨ps_expr h.pe hs, fun Hs H0s σ H H0 ρ D rl p => h.ev Hs H0s σ H H0 ρ _ rl ((PostS.of p rl).imp ?_)⟩
  rintro v H1 ⟨d, H01, _, f1, x1, p1⟩
  exact p1 σ H1 H01 (rl.step f1)
def sIf (x : MT) (y z : MS) : MS := fun ρ => O.of (x ρ) ρ fun k => if k then y ρ else z ρ
theorem bs_if {tA : TT} {mA : MT} {b1 b2 : List Stmt} (hc : BT X W c tA mA) (h1 : BSs X W b1 s ms) (h2 : BSs X W b2 u mu) : BS X W (.If c b1 b2 pos) (tIfS tA s u) (sIf mA ms mu) := by
  refine ⟨ps_if hc.pe h1.pe h2.pe, fun Hs H0s σ H H0 ρ D rl p => hc.ev Hs H0s σ H H0 ρ _ rl ((PostS.of p rl).imp ?_)⟩
  rintro k H1 ⟨d, H01, _, f1, x1, p1⟩
  have x1 : k = d := x1
  subst x1
  cases k with
  | true => rw [if_pos rfl]; exact h1.ev Hs H0s σ H1 H01 ρ D (rl.step f1) p1
  | false => rw [if_neg (by decide)]; exact h2.ev Hs H0s σ H1 H01 ρ D (rl.step f1) p1

/-! ### targets -/
/-- alike but at the slots of the list -/
def Ag (sl : List Nat) (σ σ' : L2.St) : Prop := σ'.length = σ.length ∧ ∀ j : Nat, j ∉ sl → σ'[j]? = σ[j]?
structure BG (X : Cx) (tg : Expr) (g : TG) (sl : List Nat) (mt : D → En → R En) : Prop where
  pe : PG X tg g
  ev : ∀ Hs H0s σ H H0 ρ v d ρ' (Q : L2.St → Hp → Prop), Rel X.K (excOf X) Hs H0s σ H H0 ρ → Dp X.K H0 v d → mt d ρ = .ok ρ' → (∀ σ', Rel X.K (excOf X) Hs H0s σ' H H0 ρ' → Ag sl σ σ' → Q σ' H) → g v σ H Q
structure BGs (X : Cx) (tgs : List Expr) (g : TGs) (sl : List Nat) (mt : List D → En → R En) : Prop where
  pe : PGs X tgs g
  ev : ∀ Hs H0s σ H H0 ρ v d ρ' (Q : L2.St → Hp → Prop), Rel X.K (excOf X) Hs H0s σ H H0 ρ → DpAll X.K H0 v d → mt d ρ = .ok ρ' → (∀ σ', Rel X.K (excOf X) Hs H0s σ' H H0 ρ' → Ag sl σ σ' → Q σ' H) → g v σ H Q
def gN (i : Nat) : D → En → R En := fun d ρ => .ok (ρ.set i (some (.sh d)))
theorem bg_name (i : Nat) {x : Str} (h : PG X (.Name x pos) (gName i)) : BG X (.Name x pos) (gName i) [i] (gN i) := by
  refine ⟨h, fun Hs H0s σ H H0 ρ v d ρ' Q rl x e q => ?_⟩
  cases e
  refine q _ (rl.set i x) ⟨List.length_set, fun j hj => ?_⟩
  have : i ≠ j := fun z => hj (by rw [z]; exact List.mem_cons_self)
  exact List.getElem?_set_ne this
def gsN : List D → En → R En := fun ds ρ => match ds with | [] => .ok ρ | _ => .stuck
def gsC (g : D → En → R En) (gs : List D → En → R En) : List D → En → R En := fun ds ρ => match ds with | d :: ds => (g d ρ).bind (gs ds) | [] => .stuck
theorem bgs_nil : BGs X [] gNil [] gsN := by
  refine ⟨pgs_nil, fun Hs H0s σ H H0 ρ v d ρ' Q rl x e q => ?_⟩
  cases x with
  | nil => cases e; exact ⟨rfl, q _ rl ⟨rfl, fun _ _ => rfl⟩⟩
  | cons _ _ => cases e
theorem bgs_cons {tg : Expr} {tgs : List Expr} {g : TG} {gs : TGs} {mt : D → En → R En} {mts : List D → En → R En} {sl sls : List Nat} (h : BG X tg g sl mt) (hs : BGs X tgs gs sls mts) (pe : PGs X (tg :: tgs) (gCons g gs)) : BGs X (tg :: tgs) (gCons g gs) (sl ++ sls) (gsC mt mts) := by
  refine ⟨pe, fun Hs H0s σ H H0 ρ v d ρ' Q rl x e q => ?_⟩
  cases x with
  | nil => cases e
  | cons x1 x2 =>
    rename_i v1 vs d1 ds
    have e : (mt d1 ρ).bind (mts ds) = .ok ρ' := e
    cases z : mt d1 ρ with
    | ok ρ1 =>
      rw [z] at e
      exact ⟨v1, vs, rfl, h.ev Hs H0s σ H H0 ρ v1 d1 ρ1 _ rl x1 z fun σ' r' a' => hs.ev Hs H0s σ' H H0 ρ1 vs ds ρ' _ r' x2 e fun σ'' r'' a'' => q σ'' r'' ⟨a''.1.trans a'.1, fun j hj => (a''.2 j fun z => hj (List.mem_append_right _ z)).trans (a'.2 j fun z => hj (List.mem_append_left _ z))⟩⟩
    | stuck => rw [z] at e; cases e
    | err _ => rw [z] at e; cases e
def gT (n : Nat) (gs : List D → En → R En) : D → En → R En := fun d ρ => match d with | .tuple ds => if ds.length = n then gs ds ρ else .stuck | _ => .stuck
theorem bg_tup {es : List Expr} {k : Nat} {gs : TGs} {n : Nat} {mts : List D → En → R En} {sl : List Nat} (h : BGs X es gs sl mts) (pe : PG X (.Tuple es k pos) (gTup X.K n gs)) : BG X (.Tuple es k pos) (gTup X.K n gs) sl (gT n mts) := by
  refine ⟨pe, fun Hs H0s σ H H0 ρ v d ρ' Q rl x e q => ?_⟩
  cases x with
  | tup hs ha =>
    rename_i p xs ds
    have e : (if ds.length = n then mts ds ρ else .stuck) = .ok ρ' := e
    split at e
    · rename_i hl
      exact ⟨p, xs, rfl, sqT_mono rl.sub hs, by rw [DpAll.length ha]; exact hl, h.ev Hs H0s σ H H0 ρ xs ds ρ' Q rl ha e q⟩
    · cases e
  | _ => cases e
def sAsg (g : D → En → R En) (m : ME) : MS := fun ρ => O.of (m ρ) ρ fun d => O.of (g d ρ).quiet ρ .nx
theorem bs_asg {tg : Expr} {g : TG} {mt : D → En → R En} {sl : List Nat} (hb : BE X W true e t m) (hg : BG X tg g sl mt) (pe : PS X (.Assign [tg] e pos) (tAsg t g)) : BS X W (.Assign [tg] e pos) (tAsg t g) (sAsg mt m) := by
  refine ⟨pe, fun Hs H0s σ H H0 ρ D rl p => hb.ev Hs H0s σ H H0 ρ _ rl ((PostS.of p rl).imp ?_)⟩
  rintro v H1 ⟨d, H01, _, f1, x1, p1⟩
  cases z : mt d ρ with
  | ok ρ1 =>
    rw [z] at p1
    exact hg.ev Hs H0s σ H1 H01 ρ v d ρ1 _ (rl.step f1) x1 z fun σ' r' _ => p1 σ' H1 H01 r'
  | stuck => rw [z] at p1; exact False.elim p1
  | err _ => rw [z] at p1; exact False.elim p1
theorem bs_aug {i : Nat} {x : Str} {op : Operator} {ti : TIp} {pos' : Pos} (f : D → D → R D) (pe : PS X (.AugAssign (.Name x pos') op e pos) (tAug i t ti)) (hf : Op2 X.K X.mg md (fun x y H Q => ti x y H Q) f) (hb : BE X W md e t m) (ha : ∀ (md : Bool), md = md) :
    BS X W (.AugAssign (.Name x pos') op e pos) (tAug i t ti) (sAsg (gN i) (m2 f (mVar i) m)) := by
  refine ⟨pe, fun Hs H0s σ H H0 ρ D rl p => ?_⟩
  have p : PostS X.K X.mg (excOf X) Hs H0s (O.of ((mVar i ρ).bind fun d => (m ρ).bind fun e => f d e) ρ fun d => O.of (gN i d ρ).quiet ρ .nx) D W := p
  cases z : mVar i ρ with
  | stuck => rw [z] at p; exact False.elim p
  | err ee =>
    unfold mVar at z
    split at z <;> cases z
  | ok d =>
    rw [z] at p
    unfold mVar at z
    split at z
    · rename_i d' e'
      cases z
      obtain ⟨v, h1, h2⟩ := rl.sh _ _ e'
      have p : PostS X.K X.mg (excOf X) Hs H0s (O.of ((m ρ).bind fun e => f d e) ρ fun d => O.of (gN i d ρ).quiet ρ .nx) D W := p
      refine ⟨v, h1, hb.ev Hs H0s σ H H0 ρ _ rl ((Post.bind (rel' := Dp X.K) (md' := true) (PostS.of p rl)).imp ?_)⟩
      rintro u H1 ⟨e1, H01, _, f1, x1, p1⟩
      refine hf v u d e1 H1 H01 _ (WE W σ) f1.sb (keep_md f1 (by cases md; exact dp_mono rl.sub _ _ h2; exact h2)) x1 (p1.imp ?_)
      rintro w H2 ⟨d2, H02, _, f2, x2, p2⟩
      exact p2 _ H2 H02 ((rl.step f2).set i x2)
    · cases z

/-! ### new lists -/
/-- what is to be shown of a list that is new and nobody else's -/
def PostN (K : PySem.W.Frag) (mg : Str → Option Value) (H H0 : Hp) (r : R (List D)) (Q : VK) (E : XK) : Prop := match r with
  | .stuck => False
  | .ok ds => ∀ p vs H' H0', Fr H H0 H' H0' → H p = none → H0' p = none → H' p = some (.lst vs) → DpAll K H0' vs ds → Q (.ref p) H'
  | .err e => ∀ H' H0', Fr H H0 H' H0' → ErrOk K mg E e H' H0'
structure BN (X : Cx) (W : WX) (e : Expr) (t : TE) (m : MA) : Prop where
  pe : PE X e t
  ev : ∀ Hs H0s σ H H0 ρ Q, Rel X.K (excOf X) Hs H0s σ H H0 ρ → PostN X.K X.mg H H0 (m ρ) Q (WE W σ) → t σ H Q
theorem Fr.freeze {H H0 H' H0' : Hp} {p : Addr} {vs : List V} (f : Fr H H0 H' H0') (h : H p = none) (h0 : H0' p = none) (hp : H' p = some (.lst vs)) : Fr H H0 H' (upd H0' p (.lst vs)) := by
  refine ⟨f.ex, f.ez.trans (Same.new h0), fun b x q => ?_, fun q z1 z2 => ?_⟩
  · by_cases hb : b = p
    · subst hb; rw [upd_same] at q; rw [← q]; exact hp
    · rw [upd_ne hb] at q; exact f.sb b x q
  · have : q ≠ p := fun z => z2 (by rw [z]; exact h)
    rw [upd_ne this]
    exact f.ow q z1 z2
def mN (m : MA) : ME := fun ρ => (m ρ).bind fun ds => .ok (.list ds)
theorem PostN.of {K : PySem.W.Frag} {mg : Str → Option Value} {H H0 : Hp} {r : R (List D)} {Q : VK} {E : XK} (h : Post (Dp K) K mg true H H0 (r.bind fun ds => .ok (.list ds)) Q E) : PostN K mg H H0 r Q E := by
  cases r with
  | stuck => exact h
  | ok ds => exact fun p vs H' H0' f n n0 hp x => h (.ref p) H' _ (f.freeze n n0 hp) (.lst (.inl (.inl upd_same)) (dpAll_mono (Same.new n0) _ _ x))
  | err e => exact h
theorem be_n {mm : MA} (h : BN X W e t mm) : BE X W true e t (mN mm) := ⟨h.pe, fun Hs H0s σ H H0 ρ Q rl p => h.ev Hs H0s σ H H0 ρ Q rl (PostN.of p)⟩
/-- x = a new list, the slot's own from then on -/
def sOwn (i : Nat) (m : MA) : MS := fun ρ => O.of (m ρ) ρ fun ds => .nx (ρ.set i (some (.own ds)))
theorem bs_own {i : Nat} {x : Str} {pos' : Pos} {mm : MA} (h : BN X W e t mm) (pe : PS X (.Assign [.Name x pos'] e pos) (tAsg t (gName i))) : BS X W (.Assign [.Name x pos'] e pos) (tAsg t (gName i)) (sOwn i mm) := by
  refine ⟨pe, fun Hs H0s σ H H0 ρ D rl p => h.ev Hs H0s σ H H0 ρ _ rl ?_⟩
  unfold sOwn at p
  cases q : mm ρ with
  | stuck => rw [q] at p; exact p
  | err z => rw [q] at p; exact fun H' H0' f => p σ H' H0' (rl.step f)
  | ok ds =>
    rw [q] at p
    intro pp vs H' H0' f n n0 hp x
    refine p _ H' H0' ((rl.step f).setOwn i (rl.fr.ex.free n) n0 hp x fun j es hj e1 e2 => ?_)
    obtain ⟨p2, vs2, a1, a2, a3, a4, a5⟩ := rl.own j es e1
    rw [e2] at a1
    injection a1 with a1; injection a1 with a1; injection a1 with a1
    rw [← a1, n] at a4
    cases a4
def aLst (r : MA) : MA := fun ρ => (r ρ).bind fun ds => if ds.length ≤ sizeLine then .ok ds else .stuck
theorem bn_lst {es : List Expr} {tr : TA} {mr : MA} (h : BA X W true es tr mr) : BN X W (.List es pos) (tLst tr) (aLst mr) := by
  refine ⟨pe_lst h.pe, fun Hs H0s σ H H0 ρ Q rl p => h.ev Hs H0s σ H H0 ρ _ rl ?_⟩
  unfold aLst at p
  cases q : mr ρ with
  | stuck => rw [q] at p; exact p
  | err z => rw [q] at p; exact p
  | ok ds =>
    rw [q] at p
    have p : PostN X.K X.mg H H0 (if ds.length ≤ sizeLine then .ok ds else .stuck) Q (WE W σ) := p
    intro vs H' H0' f x
    split at p
    · rename_i hl
      exact ⟨by rw [DpAll.length x]; exact hl, fun pp hp => p pp vs _ _ (f.trans (Fr.loose f.sb hp)) (f.ex.free hp) (f.sb.free hp) upd_same x⟩
    · exact False.elim p
/-- x.append(e) -/
def sApp (i : Nat) (m : ME) : MS := fun ρ => match ρ[i]? with
  | some (some (.own ds)) => O.of (m ρ) ρ fun d => if ds.length < sizeLine then .nx (ρ.set i (some (.own (ds ++ [d])))) else .stuck
  | _ => .stuck
theorem bs_app {i : Nat} {x : Str} {p0 p1 : Pos} (h : BE X W true e t m) (pe : PS X (.Expr (.Call (.Attribute (.Name x p0) "append" p1) [e] [] pos) pos) (tDrop (tBM X.K "list" rAppend (tVar i) (tCons t tNil)))) :
    BS X W (.Expr (.Call (.Attribute (.Name x p0) "append" p1) [e] [] pos) pos) (tDrop (tBM X.K "list" rAppend (tVar i) (tCons t tNil))) (sApp i m) := by
  refine ⟨pe, fun Hs H0s σ H H0 ρ D rl p => ?_⟩
  unfold sApp at p
  split at p
  · rename_i ds e1
    obtain ⟨q, vs, h1, h2, h3, h4, h5⟩ := rl.own _ _ e1
    refine ⟨.ref q, h1, .inl ⟨rfl, _, .inl (.inl h4)⟩, h.ev Hs H0s σ H H0 ρ _ rl ((PostS.of p rl).imp ?_)⟩
    rintro v H1 ⟨d, H01, _, f1, x1, p1⟩
    split at p1
    · rename_i hl
      have h4' := f1.ex _ _ h4
      refine ⟨q, vs, v, rfl, rfl, h4', by rw [DpAll.length h5]; exact hl, ?_⟩
      exact p1 σ _ H01 ((rl.step f1).write e1 h1 (DpAll.append (dpAll_mono f1.ez _ _ h5) (.cons x1 .nil)))
    · exact False.elim p1
  · exact False.elim p
theorem DpAll.dropLast {K : PySem.W.Frag} {H : Hp} : ∀ {vs : List V} {ds : List D}, DpAll K H vs ds → DpAll K H vs.dropLast ds.dropLast
  | _, _, .nil => .nil
  | _, _, .cons r .nil => .nil
  | _, _, .cons r (.cons r2 t) => .cons r (DpAll.dropLast (.cons r2 t))
/-- x.pop() -/
def sPop (i : Nat) : MS := fun ρ => match ρ[i]? with
  | some (some (.own ds)) => match ds[ds.length - 1]? with
    | some _ => .nx (ρ.set i (some (.own ds.dropLast)))
    | none => .stuck
  | _ => .stuck
theorem bs_pop {i : Nat} {x : Str} {p0 p1 : Pos} (pe : PS X (.Expr (.Call (.Attribute (.Name x p0) "pop" p1) [] [] pos) pos) (tDrop (tBM0 X.K "list" rPop (tVar i)))) :
    BS X W (.Expr (.Call (.Attribute (.Name x p0) "pop" p1) [] [] pos) pos) (tDrop (tBM0 X.K "list" rPop (tVar i))) (sPop i) := by
  refine ⟨pe, fun Hs H0s σ H H0 ρ D rl p => ?_⟩
  unfold sPop at p
  split at p
  · rename_i ds e1
    obtain ⟨q, vs, h1, h2, h3, h4, h5⟩ := rl.own _ _ e1
    split at p
    · rename_i d e2
      obtain ⟨y, hy, _⟩ := DpAll.get h5 e2
      refine ⟨.ref q, h1, .inl ⟨rfl, _, .inl (.inl h4)⟩, q, vs, y, rfl, rfl, h4, by rw [DpAll.length h5]; exact hy, ?_⟩
      exact p σ _ H0 (rl.write e1 h1 (DpAll.dropLast h5))
    · exact False.elim p
  · exact False.elim p
/-- y = x.pop() -/
def sPopTo (j i : Nat) : MS := fun ρ => match ρ[i]? with
  | some (some (.own ds)) => match ds[ds.length - 1]? with
    | some d => .nx ((ρ.set i (some (.own ds.dropLast))).set j (some (.sh d)))
    | none => .stuck
  | _ => .stuck
theorem bs_popTo {i j : Nat} {x y : Str} {p0 p1 p2 cp : Pos} (pe : PS X (.Assign [.Name y p2] (.Call (.Attribute (.Name x p0) "pop" p1) [] [] cp) pos) (tAsg (tBM0 X.K "list" rPop (tVar i)) (gName j))) :
    BS X W (.Assign [.Name y p2] (.Call (.Attribute (.Name x p0) "pop" p1) [] [] cp) pos) (tAsg (tBM0 X.K "list" rPop (tVar i)) (gName j)) (sPopTo j i) := by
  refine ⟨pe, fun Hs H0s σ H H0 ρ D rl p => ?_⟩
  unfold sPopTo at p
  split at p
  · rename_i ds e1
    obtain ⟨q, vs, h1, h2, h3, h4, h5⟩ := rl.own _ _ e1
    split at p
    · rename_i d e2
      obtain ⟨y, hy, hd⟩ := DpAll.get h5 e2
      refine ⟨.ref q, h1, .inl ⟨rfl, _, .inl (.inl h4)⟩, q, vs, y, rfl, rfl, h4, by rw [DpAll.length h5]; exact hy, ?_⟩
      exact p _ _ H0 ((rl.write e1 h1 (DpAll.dropLast h5)).set j hd)
    · exact False.elim p
  · exact False.elim p
/-- x[k] = v -/
def sSetIx (i : Nat) (mi mv : ME) : MS := fun ρ => O.of (mv ρ) ρ fun d => match ρ[i]? with
  | some (some (.own ds)) => O.of (mi ρ) ρ fun k => match k with
    | .int z => match ixN ds.length z with
      | some j => .nx (ρ.set i (some (.own (ds.set j d))))
      | none => .stuck
    | _ => .stuck
  | _ => .stuck
theorem bs_setIx {i : Nat} {x : Str} {k : Expr} {tk : TE} {mi : ME} {p0 p1 : Pos} (hv : BE X W true e t m) (hi : BE X W true k tk mi) (pe : PS X (.Assign [.Subscript (.Name x p0) k p1] e pos) (tAsg t (gSub (tVar i) tk rSetL))) :
    BS X W (.Assign [.Subscript (.Name x p0) k p1] e pos) (tAsg t (gSub (tVar i) tk rSetL)) (sSetIx i mi m) := by
  refine ⟨pe, fun Hs H0s σ H H0 ρ D rl p => hv.ev Hs H0s σ H H0 ρ _ rl ((PostS.of p rl).imp ?_)⟩
  rintro v H1 ⟨d, H01, _, f1, x1, p1⟩
  have rl1 := rl.step f1
  split at p1
  · rename_i ds e1
    obtain ⟨q, vs, h1, h2, h3, h4, h5⟩ := rl1.own _ _ e1
    refine ⟨.ref q, h1, hi.ev Hs H0s σ H1 H01 ρ _ rl1 ((PostS.of p1 rl1).imp ?_)⟩
    rintro kv H2 ⟨kd, H02, _, f2, x2, p2⟩
    cases kd with
    | int z =>
      cases x2
      have p2 : PostS X.K X.mg (excOf X) Hs H0s (match ixN ds.length z with | some j => .nx (ρ.set i (some (.own (ds.set j d)))) | none => .stuck) D W := p2
      split at p2
      · rename_i j e2
        refine ⟨q, vs, z, j, rfl, rfl, f2.ex _ _ h4, by rw [DpAll.length h5]; exact e2, ?_⟩
        exact p2 σ _ H02 ((rl1.step f2).write e1 h1 (DpAll.set (dp_mono f2.ez _ _ x1) j (dpAll_mono f2.ez _ _ h5)))
      · exact False.elim p2
    | _ => exact False.elim p2
  · exact False.elim p1

/-! ### raise -/
def sRaise (x : Str) : MS := fun ρ => .err (x, []) ρ
theorem bs_raise {x : Str} {C : Addr} {ex : Expr} (hg : X.mg x = some (.ref C)) (pe : PS X (.Raise (some ex) none pos) (fun _ σ H => W (.ref C) none σ H)) : BS X W (.Raise (some ex) none pos) (fun _ σ H => W (.ref C) none σ H) (sRaise x) := by
  refine ⟨pe, fun Hs H0s σ H H0 ρ D rl p => ?_⟩
  obtain ⟨C', h1, h2⟩ := p σ H H0 rl
  have h1 : X.mg x = some (.ref C') := h1
  rw [hg] at h1
  cases h1
  exact h2

/-! ### while -/
def mWhile (c : MT) (b : MS) : Nat → MS
  | 0 => fun _ => .stuck
  | n + 1 => fun ρ => O.of (c ρ) ρ fun k => if k then (match b ρ with | .nx ρ' => mWhile c b n ρ' | .ct ρ' => mWhile c b n ρ' | .bk ρ' => .nx ρ' | o => o) else .nx ρ
theorem bs_while (n : Nat) {tA : TT} {mA : MT} {body : List Stmt} (hp : PassesOwn (model X.prog X.w) X.A X.env X.xe) (hc : BT X W c tA mA) (hb : BSs X W body s ms) : BS X W (.While c body [] pos) (tWhile tA s) (mWhile mA ms n) := by
  refine ⟨ps_while hp hc.pe hb.pe, fun Hs H0s σ H H0 ρ D rl p => ?_⟩
  refine ⟨fun k σ H => ∃ ρ H0, Rel X.K (excOf X) Hs H0s σ H H0 ρ ∧ PostS X.K X.mg (excOf X) Hs H0s (mWhile mA ms k ρ) D W, ⟨n, ρ, H0, rl, p⟩, ?_⟩
  rintro k σ1 H1 ⟨ρ1, H01, rl1, p1⟩
  cases k with
  | zero => exact False.elim p1
  | succ k =>
    refine hc.ev Hs H0s σ1 H1 H01 ρ1 _ rl1 ((PostS.of (show PostS X.K X.mg (excOf X) Hs H0s (O.of (mA ρ1) ρ1 _) D W from p1) rl1).imp ?_)
    rintro b H2 ⟨d, H02, _, f2, x2, p2⟩
    have x2 : b = d := x2
    subst x2
    cases b with
    | false => rw [if_neg (by decide)]; exact p2 σ1 H2 H02 (rl1.step f2)
    | true =>
      rw [if_pos rfl]
      refine ⟨fun σ' H' => ∃ ρ H0, Rel X.K (excOf X) Hs H0s σ' H' H0 ρ ∧ PostS X.K X.mg (excOf X) Hs H0s (mWhile mA ms k ρ) D W, fun σ' H' h => ⟨k, Nat.lt_succ_self k, h⟩, ?_⟩
      refine hb.ev Hs H0s σ1 H2 H02 ρ1 _ (rl1.step f2) ?_
      have p2 : PostS X.K X.mg (excOf X) Hs H0s (match ms ρ1 with | .nx ρ' => mWhile mA ms k ρ' | .ct ρ' => mWhile mA ms k ρ' | .bk ρ' => .nx ρ' | o => o) D W := p2
      cases q : ms ρ1 with
      | nx ρ' => rw [q] at p2; exact fun σ H H0 r => ⟨ρ', H0, r, p2⟩
      | ct ρ' => rw [q] at p2; exact fun σ H H0 r => ⟨ρ', H0, r, p2⟩
      | bk ρ' => rw [q] at p2; exact p2
      | rt d => rw [q] at p2; exact p2
      | err e ρ' => rw [q] at p2; exact p2
      | stuck => rw [q] at p2; exact p2

/-! ### for -/
def Walks (K : PySem.W.Frag) (J : It) (ds : List D) (Hb : Hp) : Prop := ∀ (i : Nat) (H' H0' : Hp), Same Hb H0' → Same H0' H' →
  (ds.length ≤ i → J.stop i H') ∧ ∀ d, ds[i]? = some d → J.go i H' ∧ ∀ x H'', J.yld i H' x H'' → ∃ H0'', Fr H' H0' H'' H0'' ∧ Dp K H0'' x d
def PostI (K : PySem.W.Frag) (mg : Str → Option Value) (H H0 : Hp) (r : R (List D)) (Rk : It → Hp → Prop) (E : XK) : Prop := match r with
  | .stuck => False
  | .ok ds => ∀ J H' H0', Fr H H0 H' H0' → Walks K J ds H0' → Rk J H'
  | .err e => ∀ H' H0', Fr H H0 H' H0' → ErrOk K mg E e H' H0'
structure BI (X : Cx) (W : WX) (tg e : Expr) (wi : TI) (m : MA) : Prop where
  pe : PI X tg e wi
  ev : ∀ Hs H0s σ H H0 ρ Rk, Rel X.K (excOf X) Hs H0s σ H H0 ρ → PostI X.K X.mg H H0 (m ρ) Rk (WE W σ) → wi σ H Rk
def mLoop (g : D → En → R En) (b : MS) : List D → MS
  | [] => fun ρ => .nx ρ
  | d :: ds => fun ρ => O.of (g d ρ).quiet ρ fun ρ1 => match b ρ1 with
    | .nx ρ' => mLoop g b ds ρ'
    | .ct ρ' => mLoop g b ds ρ'
    | .bk ρ' => .nx ρ'
    | o => o
def sFor (mi : MA) (g : D → En → R En) (b : MS) : MS := fun ρ => O.of (mi ρ) ρ fun ds => mLoop g b ds ρ
theorem bs_for {tg it : Expr} {wi : TI} {mi : MA} {g : TG} {mt : D → En → R En} {sl : List Nat} {body : List Stmt} (hp : PassesOwn (model X.prog X.w) X.A X.env X.xe) (hc : X.calm = true) (hi : BI X W tg it wi mi) (hg : BG X tg g sl mt) (hb : BSs X W body s ms)
    (hs : ∀ x, foldedSetIterable it X.env x = pure x := by intro _; rfl) : BS X W (.For tg it body [] pos) (tFor wi g s) (sFor mi mt ms) := by
  refine ⟨ps_for hp hc hi.pe hg.pe hb.pe hs, fun Hs H0s σ H H0 ρ D rl p => hi.ev Hs H0s σ H H0 ρ _ rl ?_⟩
  unfold sFor at p
  cases q : mi ρ with
  | stuck => rw [q] at p; exact p
  | err z => rw [q] at p; exact fun H' H0' f => p σ H' H0' (rl.step f)
  | ok ds =>
    rw [q] at p
    have p : PostS X.K X.mg (excOf X) Hs H0s (mLoop mt ms ds ρ) D W := p
    intro J H1 H01 f1 w1
    refine ⟨fun i k σ' H' => i + k = ds.length ∧ ∃ ρ' H0', Rel X.K (excOf X) Hs H0s σ' H' H0' ρ' ∧ Same H01 H0' ∧ PostS X.K X.mg (excOf X) Hs H0s (mLoop mt ms (ds.drop i) ρ') D W, ⟨ds.length, by omega, ρ, H01, rl.step f1, Same.refl _, p⟩, ?_⟩
    rintro i k σ2 H2 ⟨ek, ρ2, H02, rl2, s2, p2⟩
    obtain ⟨wS, wG⟩ := w1 i H2 H02 s2 rl2.sub
    cases k with
    | zero =>
      have e1 : ds.drop i = [] := List.drop_eq_nil_of_le (by omega)
      rw [e1] at p2
      exact .inl ⟨wS (by omega), p2 σ2 H2 H02 rl2⟩
    | succ k =>
      have hi' : i < ds.length := by omega
      have e1 : ds.drop i = ds[i] :: ds.drop (i + 1) := List.drop_eq_getElem_cons hi'
      rw [e1] at p2
      obtain ⟨go, yl⟩ := wG ds[i] (List.getElem?_eq_getElem hi')
      refine .inr ⟨go, fun σ' H' => ∃ ρ' H0', Rel X.K (excOf X) Hs H0s σ' H' H0' ρ' ∧ Same H01 H0' ∧ PostS X.K X.mg (excOf X) Hs H0s (mLoop mt ms (ds.drop (i + 1)) ρ') D W, fun σ' H' h => ⟨k, Nat.lt_succ_self k, by omega, h⟩, fun x H3 y => ?_⟩
      obtain ⟨H03, f3, x3⟩ := yl x H3 y
      have p2 : PostS X.K X.mg (excOf X) Hs H0s (O.of (mt ds[i] ρ2).quiet ρ2 fun ρ1 => match ms ρ1 with
        | .nx ρ' => mLoop mt ms (ds.drop (i + 1)) ρ'
        | .ct ρ' => mLoop mt ms (ds.drop (i + 1)) ρ'
        | .bk ρ' => .nx ρ'
        | o => o) D W := p2
      cases z : mt ds[i] ρ2 with
      | stuck => rw [z] at p2; exact False.elim p2
      | err _ => rw [z] at p2; exact False.elim p2
      | ok ρ3 =>
        rw [z] at p2
        have p2 : PostS X.K X.mg (excOf X) Hs H0s (match ms ρ3 with
          | .nx ρ' => mLoop mt ms (ds.drop (i + 1)) ρ'
          | .ct ρ' => mLoop mt ms (ds.drop (i + 1)) ρ'
          | .bk ρ' => .nx ρ'
          | o => o) D W := p2
        refine hg.ev Hs H0s σ2 H3 H03 ρ2 x _ ρ3 _ (rl2.step f3) x3 z fun σ3 rl3 _ => ?_
        -- the base behind the body holds what the loop walks: the body is run over the base at the loop's start
        have fr1 := (rl.step f1).fr
        refine hb.ev Hs H01 σ3 H3 H03 ρ3 _ (rl3.rebase fr1.ez (s2.trans f3.ez)) ?_
        cases y : ms ρ3 with
        | nx ρ' => rw [y] at p2; exact fun σ H H0 r => ⟨ρ', H0, r.unbase fr1, r.fr.ez, p2⟩
        | ct ρ' => rw [y] at p2; exact fun σ H H0 r => ⟨ρ', H0, r.unbase fr1, r.fr.ez, p2⟩
        | bk ρ' => rw [y] at p2; exact fun σ H H0 r => p2 σ H H0 (r.unbase fr1)
        | rt d => rw [y] at p2; exact fun v H H0 f xx => p2 v H H0 (fr1.rebase f) xx
        | err e ρ' => rw [y] at p2; exact fun σ H H0 r => p2 σ H H0 (r.unbase fr1)
        | stuck => rw [y] at p2; exact p2
end
end DW

end
section
set_option Elab.async false
set_option linter.all false
set_option maxRecDepth 100000
set_option maxHeartbeats 4000000
namespace DW
open PySem PySem.Spec PyProof.Rows L2

/-! ### comprehensions -/
def wipeD (ρ : En) : List Nat → En
  | [] => ρ
  | v :: vs => (wipeD ρ vs).set v none
theorem Rel.wipe {K : PySem.W.Frag} {ea : Addr} {Hs H0s H H0 : Hp} {σ : L2.St} {ρ : En} (r : Rel K ea Hs H0s σ H H0 ρ) : ∀ vs : List Nat, Rel K ea Hs H0s (L2.wipe σ vs) H H0 (wipeD ρ vs)
  | [] => r
  | v :: vs => (Rel.wipe r vs).forget v none
theorem wipe_at (σ : L2.St) (j : Nat) : ∀ vs : List Nat, (L2.wipe σ vs)[j]? = if j ∈ vs then (if j < σ.length then some none else none) else σ[j]?
  | [] => by simp [L2.wipe]
  | v :: vs => by
    show ((L2.wipe σ vs).set v none)[j]? = _
    have hl : (L2.wipe σ vs).length = σ.length := wipe_length σ vs
    by_cases h : v = j
    · subst h
      rw [List.getElem?_set, if_pos rfl, hl, if_pos List.mem_cons_self]
    · rw [List.getElem?_set_ne h, wipe_at σ j vs]
      have : (j ∈ v :: vs) ↔ j ∈ vs := by
        rw [List.mem_cons]
        exact ⟨fun z => z.elim (fun q => absurd q.symm h) id, .inr⟩
      by_cases hm : j ∈ vs
      · rw [if_pos hm, if_pos (this.mpr hm)]
      · rw [if_neg hm, if_neg fun z => hm (this.mp z)]
theorem wipe_ag {σ σ2 : L2.St} {sl vs : List Nat} (a : Ag sl (L2.wipe σ vs) σ2) (hs : ∀ j ∈ sl, j ∈ vs) : L2.wipe σ2 vs = L2.wipe σ vs := by
  have hl : σ2.length = σ.length := a.1.trans (wipe_length σ vs)
  refine List.ext_getElem? fun j => ?_
  rw [wipe_at, wipe_at]
  by_cases hm : j ∈ vs
  · rw [if_pos hm, if_pos hm, hl]
  · rw [if_neg hm, if_neg hm, a.2 j fun z => hm (hs j z), wipe_at, if_neg hm]
/-- an object of no slot, not in the base, is written -/
theorem Rel.loose {K : PySem.W.Frag} {ea : Addr} {Hs H0s H H0 : Hp} {σ : L2.St} {ρ : En} {p : Addr} {o : HO} (h : Rel K ea Hs H0s σ H H0 ρ) (hs : Hs p = none) (h0 : H0 p = none)
    (hn : ∀ (j : Nat) (es : List D), ρ[j]? = some (some (.own es)) → σ[j]? = some (some (.ref p)) → False) : Rel K ea Hs H0s σ (upd H p o) H0 ρ := by
  refine ⟨⟨fun b x q => ?_, h.fr.ez, fun b x q => ?_, h.fr.ow⟩, h.len, h.sh, fun j es q => ?_, h.dis, h.exc⟩
  · have : b ≠ p := fun z => by rw [z, hs] at q; cases q
    rw [upd_ne this]; exact h.fr.ex b x q
  · have : b ≠ p := fun z => by rw [z, h0] at q; cases q
    rw [upd_ne this]; exact h.fr.sb b x q
  · obtain ⟨q', vs, a1, a2, a3, a4, a5⟩ := h.own j es q
    have : q' ≠ p := fun z => hn j es q (z ▸ a1)
    exact ⟨q', vs, a1, a2, a3, by rw [upd_ne this]; exact a4, a5⟩
/-- the items made of the items -/
def lcLoop (g : D → En → R En) (mt : MT) (m : ME) (ρ : En) : List D → R (List D)
  | [] => .ok []
  | d :: ds => (g d ρ).quiet.bind fun ρ1 => (mt ρ1).quiet.bind fun k => if k then (m ρ1).quiet.bind fun y => (lcLoop g mt m ρ ds).bind fun ys => .ok (y :: ys) else lcLoop g mt m ρ ds
def mLc (vs : List Nat) (mi : MA) (g : D → En → R En) (mt : MT) (m : ME) : MA := fun ρ => (mi ρ).bind fun ds => if ds.length ≤ sizeLine then (lcLoop g mt m (wipeD (clean ρ) vs) ds).quiet else .stuck
theorem lcLoop_len {g : D → En → R En} {mt : MT} {m : ME} {ρ : En} : ∀ {ds ys : List D}, lcLoop g mt m ρ ds = .ok ys → ys.length ≤ ds.length
  | [], ys, h => by cases h; exact Nat.le_refl _
  | d :: ds, ys, h => by
    unfold lcLoop at h
    cases e1 : (g d ρ).quiet with
    | stuck => rw [e1] at h; cases h
    | err _ => rw [e1] at h; cases h
    | ok ρ1 =>
      rw [e1, R.bind_ok] at h
      cases e2 : (mt ρ1).quiet with
      | stuck => rw [e2] at h; cases h
      | err _ => rw [e2] at h; cases h
      | ok k =>
        rw [e2, R.bind_ok] at h
        cases k with
        | false => exact Nat.le_succ_of_le (lcLoop_len h)
        | true =>
          rw [if_pos rfl] at h
          cases e3 : (m ρ1).quiet with
          | stuck => rw [e3] at h; cases h
          | err _ => rw [e3] at h; cases h
          | ok y =>
            rw [e3, R.bind_ok] at h
            cases e4 : lcLoop g mt m ρ ds with
            | stuck => rw [e4] at h; cases h
            | err _ => rw [e4] at h; cases h
            | ok zs =>
              rw [e4] at h
              cases h
              exact Nat.succ_le_succ (lcLoop_len e4)

abbrev W0 : WX := fun _ _ _ _ => False
section
variable {X : Cx} {W : WX} {md : Bool} {e a b c : Expr} {t ta tb tc te : TE} {m ma mb mc : ME} {pos : Pos} {st : Stmt} {sts rest : List Stmt} {s u : TS} {ms mu : MS}
structure BTs (X : Cx) (W : WX) (ifs : List Expr) (t : TT) (m : MT) : Prop where
  pe : PTs X ifs t
  ev : ∀ Hs H0s σ H H0 ρ Q, Rel X.K (excOf X) Hs H0s σ H H0 ρ → Post beqr X.K X.mg true H H0 (m ρ) Q (WE W σ) → t σ H Q
def mYes : MT := fun _ => .ok true
theorem bts_nil : BTs X W [] tYes mYes := ⟨pts_nil, fun Hs H0s σ H H0 ρ Q rl p => p true H H0 (.refl rl.sub) rfl⟩
theorem bts_one {t : TT} {m : MT} (h : BT X W c t m) : BTs X W [c] t m := ⟨pts_one h.pe, h.ev⟩
/-! ### readings by the mirror alone -/
def TE0 (K : PySem.W.Frag) (mg : Str → Option Value) (ea : Addr) (W : WX) (md : Bool) (m : ME) : TE := fun σ H Q => ∃ Hs H0s H0 ρ, Rel K ea Hs H0s σ H H0 ρ ∧ Post (Dp K) K mg md H H0 (m ρ) Q (WE W σ)
def TT0 (K : PySem.W.Frag) (mg : Str → Option Value) (ea : Addr) (W : WX) (m : MT) : TT := fun σ H Q => ∃ Hs H0s H0 ρ, Rel K ea Hs H0s σ H H0 ρ ∧ Post beqr K mg true H H0 (m ρ) Q (WE W σ)
def TG0 (K : PySem.W.Frag) (ea : Addr) (sl : List Nat) (mt : D → En → R En) : TG := fun v σ H Q => ∃ Hs H0s H0 ρ d ρ', Rel K ea Hs H0s σ H H0 ρ ∧ Dp K H0 v d ∧ mt d ρ = .ok ρ' ∧ ∀ σ', Rel K ea Hs H0s σ' H H0 ρ' → Ag sl σ σ' → Q σ' H
theorem BE.canon (h : BE X W md e t m) : BE X W md e (TE0 X.K X.mg (excOf X) W md m) m :=
  ⟨⟨fun pins s σ H Q I ⟨Hs, H0s, H0, ρ, rl, p⟩ => h.pe.run pins s σ H Q I (h.ev Hs H0s σ H H0 ρ Q rl p)⟩, fun Hs H0s σ H H0 ρ Q rl p => ⟨Hs, H0s, H0, ρ, rl, p⟩⟩
theorem BTs.canon {ifs : List Expr} {t : TT} {m : MT} (h : BTs X W ifs t m) : BTs X W ifs (TT0 X.K X.mg (excOf X) W m) m :=
  ⟨⟨fun pins s σ H Q I ⟨Hs, H0s, H0, ρ, rl, p⟩ => h.pe.run pins s σ H Q I (h.ev Hs H0s σ H H0 ρ Q rl p)⟩, fun Hs H0s σ H H0 ρ Q rl p => ⟨Hs, H0s, H0, ρ, rl, p⟩⟩
theorem BG.canon {tg : Expr} {g : TG} {sl : List Nat} {mt : D → En → R En} (h : BG X tg g sl mt) : BG X tg (TG0 X.K (excOf X) sl mt) sl mt :=
  ⟨⟨fun pins s σ H v u Q I r ⟨Hs, H0s, H0, ρ, d, ρ', rl, x, e, q⟩ => h.pe.run pins s σ H v u Q I r (h.ev Hs H0s σ H H0 ρ v d ρ' Q rl x e q)⟩, fun Hs H0s σ H H0 ρ v d ρ' Q rl x e q => ⟨Hs, H0s, H0, ρ, d, ρ', rl, x, e, q⟩⟩
theorem ev_lc {elt tg iter : Expr} {ifs : List Expr} {scope : Scope} {vs sl : List Nat} {wi : TI} {mi : MA} {g : TG} {mt : D → En → R En} {tt : TT} {mtt : MT} (hi : BI X W tg iter wi mi) (hvs : ∀ j ∈ sl, j ∈ vs)
    (hg : ∀ (s : Shared) (H : Hp) (C : Addr) (cl : List (Str × Addr)) (fp : List Addr), BG (X.blk s H scope (compEnvC scope cl C X.env) fp) tg g sl mt) (ht : ∀ (s : Shared) (H : Hp) (C : Addr) (cl : List (Str × Addr)) (fp : List Addr), BTs (X.blk s H scope (compEnvC scope cl C X.env) fp) W0 ifs tt mtt)
    (he : ∀ (s : Shared) (H : Hp) (C : Addr) (cl : List (Str × Addr)) (fp : List Addr), BE (X.blk s H scope (compEnvC scope cl C X.env) fp) W0 true elt te m) :
    ∀ Hs H0s σ H H0 ρ Q, Rel X.K (excOf X) Hs H0s σ H H0 ρ → PostN X.K X.mg H H0 (mLc vs mi mt mtt m ρ) Q (WE W σ) → tLc wi g tt te vs σ H Q := by
  intro Hs H0s σ H H0 ρ Q rl p
  have hg := hg X.s_0 X.H_0 0 [] []
  have ht := ht X.s_0 X.H_0 0 [] []
  have he := he X.s_0 X.H_0 0 [] []
  refine hi.ev Hs H0s σ H H0 ρ _ rl ?_
  unfold mLc at p
  cases q : mi ρ with
  | stuck => rw [q] at p; exact p
  | err z => rw [q] at p; exact p
  | ok ds =>
    rw [q] at p
    have p : PostN X.K X.mg H H0 (if ds.length ≤ sizeLine then (lcLoop mt mtt m (wipeD (clean ρ) vs) ds).quiet else .stuck) Q (WE W σ) := p
    split at p
    · rename_i hsz
      intro J H1 H01 f1 w1 LD hLD
      cases tot : lcLoop mt mtt m (wipeD (clean ρ) vs) ds with
      | stuck => rw [tot] at p; exact False.elim p
      | err _ => rw [tot] at p; exact False.elim p
      | ok total =>
        rw [tot] at p
        have p : ∀ p vs H' H0', Fr H H0 H' H0' → H p = none → H0' p = none → H' p = some (.lst vs) → DpAll X.K H0' vs total → Q (.ref p) H' := p
        have htl := lcLoop_len tot
        have nD : H LD = none := f1.ex.free hLD
        have nDs : Hs LD = none := rl.fr.ex.free nD
        have rlw : Rel X.K 0 Hs H0s (L2.wipe σ vs) H1 H01 (wipeD (clean ρ) vs) := Rel.wipe (Rel.clean (rl.step f1)) vs
        have ownD : ∀ (j : Nat) (es : List D), (wipeD (clean ρ) vs)[j]? = some (some (.own es)) → (L2.wipe σ vs)[j]? = some (some (.ref LD)) → False := fun j es e1 e2 => by
          obtain ⟨q', ws, a1, a2, a3, a4, a5⟩ := rlw.own j es e1
          rw [e2] at a1
          injection a1 with a1; injection a1 with a1; injection a1 with a1
          rw [← a1, hLD] at a4
          cases a4
        refine ⟨fun i k H' => i + k = ds.length ∧ ∃ H0' ws ys zs, Rel X.K 0 Hs H0s (L2.wipe σ vs) H' H0' (wipeD (clean ρ) vs) ∧ Same H01 H0' ∧ Fr H H0 H' H0' ∧ H0' LD = none ∧ H' LD = some (.lst ws) ∧ DpAll X.K H0' ws ys ∧ lcLoop mt mtt m (wipeD (clean ρ) vs) (ds.drop i) = .ok zs ∧ total = ys ++ zs,
          ⟨ds.length, by omega, H01, [], [], total, rlw.loose nDs (f1.sb.free hLD) ownD, Same.refl _, f1.trans (Fr.loose f1.sb hLD), f1.sb.free hLD, upd_same, .nil, tot, rfl⟩, ?_⟩
        rintro i k H2 ⟨ek, H02, ws, ys, zs, rl2, s2, f2, n2, hw, hys, hz, ht2⟩
        obtain ⟨wS, wG⟩ := w1 i H2 H02 s2 f2.sb
        cases k with
        | zero =>
          have e1 : ds.drop i = [] := List.drop_eq_nil_of_le (by omega)
          rw [e1] at hz
          cases hz
          rw [List.append_nil] at ht2
          subst ht2
          exact .inl ⟨wS (by omega), p LD ws H2 H02 f2 nD n2 hw hys⟩
        | succ k =>
          have hi' : i < ds.length := by omega
          have e1 : ds.drop i = ds[i] :: ds.drop (i + 1) := List.drop_eq_getElem_cons hi'
          rw [e1] at hz
          obtain ⟨go, yl⟩ := wG ds[i] (List.getElem?_eq_getElem hi')
          refine .inr ⟨go, fun H' => i + 1 + k = ds.length ∧ ∃ H0' ws ys zs, Rel X.K 0 Hs H0s (L2.wipe σ vs) H' H0' (wipeD (clean ρ) vs) ∧ Same H01 H0' ∧ Fr H H0 H' H0' ∧ H0' LD = none ∧ H' LD = some (.lst ws) ∧ DpAll X.K H0' ws ys ∧ lcLoop mt mtt m (wipeD (clean ρ) vs) (ds.drop (i + 1)) = .ok zs ∧ total = ys ++ zs, fun H' h => ⟨k, Nat.lt_succ_self k, h⟩, fun x H3 y => ?_⟩
          obtain ⟨H03, f3, x3⟩ := yl x H3 y
          have hLL2 : H2 LD ≠ none := by rw [hw]; simp
          have n3 : H03 LD = none := f3.ow LD n2 hLL2
          have hw3 := f3.ex _ _ hw
          unfold lcLoop at hz
          cases z1 : (mt ds[i] (wipeD (clean ρ) vs)) with
          | stuck => rw [z1] at hz; cases hz
          | err _ => rw [z1] at hz; cases hz
          | ok ρ1 =>
            rw [z1, R.quiet_ok, R.bind_ok] at hz
            refine hg.ev Hs H0s (L2.wipe σ vs) H3 H03 _ x _ ρ1 _ (rl2.step f3) x3 z1 fun σ3 rl3 ag => ⟨wipe_ag ag hvs, ?_⟩
            refine ht.ev Hs H0s σ3 H3 H03 ρ1 _ rl3 (Post.quiet (E := fun _ _ _ => False) ?_)
            cases z2 : (mtt ρ1).quiet with
            | stuck => rw [z2] at hz; cases hz
            | err _ => rw [z2] at hz; cases hz
            | ok kk =>
              rw [z2, R.bind_ok] at hz
              intro bb H4 H04 f4 xb
              have xb : bb = kk := xb
              subst xb
              have f34 := f3.trans f4
              have n4 : H04 LD = none := f34.ow LD n2 hLL2
              have hw4 := f34.ex _ _ hw
              cases bb with
              | false =>
                rw [if_neg (by decide)] at hz ⊢
                exact ⟨by omega, H04, ws, ys, zs, rl2.step f34, (s2.trans f3.ez).trans f4.ez, f2.trans f34, n4, hw4, dpAll_mono f34.ez _ _ hys, hz, ht2⟩
              | true =>
                rw [if_pos rfl] at hz ⊢
                refine he.ev Hs H0s σ3 H4 H04 ρ1 _ (rl3.step f4) (Post.quiet (E := fun _ _ _ => False) ?_)
                cases z3 : (m ρ1).quiet with
                | stuck => rw [z3] at hz; cases hz
                | err _ => rw [z3] at hz; cases hz
                | ok y1 =>
                  rw [z3, R.bind_ok] at hz
                  cases z4 : lcLoop mt mtt m (wipeD (clean ρ) vs) (ds.drop (i + 1)) with
                  | stuck => rw [z4] at hz; cases hz
                  | err _ => rw [z4] at hz; cases hz
                  | ok zs' =>
                    rw [z4] at hz
                    cases hz
                    intro v5 H5 H05 f5 x5
                    have f35 := f34.trans f5
                    have n5 : H05 LD = none := f35.ow LD n2 hLL2
                    have hw5 := f35.ex _ _ hw
                    have hlen : ws.length < sizeLine := by
                      rw [DpAll.length hys]
                      have : total.length = ys.length + (zs'.length + 1) := by rw [ht2, List.length_append, List.length_cons]
                      omega
                    refine ⟨ws, hw5, hlen, by omega, H05, ws ++ [v5], ys ++ [y1], zs', (rl2.step f35).loose nDs n5 ownD, (s2.trans f3.ez).trans (f4.ez.trans f5.ez), ?_, n5, upd_same, DpAll.append (dpAll_mono f35.ez _ _ hys) (.cons x5 .nil), rfl, by rw [ht2, List.append_assoc]; rfl⟩
                    have ff := f2.trans f35
                    refine ⟨fun b x q => ?_, ff.ez, fun b x q => ?_, ff.ow⟩
                    · have : b ≠ LD := fun z => by rw [z, nD] at q; cases q
                      rw [upd_ne this]; exact ff.ex b x q
                    · have : b ≠ LD := fun z => by rw [z, n5] at q; cases q
                      rw [upd_ne this]; exact ff.sb b x q
    · exact False.elim p
theorem bn_lc {elt tg iter : Expr} {ifs : List Expr} {scope : Scope} {own : List (Str × Nat)} {sl : List Nat} {wi : TI} {mi : MA} {mt : D → En → R En} {mtt : MT} (hc : X.calm = true) (hN : X.N.Nodup) (hi : BI X W tg iter wi mi) (ok : BlkOk X.N X.env.scope scope own) (hvs : ∀ j ∈ sl, j ∈ own.map (·.2))
    (hg : ∀ (s : Shared) (H : Hp) (C : Addr) (cl : List (Str × Addr)) (fp : List Addr), ∃ g, BG (X.blk s H scope (compEnvC scope cl C X.env) fp) tg g sl mt) (ht : ∀ (s : Shared) (H : Hp) (C : Addr) (cl : List (Str × Addr)) (fp : List Addr), ∃ tt, BTs (X.blk s H scope (compEnvC scope cl C X.env) fp) W0 ifs tt mtt)
    (he : ∀ (s : Shared) (H : Hp) (C : Addr) (cl : List (Str × Addr)) (fp : List Addr), ∃ te, BE (X.blk s H scope (compEnvC scope cl C X.env) fp) W0 true elt te m) (hs : ∀ x, foldedSetIterable iter X.env x = pure x := by intro _; rfl) :
    BN X W (.ListComp elt [⟨tg, iter, ifs, 0⟩] scope pos) (tLc wi (TG0 X.K 0 sl mt) (TT0 X.K X.mg 0 W0 mtt) (TE0 X.K X.mg 0 W0 true m) (own.map (·.2))) (mLc (own.map (·.2)) mi mt mtt m) :=
  have hg := fun s H C cl fp => (hg s H C cl fp).elim fun _ h => h.canon
  have ht := fun s H C cl fp => (ht s H C cl fp).elim fun _ h => h.canon
  have he := fun s H C cl fp => (he s H C cl fp).elim fun _ h => h.canon
  ⟨pe_lc hc hN hi.pe ok (fun s H C cl fp => (hg s H C cl fp).pe) (fun s H C cl fp => (ht s H C cl fp).pe) (fun s H C cl fp => (he s H C cl fp).pe) hs, ev_lc hi hvs hg ht he⟩
/-- name = [..]: on one line -/
structure BL (X : Cx) (W : WX) (st : Stmt) (i : Nat) (t : TE) (m : MA) : Prop where
  pe : PS X st (tAsg t (gName i))
  ev : ∀ Hs H0s σ H H0 ρ Q, Rel X.K (excOf X) Hs H0s σ H H0 ρ → PostN X.K X.mg H H0 (m ρ) Q (WE W σ) → t σ H Q
theorem bl_lc {i : Nat} {y : Str} {py spos : Pos} {elt tg iter : Expr} {ifs : List Expr} {scope : Scope} {own : List (Str × Nat)} {sl : List Nat} {wi : TI} {mi : MA} {mt : D → En → R En} {mtt : MT} (hc : X.calm = true) (hN : X.N.Nodup) (hy : X.N[i]? = some y) (hyl : X.env.scope.names.lookup y = some .local)
    (hsw : swapsWith (.ListComp elt [⟨tg, iter, ifs, 0⟩] scope pos) (some (.Name y py)) spos.line X.env = pure true) (hi : BI X W tg iter wi mi) (ok : BlkOk X.N X.env.scope scope own) (hvs : ∀ j ∈ sl, j ∈ own.map (·.2))
    (hg : ∀ (s : Shared) (H : Hp) (C : Addr) (cl : List (Str × Addr)) (fp : List Addr), ∃ g, BG (X.blk s H scope (compEnvC scope cl C X.env) fp) tg g sl mt) (ht : ∀ (s : Shared) (H : Hp) (C : Addr) (cl : List (Str × Addr)) (fp : List Addr), ∃ tt, BTs (X.blk s H scope (compEnvC scope cl C X.env) fp) W0 ifs tt mtt)
    (he : ∀ (s : Shared) (H : Hp) (C : Addr) (cl : List (Str × Addr)) (fp : List Addr), ∃ te, BE (X.blk s H scope (compEnvC scope cl C X.env) fp) W0 true elt te m) (hs : ∀ x, foldedSetIterable iter X.env x = pure x := by intro _; rfl) :
    BL X W (.Assign [.Name y py] (.ListComp elt [⟨tg, iter, ifs, 0⟩] scope pos) spos) i (tLc wi (TG0 X.K 0 sl mt) (TT0 X.K X.mg 0 W0 mtt) (TE0 X.K X.mg 0 W0 true m) (own.map (·.2))) (mLc (own.map (·.2)) mi mt mtt m) :=
  have hg := fun s H C cl fp => (hg s H C cl fp).elim fun _ h => h.canon
  have ht := fun s H C cl fp => (ht s H C cl fp).elim fun _ h => h.canon
  have he := fun s H C cl fp => (he s H C cl fp).elim fun _ h => h.canon
  ⟨ps_setLc hc hN hy hyl hsw hi.pe ok (fun s H C cl fp => (hg s H C cl fp).pe) (fun s H C cl fp => (ht s H C cl fp).pe) (fun s H C cl fp => (he s H C cl fp).pe) hs, ev_lc hi hvs hg ht he⟩
theorem bs_ownL {i : Nat} {mm : MA} (h : BL X W st i t mm) : BS X W st (tAsg t (gName i)) (sOwn i mm) := by
  refine ⟨h.pe, fun Hs H0s σ H H0 ρ D rl p => h.ev Hs H0s σ H H0 ρ _ rl ?_⟩
  unfold sOwn at p
  cases q : mm ρ with
  | stuck => rw [q] at p; exact p
  | err z => rw [q] at p; exact fun H' H0' f => p σ H' H0' (rl.step f)
  | ok ds =>
    rw [q] at p
    intro pp vs H' H0' f n n0 hp x
    refine p _ H' H0' ((rl.step f).setOwn i (rl.fr.ex.free n) n0 hp x fun j es hj e1 e2 => ?_)
    obtain ⟨p2, vs2, a1, a2, a3, a4, a5⟩ := rl.own j es e1
    rw [e2] at a1
    injection a1 with a1; injection a1 with a1; injection a1 with a1
    rw [← a1, n] at a4
    cases a4
theorem bs_asgL {i : Nat} {mm : MA} (h : BL X W st i t mm) : BS X W st (tAsg t (gName i)) (sAsg (gN i) (mN mm)) := by
  refine ⟨h.pe, fun Hs H0s σ H H0 ρ D rl p => h.ev Hs H0s σ H H0 ρ _ rl (PostN.of ((PostS.of p rl).imp ?_))⟩
  rintro v H1 ⟨d, H01, _, f1, x1, p1⟩
  exact p1 _ H1 H01 ((rl.step f1).set i x1)

/-! ### what is walked -/
/-- a list, a tuple, a text -/
def iAny (K : PySem.W.Frag) (tl : TE) : TI := fun σ H Rk => tl σ H fun x H1 => (∃ a, x = .ref a ∧ (∃ xs, SqL K H1 a xs) ∧ Rk (Itl K a) H1) ∨ (∃ a, x = .ref a ∧ (∃ xs, SqT K H1 a xs) ∧ Rk (Itt K a) H1) ∨ (∃ z, x = .str z ∧ Rk (Its z) H1)
theorem pi_any {tg l : Expr} {tl : TE} (hl : PE X l tl) : PI X tg l (iAny X.K tl) := by
  refine ⟨fun pins s σ H Rk I h => ?_⟩
  refine thn (hl.run pins s σ H _ I h) fun v s1 ⟨x, H1, I1, r1, q1⟩ => ?_
  rcases q1 with ⟨a, e, ⟨xs, hq⟩, q⟩ | ⟨a, e, ⟨xs, hq⟩, q⟩ | ⟨z, e, q⟩
  · subst e
    cases r1
    obtain ⟨its, rv, p, hz⟩ := I1.list hq
    refine wpAny_pyIter_list p.isList ?_
    refine ⟨s1.heap.objs.size, [s1.heap.objs.size], _, _, H1, rfl, I1.kept (t' := s1.toks) fun b o e => Heap.get?_push_of_some _ e, turn_list a _, ⟨_, Heap.get?_push_size _ rfl, rfl, rfl⟩, fun b hb => ?_, q⟩
    have e : b = s1.heap.objs.size := by simpa using hb
    subst e
    exact I1.fpOk (Nat.le_refl _) (I1.hok.fresh (Nat.le_refl _))
  · subst e
    cases r1
    obtain ⟨its, rv, p, hz⟩ := I1.tuple hq
    refine wpAny_pyIter_tuple (show s1.heap.IsTuple a its.toArray from p) ?_
    refine ⟨s1.heap.objs.size, [s1.heap.objs.size], _, _, H1, rfl, I1.kept (t' := s1.toks) fun b o e => Heap.get?_push_of_some _ e, turn_tuple a _, ⟨_, Heap.get?_push_size _ rfl, rfl, rfl⟩, fun b hb => ?_, q⟩
    have e : b = s1.heap.objs.size := by simpa using hb
    subst e
    exact I1.fpOk (Nat.le_refl _) (I1.hok.fresh (Nat.le_refl _))
  · subst e
    obtain ⟨t, rfl⟩ := r1
    cases ha : z.cps.all (· < 128)
    · exact wpAny_pyIter_wide ha (pi_one (tk := s1.toks) I1 _ (turn_str _ z t "str_iterator" (.inr rfl)) ⟨_, Heap.get?_push_size _ rfl, rfl, rfl⟩ q)
    · exact wpAny_pyIter_ascii ha (pi_one (tk := s1.toks) I1 _ (turn_str _ z t "str_ascii_iterator" (.inl rfl)) ⟨_, Heap.get?_push_size _ rfl, rfl, rfl⟩ q)
/-- the signs of a text -/
def signs (z : Str) : List D := z.cps.toList.map fun c => .str ⟨#[c]⟩
def dItems : D → R (List D)
  | .list ds => .ok ds
  | .tuple ds => .ok ds
  | .str z => .ok (signs z)
  | _ => .stuck
def iSeq (m : ME) : MA := fun ρ => (m ρ).bind dItems
theorem walks_list {K : PySem.W.Frag} {Hb : Hp} {a : Addr} {xs : List V} {ds : List D} (h : SqL K Hb a xs) (x : DpAll K Hb xs ds) : Walks K (Itl K a) ds Hb := by
  intro i H' H0' s1 s2
  have h' : SqL K H' a xs := (s1.trans s2).seq h
  refine ⟨fun hi => ⟨xs, h', by rw [DpAll.length x]; exact hi⟩, fun d hd => ?_⟩
  obtain ⟨v, hv, xv⟩ := DpAll.get x hd
  refine ⟨⟨xs, v, h', hv⟩, fun y H'' hy => ?_⟩
  obtain ⟨rfl, q⟩ := hy
  have e : some y = some v := (q xs h').symm.trans hv
  cases e
  exact ⟨H0', .refl s2, dp_mono s1 _ _ xv⟩
theorem walks_tup {K : PySem.W.Frag} {Hb : Hp} {a : Addr} {xs : List V} {ds : List D} (h : SqT K Hb a xs) (x : DpAll K Hb xs ds) : Walks K (Itt K a) ds Hb := by
  intro i H' H0' s1 s2
  have h' : SqT K H' a xs := sqT_mono (s1.trans s2) h
  refine ⟨fun hi => ⟨xs, h', by rw [DpAll.length x]; exact hi⟩, fun d hd => ?_⟩
  obtain ⟨v, hv, xv⟩ := DpAll.get x hd
  refine ⟨⟨xs, v, h', hv⟩, fun y H'' hy => ?_⟩
  obtain ⟨rfl, q⟩ := hy
  have e : some y = some v := (q xs h').symm.trans hv
  cases e
  exact ⟨H0', .refl s2, dp_mono s1 _ _ xv⟩
theorem walks_str {K : PySem.W.Frag} {Hb : Hp} (z : Str) : Walks K (Its z) (signs z) Hb := by
  intro i H' H0' s1 s2
  have hl : (signs z).length = z.cps.size := by unfold signs; rw [List.length_map, Array.length_toList]
  refine ⟨fun hi => by show z.cps.size ≤ i; omega, fun d hd => ?_⟩
  have hi : i < z.cps.size := by rw [← hl]; exact (List.getElem?_eq_some_iff.mp hd).1
  refine ⟨hi, fun y H'' hy => ?_⟩
  obtain ⟨rfl, c, hc, rfl⟩ := hy
  unfold signs at hd
  rw [List.getElem?_map, Array.getElem?_toList, hc] at hd
  cases hd
  exact ⟨H0', .refl s2, .str _⟩
theorem PostI.of {K : PySem.W.Frag} {mg : Str → Option Value} {H H0 : Hp} {r : R D} {f : D → R (List D)} {Rk : It → Hp → Prop} {E : XK} (h : PostI K mg H H0 (r.bind f) Rk E) :
    Post (Dp K) K mg true H H0 r (fun v H' => ∃ d H0', r = .ok d ∧ Fr H H0 H' H0' ∧ Dp K H0' v d ∧ PostI K mg H' H0' (f d) Rk E) E := by
  cases r with
  | stuck => exact h
  | err e => exact h
  | ok d =>
    intro v H' H0' f1 x
    refine ⟨d, H0', rfl, f1, x, ?_⟩
    have h : PostI K mg H H0 (f d) Rk E := h
    cases q : f d with
    | stuck => rw [q] at h; exact h
    | err e => rw [q] at h; exact fun H2 H02 g => h H2 H02 (f1.trans g)
    | ok ds => rw [q] at h; exact fun J H2 H02 g w => h J H2 H02 (f1.trans g) w
theorem bi_seq {tg : Expr} (h : BE X W true e t m) : BI X W tg e (iAny X.K t) (iSeq m) := by
  refine ⟨pi_any h.pe, fun Hs H0s σ H H0 ρ Rk rl p => h.ev Hs H0s σ H H0 ρ _ rl ((PostI.of p).imp ?_)⟩
  rintro v H1 ⟨d, H01, _, f1, x1, p1⟩
  cases x1 with
  | lst hs ha => exact .inl ⟨_, rfl, ⟨_, f1.sb.seq hs⟩, p1 _ H1 H01 (.refl f1.sb) (walks_list hs ha)⟩
  | tup hs ha => exact .inr (.inl ⟨_, rfl, ⟨_, sqT_mono f1.sb hs⟩, p1 _ H1 H01 (.refl f1.sb) (walks_tup hs ha)⟩)
  | str z => exact .inr (.inr ⟨z, rfl, p1 _ H1 H01 (.refl f1.sb) (walks_str z)⟩)
  | _ => exact False.elim p1
/-- range -/
def rangeL (lo hi : Int) : List D := (List.range (hi - lo).toNat).map fun (k : Nat) => PyData.int (lo + (k : Int))
def small (i : Int) : Bool := decide (-(2 ^ 62) ≤ i ∧ i < 2 ^ 62)
def dRange1 : List D → R (List D)
  | [.int j] => if small j then .ok (rangeL 0 j) else .stuck
  | _ => .stuck
def dRange2 : List D → R (List D)
  | [.int i, .int j] => if small i && small j then .ok (rangeL i j) else .stuck
  | _ => .stuck
def iRange1 (r : MA) : MA := fun ρ => (r ρ).bind dRange1
def iRange2 (r : MA) : MA := fun ρ => (r ρ).bind dRange2
theorem walks_range {K : PySem.W.Frag} {Hb : Hp} (lo hi : Int) : Walks K (Itr lo (hi - lo).toNat) (rangeL lo hi) Hb := by
  intro i H' H0' s1 s2
  have hl : (rangeL lo hi).length = (hi - lo).toNat := by unfold rangeL; rw [List.length_map, List.length_range]
  refine ⟨fun hi => by show _ ≤ i; omega, fun d hd => ?_⟩
  have hi' : i < (hi - lo).toNat := by rw [← hl]; exact (List.getElem?_eq_some_iff.mp hd).1
  refine ⟨hi', fun y H'' hy => ?_⟩
  obtain ⟨rfl, rfl⟩ := hy
  unfold rangeL at hd
  rw [List.getElem?_map, List.getElem?_range hi'] at hd
  cases hd
  exact ⟨H0', .refl s2, .int _⟩
theorem PostI.ofL {K : PySem.W.Frag} {mg : Str → Option Value} {md : Bool} {H H0 : Hp} {r : R (List D)} {f : List D → R (List D)} {Rk : It → Hp → Prop} {E : XK} (h : PostI K mg H H0 (r.bind f) Rk E) :
    Post (DpAll K) K mg md H H0 r (fun v H' => ∃ d H0', r = .ok d ∧ Fr H H0 H' H0' ∧ DpAll K (bif md then H0' else H') v d ∧ PostI K mg H' H0' (f d) Rk E) E := by
  cases r with
  | stuck => exact h
  | err e => exact h
  | ok d =>
    intro v H' H0' f1 x
    refine ⟨d, H0', rfl, f1, x, ?_⟩
    have h : PostI K mg H H0 (f d) Rk E := h
    cases q : f d with
    | stuck => rw [q] at h; exact h
    | err e => rw [q] at h; exact fun H2 H02 g => h H2 H02 (f1.trans g)
    | ok ds => rw [q] at h; exact fun J H2 H02 g w => h J H2 H02 (f1.trans g) w
theorem small_of {i : Int} (h : small i = true) : -(2 ^ 62) ≤ i ∧ i < 2 ^ 62 := of_decide_eq_true h
theorem bi_range1 {tg : Expr} {p : Pos} {tr : TA} {mr : MA} (hg : Gl X "range") (hm : X.mg "range" = none) (ha : BA X W false [a] tr mr) (hs : starEach [a] X.env = [(false, eval a X.env)] := by rfl) : BI X W tg (.Call (.Name "range" p) [a] [] pos) (iRng1 tr) (iRange1 mr) := by
  refine ⟨pi_range1 hg hm ha.pe hs, fun Hs H0s σ H H0 ρ Rk rl p => ha.ev Hs H0s σ H H0 ρ _ rl ((PostI.ofL p).imp ?_)⟩
  rintro v H1 ⟨ds, H01, _, f1, x1, p1⟩
  unfold dRange1 at p1
  split at p1
  · cases x1 with
    | cons y1 y2 =>
      cases y2
      cases y1
      rename_i j _
      split at p1
      · rename_i hh
        have := small_of hh
        refine ⟨j, rfl, this.1, this.2, ?_⟩
        have q := p1 _ H1 H01 (.refl f1.sb) (walks_range 0 j)
        rwa [Int.sub_zero] at q
      · exact False.elim p1
  · exact False.elim p1
theorem bi_range2 {tg : Expr} {p : Pos} {tr : TA} {mr : MA} (hg : Gl X "range") (hm : X.mg "range" = none) (ha : BA X W false [a, b] tr mr) (hs : starEach [a, b] X.env = [(false, eval a X.env), (false, eval b X.env)] := by rfl) (hs2 : starEach [b] X.env = [(false, eval b X.env)] := by rfl) :
    BI X W tg (.Call (.Name "range" p) [a, b] [] pos) (iRng2 tr) (iRange2 mr) := by
  refine ⟨pi_range2 hg hm ha.pe hs hs2, fun Hs H0s σ H H0 ρ Rk rl p => ha.ev Hs H0s σ H H0 ρ _ rl ((PostI.ofL p).imp ?_)⟩
  rintro v H1 ⟨ds, H01, _, f1, x1, p1⟩
  unfold dRange2 at p1
  split at p1
  · cases x1 with
    | cons y1 y2 =>
      cases y2 with
      | cons y3 y4 =>
        cases y4
        cases y1
        cases y3
        rename_i i j _
        split at p1
        · rename_i hh
          have hh := (Bool.and_eq_true_iff.mp hh)
          have h1 := small_of hh.1
          have h2 := small_of hh.2
          exact ⟨i, j, rfl, ⟨h1.1, h1.2, h2.1, h2.2⟩, p1 _ H1 H01 (.refl f1.sb) (walks_range i j)⟩
        · exact False.elim p1
  · exact False.elim p1

/-! ### try -/
/-- what catches what: of an error by its name, whether the clause catches it -/
structure Catch (K : PySem.W.Frag) (mg : Str → Option Value) (x : Str) (C : Addr) (sub : Str → Option Bool) : Prop where
  g : mg x = some (.ref C)
  h : ∀ n b C', sub n = some b → mg n = some (.ref C') → PySem.W.exmOne K (.ref C') (.ref C) = some b
def PostTr (K : PySem.W.Frag) (mg : Str → Option Value) (ea : Addr) (Hs H0s : Hp) (o : O) (D : Ends) (W' : WX) : Prop := match o with
  | .nx ρ => ∀ σ H H0, Rel K ea Hs H0s σ H H0 (clean ρ) → D.nx σ H
  | .bk ρ => ∀ σ H H0, Rel K ea Hs H0s σ H H0 (clean ρ) → D.bk σ H
  | .ct ρ => ∀ σ H H0, Rel K ea Hs H0s σ H H0 (clean ρ) → D.ct σ H
  | .rt d => ∀ v H H0, Fr Hs H0s H H0 → Dp K H0 v d → D.rt v H
  | .err e ρ => ∀ σ H H0, Rel K ea Hs H0s σ H H0 (clean ρ) → ErrOk K mg (WE W' σ) e H H0
  | .stuck => False
theorem PostS.tr {K : PySem.W.Frag} {mg : Str → Option Value} {ea ea' : Addr} {Hs H0s : Hp} {o : O} {D : Ends} {W' : WX}
    (h : PostTr K mg ea Hs H0s o D W') : PostS K mg ea' Hs H0s o D W' := by
  cases o with
  | stuck => exact h
  | nx ρ => exact fun σ H H0 r => h σ H H0 r.clean
  | bk ρ => exact fun σ H H0 r => h σ H H0 r.clean
  | ct ρ => exact fun σ H H0 r => h σ H H0 r.clean
  | rt d => exact h
  | err e ρ => exact fun σ H H0 r => h σ H H0 r.clean
def unset (i : Nat) : O → O
  | .nx ρ => .nx (ρ.set i none)
  | .bk ρ => .bk (ρ.set i none)
  | .ct ρ => .ct (ρ.set i none)
  | o => o
def sTry (x : Str) (sub : Str → Option Bool) (body suite : MS) : MS := fun ρ => match body (clean ρ) with
  | .nx ρ => .nx (clean ρ)
  | .bk ρ => .bk (clean ρ)
  | .ct ρ => .ct (clean ρ)
  | .rt d => .rt d
  | .err e ρ => match sub e.1 with
    | some true => if (decide (e.1 = x) && e.2.isEmpty) = true then (match suite (clean ρ) with | .err _ _ => .stuck | .nx ρ => .nx (clean ρ) | .bk ρ => .bk (clean ρ) | .ct ρ => .ct (clean ρ) | o => o) else .stuck
    | some false => .err e (clean ρ)
    | none => .stuck
  | .stuck => .stuck
def sTryAs (x : Str) (i : Nat) (sub : Str → Option Bool) (body suite : MS) : MS := fun ρ => match body (clean ρ) with
  | .nx ρ => .nx (clean ρ)
  | .bk ρ => .bk (clean ρ)
  | .ct ρ => .ct (clean ρ)
  | .rt d => .rt d
  | .err e ρ => match sub e.1 with
    | some true => if (decide (e.1 = x) && e.2.isEmpty) = true then (match suite ((clean ρ).set i (some .exc)) with | .err _ _ => .stuck | .nx ρ => .nx (clean (ρ.set i none)) | .bk ρ => .bk (clean (ρ.set i none)) | .ct ρ => .ct (clean (ρ.set i none)) | o => o) else .stuck
    | some false => .err e (clean ρ)
    | none => .stuck
  | .stuck => .stuck
/-- behind a suite -/
theorem PostS.su {K : PySem.W.Frag} {mg : Str → Option Value} {ea ea' : Addr} {Hs H0s : Hp} {o : O} {D : Ends} {W W' : WX}
    (h : PostS K mg ea Hs H0s (match o with | .err _ _ => .stuck | .nx ρ => .nx (clean ρ) | .bk ρ => .bk (clean ρ) | .ct ρ => .ct (clean ρ) | o => o) D W) : PostS K mg ea' Hs H0s o D W' := by
  cases o with
  | stuck => exact h
  | nx ρ => exact fun σ H H0 r => h σ H H0 r.clean
  | bk ρ => exact fun σ H H0 r => h σ H H0 r.clean
  | ct ρ => exact fun σ H H0 r => h σ H H0 r.clean
  | rt d => exact h
  | err e ρ => exact False.elim h
theorem PostS.suI {K : PySem.W.Frag} {mg : Str → Option Value} {ea ea' : Addr} {Hs H0s : Hp} {o : O} {D : Ends} {W W' : WX} {i : Nat}
    (h : PostS K mg ea Hs H0s (match o with | .err _ _ => .stuck | .nx ρ => .nx (clean (ρ.set i none)) | .bk ρ => .bk (clean (ρ.set i none)) | .ct ρ => .ct (clean (ρ.set i none)) | o => o) D W) :
    PostS K mg ea' Hs H0s o { nx := fun σ' H' => D.nx (σ'.set i none) H', rt := D.rt, bk := fun σ' H' => D.bk (σ'.set i none) H', ct := fun σ' H' => D.ct (σ'.set i none) H' } W' := by
  cases o with
  | stuck => exact h
  | nx ρ => exact fun σ H H0 r => h _ H H0 (r.forget i none).clean
  | bk ρ => exact fun σ H H0 r => h _ H H0 (r.forget i none).clean
  | ct ρ => exact fun σ H H0 r => h _ H H0 (r.forget i none).clean
  | rt d => exact h
  | err e ρ => exact False.elim h
theorem clean_clean (ρ : En) : clean (clean ρ) = clean ρ := by
  unfold clean
  rw [List.map_map]
  congr 1
  funext y
  cases y with
  | none => rfl
  | some y => cases y <;> rfl
def TSu (K : PySem.W.Frag) (mg : Str → Option Value) (ea : Addr) (W : WX) (m : MS) : TS := fun D σ H => ∃ Hs H0s H0 ρ, Rel K ea Hs H0s σ H H0 ρ ∧ PostS K mg ea Hs H0s (m ρ) D W
def TTr (K : PySem.W.Frag) (mg : Str → Option Value) (m : MS) (W : WX) : TS := fun D σ H => ∃ Hs H0s H0 ρ, (∀ ea, Rel K ea Hs H0s σ H H0 ρ) ∧ ∀ ea, PostS K mg ea Hs H0s (m ρ) D W
def lookXe (X : Cx) : Value → Shared → Prop := fun e s₁ => wpAny (model X.prog X.w) X.A (noteFrame e X.env) (fun _ s₂ => wpAny (model X.prog X.w) X.A (setFlight e none) (fun _ _ => True) X.xe s₂) X.xe s₁
theorem take_any (hs : X.stack = X.env :: X.outer) (hf : X.env.frame = some X.env.locals) (W : WX) : Takes (X.tr [] (lookXe X)) W := by
  rintro u s' ⟨a, B, sI, pins, σ, H, cls, d, rfl, I, nb, up, sky, na, os, ag, w⟩
  have hfr : X.A.frames = some (X.env :: X.outer) := by have := I.ok.frames; rw [← hs]; exact this
  have sky' : Sky B (X.env :: X.outer) a (Zc cls d) X.env.locals s'.heap := by rw [← hs]; exact sky
  show wpAny _ X.A (noteFrame (.ref a) X.env) _ _ _
  exact Sky.land Zc.steady hfr hf sky' fun h3 fl3 up3 => trivial
theorem own_any : PassesOwn (model X.prog X.w) X.A X.env (lookXe X) := PassesOwn.looking
section
open Classical
noncomputable def suiteFor (C : Addr) (tsu : Addr → TS) : Addr → Value → Option Addr → TS := fun a cls d => if cls = .ref C ∧ d = none then tsu a else tNever
theorem bs_try {x : Str} {C : Addr} {sub : Str → Option Bool} {body suite : List Stmt} {b₀ : Stmt} {np pos' : Pos} {mb msu : MS} (hs : X.stack = X.env :: X.outer) (hf : X.env.frame = some X.env.locals) (cc : Catch X.K X.mg x C sub) (hc : Names X x (.ref C)) (tk : Takes X W)
    (hb : ∀ (W : WX) (pn : List (Addr × Obj)) (xe : Value → Shared → Prop), Takes (X.tr pn xe) W → PassesOwn (model X.prog X.w) X.A X.env xe → ∃ t, BSs (X.tr pn xe) W body t mb)
    (hsu : ∀ (a : Addr) (oe : Obj) (pn : List (Addr × Obj)), Zc (.ref C) none oe → (∃ vs, oe.data = .fields vs) → ∃ t, BSs (X.suite a ((a, oe) :: pn)) W0 (b₀ :: suite) t msu) :
    BS X W (.Try body [.ExceptHandler (some (.Name x np)) none (b₀ :: suite) pos'] [] [] pos) (fun D σ H => TTr X.K X.mg mb (wOnly X.K (.ref C) (suiteFor C fun a => TSu X.K X.mg a W0 msu) W D) D σ H) (sTry x sub mb msu) := by
  refine ⟨ps_try_only hs hf hc tk (fun W pn xe tk ho => (hb W pn xe tk ho).elim fun _ h => ⟨fun pins s σ H D I ⟨Hs, H0s, H0, ρ, rl, p⟩ => h.pe.run pins s σ H D I (h.ev Hs H0s σ H H0 ρ D (rl _) (p _))⟩) (fun a oe cls d pn hz hd => ?_), fun Hs H0s σ H H0 ρ D rl p => ?_⟩
  · unfold suiteFor
    by_cases h : cls = .ref C ∧ d = none
    · rw [if_pos h]
      obtain ⟨rfl, rfl⟩ := h
      exact (hsu a oe pn hz hd).elim fun _ h => ⟨fun pins s σ H D I ⟨Hs, H0s, H0, ρ, rl, p⟩ => h.pe.run pins s σ H D I (h.ev Hs H0s σ H H0 ρ D rl p)⟩
    · rw [if_neg h]
      exact pss_never
  · refine ⟨Hs, H0s, H0, clean ρ, fun _ => rl.clean, fun _ => PostS.tr (ea := excOf X) ?_⟩
    unfold sTry at p
    cases q : mb (clean ρ) with
    | stuck => rw [q] at p; exact p
    | nx ρ1 => rw [q] at p; exact p
    | bk ρ1 => rw [q] at p; exact p
    | ct ρ1 => rw [q] at p; exact p
    | rt d => rw [q] at p; exact p
    | err e ρ1 =>
      rw [q] at p
      have p : PostS X.K X.mg (excOf X) Hs H0s (match sub e.1 with
        | some true => if (decide (e.1 = x) && e.2.isEmpty) = true then (match msu (clean ρ1) with | .err _ _ => .stuck | .nx ρ => .nx (clean ρ) | .bk ρ => .bk (clean ρ) | .ct ρ => .ct (clean ρ) | o => o) else .stuck
        | some false => .err e (clean ρ1)
        | none => .stuck) D W := p
      intro σ1 H1 H01 r1
      cases z : sub e.1 with
      | none => rw [z] at p; exact False.elim p
      | some bb =>
        rw [z] at p
        cases bb with
        | true =>
          have p2 : PostS X.K X.mg (excOf X) Hs H0s (if (decide (e.1 = x) && e.2.isEmpty) = true then (match msu (clean ρ1) with | .err _ _ => .stuck | .nx ρ => .nx (clean ρ) | .bk ρ => .bk (clean ρ) | .ct ρ => .ct (clean ρ) | o => o) else .stuck) D W := p
          clear p
          by_cases he : (decide (e.1 = x) && e.2.isEmpty) = true
          · rw [if_pos he] at p2
            have he' : e = (x, []) := by
              obtain ⟨e1, e2⟩ := e
              have h := Bool.and_eq_true_iff.mp he
              have h1 : e1 = x := of_decide_eq_true h.1
              have h2 : e2 = [] := List.isEmpty_iff.mp h.2
              rw [h1, h2]
            subst he'
            refine ⟨C, cc.g, true, cc.h x true C z cc.g, fun _ a na => ?_, fun h => nomatch h⟩
            show suiteFor C (fun a => TSu X.K X.mg a W0 msu) a (.ref C) none D σ1 H1
            unfold suiteFor
            rw [if_pos ⟨rfl, rfl⟩]
            have r2 := Rel.clean r1 (ea' := a)
            rw [clean_clean] at r2
            exact ⟨Hs, H0s, H01, _, r2, PostS.su p2⟩
          · rw [if_neg he] at p2; exact False.elim p2
        | false =>
          have p : ∀ σ H H0, Rel X.K (excOf X) Hs H0s σ H H0 (clean ρ1) → ErrOk X.K X.mg (WE W σ) e H H0 := p
          obtain ⟨C', h1, h2⟩ := p σ1 H1 H01 r1
          refine ⟨C', h1, ?_⟩
          obtain ⟨en, fs⟩ := e
          cases fs with
          | nil => exact ⟨false, cc.h en false C' z h1, (fun h => nomatch h), fun _ => h2⟩
          | cons f fs =>
            obtain ⟨fn, fd⟩ := f
            exact fun v dx xv hn => ⟨false, cc.h en false C' z h1, (fun h => nomatch h), fun _ => h2 v dx xv hn⟩
theorem bs_tryAs {x n : Str} {i : Nat} {C : Addr} {sub : Str → Option Bool} {body suite : List Stmt} {b₀ : Stmt} {np pos' : Pos} {mb msu : MS} (hs : X.stack = X.env :: X.outer) (hf : X.env.frame = some X.env.locals) (hN : X.N.Nodup) (hi : X.N[i]? = some n) (hk : X.env.kindOf n = some NameKind.local)
    (cc : Catch X.K X.mg x C sub) (hc : Names X x (.ref C)) (tk : Takes X W)
    (hb : ∀ (W : WX) (pn : List (Addr × Obj)) (xe : Value → Shared → Prop), Takes (X.tr pn xe) W → PassesOwn (model X.prog X.w) X.A X.env xe → ∃ t, BSs (X.tr pn xe) W body t mb)
    (hsu : ∀ (a : Addr) (oe : Obj) (pn : List (Addr × Obj)), Zc (.ref C) none oe → (∃ vs, oe.data = .fields vs) → ∃ t, BSs (X.suite a ((a, oe) :: pn)) W0 (b₀ :: suite) t msu) :
    BS X W (.Try body [.ExceptHandler (some (.Name x np)) (some n) (b₀ :: suite) pos'] [] [] pos) (fun D σ H => TTr X.K X.mg mb (wAs X.K (.ref C) i (suiteFor C fun a => TSu X.K X.mg a W0 msu) W D) D σ H) (sTryAs x i sub mb msu) := by
  refine ⟨ps_try_as hs hf hN hi hk hc tk (fun W pn xe tk ho => (hb W pn xe tk ho).elim fun _ h => ⟨fun pins s σ H D I ⟨Hs, H0s, H0, ρ, rl, p⟩ => h.pe.run pins s σ H D I (h.ev Hs H0s σ H H0 ρ D (rl _) (p _))⟩) (fun a oe cls d pn hz hd => ?_), fun Hs H0s σ H H0 ρ D rl p => ?_⟩
  · unfold suiteFor
    by_cases h : cls = .ref C ∧ d = none
    · rw [if_pos h]
      obtain ⟨rfl, rfl⟩ := h
      exact (hsu a oe pn hz hd).elim fun _ h => ⟨fun pins s σ H D I ⟨Hs, H0s, H0, ρ, rl, p⟩ => h.pe.run pins s σ H D I (h.ev Hs H0s σ H H0 ρ D rl p)⟩
    · rw [if_neg h]
      exact pss_never
  · refine ⟨Hs, H0s, H0, clean ρ, fun _ => rl.clean, fun _ => PostS.tr (ea := excOf X) ?_⟩
    unfold sTryAs at p
    cases q : mb (clean ρ) with
    | stuck => rw [q] at p; exact p
    | nx ρ1 => rw [q] at p; exact p
    | bk ρ1 => rw [q] at p; exact p
    | ct ρ1 => rw [q] at p; exact p
    | rt d => rw [q] at p; exact p
    | err e ρ1 =>
      rw [q] at p
      have p : PostS X.K X.mg (excOf X) Hs H0s (match sub e.1 with
        | some true => if (decide (e.1 = x) && e.2.isEmpty) = true then (match msu ((clean ρ1).set i (some .exc)) with | .err _ _ => .stuck | .nx ρ => .nx (clean (ρ.set i none)) | .bk ρ => .bk (clean (ρ.set i none)) | .ct ρ => .ct (clean (ρ.set i none)) | o => o) else .stuck
        | some false => .err e (clean ρ1)
        | none => .stuck) D W := p
      intro σ1 H1 H01 r1
      cases z : sub e.1 with
      | none => rw [z] at p; exact False.elim p
      | some bb =>
        rw [z] at p
        cases bb with
        | true =>
          have p2 : PostS X.K X.mg (excOf X) Hs H0s (if (decide (e.1 = x) && e.2.isEmpty) = true then (match msu ((clean ρ1).set i (some .exc)) with | .err _ _ => .stuck | .nx ρ => .nx (clean (ρ.set i none)) | .bk ρ => .bk (clean (ρ.set i none)) | .ct ρ => .ct (clean (ρ.set i none)) | o => o) else .stuck) D W := p
          clear p
          by_cases he : (decide (e.1 = x) && e.2.isEmpty) = true
          · rw [if_pos he] at p2
            have he' : e = (x, []) := by
              obtain ⟨e1, e2⟩ := e
              have h := Bool.and_eq_true_iff.mp he
              have h1 : e1 = x := of_decide_eq_true h.1
              have h2 : e2 = [] := List.isEmpty_iff.mp h.2
              rw [h1, h2]
            subst he'
            refine ⟨C, cc.g, true, cc.h x true C z cc.g, fun _ a na => ?_, fun h => nomatch h⟩
            show suiteFor C (fun a => TSu X.K X.mg a W0 msu) a (.ref C) none _ _ H1
            unfold suiteFor
            rw [if_pos ⟨rfl, rfl⟩]
            have r2 := Rel.clean r1 (ea' := a)
            rw [clean_clean] at r2
            exact ⟨Hs, H0s, H01, _, r2.setExc i, PostS.suI p2⟩
          · rw [if_neg he] at p2; exact False.elim p2
        | false =>
          have p : ∀ σ H H0, Rel X.K (excOf X) Hs H0s σ H H0 (clean ρ1) → ErrOk X.K X.mg (WE W σ) e H H0 := p
          obtain ⟨C', h1, h2⟩ := p σ1 H1 H01 r1
          refine ⟨C', h1, ?_⟩
          obtain ⟨en, fs⟩ := e
          cases fs with
          | nil => exact ⟨false, cc.h en false C' z h1, (fun h => nomatch h), fun _ => h2⟩
          | cons f fs =>
            obtain ⟨fn, fd⟩ := f
            exact fun v dx xv hn => ⟨false, cc.h en false C' z h1, (fun h => nomatch h), fun _ => h2 v dx xv hn⟩
end
end
end DW

end
section
set_option Elab.async false
set_option linter.all false
set_option maxRecDepth 100000
set_option maxHeartbeats 4000000
namespace DW
open PySem PySem.Spec PyProof.Rows L2
open SX (S S_tl S_len S_cat)

theorem sz_str (x : Str) : x.length = x.cps.toList.length := by simp [Str.length]
section
variable {K : PySem.W.Frag} {mg : Str → Option Value} {md : Bool}
/-- a value of no object may be handed on at once -/
theorem post_here {H H0 : Hp} {d : D} {v : V} {Q : VK} {E : XK} (p : Post (Dp K) K mg true H H0 (.ok d) Q E) (s : Same H0 H) (x : ∀ H, Dp K H v d) : Q v H := p v H H0 (.refl s) (x H0)

/-! ### int operations -/
def dSub : D → D → R D
  | .int i, .int j => .ok (.int (i - j))
  | _, _ => .stuck
theorem op2_sub : Op2 K mg md (rI0 fun i j => .int (i - j)) dSub := by
  intro x y d e H H0 Q E s hx hy p
  unfold dSub at p
  split at p
  · cases dp_md s hx; cases dp_md s hy; exact ⟨_, _, rfl, rfl, post_here p s fun _ => .int _⟩
  · exact False.elim p
def dFdiv : D → D → R D
  | .int i, .int j => if 0 < j ∧ j.natAbs.log2 < 9000 then .ok (.int (i / j)) else .stuck
  | _, _ => .stuck
theorem op2_fdiv : Op2 K mg md (rI CDivW fun i j => .int (i / j)) dFdiv := by
  intro x y d e H H0 Q E s hx hy p
  unfold dFdiv at p
  split at p
  · split at p
    · rename_i h
      cases dp_md s hx; cases dp_md s hy; exact ⟨_, _, rfl, rfl, h, post_here p s fun _ => .int _⟩
    · exact False.elim p
  · exact False.elim p
def dMod : D → D → R D
  | .int i, .int j => if 0 < j then .ok (.int (i % j)) else .stuck
  | _, _ => .stuck
theorem op2_mod : Op2 K mg md (rI (fun _ j => 0 < j) fun i j => .int (i % j)) dMod := by
  intro x y d e H H0 Q E s hx hy p
  unfold dMod at p
  split at p
  · split at p
    · rename_i h
      cases dp_md s hx; cases dp_md s hy; exact ⟨_, _, rfl, rfl, h, post_here p s fun _ => .int _⟩
    · exact False.elim p
  · exact False.elim p
def dPow : D → D → R D
  | .int i, .int j => if 0 ≤ j ∧ j ≤ 1000000 ∧ i.natAbs < 2 ^ 64 then .ok (.int (i ^ j.toNat)) else .stuck
  | _, _ => .stuck
theorem op2_pow : Op2 K mg md (rI CPow fun i j => .int (i ^ j.toNat)) dPow := by
  intro x y d e H H0 Q E s hx hy p
  unfold dPow at p
  split at p
  · split at p
    · rename_i h
      cases dp_md s hx; cases dp_md s hy; exact ⟨_, _, rfl, rfl, h, post_here p s fun _ => .int _⟩
    · exact False.elim p
  · exact False.elim p

/-! ### + -/
def rCatLL (K : PySem.W.Frag) : R2 := fun x y H Q => ∃ l b xs zs, x = .ref l ∧ y = .ref b ∧ SqL K H l xs ∧ SqL K H b zs ∧ xs.length + zs.length ≤ sizeLine ∧ ∀ p, H p = none → Q (.ref p) (upd H p (.lst (xs ++ zs)))
theorem op_catLL {X : Cx} : OpR X (binaryOp .Add) (rCatLL X.K) := by
  intro pins s σ H x y v u Q I rx ry h
  obtain ⟨l, b, xs, zs, rfl, rfl, hH, hB, hz, q⟩ := h
  cases rx
  cases ry
  obtain ⟨its, r, pl, hs⟩ := I.list hH
  obtain ⟨its2, r2, pl2, hs2⟩ := I.list hB
  have hl := r.length
  have hl2 := r2.length
  obtain ⟨⟨c1, d1, dt1, sl1⟩, ho, hc, n, hd⟩ := pl.isList
  obtain ⟨⟨c2, d2, dt2, sl2⟩, ho2, hc2, n2, hd2⟩ := pl2.isList
  simp only at hc hd hc2 hd2
  subst hc hd hc2 hd2
  refine concat_meets ⟨_, ho, rfl⟩ ⟨_, ho2, rfl⟩ noFill_list_add seq_list_add PySem.F.slot_list_add PySem.F.entry_list_add (PySem.F.args_list_add_2 _ _)
    (list_addW l b its.toArray its2.toArray n n2 d1 d2 sl1 sl2 (by rw [List.size_toArray, List.size_toArray]; omega)) ⟨ho, ho2, ?_⟩
  have ea : its.toArray ++ its2.toArray = (its ++ its2).toArray := by simp
  rw [ea]
  exact ⟨.ref _, _, I.lnew (t' := s.toks) (r.append r2) (by rw [List.length_append]; omega), rfl, q _ I.fresh⟩
def rAddA (K : PySem.W.Frag) : R2 := fun x y H Q => (rI0 (fun i j => .int (i + j)) x y H Q ∨ (fun x y H Q => ∃ i j, x = .str i ∧ y = .str j ∧ i.length + j.length ≤ sizeLine ∧ Q (.str (i ++ j)) H) x y H Q) ∨ (rCatLL K x y H Q ∨ rCatA K x y H Q)
theorem op_addA {X : Cx} : OpR X (binaryOp .Add) (rAddA X.K) := OpR.or (OpR.or op_add op_add_str) (OpR.or op_catLL op_catA)
def dAdd : D → D → R D
  | .int i, .int j => .ok (.int (i + j))
  | .str a, .str b => if a.cps.toList.length + b.cps.toList.length ≤ sizeLine then .ok (.str (S (a.cps.toList ++ b.cps.toList))) else .stuck
  | .list a, .list b => if a.length + b.length ≤ sizeLine then .ok (.list (a ++ b)) else .stuck
  | _, _ => .stuck
theorem op2_add : Op2 K mg true (rAddA K) dAdd := by
  intro x y d e H H0 Q E s hx hy p
  replace hx : Dp K H0 x d := hx
  replace hy : Dp K H0 y e := hy
  unfold dAdd at p
  split at p
  · cases hx; cases hy; exact .inl (.inl ⟨_, _, rfl, rfl, post_here p s fun _ => .int _⟩)
  · split at p
    · rename_i a b h
      cases hx; cases hy
      refine .inl (.inr ⟨_, _, rfl, rfl, by rw [sz_str, sz_str]; exact h, ?_⟩)
      have e : S (a.cps.toList ++ b.cps.toList) = a ++ b := by rw [← S_cat, S_tl, S_tl]
      rw [e] at p
      exact post_here p s fun _ => .str _
    · exact False.elim p
  · split at p
    · rename_i h
      cases hx with
      | lst h1 a1 =>
        cases hy with
        | lst h2 a2 =>
          refine .inr (.inl ⟨_, _, _, _, rfl, rfl, s.seq h1, s.seq h2, by rw [DpAll.length a1, DpAll.length a2]; exact h, fun q hq => ?_⟩)
          exact p _ _ _ (Fr.new s hq) (.lst (.inl (.inl upd_same)) (dpAll_mono (Same.new (s.free hq)) _ _ (DpAll.append a1 a2)))
    · exact False.elim p
  · exact False.elim p

/-! ### * -/
theorem foldl_cat : ∀ (n : Nat) (x acc : Array Nat), ((List.replicate n x).foldl (· ++ ·) acc).toList = acc.toList ++ (List.replicate n x.toList).flatten
  | 0, x, acc => by simp
  | n + 1, x, acc => by
    rw [List.replicate_succ, List.foldl_cons, foldl_cat n x (acc ++ x), List.replicate_succ, List.flatten_cons, Array.toList_append, List.append_assoc]
def repL (n : Nat) (x : List Nat) : List Nat := (List.replicate n x).flatten
theorem mul_rep (x : Str) (n : Int) : Txt.mul x n = S (repL n.toNat x.cps.toList) := by
  unfold Txt.mul repL
  by_cases h : n < 1
  · rw [if_pos h]
    have : n.toNat = 0 := by omega
    rw [this]
    rfl
  · rw [if_neg h]
    by_cases h2 : (n == 1 || x.length == 0) = true
    · rw [if_pos h2]
      rcases Bool.or_eq_true_iff.mp h2 with h3 | h3
      · have : n = 1 := by simpa using h3
        subst this
        show x = S ([x.cps.toList].flatten)
        rw [List.flatten_cons, List.flatten_nil, List.append_nil, S_tl]
      · have h4 : x.cps.toList = [] := by
          have : x.length = 0 := by simpa using h3
          rw [sz_str] at this
          exact List.eq_nil_of_length_eq_zero this
        rw [h4]
        have e : (List.replicate n.toNat ([] : List Nat)).flatten = [] := by simp
        rw [e, ← h4, S_tl]
    · rw [if_neg h2]
      have e := foldl_cat n.toNat x.cps #[]
      show (⟨_⟩ : Str) = ⟨_⟩
      congr 1
      apply Array.ext'
      rw [e]
      simp
def rMulS : R2 := fun x y H Q => ∃ z n, x = .str z ∧ y = .int n ∧ n < 1000000 ∧ -1000000 < n ∧ z.cps.toList.length * n.toNat ≤ 1000000 ∧ Q (.str (S (repL n.toNat z.cps.toList))) H
theorem op_mulS {X : Cx} : OpR X (binaryOp .Mult) rMulS := by
  intro pins s σ H x y v u Q I rx ry h
  obtain ⟨z, n, rfl, rfl, h1, h2, h3, q⟩ := h
  obtain ⟨t, rfl⟩ := rx
  obtain ⟨t', rfl⟩ := ry
  refine PySem.SB.mul ⟨?_, fun g1 g2 => ?_, fun g1 g2 => ?_⟩ fun t' k => ⟨.str _, H, I.tok _, ⟨_, rfl⟩, by rw [mul_rep]; exact q⟩
  · rw [Bool.or_eq_false_iff]
    exact ⟨decide_eq_false (by omega), decide_eq_false (by omega)⟩
  · intro g3
    have hz : z.length = z.cps.toList.length := sz_str z
    have hn : 0 < n := by omega
    have hz2 : (z.length : Int) ≤ 1000000 := by
      rcases Nat.eq_zero_or_pos n.toNat with q0 | q0
      · omega
      · have := Nat.le_mul_of_pos_right z.cps.toList.length q0
        omega
    have : (1000000 : Int) ≤ (2 ^ 63 - 1) / n := by
      refine Int.le_ediv_of_mul_le hn ?_
      have : (1000000 : Int) * n ≤ 1000000 * 1000000 := by omega
      omega
    omega
  · have hz : z.length = z.cps.toList.length := sz_str z
    rw [hz]
    show decide (_ > sizeLine) = false
    have := sizeLine_eq
    exact decide_eq_false (by omega)

def dMul : D → D → R D
  | .int i, .int j => if i.natAbs.log2 + j.natAbs.log2 < 1000000 then .ok (.int (i * j)) else .stuck
  | .str z, .int n => if n < 1000000 ∧ -1000000 < n ∧ z.cps.toList.length * n.toNat ≤ 1000000 then .ok (.str (S (repL n.toNat z.cps.toList))) else .stuck
  | _, _ => .stuck
def rMulA : R2 := fun x y H Q => rI CMulW (fun i j => .int (i * j)) x y H Q ∨ rMulS x y H Q
theorem op_mulA {X : Cx} : OpR X (binaryOp .Mult) rMulA := OpR.or op_mulW op_mulS
theorem op2_mul : Op2 K mg md rMulA dMul := by
  intro x y d e H H0 Q E s hx hy p
  unfold dMul at p
  split at p
  · split at p
    · rename_i h
      cases dp_md s hx; cases dp_md s hy; exact .inl ⟨_, _, rfl, rfl, h, post_here p s fun _ => .int _⟩
    · exact False.elim p
  · split at p
    · rename_i h
      cases dp_md s hx; cases dp_md s hy; exact .inr ⟨_, _, rfl, rfl, h.1, h.2.1, h.2.2, post_here p s fun _ => .str _⟩
    · exact False.elim p
  · exact False.elim p

/-! ### comparisons -/
def dLt : D → D → R D
  | .int i, .int j => .ok (.bool (decide (i < j)))
  | .str a, .str b => .ok (.bool (decide (a.cps.toList < b.cps.toList)))
  | _, _ => .stuck
def dLe : D → D → R D
  | .int i, .int j => .ok (.bool (decide (i ≤ j)))
  | .str a, .str b => .ok (.bool (!decide (b.cps.toList < a.cps.toList)))
  | _, _ => .stuck
def dGt : D → D → R D
  | .int i, .int j => .ok (.bool (decide (j < i)))
  | .str a, .str b => .ok (.bool (decide (b.cps.toList < a.cps.toList)))
  | _, _ => .stuck
def dGe : D → D → R D
  | .int i, .int j => .ok (.bool (decide (j ≤ i)))
  | .str a, .str b => .ok (.bool (!decide (a.cps.toList < b.cps.toList)))
  | _, _ => .stuck
def rCmpA (f : Int → Int → Bool) (g : List Nat → List Nat → Bool) : R2 := fun x y H Q => rI0 (fun i j => .bl (f i j)) x y H Q ∨ (fun x y H Q => ∃ i j, x = .str i ∧ y = .str j ∧ Q (.bl (g i.cps.toList j.cps.toList)) H) x y H Q
theorem op_ltA {X : Cx} : OpR X (compareOp .Lt) (rCmpA (fun i j => decide (i < j)) fun a b => decide (a < b)) := OpR.or op_lt op_lt_str
theorem op_leA {X : Cx} : OpR X (compareOp .LtE) (rCmpA (fun i j => decide (i ≤ j)) fun a b => !decide (b < a)) := OpR.or op_le op_le_str
theorem op_gtA {X : Cx} : OpR X (compareOp .Gt) (rCmpA (fun i j => decide (j < i)) fun a b => decide (b < a)) := OpR.or op_gt op_gt_str
theorem op_geA {X : Cx} : OpR X (compareOp .GtE) (rCmpA (fun i j => decide (j ≤ i)) fun a b => !decide (a < b)) := OpR.or op_ge op_ge_str
theorem op2_lt : Op2 K mg md (rCmpA (fun i j => decide (i < j)) fun a b => decide (a < b)) dLt := by
  intro x y d e H H0 Q E s hx hy p
  unfold dLt at p
  split at p
  · cases dp_md s hx; cases dp_md s hy; exact .inl ⟨_, _, rfl, rfl, post_here p s fun _ => .bl _⟩
  · cases dp_md s hx; cases dp_md s hy; exact .inr ⟨_, _, rfl, rfl, post_here p s fun _ => .bl _⟩
  · exact False.elim p
theorem op2_le : Op2 K mg md (rCmpA (fun i j => decide (i ≤ j)) fun a b => !decide (b < a)) dLe := by
  intro x y d e H H0 Q E s hx hy p
  unfold dLe at p
  split at p
  · cases dp_md s hx; cases dp_md s hy; exact .inl ⟨_, _, rfl, rfl, post_here p s fun _ => .bl _⟩
  · cases dp_md s hx; cases dp_md s hy; exact .inr ⟨_, _, rfl, rfl, post_here p s fun _ => .bl _⟩
  · exact False.elim p
theorem op2_gt : Op2 K mg md (rCmpA (fun i j => decide (j < i)) fun a b => decide (b < a)) dGt := by
  intro x y d e H H0 Q E s hx hy p
  unfold dGt at p
  split at p
  · cases dp_md s hx; cases dp_md s hy; exact .inl ⟨_, _, rfl, rfl, post_here p s fun _ => .bl _⟩
  · cases dp_md s hx; cases dp_md s hy; exact .inr ⟨_, _, rfl, rfl, post_here p s fun _ => .bl _⟩
  · exact False.elim p
theorem op2_ge : Op2 K mg md (rCmpA (fun i j => decide (j ≤ i)) fun a b => !decide (a < b)) dGe := by
  intro x y d e H H0 Q E s hx hy p
  unfold dGe at p
  split at p
  · cases dp_md s hx; cases dp_md s hy; exact .inl ⟨_, _, rfl, rfl, post_here p s fun _ => .bl _⟩
  · cases dp_md s hx; cases dp_md s hy; exact .inr ⟨_, _, rfl, rfl, post_here p s fun _ => .bl _⟩
  · exact False.elim p
/-- equal: scalars of any kinds, else data of any depth -/
def deepEq (d e : D) : R Bool := if SeqAt.shaped d && SeqAt.shaped e then .ok (PyData.eqv d e) else .stuck
def dEqB : D → D → R Bool
  | .int i, .int j => .ok (decide (i = j))
  | .str a, .str b => .ok (decide (a.cps.toList = b.cps.toList))
  | .bool a, .bool b => .ok (decide (a = b))
  | .none, .none => .ok true
  | .none, .int _ => .ok false
  | .none, .str _ => .ok false
  | .none, .bool _ => .ok false
  | .int _, .none => .ok false
  | .str _, .none => .ok false
  | .bool _, .none => .ok false
  | .int _, .str _ => .ok false
  | .str _, .int _ => .ok false
  | .bool _, .str _ => .ok false
  | .str _, .bool _ => .ok false
  | d, e => deepEq d e
def dEq (d e : D) : R D := (dEqB d e).bind fun k => .ok (.bool k)
def dNe (d e : D) : R D := (dEqB d e).bind fun k => .ok (.bool (!k))
def rEqA (K : PySem.W.Frag) : R2 := fun x y H Q => rEq x y H Q ∨ rEqD K x y H Q
def rNeA (K : PySem.W.Frag) : R2 := fun x y H Q => rNe x y H Q ∨ rNeD K x y H Q
theorem op_eqA {X : Cx} (hu : X.A.units + 64 < cLine) : OpR X (compareOp .Eq) (rEqA X.K) := OpR.or op_eq (op_eqD hu)
theorem op_neA {X : Cx} (hu : X.A.units + 64 < cLine) : OpR X (compareOp .NotEq) (rNeA X.K) := OpR.or op_ne (op_neD hu)
theorem tl_eq {a b : Str} : a.cps.toList = b.cps.toList ↔ a = b := ⟨fun h => by rw [← S_tl a, ← S_tl b, h], fun h => by rw [h]⟩
/-- what a scalar test says -/
theorem eqB_cases {H : Hp} {x y : V} {d e : D} {k : Bool} (hx : Dp K H x d) (hy : Dp K H y e) (h : dEqB d e = .ok k) : (scal x y = true ∧ decide (x = y) = k) ∨ (SeqAt.shaped d = true ∧ SeqAt.shaped e = true ∧ PyData.eqv d e = k) := by
  have deep : ∀ {d e : D}, deepEq d e = .ok k → SeqAt.shaped d = true ∧ SeqAt.shaped e = true ∧ PyData.eqv d e = k := fun {d e} h => by
    unfold deepEq at h
    split at h
    · rename_i q
      have q := Bool.and_eq_true_iff.mp q
      exact ⟨q.1, q.2, R.ok.inj h⟩
    · cases h
  cases hx <;> cases hy <;> first
    | (right; exact deep h)
    | (left; have h := R.ok.inj h; subst h; exact ⟨rfl, decide_eq_decide.mpr ⟨fun z => by cases z; rfl, fun z => by rw [tl_eq.mp z]⟩⟩)
    | (left; have h := R.ok.inj h; subst h; refine ⟨rfl, ?_⟩; simp [tl_eq])
theorem dEqB_ne {d e : D} {z : Exn} : dEqB d e ≠ .err z := by
  have deep : ∀ {d e : D}, deepEq d e ≠ .err z := fun {d e} => by
    unfold deepEq
    split <;> simp
  unfold dEqB
  split <;> first | exact deep | simp
theorem op2_eq : Op2 K mg md (rEqA K) dEq := by
  intro x y d e H H0 Q E s hx hy p
  unfold dEq at p
  cases q : dEqB d e with
  | stuck => rw [q] at p; exact False.elim p
  | err z => exact absurd q dEqB_ne
  | ok k =>
    rw [q] at p
    rcases eqB_cases (dp_md s hx) (dp_md s hy) q with ⟨h1, h2⟩ | ⟨h1, h2, h3⟩
    · exact .inl ⟨h1, by rw [h2]; exact post_here p s fun _ => .bl _⟩
    · exact .inr ⟨d, e, dp_md s hx, dp_md s hy, h1, h2, by rw [h3]; exact post_here p s fun _ => .bl _⟩
theorem op2_ne : Op2 K mg md (rNeA K) dNe := by
  intro x y d e H H0 Q E s hx hy p
  unfold dNe at p
  cases q : dEqB d e with
  | stuck => rw [q] at p; exact False.elim p
  | err z => exact absurd q dEqB_ne
  | ok k =>
    rw [q] at p
    rcases eqB_cases (dp_md s hx) (dp_md s hy) q with ⟨h1, h2⟩ | ⟨h1, h2, h3⟩
    · exact .inl ⟨h1, by rw [h2]; exact post_here p s fun _ => .bl _⟩
    · exact .inr ⟨d, e, dp_md s hx, dp_md s hy, h1, h2, by rw [h3]; exact post_here p s fun _ => .bl _⟩
/-- is None, is not None -/
def isNone : D → Bool
  | .none => true
  | _ => false
def dIsN : D → D → R D
  | d, .none => .ok (.bool (isNone d))
  | _, _ => .stuck
def dNotN : D → D → R D
  | d, .none => .ok (.bool (!isNone d))
  | _, _ => .stuck
theorem isN_of {H : Hp} {v : V} {d : D} (x : Dp K H v d) : decide (v = .non) = isNone d := by
  cases x <;> simp [isNone]
theorem op2_isN : Op2 K mg md (fun x y H Q => y = .non ∧ Q (.bl (decide (x = .non))) H) dIsN := by
  intro x y d e H H0 Q E s hx hy p
  unfold dIsN at p
  split at p
  · cases dp_md s hy; exact ⟨rfl, by rw [isN_of (dp_md s hx)]; exact post_here p s fun _ => .bl _⟩
  · exact False.elim p
theorem op2_notN : Op2 K mg md (fun x y H Q => y = .non ∧ Q (.bl (!decide (x = .non))) H) dNotN := by
  intro x y d e H H0 Q E s hx hy p
  unfold dNotN at p
  split at p
  · cases dp_md s hy; exact ⟨rfl, by rw [isN_of (dp_md s hx)]; exact post_here p s fun _ => .bl _⟩
  · exact False.elim p
/-- a sign in a text; something in a list or a tuple of scalars -/
def flat : D → Bool
  | .list _ | .tuple _ | .dict _ => false
  | _ => true
def rInA : R2 := fun x y H Q => ∃ (c : Nat) (z : Str), x = .str ⟨#[c]⟩ ∧ y = .str z ∧ Q (.bl (decide (c ∈ z.cps.toList))) H
def dInB : D → D → R Bool
  | .str x, .str z => match x.cps.toList with
    | [c] => .ok (decide (c ∈ z.cps.toList))
    | _ => .stuck
  | _, _ => .stuck
def dIn (d e : D) : R D := (dInB d e).bind fun k => .ok (.bool k)
def dNotIn (d e : D) : R D := (dInB d e).bind fun k => .ok (.bool (!k))
theorem one_sign {x : Str} {c : Nat} (h : x.cps.toList = [c]) : x = ⟨#[c]⟩ := by rw [← S_tl x, h]
theorem op2_in : Op2 K mg md rInA dIn := by
  intro x y d e H H0 Q E s hx hy p
  unfold dIn dInB at p
  split at p
  · split at p
    · rename_i c h
      cases dp_md s hx; cases dp_md s hy
      rw [one_sign h]
      exact ⟨c, _, rfl, rfl, post_here p s fun _ => .bl _⟩
    · exact False.elim p
  · exact False.elim p
end
end DW

end
section
set_option Elab.async false
set_option linter.all false
set_option maxRecDepth 100000
set_option maxHeartbeats 4000000
namespace DW
open PySem PySem.Spec PyProof.Rows L2
open SX (S S_tl S_len S_cat)

section
variable {K : PySem.W.Frag} {mg : Str → Option Value} {md : Bool}
theorem CallR.or {X : Cx} {f : Value} {r r' : List V → Hp → VK → Prop} (h : CallR X f r) (h' : CallR X f r') : CallR X f (fun xs H Q => r xs H Q ∨ r' xs H Q) := by
  intro pins s σ H xs us Q I rx q
  rcases q with q | q
  · exact h pins s σ H xs us Q I rx q
  · exact h' pins s σ H xs us Q I rx q
/-! ### len -/
def rLenA (K : PySem.W.Frag) : List V → Hp → VK → Prop := fun xs H Q => (fun xs H Q => ∃ p ys, xs = [.ref p] ∧ (SqL K H p ys ∨ SqT K H p ys) ∧ Q (.int ys.length) H) xs H Q ∨ (fun xs H Q => ∃ z, xs = [.str z] ∧ z.length ≤ sizeLine ∧ Q (.int z.length) H) xs H Q
theorem call_lenA {X : Cx} : CallR X (.builtin "len") (rLenA X.K) := CallR.or call_len_seq call_len_str
def dLen : List D → R D
  | [.str z] => if z.cps.toList.length ≤ sizeLine then .ok (.int z.cps.toList.length) else .stuck
  | [.list ds] => .ok (.int ds.length)
  | [.tuple ds] => .ok (.int ds.length)
  | _ => .stuck
theorem fn_len : Fn K mg md (rLenA K) dLen := by
  intro xs ds H H0 Q E s hx p
  replace hx := dpAll_md s hx
  unfold dLen at p
  split at p
  · split at p
    · rename_i h
      cases hx with
      | cons h1 h2 => cases h2; cases h1; exact .inr ⟨_, rfl, by rw [sz_str]; exact h, by rw [sz_str]; exact post_here p s fun _ => .int _⟩
    · exact False.elim p
  · cases hx with
    | cons h1 h2 =>
      cases h2
      cases h1 with
      | lst a b => exact .inl ⟨_, _, rfl, .inl a, by rw [DpAll.length b]; exact post_here p s fun _ => .int _⟩
  · cases hx with
    | cons h1 h2 =>
      cases h2
      cases h1 with
      | tup a b => exact .inl ⟨_, _, rfl, .inr a, by rw [DpAll.length b]; exact post_here p s fun _ => .int _⟩
  · exact False.elim p
/-! ### all, any -/
def bools : List D → R (List Bool)
  | [] => .ok []
  | .bool b :: ds => (bools ds).bind fun bs => .ok (b :: bs)
  | _ => .stuck
theorem bools_eq : ∀ {ds : List D} {bs : List Bool}, bools ds = .ok bs → ds = bs.map PyData.bool
  | [], bs, h => by cases h; rfl
  | d :: ds, bs, h => by
    cases d with
    | bool b =>
      have h : (bools ds).bind (fun bs => .ok (b :: bs)) = R.ok bs := h
      cases q : bools ds with
      | ok cs => rw [q] at h; cases h; rw [bools_eq q]; rfl
      | stuck => rw [q] at h; cases h
      | err _ => rw [q] at h; cases h
    | _ => cases h
theorem bools_map : ∀ bs : List Bool, bools (bs.map PyData.bool) = .ok bs
  | [] => rfl
  | b :: bs => by show (bools (bs.map PyData.bool)).bind _ = _; rw [bools_map bs]; rfl
theorem bools_ne {e : Exn} : ∀ ds : List D, bools ds ≠ .err e
  | [] => by simp [bools]
  | d :: ds => by
    cases d with
    | bool b =>
      show (bools ds).bind (fun bs => .ok (b :: bs)) ≠ _
      cases q : bools ds with
      | err z => exact absurd (q.trans rfl) (bools_ne (e := z) ds)
      | _ => simp
    | _ => simp [bools]
def dAll : List D → R D
  | [.list ds] => (bools ds).bind fun bs => .ok (.bool (bs.all id))
  | _ => .stuck
def dAny : List D → R D
  | [.list ds] => (bools ds).bind fun bs => .ok (.bool (bs.any id))
  | _ => .stuck
theorem fn_all : Fn K mg md (rAll K) dAll := by
  intro xs ds H H0 Q E s hx p
  replace hx := dpAll_md s hx
  unfold dAll at p
  split at p
  · rename_i es
    cases q : bools es with
    | ok bs =>
      rw [q] at p
      have e := bools_eq q
      subst e
      cases hx with
      | cons h1 h2 =>
        cases h2
        cases h1 with
        | lst a b =>
          have e2 := DpAll.bools b
          subst e2
          exact ⟨_, bs, rfl, a, post_here p s fun _ => .bl _⟩
    | stuck => rw [q] at p; exact False.elim p
    | err _ => exact absurd q (bools_ne _)
  · exact False.elim p
theorem fn_any : Fn K mg md (rAny K) dAny := by
  intro xs ds H H0 Q E s hx p
  replace hx := dpAll_md s hx
  unfold dAny at p
  split at p
  · rename_i es
    cases q : bools es with
    | ok bs =>
      rw [q] at p
      have e := bools_eq q
      subst e
      cases hx with
      | cons h1 h2 =>
        cases h2
        cases h1 with
        | lst a b =>
          have e2 := DpAll.bools b
          subst e2
          exact ⟨_, bs, rfl, a, post_here p s fun _ => .bl _⟩
    | stuck => rw [q] at p; exact False.elim p
    | err _ => exact absurd q (bools_ne _)
  · exact False.elim p
/-! ### int(int) -/
def dInt1 : List D → R D
  | [.int i] => .ok (.int i)
  | _ => .stuck
theorem fn_int1 : Fn K mg md (fun xs H Q => (∃ i, xs = [.int i] ∧ Q (.int i) H) ∨ ∃ k, xs = [.bl k] ∧ Q (.int (if k then 1 else 0)) H) dInt1 := by
  intro xs ds H H0 Q E s hx p
  replace hx := dpAll_md s hx
  unfold dInt1 at p
  split at p
  · cases hx with
    | cons h1 h2 => cases h2; cases h1; exact .inl ⟨_, rfl, post_here p s fun _ => .int _⟩
  · exact False.elim p
/-! ### repr of scalars -/
def rReprS : List V → Hp → VK → Prop := fun xs H Q => (∃ z, xs = [.str z] ∧ (reprText z).length ≤ sizeLine ∧ Q (.str (reprText z)) H) ∨ (∃ i, xs = [.int i] ∧ i.natAbs.log2 < 1920 ∧ Q (.str (toString i)) H) ∨ (∃ b, xs = [.bl b] ∧ Q (.str (if b = true then "True" else "False")) H) ∨ (xs = [.non] ∧ Q (.str "None") H)
theorem call_reprS {X : Cx} : CallR X (.builtin "repr") rReprS := by
  intro pins s σ H xs us Q I rx h
  rcases h with ⟨z, rfl, hz, q⟩ | ⟨i, rfl, hz, q⟩ | ⟨b, rfl, q⟩ | ⟨rfl, q⟩
  · cases rx with
    | cons r1 r2 =>
      cases r2
      obtain ⟨t, rfl⟩ := r1
      exact PySem.P.repr_of_str ⟨.str _, H, I.tok _, ⟨_, rfl⟩, q⟩ hz
  · cases rx with
    | cons r1 r2 =>
      cases r2
      obtain ⟨t, rfl⟩ := r1
      exact PySem.P.repr_of_int hz ⟨.str _, H, I.tok _, ⟨_, rfl⟩, q⟩
  · cases rx with
    | cons r1 r2 =>
      cases r2
      cases r1
      refine PySem.P.repr_of_bool ⟨.str _, H, I.tok _, ⟨_, rfl⟩, ?_⟩
      cases b <;> exact q
  · cases rx with
    | cons r1 r2 =>
      cases r2
      cases r1
      exact PySem.P.repr_of_none ⟨.str _, H, I.tok _, ⟨_, rfl⟩, q⟩
def dRepr : List D → R D
  | [.str z] => if (reprText z).length ≤ sizeLine then .ok (.str (PyData.shown (.str z))) else .stuck
  | [.int i] => if i.natAbs.log2 < 1920 then .ok (.str (PyData.shown (.int i))) else .stuck
  | [.bool b] => .ok (.str (PyData.shown (.bool b)))
  | [.none] => .ok (.str (PyData.shown .none))
  | _ => .stuck
theorem fn_reprS : Fn K mg md rReprS dRepr := by
  intro xs ds H H0 Q E s hx p
  replace hx := dpAll_md s hx
  unfold dRepr at p
  split at p
  · split at p
    · rename_i h
      cases hx with
      | cons h1 h2 =>
        cases h2; cases h1
        have e : ∀ z, PyData.shown (.str z) = reprText z := fun z => by simp only [PyData.shown]
        rw [e] at p
        exact .inl ⟨_, rfl, h, post_here p s fun _ => .str _⟩
    · exact False.elim p
  · split at p
    · rename_i h
      cases hx with
      | cons h1 h2 =>
        cases h2; cases h1
        have e : ∀ z, PyData.shown (.int z) = toString z := fun z => by simp only [PyData.shown]
        rw [e] at p
        exact .inr (.inl ⟨_, rfl, h, post_here p s fun _ => .str _⟩)
    · exact False.elim p
  · rename_i bb
    cases hx with
    | cons h1 h2 =>
      cases h2; cases h1
      have e : PyData.shown (.bool bb) = (if bb = true then ("True" : Str) else "False") := by cases bb <;> simp only [PyData.shown]
      rw [e] at p
      exact .inr (.inr (.inl ⟨bb, rfl, by cases bb <;> exact post_here p s fun _ => .str _⟩))
  · cases hx with
    | cons h1 h2 =>
      cases h2; cases h1
      have e : PyData.shown .none = "None" := by simp only [PyData.shown]
      rw [e] at p
      exact .inr (.inr (.inr ⟨rfl, post_here p s fun _ => .str _⟩))
  · exact False.elim p
end

section
variable {X : Cx} {W : WX} {md : Bool} {e a b c : Expr} {t ta tb tc te : TE} {m ma mb mc : ME} {pos : Pos}
/-! ### isinstance(e, T), T a built-in class -/
def tyName : D → String
  | .none => "NoneType"
  | .bool _ => "bool"
  | .int _ => "int"
  | .str _ => "str"
  | .list _ => "list"
  | .tuple _ => "tuple"
  | .dict _ => "dict"
def isTy (T : String) (d : D) : Bool := (tyName d == T) || (T == "int" && tyName d == "bool")
def dIsT (T : String) (d : D) : R D := .ok (.bool (isTy T d))
theorem tyx_of {K : PySem.W.Frag} {H : Hp} {v : V} {d : D} (x : Dp K H v d) : TyX K H v (.type (tyName d)) := by
  cases x with
  | non => exact .base .non
  | bl b => exact .base (.bl b)
  | int i => exact .base (.int i)
  | str z => exact .base (.str z)
  | lst h _ =>
    rcases h with (h | ⟨o, h⟩) | ⟨o, its, n, h, hc, _⟩
    · exact .base (.lst h)
    · exact .base (.frz h)
    · exact .kList h hc
  | tup h _ =>
    rcases h with (h | ⟨o, h⟩) | ⟨o, its, n, h, hc, _⟩
    · exact .base (.tup h)
    · exact .fTuple h
    · exact .kTuple h hc
def IsiOk (T : String) : Prop := ∀ a ∈ ["NoneType", "bool", "int", "str", "list", "tuple"], L2.kitB a T = some ((a == T) || (T == "int" && a == "bool"))
theorem tyName_mem {K : PySem.W.Frag} {H : Hp} {v : V} {d : D} (x : Dp K H v d) : tyName d ∈ ["NoneType", "bool", "int", "str", "list", "tuple"] := by
  cases x <;> simp [tyName]
theorem be_isi {p0 p1 : Pos} {T : String} {Tx : Str} (hT : IsiOk T) (hg : Gl X "isinstance") (hm : X.mg "isinstance" = none) (hb : bootBuiltins "isinstance" = some (.builtin "isinstance")) (ht : PE X (.Name Tx p1) (tC (.ty T))) (h : BE X W false e te m)
    (he : starEach [e, .Name Tx p1] X.env = (false, eval e X.env) :: starEach [.Name Tx p1] X.env := by rfl) (hpl : (backTo pos (starEach [.Name Tx p1] X.env)).any (·.1) = false := by rfl) (hs : starEach [.Name Tx p1] X.env = (false, eval (.Name Tx p1) X.env) :: starEach [] X.env := by rfl) :
    BE X W true (.Call (.Name "isinstance" p0) [e, .Name Tx p1] [] pos) (tCB (rIsi X.K) (tCons te (tCons (tC (.ty T)) tNil))) (m1 (dIsT T) m) := by
  refine ⟨pe_callB call_isi hg hm hb (pa_cons h.pe (pa_cons ht pa_nil hs) he) (by decide) (by decide) he hpl, fun Hs H0s σ H H0 ρ Q rl p => h.ev Hs H0s σ H H0 ρ _ rl ((Post.bind p).imp ?_)⟩
  rintro v H1 ⟨d, H01, _, f1, x1, p1⟩
  exact ⟨v, .ty T, _, _, isTy T d, rfl, .ty T, tyx_of x1, kit_ty (hT _ (tyName_mem x1)), p1 _ H1 H01 (.refl f1.sb) (.bl _)⟩
/-- isinstance(e, C), e the caught error -/
theorem be_isE {i : Nat} {n Cx : Str} {p0 p1 p2 : Pos} {a Dc : Addr} {oe : Obj} {pn : List (Addr × Obj)} {b : Bool} (hE : ExcC X.K Dc) (hz : Zc (.ref Dc) none oe) (hf : ∃ vs, oe.data = .fields vs) (hg : Gl (X.suite a ((a, oe) :: pn)) "isinstance") (hm : X.mg "isinstance" = none) (hb : bootBuiltins "isinstance" = some (.builtin "isinstance"))
    (hn : PE (X.suite a ((a, oe) :: pn)) (.Name n p1) (tVar i)) (u : Value) (vC : V) (hu : ∀ w, RelV vC w → w = u) (hk : PySem.W.kitOne X.K (.ref Dc) u = some b) (ht : PE (X.suite a ((a, oe) :: pn)) (.Name Cx p2) (tC vC)) :
    BE (X.suite a ((a, oe) :: pn)) W true (.Call (.Name "isinstance" p0) [.Name n p1, .Name Cx p2] [] pos) (tCB (rIsE X.K Dc a) (tCons (tVar i) (tCons (tC vC) tNil))) (fun ρ => match ρ[i]? with | some (some .exc) => .ok (.bool b) | _ => .stuck) := by
  refine ⟨pe_callB (call_isE hE hz hf) hg hm hb (pa_cons hn (pa_cons ht pa_nil)) (by decide) (by decide), fun Hs H0s σ H H0 ρ Q rl p => ?_⟩
  split at p
  · rename_i e1
    have e2 := rl.exc _ e1
    exact ⟨.ref a, e2, vC, u, b, rfl, hu, hk, p _ H H0 (.refl rl.sub) (.bl _)⟩
  · exact False.elim p

/-! ### texts: join, index -/
def strsD : List D → R (List Str)
  | [] => .ok []
  | .str z :: ds => (strsD ds).bind fun zs => .ok (z :: zs)
  | _ => .stuck
theorem strs_eq : ∀ {ds : List D} {zs : List Str}, strsD ds = .ok zs → ds = zs.map PyData.str
  | [], zs, h => by cases h; rfl
  | d :: ds, zs, h => by
    cases d with
    | str b =>
      have h : (strsD ds).bind (fun bs => .ok (b :: bs)) = R.ok zs := h
      cases q : strsD ds with
      | ok cs => rw [q] at h; cases h; rw [strs_eq q]; rfl
      | stuck => rw [q] at h; cases h
      | err _ => rw [q] at h; cases h
    | _ => cases h
theorem strs_map : ∀ zs : List Str, strsD (zs.map PyData.str) = .ok zs
  | [] => rfl
  | b :: bs => by show (strsD (bs.map PyData.str)).bind _ = _; rw [strs_map bs]; rfl
theorem strs_ne {e : Exn} : ∀ ds : List D, strsD ds ≠ .err e
  | [] => by simp [strsD]
  | d :: ds => by
    cases d with
    | str b =>
      show (strsD ds).bind (fun bs => .ok (b :: bs)) ≠ _
      cases q : strsD ds with
      | err z => exact absurd (q.trans rfl) (strs_ne (e := z) ds)
      | _ => simp
    | _ => simp [strsD]
def joinN (ys : List Str) : List Nat := (ys.map fun y => y.cps.toList).flatten
def dItemsL : D → R (List D)
  | .list ds => .ok ds
  | .tuple ds => .ok ds
  | _ => .stuck
/-- ''.join(..) -/
def dJoin0 : D → R D := fun d => (dItemsL d).bind fun ds => (strsD ds).bind fun ys => if (ys.map (·.length)).sum ≤ 16777216 then .ok (.str (S (joinN ys))) else .stuck
theorem join0 : ∀ ys : List Str, Str.join Str.empty ys = S (joinN ys)
  | [] => rfl
  | [y] => by
    show y = S (y.cps.toList ++ [])
    rw [List.append_nil, S_tl]
  | y :: z :: r => by
    have ih := join0 (z :: r)
    have e1 : Str.join Str.empty (y :: z :: r) = y ++ Str.empty ++ Str.join Str.empty (z :: r) := rfl
    rw [e1, ih]
    have e2 : y ++ Str.empty = y := by
      have : y = S y.cps.toList := (S_tl y).symm
      have e3 : Str.empty = S [] := rfl
      rw [e3]
      conv => lhs; rw [this]
      rw [S_cat, List.append_nil, S_tl]
    rw [e2]
    conv => lhs; rw [← S_tl y]
    rw [S_cat]
    rfl
theorem be_join0 {p0 p1 : Pos} {k : Nat} {apos : Pos} (h : BE X W md e te m) (pe : PE X (.Call (.Attribute (.Constant (.str "") k p0) "join" apos) [e] [] pos) (tM1
      (fun x xs H Q => ∃ a p, ∃ ys : List Str, x = .str a ∧ xs = [.ref p] ∧ (SqL X.K H p (ys.map V.str) ∨ SqT X.K H p (ys.map V.str)) ∧ (ys.map (·.length)).sum + ys.length * a.length ≤ 16777216 ∧ Q (.str (Txt.join a ys)) H) (tC (.str "")) te)) :
    BE X W true (.Call (.Attribute (.Constant (.str "") k p0) "join" apos) [e] [] pos) (tM1
      (fun x xs H Q => ∃ a p, ∃ ys : List Str, x = .str a ∧ xs = [.ref p] ∧ (SqL X.K H p (ys.map V.str) ∨ SqT X.K H p (ys.map V.str)) ∧ (ys.map (·.length)).sum + ys.length * a.length ≤ 16777216 ∧ Q (.str (Txt.join a ys)) H) (tC (.str "")) te) (m1 dJoin0 m) := by
  refine ⟨pe, fun Hs H0s σ H H0 ρ Q rl p => ⟨⟨_, rfl⟩, h.ev Hs H0s σ H H0 ρ _ rl ((Post.bind p).imp ?_)⟩⟩
  rintro v H1 ⟨d, H01, _, f1, x1, p1⟩
  replace x1 := dp_md f1.sb x1
  have fin : ∀ (ys : List Str) (pp : Addr), (SqL X.K H1 pp (ys.map V.str) ∨ SqT X.K H1 pp (ys.map V.str)) → v = .ref pp → Post (Dp X.K) X.K X.mg true H1 H01 (if (ys.map (·.length)).sum ≤ 16777216 then .ok (.str (S (joinN ys))) else .stuck) Q (WE W σ) →
      ∃ a p, ∃ ys : List Str, V.str "" = .str a ∧ [v] = [.ref p] ∧ (SqL X.K H1 p (ys.map V.str) ∨ SqT X.K H1 p (ys.map V.str)) ∧ (ys.map (·.length)).sum + ys.length * a.length ≤ 16777216 ∧ Q (.str (Txt.join a ys)) H1 := fun ys pp hs hv q => by
    split at q
    · rename_i hl
      refine ⟨_, pp, ys, rfl, by rw [hv], hs, ?_, ?_⟩
      · have : (Str.ofString "").length = 0 := by decide +kernel
        rw [this]
        omega
      · have e1 : Txt.join (Str.ofString "") ys = S (joinN ys) := by
          rw [TL.join_eq, show Str.ofString "" = Str.empty by decide +kernel, join0]
        rw [e1]
        exact q _ H1 H01 (.refl f1.sb) (.str _)
    · exact False.elim q
  cases x1 with
  | lst hs ha =>
    rename_i pp xs ds _
    have p2 : Post (Dp X.K) X.K X.mg true H1 H01 ((strsD ds).bind fun ys => if (ys.map (·.length)).sum ≤ 16777216 then .ok (.str (S (joinN ys))) else .stuck) Q (WE W σ) := p1
    cases q : strsD ds with
    | stuck => rw [q] at p2; exact False.elim p2
    | err _ => exact absurd q (strs_ne _)
    | ok ys =>
      rw [q] at p2
      have e := strs_eq q
      subst e
      have e2 := DpAll.strs ha
      subst e2
      exact fin ys pp (.inl hs) rfl p2
  | tup hs ha =>
    rename_i pp xs ds _
    have p2 : Post (Dp X.K) X.K X.mg true H1 H01 ((strsD ds).bind fun ys => if (ys.map (·.length)).sum ≤ 16777216 then .ok (.str (S (joinN ys))) else .stuck) Q (WE W σ) := p1
    cases q : strsD ds with
    | stuck => rw [q] at p2; exact False.elim p2
    | err _ => exact absurd q (strs_ne _)
    | ok ys =>
      rw [q] at p2
      have e := strs_eq q
      subst e
      have e2 := DpAll.strs ha
      subst e2
      exact fin ys pp (.inr hs) rfl p2
  | _ => exact False.elim p1
/-- a text's method of one argument -/
def mM1 (f : Str → D → R D) (mo m : ME) : ME := fun ρ => (mo ρ).bind fun d => match d with
  | .str a => (m ρ).bind fun e => f a e
  | _ => .stuck
def dIndexS (a : Str) : D → R D
  | .str b => match Builtin.Str.occurrences a b 0 a.length 1 with
    | i :: _ => .ok (.int (i : Nat))
    | [] => .stuck
  | _ => .stuck
abbrev rIndexS : V → List V → Hp → VK → Prop := fun x xs H Q => ∃ a b i rest, x = .str a ∧ xs = [.str b] ∧ Builtin.Str.occurrences a b 0 a.length 1 = i :: rest ∧ Q (.int (i : Nat)) H
def Mt1 (K : PySem.W.Frag) (mg : Str → Option Value) (r : V → List V → Hp → VK → Prop) (f : Str → D → R D) : Prop :=
  ∀ (a : Str) (y : V) (e : D) (H H0 : Hp) (Q : VK) (E : XK), Same H0 H → Dp K H y e → Post (Dp K) K mg true H H0 (f a e) Q E → r (.str a) [y] H Q
theorem ev_m1 {o : Expr} {to : TE} {mo : ME} {r : V → List V → Hp → VK → Prop} {f : Str → D → R D} (hf : Mt1 X.K X.mg r f) (ho : BE X W false o to mo) (h : BE X W false e te m) :
    ∀ Hs H0s σ H H0 ρ Q, Rel X.K (excOf X) Hs H0s σ H H0 ρ → Post (Dp X.K) X.K X.mg true H H0 (mM1 f mo m ρ) Q (WE W σ) → tM1 r to te σ H Q := fun Hs H0s σ H H0 ρ Q rl p => by
  refine ho.ev Hs H0s σ H H0 ρ _ rl ((Post.bind p).imp ?_)
  rintro v H1 ⟨d, H01, _, f1, x1, p1⟩
  cases d with
  | str a =>
    cases x1
    refine ⟨⟨a, rfl⟩, h.ev Hs H0s σ H1 H01 ρ _ (rl.step f1) ((Post.bind p1).imp ?_)⟩
    rintro u H2 ⟨d2, H02, _, f2, x2, p2⟩
    exact hf a u d2 H2 H02 Q _ f2.sb x2 p2
  | _ => exact False.elim p1
theorem mt1_index {K : PySem.W.Frag} {mg : Str → Option Value} : Mt1 K mg rIndexS dIndexS := by
  intro a y e H H0 Q E s hy p
  unfold dIndexS at p
  split at p
  · split at p
    · rename_i h
      cases hy
      exact ⟨a, _, _, _, rfl, rfl, h, post_here p s fun _ => .int _⟩
    · exact False.elim p
  · exact False.elim p
theorem be_m1 {o : Expr} {to : TE} {mo : ME} {name id : String} {apos : Pos} {r : V → List V → Hp → VK → Prop} (f : Str → D → R D) (slot : Slot "str" name id) (hty : typeOf (.builtin id) = pure (.type "method_descriptor")) (hm : MtR X id r) (hf : Mt1 X.K X.mg r f) (ho : BE X W false o to mo) (h : BE X W false e te m)
    (hs : starEach [e] X.env = [(false, eval e X.env)] := by rfl) (hbase : attributeBase o name X.env (eval o X.env) = eval o X.env := by rfl) (hline : (apos.endLine == pos.line) = true := by rfl) :
    BE X W true (.Call (.Attribute o name apos) [e] [] pos) (tM1 r to te) (mM1 f mo m) := ⟨pe_m1 slot hty hm ho.pe h.pe hs hbase hline, ev_m1 hf ho h⟩

/-! ### items -/
def dIdx : D → D → R D
  | .list ds, .int i => match atI ds i with | some d => .ok d | none => .stuck
  | .tuple ds, .int i => match atI ds i with | some d => .ok d | none => .stuck
  | .str z, .int i => if z.cps.toList.length ≤ sizeLine then (match atI z.cps.toList i with | some c => .ok (.str (S [c])) | none => .stuck) else .stuck
  | _, _ => .stuck
theorem atI_get {K : PySem.W.Frag} {H : Hp} {xs : List V} {ds : List D} {i : Int} {d : D} (h : DpAll K H xs ds) (e : atI ds i = some d) : ∃ v, atI xs i = some v ∧ Dp K H v d := by
  unfold atI at e ⊢
  rw [DpAll.length h]
  cases q : ixN ds.length i with
  | none => rw [q] at e; cases e
  | some j =>
    rw [q] at e
    exact DpAll.get h e
theorem be_ix {o i : Expr} {to ti : TE} {mo mi : ME} (ho : BE X W true o to mo) (hi : BE X W false i ti mi) (hs : PlainIx i) : BE X W true (.Subscript o i pos) (tOp (rIx X.K) to ti) (m2 dIdx mo mi) := by
  refine ⟨pe_ix ix_seq ho.pe hi.pe hs, fun Hs H0s σ H H0 ρ Q rl p => ho.ev Hs H0s σ H H0 ρ _ rl ((Post.bind p).imp ?_)⟩
  rintro v H1 ⟨d, H01, _, f1, x1, p1⟩
  refine hi.ev Hs H0s σ H1 H01 ρ _ (rl.step f1) ((Post.bind p1).imp ?_)
  rintro u H2 ⟨d2, H02, _, f2, x2, p2⟩
  replace x1 : Dp X.K H02 v d := dp_mono f2.ez _ _ x1
  unfold dIdx at p2
  split at p2
  · split at p2
    · rename_i h
      cases x2
      cases x1 with
      | lst hl ha =>
        obtain ⟨w, hw, xw⟩ := atI_get ha h
        exact .inl ⟨_, _, _, w, rfl, rfl, f2.sb.seq hl, hw, p2 w H2 H02 (.refl f2.sb) xw⟩
    · exact False.elim p2
  · split at p2
    · rename_i h
      cases x2
      cases x1 with
      | tup hl ha =>
        obtain ⟨w, hw, xw⟩ := atI_get ha h
        exact .inr (.inl ⟨_, _, _, w, rfl, rfl, sqT_mono f2.sb hl, hw, p2 w H2 H02 (.refl f2.sb) xw⟩)
    · exact False.elim p2
  · split at p2
    · rename_i hz
      split at p2
      · rename_i h
        cases x2
        cases x1
        exact .inr (.inr ⟨_, _, _, rfl, rfl, by rw [sz_str]; exact hz, h, p2 _ H2 H02 (.refl f2.sb) (.str _)⟩)
      · exact False.elim p2
    · exact False.elim p2
  · exact False.elim p2
/-- x[i], x a name: of a list of the slot's own too -/
theorem be_ixV {x : Str} {p0 : Pos} {i : Nat} {k : Expr} {ti : TE} {mi : ME} (hx : PE X (.Name x p0) (tVar i)) (hi : BE X W false k ti mi) (hs : PlainIx k) : BE X W true (.Subscript (.Name x p0) k pos) (tOp (rIx X.K) (tVar i) ti) (m2 dIdx (mVarP i) mi) := by
  refine ⟨pe_ix ix_seq hx hi.pe hs, fun Hs H0s σ H H0 ρ Q rl p => ?_⟩
  cases e : ρ[i]? with
  | none =>
    have : mVarP i ρ = .stuck := by unfold mVarP; rw [e]
    unfold m2 at p
    rw [this] at p
    exact False.elim p
  | some s =>
    cases s with
    | none =>
      have : mVarP i ρ = .stuck := by unfold mVarP; rw [e]
      unfold m2 at p
      rw [this] at p
      exact False.elim p
    | some s =>
      cases s with
      | exc =>
        have : mVarP i ρ = .stuck := by unfold mVarP; rw [e]
        unfold m2 at p
        rw [this] at p
        exact False.elim p
      | sh d =>
        have e1 : mVarP i ρ = mVar i ρ := by unfold mVarP mVar; rw [e]
        have p : Post (Dp X.K) X.K X.mg true H H0 (m2 dIdx (mVar i) mi ρ) Q (WE W σ) := by
          unfold m2 at p ⊢
          rw [← e1]
          exact p
        exact (be_ix (be_var i hx) hi hs (pos := pos)).ev Hs H0s σ H H0 ρ Q rl p
      | own ds =>
        have e1 : mVarP i ρ = .ok (.list ds) := by unfold mVarP; rw [e]
        unfold m2 at p
        rw [e1] at p
        obtain ⟨q, vs, h1, h2, h3, h4, h5⟩ := rl.own _ _ e
        refine ⟨.ref q, h1, hi.ev Hs H0s σ H H0 ρ _ rl ((Post.bind (rel' := Dp X.K) (md' := true) (show Post (Dp X.K) X.K X.mg true H H0 ((mi ρ).bind fun e => dIdx (.list ds) e) Q (WE W σ) from p)).imp ?_)⟩
        rintro u H2 ⟨d2, H02, _, f2, x2, p2⟩
        have h4' := f2.ex _ _ h4
        have h5' := dpAll_mono f2.ez _ _ h5
        unfold dIdx at p2
        split at p2
        · rename_i ea eb
          cases ea
          split at p2
          · rename_i h
            cases x2
            obtain ⟨w, hw, xw⟩ := atI_get h5' h
            exact .inl ⟨_, _, _, w, rfl, rfl, .inl (.inl h4'), hw, p2 w H2 H02 (.refl f2.sb) xw⟩
          · exact False.elim p2
        · rename_i ea eb; cases ea
        · rename_i ea eb; cases ea
        · exact False.elim p2
/-! ### slices -/
def cutG {α : Type} (xs : List α) (lo hi : Option Int) : List α := (xs.drop (HT.sIx xs.length 0 lo)).take (HT.sIx xs.length xs.length hi - HT.sIx xs.length 0 lo)
theorem cut_all {K : PySem.W.Frag} {H : Hp} {xs : List V} {ds : List D} (lo hi : Option Int) (h : DpAll K H xs ds) : DpAll K H (cutV xs lo hi) (cutG ds lo hi) := by
  unfold cutV cutG
  rw [DpAll.length h]
  exact DpAll.take _ (DpAll.drop _ h)
theorem SlR.or {r r' : V → Option Int → Option Int → Hp → VK → Prop} (h : SlR X r) (h' : SlR X r') : SlR X (fun x lo hi H Q => r x lo hi H Q ∨ r' x lo hi H Q) := by
  intro pins s σ H x v vl vu lo hi sl Q I rx hs pl pu q
  rcases q with q | q
  · exact h pins s σ H x v vl vu lo hi sl Q I rx hs pl pu q
  · exact h' pins s σ H x v vl vu lo hi sl Q I rx hs pl pu q
def rSlA (K : PySem.W.Frag) : V → Option Int → Option Int → Hp → VK → Prop := fun x lo hi H Q => rSlL K x lo hi H Q ∨ (rSlT K x lo hi H Q ∨ rSlS x lo hi H Q)
theorem sl_A : SlR X (rSlA X.K) := SlR.or sl_list (SlR.or sl_tup sl_str)
def dSl (d : D) (lo hi : Option Int) : R D := match d with
  | .list ds => .ok (.list (cutG ds lo hi))
  | .tuple ds => if ¬ (HT.sIx ds.length 0 lo = 0 ∧ HT.sIx ds.length ds.length hi = ds.length) then .ok (.tuple (cutG ds lo hi)) else .stuck
  | .str z => if z.cps.toList.length ≤ sizeLine then .ok (.str (S (cutG z.cps.toList lo hi))) else .stuck
  | _ => .stuck
def mSl (mo : ME) (l h : MO) : ME := fun ρ => (mo ρ).bind fun d => (l ρ).bind fun lo => (h ρ).bind fun hi => dSl d lo hi
theorem cutS_eq (z : Str) (lo hi : Option Int) : cutS z lo hi = S (cutG z.cps.toList lo hi) := by
  unfold cutS cutG
  rw [sz_str]
theorem sl_val {v : V} {d : D} {lo hi : Option Int} {H H0 : Hp} {Q : VK} {E : XK} (s : Same H0 H) (x : Dp X.K H0 v d) (p : Post (Dp X.K) X.K X.mg true H H0 (dSl d lo hi) Q E) : rSlA X.K v lo hi H Q := by
  unfold dSl at p
  split at p
  · cases x with
    | lst hl ha => exact .inl ⟨_, _, rfl, s.seq hl, fun q hq => p _ _ _ (Fr.new s hq) (.lst (.inl (.inl upd_same)) (dpAll_mono (Same.new (s.free hq)) _ _ (cut_all lo hi ha)))⟩
  · split at p
    · rename_i h
      cases x with
      | tup hl ha => exact .inr (.inl ⟨_, _, rfl, sqT_mono s hl, by rw [DpAll.length ha]; exact h, fun q hq => p _ _ _ (Fr.new s hq) (.tup (.inl (.inl upd_same)) (dpAll_mono (Same.new (s.free hq)) _ _ (cut_all lo hi ha)))⟩)
    · exact False.elim p
  · split at p
    · rename_i h
      cases x
      exact .inr (.inr ⟨_, rfl, by rw [sz_str]; exact h, by rw [cutS_eq]; exact post_here p s fun _ => .str _⟩)
    · exact False.elim p
  · exact False.elim p
theorem be_sl {o : Expr} {lo hi : Option Expr} {to : TE} {tl th : TO} {mo : ME} {ml mh : MO} {p2 : Pos} (ho : BE X W true o to mo) (hl : BO X W lo tl ml) (hh : BO X W hi th mh) : BE X W true (.Subscript o (.Slice lo hi none p2) pos) (tSl (rSlA X.K) to tl th) (mSl mo ml mh) := by
  refine ⟨pe_slice sl_A ho.pe hl.pe hh.pe, fun Hs H0s σ H H0 ρ Q rl p => ho.ev Hs H0s σ H H0 ρ _ rl ((Post.bind p).imp ?_)⟩
  rintro v H1 ⟨d, H01, _, f1, x1, p1⟩
  refine hl.ev Hs H0s σ H1 H01 ρ _ (rl.step f1) ((Post.bind p1).imp ?_)
  rintro l H2 ⟨l2, H02, _, f2, x2, p2⟩
  replace x2 : l = l2 := x2
  subst x2
  refine hh.ev Hs H0s σ H2 H02 ρ _ ((rl.step f1).step f2) ((Post.bind p2).imp ?_)
  rintro u H3 ⟨u2, H03, _, f3, x3, p3⟩
  replace x3 : u = u2 := x3
  subst x3
  exact sl_val f3.sb (dp_mono (f2.ez.trans f3.ez) _ _ x1) p3
/-- x[..:..], x a name -/
theorem be_slV {x : Str} {p0 : Pos} {i : Nat} {lo hi : Option Expr} {tl th : TO} {ml mh : MO} {p2 : Pos} (hx : PE X (.Name x p0) (tVar i)) (hl : BO X W lo tl ml) (hh : BO X W hi th mh) : BE X W true (.Subscript (.Name x p0) (.Slice lo hi none p2) pos) (tSl (rSlA X.K) (tVar i) tl th) (mSl (mVarP i) ml mh) := by
  refine ⟨pe_slice sl_A hx hl.pe hh.pe, fun Hs H0s σ H H0 ρ Q rl p => ?_⟩
  cases e : ρ[i]? with
  | none =>
    have : mVarP i ρ = .stuck := by unfold mVarP; rw [e]
    unfold mSl at p
    rw [this] at p
    exact False.elim p
  | some s =>
    cases s with
    | none =>
      have : mVarP i ρ = .stuck := by unfold mVarP; rw [e]
      unfold mSl at p
      rw [this] at p
      exact False.elim p
    | some s =>
      cases s with
      | exc =>
        have : mVarP i ρ = .stuck := by unfold mVarP; rw [e]
        unfold mSl at p
        rw [this] at p
        exact False.elim p
      | sh d =>
        have e1 : mVarP i ρ = mVar i ρ := by unfold mVarP mVar; rw [e]
        have p : Post (Dp X.K) X.K X.mg true H H0 (mSl (mVar i) ml mh ρ) Q (WE W σ) := by
          unfold mSl at p ⊢
          rw [← e1]
          exact p
        exact (be_sl (be_var i hx) hl hh (pos := pos) (p2 := p2)).ev Hs H0s σ H H0 ρ Q rl p
      | own ds =>
        have e1 : mVarP i ρ = .ok (.list ds) := by unfold mVarP; rw [e]
        unfold mSl at p
        rw [e1] at p
        obtain ⟨q, vs, h1, h2, h3, h4, h5⟩ := rl.own _ _ e
        refine ⟨.ref q, h1, hl.ev Hs H0s σ H H0 ρ _ rl ((Post.bind (rel' := Dp X.K) (md' := true) (show Post (Dp X.K) X.K X.mg true H H0 ((ml ρ).bind fun lo => (mh ρ).bind fun hi => dSl (.list ds) lo hi) Q (WE W σ) from p)).imp ?_)⟩
        rintro l H2 ⟨l2, H02, _, f2, x2, p2⟩
        replace x2 : l = l2 := x2
        subst x2
        refine hh.ev Hs H0s σ H2 H02 ρ _ (rl.step f2) ((Post.bind p2).imp ?_)
        rintro u H3 ⟨u2, H03, _, f3, x3, p3⟩
        replace x3 : u = u2 := x3
        subst x3
        have f23 := f2.trans f3
        exact .inl ⟨_, _, rfl, .inl (.inl (f23.ex _ _ h4)), fun q hq => p3 _ _ _ (Fr.new f3.sb hq) (.lst (.inl (.inl upd_same)) (dpAll_mono (f23.ez.trans (Same.new (f3.sb.free hq))) _ _ (cut_all _ _ h5)))⟩
end
end DW

end
section
set_option Elab.async false
set_option linter.all false
set_option maxRecDepth 100000
set_option maxHeartbeats 4000000
namespace DW
open PySem PySem.Spec PyProof.Rows L2
open SX (S S_tl S_len S_cat)
section
variable {X : Cx} {W : WX} {md : Bool} {e a b c : Expr} {t ta tb tc te : TE} {m ma mb mc : ME} {pos : Pos}
/-! ### t[::-1] -/
theorem back_ix (n : Nat) : Builtin.Str.strSliceIndices none none (-1) n = (List.range n).map fun k => n - 1 - k := by
  show PySem.sliceRange (if (-1 : Int) > 0 then 0 else (n : Int) - 1) (if (-1 : Int) > 0 then (n : Int) else -1) (-1) = _
  rw [if_neg (by decide), if_neg (by decide)]
  unfold PySem.sliceRange
  dsimp only
  have e1 : (if (-1 : Int) > 0 then (if (n : Int) - 1 < -1 then (-1 - ((n : Int) - 1) + -1 - 1) / -1 else 0) else (if (n : Int) - 1 > -1 then ((n : Int) - 1 - -1 - -1 - 1) / (- -1) else 0)) = n := by
    rw [if_neg (by decide)]
    by_cases h : (n : Int) - 1 > -1
    · rw [if_pos h, show (- -1 : Int) = 1 by decide, Int.ediv_one]; omega
    · rw [if_neg h]; omega
  rw [e1, Int.toNat_natCast]
  refine List.map_congr_left fun k hk => ?_
  have := List.mem_range.mp hk
  omega
theorem fm_map {α β : Type} {f : α → Option β} {g : α → β} : ∀ l : List α, (∀ x ∈ l, f x = some (g x)) → l.filterMap f = l.map g
  | [], _ => rfl
  | x :: l, h => by
    rw [List.filterMap_cons_some (h x List.mem_cons_self), List.map_cons, fm_map l fun y hy => h y (List.mem_cons_of_mem _ hy)]
theorem back_pick (z : Str) : ((List.range z.length).map fun k => z.length - 1 - k).filterMap (z.cps[·]?) = z.cps.toList.reverse := by
  have hl : z.length = z.cps.toList.length := sz_str z
  rw [List.filterMap_map]
  refine List.ext_getElem? fun i => ?_
  have key : (List.range z.length).filterMap ((fun x => z.cps[x]?) ∘ fun k => z.length - 1 - k) = (List.range z.length).map fun k => z.cps.toList.getD (z.length - 1 - k) 0 := by
    refine fm_map _ fun k hk => ?_
    have hk := List.mem_range.mp hk
    show z.cps[z.length - 1 - k]? = some _
    rw [← Array.getElem?_toList, List.getD_eq_getElem?_getD]
    rw [List.getElem?_eq_getElem (show z.length - 1 - k < z.cps.toList.length by omega)]
    rfl
  rw [key, List.getElem?_map]
  by_cases hi : i < z.length
  · rw [List.getElem?_range hi, List.getElem?_reverse (by omega)]
    show some (z.cps.toList.getD (z.length - 1 - i) 0) = _
    rw [List.getD_eq_getElem?_getD, hl, List.getElem?_eq_getElem (show z.cps.toList.length - 1 - i < z.cps.toList.length by omega)]
    rfl
  · rw [List.getElem?_eq_none (by rw [List.length_range]; omega), List.getElem?_eq_none (by rw [List.length_reverse]; omega)]
    rfl
def tRevA (K : PySem.W.Frag) (te : TE) : TE := fun σ H Q => te σ H fun x H1 => (∃ a xs, x = .ref a ∧ SqL K H1 a xs ∧ ∀ p, H1 p = none → Q (.ref p) (upd H1 p (.lst xs.reverse))) ∨ (∃ z, x = .str z ∧ z.length ≤ sizeLine ∧ Q (.str (S z.cps.toList.reverse)) H1)
theorem pe_revA {k : Nat} {p1 p2 p3 : Pos} (he : PE X e te) : PE X (.Subscript e (.Slice none none (some (.UnaryOp .USub (.Constant (.int 1) k p1) p2)) p3) pos) (tRevA X.K te) := by
  refine ⟨fun pins s σ H Q I h => ?_⟩
  refine Subscript_ (thn (he.run pins s σ H _ I h) fun v s1 ⟨x, H1, I1, r1, q1⟩ => ?_)
  have hst : PO X (some (.UnaryOp .USub (.Constant (.int 1) k p1) p2)) (tPart (tUn (rU fun i => .int (-i)) (tC (.int 1)))) := po_some (pe_un un_neg pe_int)
  refine wpAny_Slice (thn (po_none.run pins s1 σ H1 (fun o H2 => o = none ∧ H2 = H1) I1 ⟨rfl, rfl⟩) fun vl s2 ⟨l, H2, I2, pl, el, e2⟩ => ?_)
  subst el e2
  refine thn (po_none.run pins s2 σ H2 (fun o H3 => o = none ∧ H3 = H2) I2 ⟨rfl, rfl⟩) fun vu s3 ⟨u, H3, I3, pu, eu, e3⟩ => ?_
  subst eu e3
  refine thn (hst.run pins s3 σ H3 (fun o H4 => o = some (-1) ∧ H4 = H3) I3 ⟨1, rfl, -1, rfl, rfl, rfl⟩) fun vs s4 ⟨o, H4, I4, ps, eo, e4⟩ => ?_
  subst eo e4
  have I5 : Inv X pins σ H4 { s4 with heap := s4.heap.push { cls := .type "slice", data := .fields #[vl, vu, vs] } } := I4.kept (t' := s4.toks) fun b ob q => Heap.get?_push_of_some _ q
  rcases q1 with ⟨a, xs, rfl, hx, q⟩ | ⟨z, rfl, hz, q⟩
  · cases r1
    obtain ⟨its, r, ht, hzz⟩ := I5.list hx
    have hlen := r.length
    refine tail_any (ops := [.ref a, .ref s4.heap.objs.size]) ht.isList.typeIs (PySem.slot_list_getitem.lookup) ?_ (by with_unfolding_all rfl)
    refine wpAny_getItem_list_slice ht.isList (Heap.IsSliceOf.new _ vl vu vs) pl pu ps (by decide) ?_ (by rw [List.size_toArray]; omega)
    rw [PySem.W.krv_pick]
    refine ⟨.ref _, _, I5.laid (t' := s4.toks) (o := .lst xs.reverse) (fun b ob q => Heap.get?_push_of_some _ q) (Nat.le_refl _) ?_, rfl, q _ (I5.hok.fresh (Nat.le_refl _))⟩
    exact ⟨by rw [List.length_reverse]; exact hzz, _, 0, r.reverse, Heap.get?_push_size _ rfl⟩
  · obtain ⟨tz, rfl⟩ := r1
    refine tail_any (ops := [.str z tz, .ref s4.heap.objs.size]) (typeIs_str _ _ _) F.slot_str_getitem.lookup ?_ (by with_unfolding_all rfl)
    obtain ⟨l', rfl, hl'⟩ := IsPart.raw pl
    obtain ⟨u', rfl, hu'⟩ := IsPart.raw pu
    obtain ⟨s', rfl, hs'⟩ := IsPart.raw ps
    refine wpAny_getItem_str_slice (l := l') (u := u') (st := s') ⟨_, Heap.get?_push_size _ rfl, rfl, rfl⟩ (by rw [hs']; decide) ?_
    unfold sliceMade slicePicked
    rw [hl', hu', hs']
    show Made.post (if ((-1 : Int) == 1 && _) = true then _ else _) _ _
    rw [show ((-1 : Int) == 1) = false from rfl, Bool.false_and, if_neg (by decide)]
    show Made.post (Made.str ⟨((Builtin.Str.strSliceIndices none none (-1) z.length).filterMap (z.cps[·]?)).toArray⟩) _ _
    rw [back_ix, back_pick]
    exact ⟨by show (S z.cps.toList.reverse).length ≤ sizeLine; rw [S_len, List.length_reverse, ← sz_str]; exact hz, .str _, H4, I5.tok _, ⟨_, rfl⟩, q⟩
def dRev : D → R D
  | .list ds => .ok (.list ds.reverse)
  | .str z => if z.cps.toList.length ≤ sizeLine then .ok (.str (S z.cps.toList.reverse)) else .stuck
  | _ => .stuck
theorem be_rev {k : Nat} {p1 p2 p3 : Pos} (h : BE X W true e te m) : BE X W true (.Subscript e (.Slice none none (some (.UnaryOp .USub (.Constant (.int 1) k p1) p2)) p3) pos) (tRevA X.K te) (m1 dRev m) := by
  refine ⟨pe_revA h.pe, fun Hs H0s σ H H0 ρ Q rl p => h.ev Hs H0s σ H H0 ρ _ rl ((Post.bind p).imp ?_)⟩
  rintro v H1 ⟨d, H01, _, f1, x1, p1⟩
  unfold dRev at p1
  split at p1
  · cases x1 with
    | lst hl ha => exact .inl ⟨_, _, rfl, f1.sb.seq hl, fun q hq => p1 _ _ _ (Fr.new f1.sb hq) (.lst (.inl (.inl upd_same)) (dpAll_mono (Same.new (f1.sb.free hq)) _ _ (DpAll.reverse ha)))⟩
  · split at p1
    · rename_i hz
      cases x1
      exact .inr ⟨_, rfl, by rw [sz_str]; exact hz, p1 _ H1 H01 (.refl f1.sb) (.str _)⟩
    · exact False.elim p1
  · exact False.elim p1

/-! ### a written dict with text keys -/
/-- the table: its keys and what they hold -/
structure Tab (K : PySem.W.Frag) (w : World) (d : Addr) (tb : List (Str × D)) : Prop where
  kd : ∃ es n, KDict K w d es n
  no : ∀ z, tb.lookup z = none → PySem.W.nsIn K d z = some none
  yes : ∀ z v, tb.lookup z = some v → ∃ (u : Value) (x : V), PySem.W.nsIn K d z = some (some u) ∧ RelV x u ∧ ∀ H, Dp K H x v
def dTabIn (tb : List (Str × D)) : D → R D
  | .str z => .ok (.bool (tb.lookup z).isSome)
  | _ => .stuck
def dTabNi (tb : List (Str × D)) : D → R D
  | .str z => .ok (.bool (!(tb.lookup z).isSome))
  | _ => .stuck
def dTabAt (tb : List (Str × D)) : D → R D
  | .str z => match tb.lookup z with
    | some v => .ok v
    | none => .stuck
  | _ => .stuck
abbrev rTabIn (K : PySem.W.Frag) (d : Addr) : R2 := fun x y H Q => ∃ (z : Str) (r : Option Value), x = .str z ∧ y = .ref d ∧ PySem.W.nsIn K d z = some r ∧ Q (.bl r.isSome) H
abbrev rTabNi (K : PySem.W.Frag) (d : Addr) : R2 := fun x y H Q => ∃ (z : Str) (r : Option Value), x = .str z ∧ y = .ref d ∧ PySem.W.nsIn K d z = some r ∧ Q (.bl (!r.isSome)) H
variable {tb : List (Str × D)} {d : Addr} {x : Str} {p0 : Pos}
theorem Tab.ns {K : PySem.W.Frag} {w : World} (T : Tab K w d tb) (z : Str) : ∃ r, PySem.W.nsIn K d z = some r ∧ r.isSome = (tb.lookup z).isSome := by
  cases q : tb.lookup z with
  | none => exact ⟨none, T.no z q, rfl⟩
  | some v =>
    obtain ⟨u, y, h, _⟩ := T.yes z v q
    exact ⟨some u, h, rfl⟩
theorem bt_tabIn (T : Tab X.K X.w d tb) (h : BE X W false e te m) (hd : PE X (.Name x p0) (tC (.ref d))) (hm : behindInMarks .In (.Name x p0) = false := by rfl) : BT X W (.Compare e [.In] [.Name x p0] pos) (tTest (tOp (rTabIn X.K d) te (tC (.ref d)))) (mT (m1 (dTabIn tb) m)) := by
  obtain ⟨es, n, kd⟩ := T.kd
  refine ⟨pt_cmpR (op_in_kd kd) h.pe hd hm, fun Hs H0s σ H H0 ρ Q rl p => h.ev Hs H0s σ H H0 ρ _ rl ((Post.bind (rel := Dp X.K) (md := false) (post_asB p)).imp ?_)⟩
  rintro v H1 ⟨dd, H01, _, f1, x1, p1⟩
  cases dd with
  | str z =>
    cases x1
    obtain ⟨r, h1, h2⟩ := T.ns z
    refine ⟨z, r, rfl, rfl, h1, ?_⟩
    rw [h2]
    exact p1 _ H1 H01 (.refl f1.sb) (.bl _)
  | _ => exact False.elim p1
theorem bt_tabNi (T : Tab X.K X.w d tb) (h : BE X W false e te m) (hd : PE X (.Name x p0) (tC (.ref d))) (hm : behindInMarks .NotIn (.Name x p0) = false := by rfl) : BT X W (.Compare e [.NotIn] [.Name x p0] pos) (tTest (tOp (rTabNi X.K d) te (tC (.ref d)))) (mT (m1 (dTabNi tb) m)) := by
  obtain ⟨es, n, kd⟩ := T.kd
  refine ⟨pt_cmpR (op_notIn_kd kd) h.pe hd hm, fun Hs H0s σ H H0 ρ Q rl p => h.ev Hs H0s σ H H0 ρ _ rl ((Post.bind (rel := Dp X.K) (md := false) (post_asB p)).imp ?_)⟩
  rintro v H1 ⟨dd, H01, _, f1, x1, p1⟩
  cases dd with
  | str z =>
    cases x1
    obtain ⟨r, h1, h2⟩ := T.ns z
    refine ⟨z, r, rfl, rfl, h1, ?_⟩
    rw [h2]
    exact p1 _ H1 H01 (.refl f1.sb) (.bl _)
  | _ => exact False.elim p1
/-- T[e] -/
theorem be_tab (T : Tab X.K X.w d tb) (hd : PE X (.Name x p0) (tC (.ref d))) (h : BE X W false e te m) (hs : PlainIx e) : BE X W true (.Subscript (.Name x p0) e pos) (tOp (rIxD X.K X.w) (tC (.ref d)) te) (m1 (dTabAt tb) m) := by
  refine ⟨pe_ix ix_kdict hd h.pe hs, fun Hs H0s σ H H0 ρ Q rl p => h.ev Hs H0s σ H H0 ρ _ rl ((Post.bind p).imp ?_)⟩
  rintro v H1 ⟨dd, H01, _, f1, x1, p1⟩
  cases dd with
  | str z =>
    cases x1
    have p1 : Post (Dp X.K) X.K X.mg true H1 H01 (match tb.lookup z with | some v => .ok v | none => .stuck) Q (WE W σ) := p1
    cases q : tb.lookup z with
    | none => rw [q] at p1; exact False.elim p1
    | some w =>
      rw [q] at p1
      obtain ⟨u, y, h1, h2, h3⟩ := T.yes z w q
      obtain ⟨es, n, kd⟩ := T.kd
      exact ⟨d, z, y, rfl, rfl, ⟨es, n, u, kd.at_, kd.lit, h1, h2⟩, p1 _ H1 H01 (.refl f1.sb) (h3 _)⟩
  | _ => exact False.elim p1
end
end DW

end
section
set_option Elab.async false
set_option linter.all false
set_option maxRecDepth 100000
set_option maxHeartbeats 4000000
namespace DW
open PySem PySem.Spec PyProof.Rows L2
open SX (S S_tl S_len S_cat)
section
variable {X : Cx} {W : WX} {md : Bool} {e a b c : Expr} {t ta tb tc te : TE} {m ma mb mc : ME} {pos : Pos} {x : Str} {pos' : Pos}
theorem bs_set (i : Nat) (h : BE X W true e t m) (hN : X.N.Nodup) (hi : X.N[i]? = some x) (hx : L2.Loc X.env.scope x) (hs : swapsWith e (some (.Name x pos')) pos.line X.env = pure false := by rfl) (hf : X.fn x = true ∨ X.env.scope.names.lookup x = some .local := by first | exact .inl rfl | exact .inr rfl) :
    BS X W (.Assign [.Name x pos'] e pos) (tAsg t (gName i)) (sAsg (gN i) m) :=
  bs_asg h (bg_name i (pg_name hN hi hx hf)) (ps_set hN hi hx h.pe hs hf)
theorem bs_setOwn (i : Nat) {mm : MA} (h : BN X W e t mm) (hN : X.N.Nodup) (hi : X.N[i]? = some x) (hx : L2.Loc X.env.scope x) (hs : swapsWith e (some (.Name x pos')) pos.line X.env = pure false := by rfl) (hf : X.fn x = true ∨ X.env.scope.names.lookup x = some .local := by first | exact .inl rfl | exact .inr rfl) :
    BS X W (.Assign [.Name x pos'] e pos) (tAsg t (gName i)) (sOwn i mm) :=
  bs_own h (ps_set hN hi hx h.pe hs hf)
theorem bs_setT {tg : Expr} {g : TG} {mt : D → En → R En} {sl : List Nat} (h : BE X W true e t m) (hg : BG X tg g sl mt) (hs : swapsWithSole [tg] e pos.line X.env = pure false := by rfl) (hw : swappedStores [tg] e X.env = pure none := by rfl)
    (h3 : (assignEach [tg] X.env).map (·.2) = [assign tg X.env] := by rfl) : BS X W (.Assign [tg] e pos) (tAsg t g) (sAsg mt m) := bs_asg h hg (ps_asg h.pe hg.pe hs hw h3)
def dAddI : D → D → R D
  | .int i, .int j => .ok (.int (i + j))
  | _, _ => .stuck
theorem bs_addI (i : Nat) (h : BE X W true e t m) (hN : X.N.Nodup) (hi : X.N[i]? = some x) (hx : L2.Loc X.env.scope x) (hf : X.fn x = true ∨ X.env.scope.names.lookup x = some .local := by first | exact .inl rfl | exact .inr rfl) :
    BS X W (.AugAssign (.Name x pos') .Add e pos) (tAug i t (ipI fun i j => i + j)) (sAsg (gN i) (m2 dAddI (mVar i) m)) := by
  refine bs_aug (md := true) dAddI (ps_aug hN hi hx h.pe ip_add hf) ?_ h (fun _ => rfl)
  intro x y d e H H0 Q E s hx hy p
  unfold dAddI at p
  split at p
  · cases dp_md s hx; cases dp_md s hy; exact ⟨_, _, rfl, rfl, post_here p s fun _ => .int _⟩
  · exact False.elim p
theorem bs_appN {i : Nat} {p0 p1 : Pos} (h : BE X W true e t m) (hx : PE X (.Name x p0) (tVar i)) (hb1 : attributeBase (.Name x p0) "append" X.env (eval (.Name x p0) X.env) = eval (.Name x p0) X.env := by rfl)
    (pe : PE X (.Call (.Attribute (.Name x p0) "append" p1) [e] [] pos) (tBM X.K "list" rAppend (tVar i) (tCons t tNil))) (hs : swapsWith (.Call (.Attribute (.Name x p0) "append" p1) [e] [] pos) none pos.line X.env = pure false := by rfl) :
    BS X W (.Expr (.Call (.Attribute (.Name x p0) "append" p1) [e] [] pos) pos) (tDrop (tBM X.K "list" rAppend (tVar i) (tCons t tNil))) (sApp i m) :=
  bs_app h (ps_expr pe hs)
/-- an own error class -/
structure ExcF (K : PySem.W.Frag) (mg : Str → Option Value) (x : Str) (C : Addr) : Prop where
  g : mg x = some (.ref C)
  xi : PySem.W.excIn K C [.type "ValueError", .type "Exception", .type "BaseException", .type "object"] "ValueError.__new__" = true
  kp : PySem.W.keepIn K (.ref C) = true
  sb : PySem.W.subIn K (.ref C) (.type "BaseException") = some true
  ty : PySem.W.typeIn K (.ref C) = some (.type "type")
theorem bs_raiseS {C : Addr} {ms : Str} {j : Nat} {p p2 p3 : Pos} (F : ExcF X.K X.mg x C) (hc : X.calm = true) (tk : Takes X W) (hg : Gl X x) (hdb : (x == ("__debug__" : Str)) = false := by decide) :
    BS X W (.Raise (some (.Call (.Name x p) [.Constant (.str ms) j p2] [] p3)) none pos) (fun _ σ H => W (.ref C) none σ H) (sRaise x) :=
  bs_raise F.g (ps_raise hc tk (pmk_own PySem.F.excBase_ValueError F.xi F.g F.kp (raises_own F.sb F.ty) hg hdb))
end

/-! ### a def by its mirror -/
def startD (n : Nat) (ds : List D) : En := ds.map (fun d => some (.sh d)) ++ List.replicate (n - ds.length) none
def fin : O → R D
  | .nx _ => .ok .none
  | .rt d => .ok d
  | .err e _ => .err e
  | _ => .stuck
def runDef (n : Nat) (m : MS) : List D → R D := fun ds => fin (m (startD n ds))
structure FD (K : PySem.W.Frag) (mg : Str → Option Value) (x : Str) (st : Stmt) : Prop where
  ex : ∃ f fd, Fun K x x st f fd ∧ mg x = some (.ref f)
section
variable {P : Program} {w : World} {K : PySem.W.Frag} {mg : Str → Option Value} {base : Heap}
theorem start_rel {K : PySem.W.Frag} {ea : Addr} {H H0 : Hp} {N : List Str} {vs : List V} {ds : List D} (s : Same H0 H) (h : DpAll K H0 vs ds) (hn : ds.length ≤ N.length) : Rel K ea H H0 (L2.start N vs) H H0 (startD N.length ds) := by
  have hl := DpAll.length h
  have at_ : ∀ (i : Nat) (y : SD), (startD N.length ds)[i]? = some (some y) → ∃ d, ds[i]? = some d ∧ y = .sh d := fun i y e => by
    unfold startD at e
    by_cases hi : i < ds.length
    · rw [List.getElem?_append_left (by rw [List.length_map]; exact hi), List.getElem?_map, List.getElem?_eq_getElem hi] at e
      cases e
      exact ⟨_, List.getElem?_eq_getElem hi, rfl⟩
    · rw [List.getElem?_append_right (by rw [List.length_map]; omega), List.getElem?_replicate] at e
      split at e <;> cases e
  refine ⟨.refl s, ?_, fun i d e => ?_, fun i es e => ?_, fun i j es fs p _ e _ _ _ => ?_, fun i e => ?_⟩
  · unfold L2.start startD
    rw [List.length_append, List.length_append, List.length_map, List.length_map, List.length_replicate, List.length_replicate, hl]
  · obtain ⟨d', h1, h2⟩ := at_ i _ e
    cases h2
    obtain ⟨v, hv, x⟩ := DpAll.get h h1
    refine ⟨v, ?_, x⟩
    unfold L2.start
    have hi : i < vs.length := (List.getElem?_eq_some_iff.mp hv).1
    rw [List.getElem?_append_left (by rw [List.length_map]; exact hi), List.getElem?_map, hv]
    rfl
  · obtain ⟨d', h1, h2⟩ := at_ i _ e
    cases h2
  · obtain ⟨d', h1, h2⟩ := at_ i _ e
    cases h2
  · obtain ⟨d', h1, h2⟩ := at_ i _ e
    cases h2
theorem mk_def {x : Str} {st : Stmt} {N ps : List Str} {k : Nat} {mb : MS} (F : FD K mg x st) (S : FnScope N ps (defScope st)) (hn : ps.length ≤ N.length)
    (hb : ∀ (kV doc pm : Value) (an : Option Addr) (cdv ct : Value) (us : List Value), us.length = ps.length → bindArgs (PySem.W.fnOf x x (defArgs st) (defBody st) (defScope st) .none kV doc pm an cdv ct) ⟨us, []⟩ = pure (ps.zip us))
    (hbody : ∀ (f : Addr) (cdv : Value) (A : Around) (outer : List Env) (s : Shared) (H : Hp) (E : XK), Room k (A.deeper (envOfC x (defScope st) s.heap.objs.size f cdv)) →
      ∃ t, BSs (cxOf (L2.CX P w) P w K mg base N x (defScope st) f cdv A outer s H E) (fun cls d _ H => E cls d H) (defBody st) t mb) : Def P w K mg base x ps (k + 1) (runDef N.length mb) := by
  obtain ⟨f, fd, F, g⟩ := F.ex
  refine ⟨f, fd, F.okX S (fun vs H Q E h => ?_) (fun cdv A outer s H vs Q E hr h => ?_), g, F.kp, F.binds hb⟩
  · obtain ⟨H0, ds, _, h1, h2, _⟩ := h
    rw [DpAll.length h1, h2]
  · obtain ⟨H0, ds, sm, h1, h2, p⟩ := h
    obtain ⟨t, ht⟩ := hbody f cdv A outer s H E hr
    refine ⟨t, ht.pe, ht.ev H H0 (L2.start N vs) H H0 (startD N.length ds) _ (start_rel sm h1 (by omega)) ?_⟩
    have p : Post (Dp K) K mg true H H0 (fin (mb (startD N.length ds))) Q E := p
    show PostS K mg _ H H0 (mb (startD N.length ds)) _ _
    cases q : mb (startD N.length ds) with
    | nx ρ => rw [q] at p; exact fun σ H' H0' r => p .non H' H0' r.fr .non
    | rt d => rw [q] at p; exact fun v H' H0' f x => p v H' H0' f x
    | err e ρ => rw [q] at p; exact fun σ H' H0' r => p H' H0' r.fr
    | bk ρ => rw [q] at p; exact False.elim p
    | ct ρ => rw [q] at p; exact False.elim p
    | stuck => rw [q] at p; exact False.elim p
end
end DW

end
section
set_option Elab.async false
set_option linter.all false
set_option maxRecDepth 100000
set_option maxHeartbeats 4000000
namespace DW
open PySem PySem.Spec PyProof.Rows L2
open SX (S S_tl S_len S_cat)
section
variable {X : Cx} {W : WX} {md : Bool} {e a b c : Expr} {t ta tb tc te : TE} {m ma mb mc : ME} {pos : Pos} {x : Str} {pos' : Pos}
theorem bs_appS {i : Nat} {p0 p1 cpos : Pos} (h : BE X W true e t m) (hx : PE X (.Name x p0) (tVar i)) (hbase : attributeBase (.Name x p0) "append" X.env (eval (.Name x p0) X.env) = eval (.Name x p0) X.env := by rfl)
    (hall : ((((backTo cpos (starEach (e :: []) X.env)).all fun x => !x.fst) && (backToKw cpos (keywordEach [] X.env)).all fun x => x.fst.isSome) && decide (((e :: []).length + ([] : List Keyword).length + if ([] : List Keyword).isEmpty = true then 0 else 1) < 30)) = true := by rfl)
    (hline : (p1.endLine == cpos.line) = true := by rfl) (he : starEach (e :: []) X.env = (false, eval e X.env) :: starEach [] X.env := by rfl) (hpl : ((backTo cpos (starEach [] X.env)).any fun x => x.fst) = false := by rfl)
    (hs : swapsWith (.Call (.Attribute (.Name x p0) "append" p1) [e] [] cpos) none pos.line X.env = pure false := by rfl) :
    BS X W (.Expr (.Call (.Attribute (.Name x p0) "append" p1) [e] [] cpos) pos) (tDrop (tBM X.K "list" rAppend (tVar i) (tCons t tNil))) (sApp i m) := by
  refine ⟨ps_expr (pe_bm PySem.F.plainAttrs_list PySem.F.slot_list_append PySem.F.type_list_append mt_append hx (pa_cons h.pe pa_nil he) hbase hall hline he hpl) hs, fun Hs H0s σ H H0 ρ D rl p => ?_⟩
  unfold sApp at p
  split at p
  · rename_i ds e1
    obtain ⟨q, vs, h1, h2, h3, h4, h5⟩ := rl.own _ _ e1
    refine ⟨.ref q, h1, .inl ⟨rfl, _, .inl (.inl h4)⟩, h.ev Hs H0s σ H H0 ρ _ rl ((PostS.of p rl).imp ?_)⟩
    rintro v H1 ⟨d, H01, _, f1, x1, p1⟩
    split at p1
    · rename_i hl
      have h4' := f1.ex _ _ h4
      refine ⟨q, vs, v, rfl, rfl, h4', by rw [DpAll.length h5]; exact hl, ?_⟩
      exact p1 σ _ H01 ((rl.step f1).write e1 h1 (DpAll.append (dpAll_mono f1.ez _ _ h5) (.cons x1 .nil)))
    · exact False.elim p1
  · exact False.elim p
theorem bs_popS {i : Nat} {p0 p1 cpos : Pos} (hx : PE X (.Name x p0) (tVar i)) (hbase : attributeBase (.Name x p0) "pop" X.env (eval (.Name x p0) X.env) = eval (.Name x p0) X.env := by rfl) (hline : (p1.endLine == cpos.line) = true := by rfl)
    (hs : swapsWith (.Call (.Attribute (.Name x p0) "pop" p1) [] [] cpos) none pos.line X.env = pure false := by rfl) :
    BS X W (.Expr (.Call (.Attribute (.Name x p0) "pop" p1) [] [] cpos) pos) (tDrop (tBM0 X.K "list" rPop (tVar i))) (sPop i) := by
  refine ⟨ps_expr (pe_bm0 PySem.F.plainAttrs_list PySem.F.slot_list_pop PySem.F.type_list_pop mt_pop hx hbase hline) hs, fun Hs H0s σ H H0 ρ D rl p => ?_⟩
  unfold sPop at p
  split at p
  · rename_i ds e1
    obtain ⟨q, vs, h1, h2, h3, h4, h5⟩ := rl.own _ _ e1
    split at p
    · rename_i d e2
      obtain ⟨y, hy, _⟩ := DpAll.get h5 e2
      refine ⟨.ref q, h1, .inl ⟨rfl, _, .inl (.inl h4)⟩, q, vs, y, rfl, rfl, h4, by rw [DpAll.length h5]; exact hy, ?_⟩
      exact p σ _ H0 (rl.write e1 h1 (DpAll.dropLast h5))
    · exact False.elim p
  · exact False.elim p
theorem bs_popToS (i j : Nat) {y : Str} {p0 p1 cpos : Pos} (hx : PE X (.Name y p0) (tVar i)) (hN : X.N.Nodup) (hi : X.N[j]? = some x) (hlx : L2.Loc X.env.scope x) (hbase : attributeBase (.Name y p0) "pop" X.env (eval (.Name y p0) X.env) = eval (.Name y p0) X.env := by rfl) (hline : (p1.endLine == cpos.line) = true := by rfl)
    (hs : swapsWith (.Call (.Attribute (.Name y p0) "pop" p1) [] [] cpos) (some (.Name x pos')) pos.line X.env = pure false := by rfl) (hf : X.fn x = true ∨ X.env.scope.names.lookup x = some .local := by first | exact .inl rfl | exact .inr rfl) :
    BS X W (.Assign [.Name x pos'] (.Call (.Attribute (.Name y p0) "pop" p1) [] [] cpos) pos) (tAsg (tBM0 X.K "list" rPop (tVar i)) (gName j)) (sPopTo j i) :=
  bs_popTo (ps_set hN hi hlx (pe_bm0 PySem.F.plainAttrs_list PySem.F.slot_list_pop PySem.F.type_list_pop mt_pop hx hbase hline) hs hf)
theorem bs_setIxS {i : Nat} {k : Expr} {tk : TE} {mi : ME} {p0 p1 : Pos} (hv : BE X W true e t m) (hi : BE X W true k tk mi) (hx : PE X (.Name x p0) (tVar i)) 
    (ha : ∀ v, assign (.Subscript (.Name x p0) k p1) X.env v = (do
      let ov ← holding [v] (eval (.Name x p0) X.env)
      let iv ← holding [v, ov] (eval k X.env)
      standAt p1
      holding [v, ov, iv] (setItem ov iv v)
      release [v, ov, iv] []) := by intro _; rfl)
    (hs : swapsWithSole [.Subscript (.Name x p0) k p1] e pos.line X.env = pure false := by rfl) (hw : swappedStores [.Subscript (.Name x p0) k p1] e X.env = pure none := by rfl)
    (h3 : (assignEach [.Subscript (.Name x p0) k p1] X.env).map (·.2) = [assign (.Subscript (.Name x p0) k p1) X.env] := by rfl) :
    BS X W (.Assign [.Subscript (.Name x p0) k p1] e pos) (tAsg t (gSub (tVar i) tk rSetL)) (sSetIx i mi m) :=
  bs_setIx hv hi (ps_asg hv.pe (pg_sub hx hi.pe set_list ha) hs hw h3)
theorem be_join0S {p0 : Pos} {k : Nat} {apos : Pos} (h : BE X W md e te m) (hs : starEach [e] X.env = [(false, eval e X.env)] := by rfl) (hbase : attributeBase (.Constant (.str "") k p0) "join" X.env (eval (.Constant (.str "") k p0) X.env) = eval (.Constant (.str "") k p0) X.env := by rfl) (hline : (apos.endLine == pos.line) = true := by rfl) :
    BE X W true (.Call (.Attribute (.Constant (.str "") k p0) "join" apos) [e] [] pos) (tM1
      (fun x xs H Q => ∃ a p, ∃ ys : List Str, x = .str a ∧ xs = [.ref p] ∧ (SqL X.K H p (ys.map V.str) ∨ SqT X.K H p (ys.map V.str)) ∧ (ys.map (·.length)).sum + ys.length * a.length ≤ 16777216 ∧ Q (.str (Txt.join a ys)) H) (tC (.str "")) te) (m1 dJoin0 m) :=
  be_join0 (p1 := p0) h (pe_join pe_str h.pe hs hbase hline)
def mIsE (i : Nat) (b : Bool) : ME := fun ρ => match ρ[i]? with
  | some (some .exc) => .ok (.bool b)
  | _ => .stuck
end
/-- isinstance of an error of the class D, asked of the class u -/
structure IsEF (K : PySem.W.Frag) (mg : Str → Option Value) (x : Str) (Dc : Addr) (u : Value) (b : Bool) : Prop where
  g : mg x = some (.ref Dc)
  ex : ExcC K Dc
  ki : PySem.W.kitOne K (.ref Dc) u = some b
structure CatchF (K : PySem.W.Frag) (mg : Str → Option Value) (x : Str) (C : Addr) (sub : Str → Str → Option Bool) : Prop where
  c : Catch K mg x C (sub x)
section
variable {P : Program} {w : World} {K : PySem.W.Frag} {mg : Str → Option Value} {base : Heap}
theorem mk_fn {x : Str} {st : Stmt} {f : Addr} {fd : FuncData} {N ps : List Str} {k : Nat} {mb : MS} (F : Fun K x x st f fd) (S : FnScope N ps (defScope st)) (hn : ps.length ≤ N.length)
    (hbody : ∀ (f : Addr) (cdv : Value) (A : Around) (outer : List Env) (s : Shared) (H : Hp) (E : XK), Room k (A.deeper (envOfC x (defScope st) s.heap.objs.size f cdv)) →
      ∃ t, BSs (cxOf (L2.CX P w) P w K mg base N x (defScope st) f cdv A outer s H E) (fun cls d _ H => E cls d H) (defBody st) t mb) : FnOk P w K mg base (L2.CX P w) (k + 1) f fd ps (spM K mg ps.length (runDef N.length mb)) := by
  refine F.okX S (fun vs H Q E h => ?_) (fun cdv A outer s H vs Q E hr h => ?_)
  · obtain ⟨H0, ds, _, h1, h2, _⟩ := h
    rw [DpAll.length h1, h2]
  · obtain ⟨H0, ds, sm, h1, h2, p⟩ := h
    obtain ⟨t, ht⟩ := hbody f cdv A outer s H E hr
    refine ⟨t, ht.pe, ht.ev H H0 (L2.start N vs) H H0 (startD N.length ds) _ (start_rel sm h1 (by omega)) ?_⟩
    have p : Post (Dp K) K mg true H H0 (fin (mb (startD N.length ds))) Q E := p
    show PostS K mg _ H H0 (mb (startD N.length ds)) _ _
    cases q : mb (startD N.length ds) with
    | nx ρ => rw [q] at p; exact fun σ H' H0' r => p .non H' H0' r.fr .non
    | rt d => rw [q] at p; exact fun v H' H0' f x => p v H' H0' f x
    | err e ρ => rw [q] at p; exact fun σ H' H0' r => p H' H0' r.fr
    | bk ρ => rw [q] at p; exact False.elim p
    | ct ρ => rw [q] at p; exact False.elim p
    | stuck => rw [q] at p; exact False.elim p
/-- the law's promise -/
def spLaw (K : PySem.W.Frag) (f : List D → R D) : Sp := fun vs H Q _ => ∃ (a : Addr) (ns : List Int), vs = [.ref a] ∧ SqL K H a (ns.map V.int) ∧ f [.list (ns.map PyData.int)] = .ok (.bool true) ∧ ∀ H', Q (.bl true) H'
theorem ints_all {H : Hp} : ∀ ns : List Int, DpAll K H (ns.map V.int) (ns.map PyData.int)
  | [] => .nil
  | n :: ns => .cons (.int n) (ints_all ns)
theorem law_fn {f : Addr} {fd : FuncData} {k : Nat} {g : List D → R D} {x : Str} (F : FnOk P w K mg base (L2.CX P w) k f fd [x] (spM K mg 1 g)) : FnOk P w K mg base (L2.CX P w) k f fd [x] (spLaw K g) :=
  F.imp fun vs H Q E ⟨a, ns, e1, h, e2, q⟩ => ⟨H, [.list (ns.map PyData.int)], Same.refl _, by rw [e1]; exact .cons (.lst h (ints_all ns)) .nil, rfl, by
    rw [e2]
    intro v H' H0' f x
    cases x
    exact q H'⟩
theorem cx_never {H : Hp} {s s' : Shared} {e : Value} (h : L2.CX P w [] H s (fun _ _ _ => False) e s') : False := by
  obtain ⟨_, _, _, _, _, _, _, _, _, _, _, _, z⟩ := h
  exact z
end
end DW
namespace DW
open PySem PySem.Spec PyProof.Rows L2
/-- the entries of a written dict, by a table -/
inductive TabIs : List DictEntry → List (Str × D) → Prop
  | nil : TabIs [] []
  | cons {e : DictEntry} {k : Str} {t : Tok} {x : V} {v : D} {es : List DictEntry} {tb : List (Str × D)} (hk : e.key = .str k t) (hv : RelV x e.val) (hd : ∀ K H, Dp K H x v) (r : TabIs es tb) : TabIs (e :: es) ((k, v) :: tb)
theorem isStr_str (k z : Str) (t : Tok) : (Value.str k t).isStr z = (k == z) := rfl
theorem TabIs.find {K : PySem.W.Frag} : ∀ {es : List DictEntry} {tb : List (Str × D)}, TabIs es tb → ∀ z : Str,
    (tb.lookup z = none → es.find? (fun x => x.key.isStr z) = none) ∧ ∀ v, tb.lookup z = some v → ∃ e x, es.find? (fun x => x.key.isStr z) = some e ∧ RelV x e.val ∧ ∀ H, Dp K H x v
  | _, _, .nil, z => ⟨fun _ => rfl, fun v h => nomatch h⟩
  | _, _, .cons (e := e) (k := k) (t := t) (x := x) (v := v) (es := es) (tb := tb) hk hv hd r, z => by
    obtain ⟨i1, i2⟩ := TabIs.find (K := K) r z
    have e1 : e.key.isStr z = (k == z) := by rw [hk, isStr_str]
    by_cases hz : k = z
    · subst hz
      refine ⟨fun h => ?_, fun v' h => ?_⟩
      · rw [List.lookup_cons, beq_self_eq_true] at h; cases h
      · rw [List.lookup_cons, beq_self_eq_true] at h
        cases h
        refine ⟨e, x, ?_, hv, hd K⟩
        rw [List.find?_cons_of_pos (by rw [e1]; exact beq_self_eq_true _)]
    · have n1 : (k == z) = false := beq_false_of_ne hz
      have n2 : (z == k) = false := beq_false_of_ne fun q => hz q.symm
      have e2 : (e :: es).find? (fun x => x.key.isStr z) = es.find? (fun x => x.key.isStr z) := List.find?_cons_of_neg (by rw [e1, n1]; exact Bool.false_ne_true)
      have e3 : ((k, v) :: tb).lookup z = tb.lookup z := by rw [List.lookup_cons, n2]
      rw [e2, e3]
      exact ⟨i1, i2⟩
theorem TabIs.noref : ∀ {es : List DictEntry} {tb : List (Str × D)}, TabIs es tb → (es.any fun x => x.refKey) = false
  | _, _, .nil => rfl
  | _, _, .cons (e := e) (k := k) (t := t) (es := es) hk _ _ r => by
    rw [List.any_cons, TabIs.noref r, Bool.or_false]
    unfold DictEntry.refKey
    rw [hk]
theorem tab_of {K : PySem.W.Frag} {w : World} {d : Addr} {es : Array DictEntry} {n : Nat} {tb : List (Str × D)} (hl : K.lookup d = some ⟨.type "dict", none, .dict es n, #[]⟩) (hk : PySem.W.KeysLit w.params es.toList) (hw : (d == sysModules) = false) (ht : TabIs es.toList tb) : Tab K w d tb := by
  refine ⟨⟨es, n, hl, hk, hw⟩, fun z h => ?_, fun z v h => ?_⟩
  · unfold PySem.W.nsIn
    rw [show List.lookup d K = _ from hl]
    dsimp only
    rw [(ht.find (K := K) z).1 h, ht.noref]
    rfl
  · obtain ⟨e, x, h1, h2, h3⟩ := (ht.find (K := K) z).2 v h
    refine ⟨e.val, x, ?_, h2, h3⟩
    unfold PySem.W.nsIn
    rw [show List.lookup d K = _ from hl]
    dsimp only
    rw [h1]
end DW
namespace DW
open PySem PySem.Spec PyProof.Rows L2
theorem kit_excT {K : PySem.W.Frag} {C : Addr} {T : String} {b : Bool} (hm : PySem.W.kitMeta T = true) (hs : PySem.W.subIn K (.ref C) (.type T) = some b) : PySem.W.kitOne K (.ref C) (.type T) = some b := by
  unfold PySem.W.kitOne
  rw [if_neg (by simp)]
  show (if PySem.W.kitMeta T = true then PySem.W.subIn K (.ref C) (.type T) else none) = some b
  rw [if_pos hm]
  exact hs
theorem kit_excS {K : PySem.W.Frag} {C : Addr} : PySem.W.kitOne K (.ref C) (.ref C) = some true := by
  unfold PySem.W.kitOne
  rw [if_pos (by simp)]
theorem kit_excR {K : PySem.W.Frag} {C E : Addr} {b : Bool} (hne : (C == E) = false) (hc : (PySem.W.clsIn K E).isSome = true) (ht : PySem.W.typeIn K (.ref E) = some (.type "type")) (hs : PySem.W.subIn K (.ref C) (.ref E) = some b) : PySem.W.kitOne K (.ref C) (.ref E) = some b := by
  unfold PySem.W.kitOne
  have h1 : (Value.ref C == Value.ref E) = false := by
    have : C ≠ E := fun h => by rw [h, beq_self_eq_true] at hne; cases hne
    simp [this]
  rw [h1, if_neg Bool.false_ne_true]
  show (if ((PySem.W.clsIn K E).isSome && PySem.W.typeIn K (.ref E) == some (.type "type")) = true then PySem.W.subIn K (.ref C) (.ref E) else none) = some b
  rw [hc, ht, if_pos (by decide)]
  exact hs
/-- what a clause catches, name by name -/
theorem catch_of {K : PySem.W.Frag} {mg : Str → Option Value} {x : Str} {C : Addr} {l : List (Str × Bool)} {sub : Str → Option Bool} (g : mg x = some (.ref C)) (hs : ∀ n, sub n = l.lookup n) (h : ∀ n b, l.lookup n = some b → ∃ D, mg n = some (.ref D) ∧ PySem.W.exmOne K (.ref D) (.ref C) = some b) : Catch K mg x C sub :=
  ⟨g, fun n b C' e hm => by
    rw [hs n] at e
    obtain ⟨D, h1, h2⟩ := h n b e
    rw [hm] at h1
    cases h1
    exact h2⟩
theorem look_nil {α : Type} {P : Str → α → Prop} : ∀ (n : Str) (b : α), ([] : List (Str × α)).lookup n = some b → P n b := fun _ _ h => nomatch h
theorem look_cons {α : Type} {P : Str → α → Prop} {k : Str} {v : α} {l : List (Str × α)} (h : P k v) (r : ∀ n b, l.lookup n = some b → P n b) : ∀ n b, ((k, v) :: l).lookup n = some b → P n b := fun n b e => by
  by_cases hn : n = k
  · subst hn
    rw [List.lookup_cons, beq_self_eq_true] at e
    cases e
    exact h
  · have : (n == k) = false := beq_false_of_ne hn
    rw [List.lookup_cons, this] at e
    exact r n b e
end DW

end
section
set_option Elab.async false
set_option linter.all false
set_option maxRecDepth 100000
set_option maxHeartbeats 4000000
namespace DW
open PySem PySem.Spec PyProof.Rows L2
open SX (S S_tl S_len S_cat)
/-! ### several except clauses, none with a name -/
def endS : O → O
  | .err _ _ => .stuck
  | .nx ρ => .nx (clean ρ)
  | .bk ρ => .bk (clean ρ)
  | .ct ρ => .ct (clean ρ)
  | o => o
abbrev Clause := Str × (Str → Option Bool) × MS
def hdl : List Clause → Exn → En → O
  | [], e, ρ => .err e (clean ρ)
  | (x, sub, su) :: r, e, ρ => match sub e.1 with
    | some true => if (decide (e.1 = x) && e.2.isEmpty) = true then endS (su (clean ρ)) else .stuck
    | some false => hdl r e ρ
    | none => .stuck
def sTryN (cs : List Clause) (body : MS) : MS := fun ρ => match body (clean ρ) with
  | .nx ρ => .nx (clean ρ)
  | .bk ρ => .bk (clean ρ)
  | .ct ρ => .ct (clean ρ)
  | .rt d => .rt d
  | .err e ρ => hdl cs e ρ
  | .stuck => .stuck
section
open Classical
inductive HdsM (X : Cx) : List ExceptHandler → List Clause → List (Value × (Addr → Value → Option Addr → TS)) → Prop
  | nil : HdsM X [] [] []
  | cons {x : Str} {C : Addr} {sub : Str → Option Bool} {suite : List Stmt} {b₀ : Stmt} {np pos' : Pos} {msu : MS} {hds : List ExceptHandler} {cs : List Clause} {l : List (Value × (Addr → Value → Option Addr → TS))} (cc : Catch X.K X.mg x C sub) (hc : Names X x (.ref C))
      (hsu : ∀ (a : Addr) (oe : Obj) (pn : List (Addr × Obj)), Zc (.ref C) none oe → (∃ vs, oe.data = .fields vs) → ∃ t, BSs (X.suite a ((a, oe) :: pn)) W0 (b₀ :: suite) t msu) (r : HdsM X hds cs l) :
      HdsM X (.ExceptHandler (some (.Name x np)) none (b₀ :: suite) pos' :: hds) ((x, sub, msu) :: cs) ((.ref C, suiteFor C fun a => TSu X.K X.mg a W0 msu) :: l)
theorem HdsM.ok {X : Cx} : ∀ {hds : List ExceptHandler} {cs : List Clause} {l : List (Value × (Addr → Value → Option Addr → TS))}, HdsM X hds cs l → HdsOk X hds l
  | _, _, _, .nil => .nil
  | _, _, _, .cons (C := C) (msu := msu) cc hc hsu r => .cons hc (fun a oe cls d pn hz hd => by
      unfold suiteFor
      by_cases h : cls = .ref C ∧ d = none
      · rw [if_pos h]
        obtain ⟨rfl, rfl⟩ := h
        exact (hsu a oe pn hz hd).elim fun _ h => ⟨fun pins s σ H D I ⟨Hs, H0s, H0, ρ, rl, p⟩ => h.pe.run pins s σ H D I (h.ev Hs H0s σ H H0 ρ D rl p)⟩
      · rw [if_neg h]
        exact pss_never) (HdsM.ok r)
theorem HdsM.want {X : Cx} {W : WX} {D : Ends} {Hs H0s : Hp} : ∀ {hds : List ExceptHandler} {cs : List Clause} {l : List (Value × (Addr → Value → Option Addr → TS))}, HdsM X hds cs l →
    ∀ {e : Exn} {ρ : En}, PostS X.K X.mg (excOf X) Hs H0s (hdl cs e ρ) D W → ∀ σ H H0, Rel X.K (excOf X) Hs H0s σ H H0 (clean ρ) → ErrOk X.K X.mg (WE (wMany X.K W D l) σ) e H H0
  | _, _, _, .nil, e, ρ, p, σ, H, H0, r => p σ H H0 r
  | _, _, _, .cons (x := x) (C := C) (sub := sub) (msu := msu) (cs := cs) (l := l) cc hc hsu rr, e, ρ, p, σ, H, H0, r => by
    unfold hdl at p
    cases z : sub e.1 with
    | none => rw [z] at p; exact False.elim p
    | some b =>
      rw [z] at p
      cases b with
      | true =>
        have p2 : PostS X.K X.mg (excOf X) Hs H0s (if (decide (e.1 = x) && e.2.isEmpty) = true then endS (msu (clean ρ)) else .stuck) D W := p
        clear p
        by_cases he : (decide (e.1 = x) && e.2.isEmpty) = true
        · rw [if_pos he] at p2
          have he' : e = (x, []) := by
            obtain ⟨e1, e2⟩ := e
            have h := Bool.and_eq_true_iff.mp he
            have h1 : e1 = x := of_decide_eq_true h.1
            have h2 : e2 = [] := List.isEmpty_iff.mp h.2
            rw [h1, h2]
          subst he'
          refine ⟨C, cc.g, true, cc.h x true C z cc.g, fun _ a na => ?_, fun h => nomatch h⟩
          show suiteFor C (fun a => TSu X.K X.mg a W0 msu) a (.ref C) none D σ H
          unfold suiteFor
          rw [if_pos ⟨rfl, rfl⟩]
          have r2 := Rel.clean r (ea' := a)
          rw [clean_clean] at r2
          exact ⟨Hs, H0s, H0, _, r2, PostS.su (ea := excOf X) p2⟩
        · rw [if_neg he] at p2; exact False.elim p2
      | false =>
        have p2 : PostS X.K X.mg (excOf X) Hs H0s (hdl cs e ρ) D W := p
        obtain ⟨C', h1, h2⟩ := HdsM.want rr p2 σ H H0 r
        refine ⟨C', h1, ?_⟩
        obtain ⟨en, fs⟩ := e
        cases fs with
        | nil => exact ⟨false, cc.h en false C' z h1, (fun h => nomatch h), fun _ => h2⟩
        | cons f fs =>
          obtain ⟨fn, fd⟩ := f
          exact fun v dx xv hn => ⟨false, cc.h en false C' z h1, (fun h => nomatch h), fun _ => h2 v dx xv hn⟩
variable {X : Cx} {W : WX}
theorem bs_tryN {body : List Stmt} {h₀ : ExceptHandler} {hds : List ExceptHandler} {c₀ : Clause} {cs : List Clause} {l : List (Value × (Addr → Value → Option Addr → TS))} {pos : Pos} {mb : MS} (hs : X.stack = X.env :: X.outer) (hf : X.env.frame = some X.env.locals) (tk : Takes X W)
    (hb : ∀ (W : WX) (pn : List (Addr × Obj)) (xe : Value → Shared → Prop), Takes (X.tr pn xe) W → PassesOwn (model X.prog X.w) X.A X.env xe → ∃ t, BSs (X.tr pn xe) W body t mb)
    (hh : HdsM X (h₀ :: hds) (c₀ :: cs) l) :
    BS X W (.Try body (h₀ :: hds) [] [] pos) (fun D σ H => TTr X.K X.mg mb (wMany X.K W D l) D σ H) (sTryN (c₀ :: cs) mb) := by
  refine ⟨ps_try_many hs hf tk (fun W pn xe tk ho => (hb W pn xe tk ho).elim fun _ h => ⟨fun pins s σ H D I ⟨Hs, H0s, H0, ρ, rl, p⟩ => h.pe.run pins s σ H D I (h.ev Hs H0s σ H H0 ρ D (rl _) (p _))⟩) hh.ok, fun Hs H0s σ H H0 ρ D rl p => ?_⟩
  refine ⟨Hs, H0s, H0, clean ρ, fun _ => rl.clean, fun _ => PostS.tr (ea := excOf X) ?_⟩
  unfold sTryN at p
  cases q : mb (clean ρ) with
  | stuck => rw [q] at p; exact p
  | nx ρ1 => rw [q] at p; exact p
  | bk ρ1 => rw [q] at p; exact p
  | ct ρ1 => rw [q] at p; exact p
  | rt d => rw [q] at p; exact p
  | err e ρ1 =>
    rw [q] at p
    exact hh.want p
end
end DW

end
section
set_option Elab.async false
set_option linter.all false
set_option maxRecDepth 100000
set_option maxHeartbeats 4000000
/-! evaluation of mirrors -/
namespace DW
open PySem L2
open SX (S S_tl S_len S_cat)
variable {α β : Type} {ρ ρ' : En} {x y z : MS} {m ma mb mc : ME} {t u : MT} {r ar : MA} {i j : Nat}
abbrev one' (c : Nat) : D := .str (S [c])
theorem e_sCons : sCons x y ρ = (x ρ).thn y := rfl
theorem e_sNil : sNil ρ = .nx ρ := rfl
theorem e_sBreak : sBreak ρ = .bk ρ := rfl
theorem e_sCont : sCont ρ = .ct ρ := rfl
theorem e_sRet : sRet m ρ = O.of (m ρ) ρ .rt := rfl
theorem e_sRetN : sRetN ρ = .rt .none := rfl
theorem e_sExpr : sExpr m ρ = O.of (m ρ) ρ fun _ => .nx ρ := rfl
theorem e_sIf : sIf t x y ρ = O.of (t ρ) ρ fun k => if k then x ρ else y ρ := rfl
theorem e_sAsg {g : D → En → R En} : sAsg g m ρ = O.of (m ρ) ρ fun d => O.of (g d ρ).quiet ρ .nx := rfl
theorem e_sOwn : sOwn i r ρ = O.of (r ρ) ρ fun ds => .nx (ρ.set i (some (.own ds))) := rfl
theorem e_sFrz : sFrz i x ρ = x (frz i ρ) := rfl
theorem e_sRaise {n : Str} : sRaise n ρ = .err (n, []) ρ := rfl
theorem e_sFor {g : D → En → R En} : sFor r g x ρ = O.of (r ρ) ρ fun ds => mLoop g x ds ρ := rfl
theorem e_loop_nil {g : D → En → R En} : mLoop g x [] ρ = .nx ρ := rfl
theorem e_loop_cons {d : D} {ds : List D} : mLoop (gN i) x (d :: ds) ρ = (match x (ρ.set i (some (.sh d))) with
    | .nx ρ' => mLoop (gN i) x ds ρ'
    | .ct ρ' => mLoop (gN i) x ds ρ'
    | .bk ρ' => .nx ρ'
    | o => o) := rfl
theorem e_loop_nx {d : D} {ds : List D} (h : x (ρ.set i (some (.sh d))) = .nx ρ') : mLoop (gN i) x (d :: ds) ρ = mLoop (gN i) x ds ρ' := by rw [e_loop_cons, h]
theorem e_while {n : Nat} : mWhile t x (n + 1) ρ = O.of (t ρ) ρ fun k => if k then (match x ρ with | .nx ρ' => mWhile t x n ρ' | .ct ρ' => mWhile t x n ρ' | .bk ρ' => .nx ρ' | o => o) else .nx ρ := rfl
theorem e_mC {d : D} : mC d ρ = .ok d := rfl
theorem e_m1 {f : D → R D} : m1 f m ρ = (m ρ).bind f := rfl
theorem e_m2 {f : D → D → R D} : m2 f ma mb ρ = (ma ρ).bind fun d => (mb ρ).bind fun e => f d e := rfl
theorem e_mF {f : List D → R D} : mF f r ρ = (r ρ).bind f := rfl
theorem e_mCall {n : Nat} {f : List D → R D} : mCall n f r ρ = (r ρ).bind fun ds => if ds.length = n then f ds else .stuck := rfl
theorem e_mM1 {f : Str → D → R D} : mM1 f ma m ρ = (ma ρ).bind fun d => match d with | .str a => (m ρ).bind fun e => f a e | _ => .stuck := rfl
theorem e_aNil : aNil ρ = .ok [] := rfl
theorem e_aCons : aCons m r ρ = (m ρ).bind fun d => (r ρ).bind fun ds => .ok (d :: ds) := rfl
theorem e_aLst : aLst r ρ = (r ρ).bind fun ds => if ds.length ≤ sizeLine then .ok ds else .stuck := rfl
theorem e_mTup : mTup r ρ = (r ρ).bind fun ds => if ds.length ≤ sizeLine then .ok (.tuple ds) else .stuck := rfl
theorem e_mLst : mLst r ρ = (r ρ).bind fun ds => if ds.length ≤ sizeLine then .ok (.list ds) else .stuck := rfl
theorem e_mN : mN r ρ = (r ρ).bind fun ds => .ok (.list ds) := rfl
theorem e_mT : mT m ρ = (m ρ).bind asB := rfl
theorem e_mTru : mTru m ρ = (m ρ).bind dTruth := rfl
theorem e_mAndT : mAndT t u ρ = (t ρ).bind fun k => if k then u ρ else .ok false := rfl
theorem e_mOrT : mOrT t u ρ = (t ρ).bind fun k => if k then .ok true else u ρ := rfl
theorem e_mNotT : mNotT t ρ = (t ρ).bind fun k => .ok (!k) := rfl
theorem e_mAnd : mAnd ma mb ρ = (ma ρ).bind fun d => (dTruth d).bind fun k => if k then mb ρ else .ok d := rfl
theorem e_mOr : mOr ma mb ρ = (ma ρ).bind fun d => (dTruth d).bind fun k => if k then .ok d else mb ρ := rfl
theorem e_mNot : mNot ma ρ = (ma ρ).bind fun d => (dTruth d).bind fun k => .ok (.bool (!k)) := rfl
theorem e_mIf : mIf t ma mb ρ = (t ρ).bind fun k => if k then ma ρ else mb ρ := rfl
theorem e_mChain {f g : D → D → R D} : mChain f g ma mb mc ρ = (ma ρ).bind fun d => (mb ρ).bind fun e => (f d e).bind fun k => (asB k).bind fun k => if k then (mc ρ).bind fun z => g e z else .ok (.bool false) := rfl
theorem e_iSeq : iSeq m ρ = (m ρ).bind dItems := rfl
theorem e_iRange1 : iRange1 r ρ = (r ρ).bind dRange1 := rfl
theorem e_iRange2 : iRange2 r ρ = (r ρ).bind dRange2 := rfl
theorem e_oNone : oNone ρ = .ok none := rfl
theorem e_oSome : oSome m ρ = (m ρ).bind fun d => match d with | .int i => .ok (some i) | _ => .stuck := rfl
theorem e_mSl {l h : MO} : mSl m l h ρ = (m ρ).bind fun d => (l ρ).bind fun lo => (h ρ).bind fun hi => dSl d lo hi := rfl
theorem e_mYes : mYes ρ = .ok true := rfl
theorem e_mLc {vs : List Nat} {g : D → En → R En} : mLc vs r g t m ρ = (r ρ).bind fun ds => if ds.length ≤ sizeLine then (lcLoop g t m (wipeD (clean ρ) vs) ds).quiet else .stuck := rfl
theorem e_gN {d : D} : gN i d ρ = .ok (ρ.set i (some (.sh d))) := rfl
theorem v_sh {d : D} (h : ρ[i]? = some (some (.sh d))) : mVar i ρ = .ok d := by unfold mVar; rw [h]
theorem v0 {d : D} : mVar 0 (some (.sh d) :: ρ) = .ok d := rfl
theorem vS {s : Option SD} : mVar (i + 1) (s :: ρ) = mVar i ρ := rfl
theorem p0 {d : D} : mVarP 0 (some (.sh d) :: ρ) = .ok d := rfl
theorem p0o {d : List D} : mVarP 0 (some (.own d) :: ρ) = .ok (.list d) := rfl
theorem pS {s : Option SD} : mVarP (i + 1) (s :: ρ) = mVarP i ρ := rfl
theorem ie0 {b : Bool} : mIsE 0 b (some .exc :: ρ) = .ok (.bool b) := rfl
theorem ieS {b : Bool} {s : Option SD} : mIsE (i + 1) b (s :: ρ) = mIsE i b ρ := rfl
theorem f0 {d : List D} : frz 0 (some (.own d) :: ρ) = some (.sh (.list d)) :: ρ := rfl
theorem f0s {d : D} : frz 0 (some (.sh d) :: ρ) = some (.sh d) :: ρ := rfl
theorem f0n : frz 0 (none :: ρ) = none :: ρ := rfl
theorem fS {s : Option SD} : frz (i + 1) (s :: ρ) = s :: frz i ρ := by
  unfold frz
  rw [List.getElem?_cons_succ]
  cases ρ[i]? with
  | none => rfl
  | some t =>
    cases t with
    | none => rfl
    | some t => cases t <;> rfl
/-- x.append(e) at a slot -/
theorem e_app {ds : List D} (h : ρ[i]? = some (some (.own ds))) : sApp i m ρ = O.of (m ρ) ρ fun d => if ds.length < sizeLine then .nx (ρ.set i (some (.own (ds ++ [d])))) else .stuck := by
  unfold sApp
  rw [h]
theorem e_pop {ds : List D} {d : D} (h : ρ[i]? = some (some (.own ds))) (h2 : ds[ds.length - 1]? = some d) : sPop i ρ = .nx (ρ.set i (some (.own ds.dropLast))) := by
  unfold sPop
  rw [h]
  dsimp only
  rw [h2]
/-- a comprehension of a plain map -/
theorem lc_map {f : D → D} : ∀ ds : List D, (∀ d ∈ ds, m (ρ.set i (some (.sh d))) = .ok (f d)) → lcLoop (gN i) mYes m ρ ds = .ok (ds.map f)
  | [], _ => rfl
  | d :: ds, h => by
    show (R.bind (m (ρ.set i (some (.sh d)))).quiet fun y => (lcLoop (gN i) mYes m ρ ds).bind fun ys => R.ok (y :: ys)) = _
    rw [h d List.mem_cons_self, lc_map ds fun e he => h e (List.mem_cons_of_mem _ he)]
    rfl
theorem signs_S (l : List Nat) : signs (S l) = l.map fun c => .str (S [c]) := rfl
theorem sz_ok {n : Nat} (h : n ≤ 16777216) : n ≤ sizeLine := by rw [sizeLine_eq]; exact h
theorem fin_nx : fin (.nx ρ) = .ok .none := rfl
theorem fin_rt {d : D} : fin (.rt d) = .ok d := rfl
theorem fin_err {e : Exn} : fin (.err e ρ) = .err e := rfl
theorem asB_b {b : Bool} : asB (.bool b) = .ok b := rfl
theorem o_add {a b : Int} : dAdd (.int a) (.int b) = .ok (.int (a + b)) := rfl
theorem o_addS {a b : List Nat} : dAdd (.str (S a)) (.str (S b)) = if a.length + b.length ≤ sizeLine then .ok (.str (S (a ++ b))) else .stuck := rfl
theorem o_addL {a b : List D} : dAdd (.list a) (.list b) = if a.length + b.length ≤ sizeLine then .ok (.list (a ++ b)) else .stuck := rfl
theorem o_addI {a b : Int} : dAddI (.int a) (.int b) = .ok (.int (a + b)) := rfl
theorem o_sub {a b : Int} : dSub (.int a) (.int b) = .ok (.int (a - b)) := rfl
theorem o_neg {a : Int} : dNeg (.int a) = .ok (.int (-a)) := rfl
theorem o_fdiv {a b : Int} (h : 0 < b ∧ b.natAbs.log2 < 9000) : dFdiv (.int a) (.int b) = .ok (.int (a / b)) := if_pos h
theorem o_mod {a b : Int} (h : 0 < b) : dMod (.int a) (.int b) = .ok (.int (a % b)) := if_pos h
theorem o_pow {a b : Int} (h : 0 ≤ b ∧ b ≤ 1000000 ∧ a.natAbs < 2 ^ 64) : dPow (.int a) (.int b) = .ok (.int (a ^ b.toNat)) := if_pos h
theorem o_mul {a b : Int} (h : a.natAbs.log2 + b.natAbs.log2 < 1000000) : dMul (.int a) (.int b) = .ok (.int (a * b)) := if_pos h
theorem log_small {a : Int} (h : a.natAbs < 2 ^ 64) : a.natAbs.log2 < 64 := by
  by_cases h0 : a.natAbs = 0
  · rw [h0]; decide
  · exact (Nat.log2_lt h0).mpr h
theorem o_mulS {a b : Int} (h : a.natAbs < 2 ^ 64) (h2 : b.natAbs < 2 ^ 64) : dMul (.int a) (.int b) = .ok (.int (a * b)) := o_mul (by have := log_small h; have := log_small h2; omega)
theorem o_mulT {z : List Nat} {n : Int} (h : n < 1000000 ∧ -1000000 < n ∧ z.length * n.toNat ≤ 1000000) : dMul (.str (S z)) (.int n) = .ok (.str (S (repL n.toNat z))) := if_pos h
theorem o_lt {a b : Int} : dLt (.int a) (.int b) = .ok (.bool (decide (a < b))) := rfl
theorem o_le {a b : Int} : dLe (.int a) (.int b) = .ok (.bool (decide (a ≤ b))) := rfl
theorem o_gt {a b : Int} : dGt (.int a) (.int b) = .ok (.bool (decide (b < a))) := rfl
theorem o_ge {a b : Int} : dGe (.int a) (.int b) = .ok (.bool (decide (b ≤ a))) := rfl
theorem o_eqI {a b : Int} : dEq (.int a) (.int b) = .ok (.bool (decide (a = b))) := rfl
theorem o_neI {a b : Int} : dNe (.int a) (.int b) = .ok (.bool (!decide (a = b))) := rfl
theorem o_eqS {a b : List Nat} : dEq (.str (S a)) (.str (S b)) = .ok (.bool (decide (a = b))) := rfl
theorem o_neS {a b : List Nat} : dNe (.str (S a)) (.str (S b)) = .ok (.bool (!decide (a = b))) := rfl
theorem o_inS {c : Nat} {b : List Nat} : dIn (.str (S [c])) (.str (S b)) = .ok (.bool (decide (c ∈ b))) := rfl
theorem o_lenS {a : List Nat} : dLen [.str (S a)] = if a.length ≤ sizeLine then .ok (.int a.length) else .stuck := rfl
theorem o_lenL {a : List D} : dLen [.list a] = .ok (.int a.length) := rfl
theorem o_lenT {a : List D} : dLen [.tuple a] = .ok (.int a.length) := rfl
theorem o_int {a : Int} : dInt1 [.int a] = .ok (.int a) := rfl
theorem o_all {bs : List Bool} : dAll [.list (bs.map PyData.bool)] = .ok (.bool (bs.all id)) := by
  show (bools (bs.map PyData.bool)).bind _ = _
  rw [bools_map]; rfl
theorem o_any {bs : List Bool} : dAny [.list (bs.map PyData.bool)] = .ok (.bool (bs.any id)) := by
  show (bools (bs.map PyData.bool)).bind _ = _
  rw [bools_map]; rfl
theorem o_tIn {tb : List (Str × D)} {z : Str} : dTabIn tb (.str z) = .ok (.bool (tb.lookup z).isSome) := rfl
theorem o_tNi {tb : List (Str × D)} {z : Str} : dTabNi tb (.str z) = .ok (.bool (!(tb.lookup z).isSome)) := rfl
theorem o_tAt {tb : List (Str × D)} {z : Str} {v : D} (h : tb.lookup z = some v) : dTabAt tb (.str z) = .ok v := by
  show (match tb.lookup z with | some v => R.ok v | none => R.stuck) = R.ok v
  rw [h]
theorem o_itS {l : List Nat} : dItems (.str (S l)) = .ok (l.map one') := rfl
theorem o_itL {l : List D} : dItems (.list l) = .ok l := rfl
theorem o_itT {l : List D} : dItems (.tuple l) = .ok l := rfl
theorem o_revS {l : List Nat} (h : l.length ≤ 16777216) : dRev (.str (S l)) = .ok (.str (S l.reverse)) := if_pos (sz_ok h)
theorem o_truL {l : List D} : dTruth (.list l) = .ok (!l.isEmpty) := rfl
theorem o_truB {b : Bool} : dTruth (.bool b) = .ok b := rfl
theorem o_truI {i : Int} : dTruth (.int i) = .ok (i != 0) := rfl
theorem joinN_one : ∀ l : List Nat, joinN (l.map fun c => S [c]) = l
  | [] => rfl
  | c :: l => by
    show [c] ++ joinN (l.map fun c => S [c]) = _
    rw [joinN_one l]; rfl
theorem sum_one : ∀ l : List Nat, ((l.map fun c => S [c]).map (·.length)).sum = l.length
  | [] => rfl
  | c :: l => by
    rw [List.map_cons, List.map_cons, List.sum_cons, sum_one l, S_len, List.length_cons, List.length_cons]
    show 0 + 1 + l.length = l.length + 1
    omega
/-- joining signs -/
theorem o_join {l : List Nat} (h : l.length ≤ 16777216) : dJoin0 (.list (l.map one')) = .ok (.str (S l)) := by
  have e : l.map one' = (l.map fun c => S [c]).map PyData.str := by rw [List.map_map]; rfl
  show (strsD (l.map one')).bind _ = _
  rw [e, strs_map, R.bind_ok, sum_one, if_pos h, joinN_one]
theorem o_nil : dJoin0 (.list []) = .ok (.str (S [])) := rfl
/-- an item of a text at a place that it has -/
theorem atI_nn {α : Type} {l : List α} {i : Nat} {c : α} (h : l[i]? = some c) : atI l (i : Int) = some c := by
  have hl : i < l.length := (List.getElem?_eq_some_iff.mp h).1
  unfold L2.atI L2.ixN
  rw [if_pos (by omega), if_pos (by omega)]
  exact h
theorem o_ixS {l : List Nat} {i : Nat} {c : Nat} (hs : l.length ≤ 16777216) (h : l[i]? = some c) : dIdx (.str (S l)) (.int (i : Int)) = .ok (.str (S [c])) := by
  unfold dIdx
  dsimp only
  rw [if_pos (sz_ok hs)]
  rw [atI_nn h]
theorem o_ixL {l : List D} {i : Nat} {c : D} (h : l[i]? = some c) : dIdx (.list l) (.int (i : Int)) = .ok c := by
  unfold dIdx
  dsimp only
  rw [atI_nn h]
theorem o_ixT {l : List D} {i : Nat} {c : D} (h : l[i]? = some c) : dIdx (.tuple l) (.int (i : Int)) = .ok c := by
  unfold dIdx
  dsimp only
  rw [atI_nn h]
/-! ### letters -/
def L6 : List Nat := [97, 65, 98, 66, 99, 67]
def inv (c : Nat) : Nat := if c < 97 then c + 32 else c - 32
abbrev one (c : Nat) : D := one' c
theorem L6_all {P : Nat → Prop} (h : P 97 ∧ P 65 ∧ P 98 ∧ P 66 ∧ P 99 ∧ P 67) : ∀ c ∈ L6, P c := by
  obtain ⟨h1, h2, h3, h4, h5, h6⟩ := h
  intro c hc
  simp only [L6, List.mem_cons, List.not_mem_nil, or_false] at hc
  rcases hc with rfl | rfl | rfl | rfl | rfl | rfl <;> assumption
theorem inv_mem : ∀ c ∈ L6, inv c ∈ L6 := L6_all (by decide)
theorem inv_inv : ∀ c ∈ L6, inv (inv c) = c := L6_all (by decide)
theorem inv_ne : ∀ c ∈ L6, inv c ≠ c := L6_all (by decide)
theorem inv_inj {a b : Nat} (ha : a ∈ L6) (hb : b ∈ L6) (h : inv a = inv b) : a = b := by rw [← inv_inv a ha, h, inv_inv b hb]
abbrev Wd (w : List Nat) : Prop := ∀ c ∈ w, c ∈ L6
end DW

end
set_option Elab.async false
set_option linter.all false
set_option maxRecDepth 100000
set_option maxHeartbeats 8000000
namespace Law
open PySem PySem.Spec PyProof.Rows L2 DW
def topS (i : Nat) : Stmt := PySem.Challenge.pw_cayleywalk_k02_products_and_powers.main.body.getD i (.Pass ⟨0, 0, 0, 0⟩)
def k_tab : List (Str × List (Str × Bool)) := [("BadNumber", [("BadNumber", true), ("NotWord", false)]), ("NotWord", [("BadNumber", false), ("NotWord", true)])]
def k_sub (x n : Str) : Option Bool := ((k_tab.lookup x).getD []).lookup n
def tb_INVERSES : List (Str × D) := [("a", .str "A"), ("A", .str "a"), ("b", .str "B"), ("B", .str "b"), ("c", .str "C"), ("C", .str "c")]
def lb__law_values_1 : MS := (sIf (mT (m2 dGe (mVarP 4) (m2 dPow (mC (.int 10)) (mC (.int 12))))) (sCons (sApp 3 (m2 dMod (mF dInt1 (aCons (mVarP 4) aNil)) (mVarP 2)))
  (sAsg (gN 4) (m2 dFdiv (mVarP 4) (mVarP 2)))) (sCons (sAsg (gN 6) (m2 dMod (m2 dAdd (m2 dAdd (m2 dMul (m2 dMod (mF dInt1 (aCons (mVarP 0) aNil)) (mC (.int 2147483647))) (mC (.int 48271))) (m2 dMul (mVarP 5) (mC (.int 69621)))) (mC (.int 7))) (mC (.int 2147483647))))
  (sApp 3 (m2 dMod (m2 dMod (m2 dMul (mVarP 6) (mC (.int 16807))) (mC (.int 2147483647))) (mVarP 2)))))
def b__law_values : MS := (sCons (sOwn 3 (aLst aNil))
  (sCons (sAsg (gN 4) (mVar 0))
  (sCons (sFor (iRange1 (aCons (mVarP 1) aNil)) (gN 5) lb__law_values_1)
  (sFrz 3 (sRet (mVar 3))))))
def m__law_values : List D → R D := runDef 7 b__law_values
def ce__law_word_1 : ME := (m2 dIdx (mC (.str "aAbBcC")) (m2 dMod (mVarP 4) (m2 dMul (mC (.int 2)) (mVarP 1))))
def b__law_word : MS := (sCons (sAsg (gN 3) (mCall 3 m__law_values (aCons (mVar 0) (aCons (m2 dAdd (mVar 2) (mC (.int 1))) (aCons (mC (.int 997)) aNil)))))
  (sRet (m1 dJoin0 (mN (mLc [4] (iSeq (mSl (mVarP 3) (oSome (mC (.int 1))) (oSome (m2 dAdd (mC (.int 1)) (m2 dMod (m2 dIdx (mVarP 3) (mC (.int 0))) (m2 dAdd (mVar 2) (mC (.int 1)))))))) (gN 4) mYes ce__law_word_1)))))
def m__law_word : List D → R D := runDef 5 b__law_word
def lb__law_reduced_1 : MS := (sIf (mAndT (mT (m2 dGt (mF dLen (aCons (mVarP 1) aNil)) (mC (.int 0)))) (mT (m2 dEq (m2 dIdx (mVarP 1) (m1 dNeg (mC (.int 1)))) (m2 dIdx (mC (.str "AaBbCc")) (mM1 dIndexS (mC (.str "aAbBcC")) (mVarP 2)))))) (sPop 1) (sApp 1 (mVar 2)))
def b__law_reduced : MS := (sCons (sOwn 1 (aLst aNil))
  (sCons (sFor (iSeq (mVar 0)) (gN 2) lb__law_reduced_1)
  (sFrz 1 (sRet (m1 dJoin0 (mVar 1))))))
def m__law_reduced : List D → R D := runDef 3 b__law_reduced
def ce__law_inverse_1 : ME := (m2 dIdx (mC (.str "AaBbCc")) (mM1 dIndexS (mC (.str "aAbBcC")) (mVarP 1)))
def b__law_inverse : MS := (sRet (m1 dJoin0 (mN (mLc [1] (iSeq (m1 dRev (mVar 0))) (gN 1) mYes ce__law_inverse_1))))
def m__law_inverse : List D → R D := runDef 2 b__law_inverse
def b__law_power : MS := (sCons (sIf (mT (m2 dLt (mVarP 1) (mC (.int 0)))) (sRet (mCall 1 m__law_reduced (aCons (m2 dMul (mCall 1 m__law_inverse (aCons (mVar 0) aNil)) (m2 dSub (mC (.int 0)) (mVarP 1))) aNil))) sNil)
  (sRet (mCall 1 m__law_reduced (aCons (m2 dMul (mVarP 0) (mVarP 1)) aNil))))
def m__law_power : List D → R D := runDef 2 b__law_power
def b_letters_of : MS := (sCons (sIf (mOrT (mT (m2 dLt (mVarP 0) (mC (.int 1)))) (mT (m2 dGt (mVarP 0) (mC (.int 3))))) (sRaise "BadNumber") sNil)
  (sRet (mSl (mC (.str "aAbBcC")) oNone (oSome (m2 dMul (mC (.int 2)) (mVarP 0))))))
def m_letters_of : List D → R D := runDef 1 b_letters_of
def ce_is_word_1 : ME := (m2 dIn (mVarP 3) (mVarP 2))
def b_is_word : MS := (sCons (sAsg (gN 2) (mCall 1 m_letters_of (aCons (mVar 0) aNil)))
  (sRet (mF dAll (aCons (mN (mLc [3] (iSeq (mVar 1)) (gN 3) mYes ce_is_word_1)) aNil))))
def m_is_word : List D → R D := runDef 4 b_is_word
def b_check_word : MS := (sCons (sIf (mNotT (mTru (mCall 2 m_is_word (aCons (mVar 0) (aCons (mVar 1) aNil))))) (sRaise "NotWord") sNil)
  (sIf (mT (m2 dGt (mF dLen (aCons (mVarP 1) aNil)) (mC (.int 60)))) (sRaise "NotWord") sNil))
def m_check_word : List D → R D := runDef 2 b_check_word
def b_inverse_letter : MS := (sCons (sIf (mT (m1 (dTabNi tb_INVERSES) (mVarP 0))) (sRaise "NotWord") sNil)
  (sRet (m1 (dTabAt tb_INVERSES) (mVarP 0))))
def m_inverse_letter : List D → R D := runDef 1 b_inverse_letter
def lb_cancelled_1 : MS := (sIf (mAndT (mTru (mVarP 1)) (mT (m2 dEq (m2 dIdx (mVarP 1) (m1 dNeg (mC (.int 1)))) (mCall 1 m_inverse_letter (aCons (mVar 2) aNil))))) (sPop 1) (sApp 1 (mVar 2)))
def b_cancelled : MS := (sCons (sOwn 1 (aLst aNil))
  (sCons (sFor (iSeq (mVar 0)) (gN 2) lb_cancelled_1)
  (sFrz 1 (sRet (m1 dJoin0 (mVar 1))))))
def m_cancelled : List D → R D := runDef 3 b_cancelled
def ce_flipped_1 : ME := (mCall 1 m_inverse_letter (aCons (mVar 1) aNil))
def b_flipped : MS := (sRet (m1 dJoin0 (mN (mLc [1] (iSeq (m1 dRev (mVar 0))) (gN 1) mYes ce_flipped_1))))
def m_flipped : List D → R D := runDef 2 b_flipped
def b_power : MS := (sCons (sExpr (mCall 2 m_check_word (aCons (mC (.int 3)) (aCons (mVar 0) aNil))))
  (sCons (sIf (mOrT (mT (m2 dLt (mVarP 1) (m1 dNeg (mC (.int 20))))) (mT (m2 dGt (mVarP 1) (mC (.int 20))))) (sRaise "BadNumber") sNil)
  (sCons (sIf (mT (m2 dLt (mVarP 1) (mC (.int 0)))) (sRet (mCall 1 m_cancelled (aCons (m2 dMul (mCall 1 m_flipped (aCons (mVar 0) aNil)) (m1 dNeg (mVarP 1))) aNil))) sNil)
  (sRet (mCall 1 m_cancelled (aCons (m2 dMul (mVarP 0) (mVarP 1)) aNil))))))
def m_power : List D → R D := runDef 2 b_power
def b_product : MS := (sCons (sExpr (mCall 2 m_check_word (aCons (mC (.int 3)) (aCons (mVar 0) aNil))))
  (sCons (sExpr (mCall 2 m_check_word (aCons (mC (.int 3)) (aCons (mVar 1) aNil))))
  (sRet (mCall 1 m_cancelled (aCons (m2 dAdd (mVar 0) (mVar 1)) aNil)))))
def m_product : List D → R D := runDef 2 b_product
def b__law_told : MS := (sTryN [("NotWord", k_sub "NotWord", (sRet (mC (.str "word")))), ("BadNumber", k_sub "BadNumber", (sRet (mC (.str "number"))))] (sCons (sIf (mT (m2 dEq (mVarP 0) (mC (.int 0)))) (sRet (mCall 2 m_product (aCons (mVar 1) (aCons (mVar 2) aNil)))) sNil)
  (sRet (mCall 2 m_power (aCons (mVar 1) (aCons (mVar 2) aNil))))))
def m__law_told : List D → R D := runDef 3 b__law_told
def b__law_cell : MS := (sCons (sIf (mT (m2 dLt (mVarP 1) (mF dLen (aCons (mVarP 0) aNil)))) (sRet (m2 dIdx (mVarP 0) (mVarP 1))) sNil)
  (sRet (mC (.int 0))))
def m__law_cell : List D → R D := runDef 2 b__law_cell
def b_reduced : MS := (sCons (sExpr (mCall 2 m_check_word (aCons (mC (.int 3)) (aCons (mVar 0) aNil))))
  (sRet (mCall 1 m_cancelled (aCons (mVar 0) aNil))))
def m_reduced : List D → R D := runDef 1 b_reduced
def b_inverse : MS := (sCons (sExpr (mCall 2 m_check_word (aCons (mC (.int 3)) (aCons (mVar 0) aNil))))
  (sRet (mCall 1 m_flipped (aCons (mVar 0) aNil))))
def m_inverse : List D → R D := runDef 1 b_inverse
def ce_law_1 : ME := (mCall 3 m__law_word (aCons (mCall 2 m__law_cell (aCons (mVar 0) (aCons (m2 dAdd (mC (.int 1)) (mVar 11)) aNil))) (aCons (mVar 1) (aCons (mVar 2) aNil))))
def st_law_1 : MS := (sAsg (gN 1) (m2 dAdd (mC (.int 1)) (m2 dMod (mCall 2 m__law_cell (aCons (mVar 0) (aCons (mC (.int 0)) aNil))) (mC (.int 3)))))
def st_law_2 : MS := (sAsg (gN 2) (mC (.int 12)))
def st_law_3 : MS := (sIf (mT (m2 dEq (m2 dMod (m2 dFdiv (mCall 2 m__law_cell (aCons (mVar 0) (aCons (mC (.int 0)) aNil))) (mC (.int 3))) (mC (.int 9))) (mC (.int 4)))) (sAsg (gN 2) (mC (.int 60))) sNil)
def st_law_4 : MS := (sAsg (gN 3) (mN (mLc [11] (iRange1 (aCons (mC (.int 3)) aNil)) (gN 11) mYes ce_law_1)))
def st_law_5 : MS := (sAsg (gN 4) (m2 dIdx (mVarP 3) (mC (.int 0))))
def st_law_6 : MS := (sAsg (gN 5) (m2 dIdx (mVarP 3) (mC (.int 1))))
def st_law_7 : MS := (sIf (mOrT (mT (m2 dNe (mCall 2 m_product (aCons (mVar 4) (aCons (mVar 5) aNil))) (mCall 1 m__law_reduced (aCons (m2 dAdd (mVar 4) (mVar 5)) aNil)))) (mT (m2 dNe (mCall 2 m_product (aCons (mVar 4) (aCons (mCall 1 m_inverse (aCons (mVar 4) aNil)) aNil))) (mC (.str ""))))) (sRet (mC (.bool false))) sNil)
def st_law_8 : MS := (sIf (mAndT (mT (m2 dEq (mVarP 2) (mC (.int 12)))) (mT (m2 dNe (mCall 2 m_product (aCons (mCall 2 m_product (aCons (mVar 4) (aCons (mVar 5) aNil))) (aCons (m2 dIdx (mVarP 3) (mC (.int 2))) aNil))) (mCall 2 m_product (aCons (mVar 4) (aCons (mCall 2 m_product (aCons (mVar 5) (aCons (m2 dIdx (mVarP 3) (mC (.int 2))) aNil))) aNil)))))) (sRet (mC (.bool false))) sNil)
def st_law_9 : MS := (sAsg (gN 6) (m2 dSub (m2 dMod (mCall 2 m__law_cell (aCons (mVar 0) (aCons (mC (.int 4)) aNil))) (mC (.int 45))) (mC (.int 22))))
def st_law_10 : MS := (sAsg (gN 7) (mC (.str "number")))
def st_law_11 : MS := (sIf (mT (mChain dLe dLe (m1 dNeg (mC (.int 20))) (mVarP 6) (mC (.int 20)))) (sAsg (gN 7) (mCall 2 m__law_power (aCons (mVar 4) (aCons (mVar 6) aNil)))) sNil)
def st_law_12 : MS := (sIf (mT (m2 dNe (mCall 3 m__law_told (aCons (mC (.int 1)) (aCons (mVar 4) (aCons (mVar 6) aNil)))) (mVarP 7))) (sRet (mC (.bool false))) sNil)
def st_law_13 : MS := (sAsg (gN 8) (m2 dMod (mCall 2 m__law_cell (aCons (mVar 0) (aCons (mC (.int 5)) aNil))) (mC (.int 3))))
def st_law_14 : MS := (sAsg (gN 9) (m2 dMod (mCall 2 m__law_cell (aCons (mVar 0) (aCons (mC (.int 6)) aNil))) (mC (.int 3))))
def st_law_15 : MS := (sIf (mAndT (mT (m2 dEq (mVarP 2) (mC (.int 12)))) (mT (m2 dNe (mCall 2 m_product (aCons (mCall 2 m_power (aCons (mVar 4) (aCons (mVar 8) aNil))) (aCons (mCall 2 m_power (aCons (mVar 4) (aCons (mVar 9) aNil))) aNil))) (mCall 2 m_power (aCons (mVar 4) (aCons (m2 dAdd (mVar 8) (mVar 9)) aNil)))))) (sRet (mC (.bool false))) sNil)
def st_law_16 : MS := (sAsg (gN 10) (m2 dMul (mC (.str "ab")) (mC (.int 31))))
def st_law_17 : MS := (sIf (mOrT (mT (m2 dNe (mCall 3 m__law_told (aCons (mC (.int 0)) (aCons (mVar 10) (aCons (mVar 5) aNil)))) (mC (.str "word")))) (mOrT (mT (m2 dNe (mCall 3 m__law_told (aCons (mC (.int 0)) (aCons (mVar 4) (aCons (mVar 10) aNil)))) (mC (.str "word")))) (mT (m2 dNe (mCall 3 m__law_told (aCons (mC (.int 1)) (aCons (mVar 10) (aCons (mC (.int 99)) aNil)))) (mC (.str "word")))))) (sRet (mC (.bool false))) sNil)
def st_law_18 : MS := (sRet (mAnd (m2 dEq (mCall 1 m_reduced (aCons (mVar 4) aNil)) (mCall 2 m_power (aCons (mVar 4) (aCons (mC (.int 1)) aNil)))) (m2 dEq (mCall 2 m_power (aCons (mVar 4) (aCons (mC (.int 0)) aNil))) (mC (.str "")))))
def b_law : MS := (sCons st_law_1
  (sCons st_law_2
  (sCons st_law_3
  (sCons st_law_4
  (sCons st_law_5
  (sCons st_law_6
  (sCons st_law_7
  (sCons st_law_8
  (sCons st_law_9
  (sCons st_law_10
  (sCons st_law_11
  (sCons st_law_12
  (sCons st_law_13
  (sCons st_law_14
  (sCons st_law_15
  (sCons st_law_16
  (sCons st_law_17
  st_law_18)))))))))))))))))
def m_law : List D → R D := runDef 12 b_law
abbrev s__law_values : Stmt := topS 23
theorem sc__law_values : FnScope ["cell", "count", "size", "values", "rest", "k", "mixed"] ["cell", "count", "size"] (defScope s__law_values) := ⟨rfl, rfl, rfl, by decide +kernel, rfl, by decide +kernel, by decide +kernel⟩
theorem ok__law_values {P : Program} {w : World} {K : PySem.W.Frag} {mg : Str → Option Value} {base : Heap} (F : FD K mg "_law_values" s__law_values)
    (n_range : mg "range" = none)
    (n_int : mg "int" = none) :
    Def P w K mg base "_law_values" ["cell", "count", "size"] 1 m__law_values := by
  refine mk_def F sc__law_values (by decide) (fun _ _ _ _ _ _ us hl => match us, hl with | [_, _, _], _ => rfl) fun f cdv A outer s H E hr => ?_
  have tkD := takes_of (X := cxOf (L2.CX P w) P w K mg base ["cell", "count", "size", "values", "rest", "k", "mixed"] "_law_values" (defScope s__law_values) f cdv A outer s H E) (E := E) rfl rfl rfl rfl
  have howD : PassesOwn (model P w) (A.deeper (envOfC "_law_values" (defScope s__law_values) s.heap.objs.size f cdv)) (envOfC "_law_values" (defScope s__law_values) s.heap.objs.size f cdv) (cxOf (L2.CX P w) P w K mg base ["cell", "count", "size", "values", "rest", "k", "mixed"] "_law_values" (defScope s__law_values) f cdv A outer s H E).xe := PassesOwn.leaving
  exact ⟨_, (bss_cons (bs_setOwn 3 (bn_lst ba_nil) sc__law_values.nd rfl (by first | exact .inl rfl | exact .inr rfl))
  (bss_cons (bs_set 4 (be_var 0 (pv 0)) sc__law_values.nd rfl (by first | exact .inl rfl | exact .inr rfl))
  (bss_cons (bs_for howD rfl (bi_range1 (by rfl) n_range (ba_cons (be_varP 1 (pv 1)) ba_nil)) (bg_name 5 (pg_name (i := 5) sc__law_values.nd rfl (by first | exact .inl rfl | exact .inr rfl))) (bss_one (bs_if (bt_cmp (md := false) dGe op_geA op2_ge (be_varP 4 (pv 4)) (BE.p (be_op (md := false) dPow op_pow op2_pow be_int be_int)) (nomark _)) (bss_cons (bs_appS (i := 3) (be_op (md := false) dMod op_mod op2_mod (BE.p (be_callTy (md := false) dInt1 call_int1 fn_int1 (by rfl) n_int (by decide +kernel) (ba_cons (be_varP 4 (pv 4)) ba_nil))) (be_varP 2 (pv 2))) (pv 3))
  (bss_one (bs_set 4 (be_op (md := false) dFdiv op_fdivW op2_fdiv (be_varP 4 (pv 4)) (be_varP 2 (pv 2))) sc__law_values.nd rfl (by first | exact .inl rfl | exact .inr rfl)))) (bss_cons (bs_set 6 (be_op (md := false) dMod op_mod op2_mod (BE.p (be_op (md := true) dAdd op_addA op2_add (be_op (md := true) dAdd op_addA op2_add (be_op (md := false) dMul op_mulA op2_mul (BE.p (be_op (md := false) dMod op_mod op2_mod (BE.p (be_callTy (md := false) dInt1 call_int1 fn_int1 (by rfl) n_int (by decide +kernel) (ba_cons (be_varP 0 (pv 0)) ba_nil))) be_int)) be_int) (be_op (md := false) dMul op_mulA op2_mul (be_varP 5 (pv 5)) be_int)) be_int)) be_int) sc__law_values.nd rfl (by first | exact .inl rfl | exact .inr rfl))
  (bss_one (bs_appS (i := 3) (be_op (md := false) dMod op_mod op2_mod (BE.p (be_op (md := false) dMod op_mod op2_mod (BE.p (be_op (md := false) dMul op_mulA op2_mul (be_varP 6 (pv 6)) be_int)) be_int)) (be_varP 2 (pv 2))) (pv 3)))))))
  (bss_one (bs_frz 3 (bs_ret (be_var 3 (pv 3))))))))⟩
abbrev s__law_word : Stmt := topS 24
theorem sc__law_word : FnScope ["cell", "g", "most", "values", "value"] ["cell", "g", "most"] (defScope s__law_word) := ⟨rfl, rfl, rfl, by decide +kernel, rfl, by decide +kernel, by decide +kernel⟩
theorem ok__law_word {P : Program} {w : World} {K : PySem.W.Frag} {mg : Str → Option Value} {base : Heap} (F : FD K mg "_law_word" s__law_word)
    (d__law_values : Def P w K mg base "_law_values" ["cell", "count", "size"] 1 m__law_values) :
    Def P w K mg base "_law_word" ["cell", "g", "most"] 2 m__law_word := by
  refine mk_def F sc__law_word (by decide) (fun _ _ _ _ _ _ us hl => match us, hl with | [_, _, _], _ => rfl) fun f cdv A outer s H E hr => ?_
  have tkD := takes_of (X := cxOf (L2.CX P w) P w K mg base ["cell", "g", "most", "values", "value"] "_law_word" (defScope s__law_word) f cdv A outer s H E) (E := E) rfl rfl rfl rfl
  have howD : PassesOwn (model P w) (A.deeper (envOfC "_law_word" (defScope s__law_word) s.heap.objs.size f cdv)) (envOfC "_law_word" (defScope s__law_word) s.heap.objs.size f cdv) (cxOf (L2.CX P w) P w K mg base ["cell", "g", "most", "values", "value"] "_law_word" (defScope s__law_word) f cdv A outer s H E).xe := PassesOwn.leaving
  exact ⟨_, (bss_cons (bs_set 3 (be_call d__law_values hr (by decide) (by rfl) tkD (ba_cons (be_var 0 (pv 0)) (ba_cons (be_op (md := true) dAdd op_addA op2_add (be_var 2 (pv 2)) be_int) (ba_cons be_int ba_nil)))) sc__law_word.nd rfl (by first | exact .inl rfl | exact .inr rfl))
  (bss_one (bs_ret (be_join0S (be_n (bn_lc (own := [("value", 4)]) rfl sc__law_word.nd (bi_seq (be_slV (pv 3) (bo_some be_int) (bo_some (BE.p (be_op (md := true) dAdd op_addA op2_add be_int (be_op (md := false) dMod op_mod op2_mod (BE.p (be_ixV (pv 3) be_int (fun _ _ => rfl))) (BE.p (be_op (md := true) dAdd op_addA op2_add (be_var 2 (pv 2)) be_int)))))))) (blkOk_by (N := ["cell", "g", "most", "values", "value"]) (sc := defScope s__law_word) (by decide +kernel)) (by decide) (fun _ _ _ _ _ => ⟨_, (bg_name 4 (pg_name (i := 4) sc__law_word.nd rfl (by first | exact .inl rfl | exact .inr rfl)))⟩) (fun _ _ _ _ _ => ⟨_, bts_nil⟩) (fun _ _ _ _ _ => ⟨_, (be_ix be_str (BE.p (be_op (md := false) dMod op_mod op2_mod (be_varP 4 (pv 4)) (BE.p (be_op (md := false) dMul op_mulA op2_mul be_int (be_varP 1 (pv 1)))))) (fun _ _ => rfl))⟩)))))))⟩
abbrev s__law_reduced : Stmt := topS 26
theorem sc__law_reduced : FnScope ["word", "letters", "letter"] ["word"] (defScope s__law_reduced) := ⟨rfl, rfl, rfl, by decide +kernel, rfl, by decide +kernel, by decide +kernel⟩
theorem ok__law_reduced {P : Program} {w : World} {K : PySem.W.Frag} {mg : Str → Option Value} {base : Heap} (F : FD K mg "_law_reduced" s__law_reduced)
    (n_len : mg "len" = none) :
    Def P w K mg base "_law_reduced" ["word"] 1 m__law_reduced := by
  refine mk_def F sc__law_reduced (by decide) (fun _ _ _ _ _ _ us hl => match us, hl with | [_], _ => rfl) fun f cdv A outer s H E hr => ?_
  have tkD := takes_of (X := cxOf (L2.CX P w) P w K mg base ["word", "letters", "letter"] "_law_reduced" (defScope s__law_reduced) f cdv A outer s H E) (E := E) rfl rfl rfl rfl
  have howD : PassesOwn (model P w) (A.deeper (envOfC "_law_reduced" (defScope s__law_reduced) s.heap.objs.size f cdv)) (envOfC "_law_reduced" (defScope s__law_reduced) s.heap.objs.size f cdv) (cxOf (L2.CX P w) P w K mg base ["word", "letters", "letter"] "_law_reduced" (defScope s__law_reduced) f cdv A outer s H E).xe := PassesOwn.leaving
  exact ⟨_, (bss_cons (bs_setOwn 1 (bn_lst ba_nil) sc__law_reduced.nd rfl (by first | exact .inl rfl | exact .inr rfl))
  (bss_cons (bs_for howD rfl (bi_seq (be_var 0 (pv 0))) (bg_name 2 (pg_name (i := 2) sc__law_reduced.nd rfl (by first | exact .inl rfl | exact .inr rfl))) (bss_one (bs_if (bt_w (bw_and (bt_cmp (md := false) dGt op_gtA op2_gt (BE.p (be_callB (md := false) dLen call_lenA fn_len (by rfl) n_len (by decide +kernel) (ba_cons (be_varP 1 (pv 1)) ba_nil))) be_int (nomark _)) (bw_and1 (bt_cmp (md := false) dEq (op_eqA hr.units) op2_eq (BE.p (be_ixV (pv 1) (BE.p (be_neg be_int)) (fun _ _ => rfl))) (BE.p (be_ix be_str (BE.p (be_m1 dIndexS PySem.F.slot_str_index PySem.F.type_str_index mt_sindex mt1_index be_str (be_varP 2 (pv 2)))) (fun _ _ => rfl))) (nomark _))))) (bss_one (bs_popS (i := 1) (pv 1))) (bss_one (bs_appS (i := 1) (be_var 2 (pv 2)) (pv 1))))))
  (bss_one (bs_frz 1 (bs_ret (be_join0S (be_var 1 (pv 1))))))))⟩
abbrev s__law_inverse : Stmt := topS 25
theorem sc__law_inverse : FnScope ["word", "letter"] ["word"] (defScope s__law_inverse) := ⟨rfl, rfl, rfl, by decide +kernel, rfl, by decide +kernel, by decide +kernel⟩
theorem ok__law_inverse {P : Program} {w : World} {K : PySem.W.Frag} {mg : Str → Option Value} {base : Heap} (F : FD K mg "_law_inverse" s__law_inverse) :
    Def P w K mg base "_law_inverse" ["word"] 1 m__law_inverse := by
  refine mk_def F sc__law_inverse (by decide) (fun _ _ _ _ _ _ us hl => match us, hl with | [_], _ => rfl) fun f cdv A outer s H E hr => ?_
  have tkD := takes_of (X := cxOf (L2.CX P w) P w K mg base ["word", "letter"] "_law_inverse" (defScope s__law_inverse) f cdv A outer s H E) (E := E) rfl rfl rfl rfl
  have howD : PassesOwn (model P w) (A.deeper (envOfC "_law_inverse" (defScope s__law_inverse) s.heap.objs.size f cdv)) (envOfC "_law_inverse" (defScope s__law_inverse) s.heap.objs.size f cdv) (cxOf (L2.CX P w) P w K mg base ["word", "letter"] "_law_inverse" (defScope s__law_inverse) f cdv A outer s H E).xe := PassesOwn.leaving
  exact ⟨_, (bss_one (bs_ret (be_join0S (be_n (bn_lc (own := [("letter", 1)]) rfl sc__law_inverse.nd (bi_seq (be_rev (be_var 0 (pv 0)))) (blkOk_by (N := ["word", "letter"]) (sc := defScope s__law_inverse) (by decide +kernel)) (by decide) (fun _ _ _ _ _ => ⟨_, (bg_name 1 (pg_name (i := 1) sc__law_inverse.nd rfl (by first | exact .inl rfl | exact .inr rfl)))⟩) (fun _ _ _ _ _ => ⟨_, bts_nil⟩) (fun _ _ _ _ _ => ⟨_, (be_ix be_str (BE.p (be_m1 dIndexS PySem.F.slot_str_index PySem.F.type_str_index mt_sindex mt1_index be_str (be_varP 1 (pv 1)))) (fun _ _ => rfl))⟩))))))⟩
abbrev s__law_power : Stmt := topS 28
theorem sc__law_power : FnScope ["word", "exponent"] ["word", "exponent"] (defScope s__law_power) := ⟨rfl, rfl, rfl, by decide +kernel, rfl, by decide +kernel, by decide +kernel⟩
theorem ok__law_power {P : Program} {w : World} {K : PySem.W.Frag} {mg : Str → Option Value} {base : Heap} (F : FD K mg "_law_power" s__law_power)
    (d__law_reduced : Def P w K mg base "_law_reduced" ["word"] 1 m__law_reduced)
    (d__law_inverse : Def P w K mg base "_law_inverse" ["word"] 1 m__law_inverse) :
    Def P w K mg base "_law_power" ["word", "exponent"] 2 m__law_power := by
  refine mk_def F sc__law_power (by decide) (fun _ _ _ _ _ _ us hl => match us, hl with | [_, _], _ => rfl) fun f cdv A outer s H E hr => ?_
  have tkD := takes_of (X := cxOf (L2.CX P w) P w K mg base ["word", "exponent"] "_law_power" (defScope s__law_power) f cdv A outer s H E) (E := E) rfl rfl rfl rfl
  have howD : PassesOwn (model P w) (A.deeper (envOfC "_law_power" (defScope s__law_power) s.heap.objs.size f cdv)) (envOfC "_law_power" (defScope s__law_power) s.heap.objs.size f cdv) (cxOf (L2.CX P w) P w K mg base ["word", "exponent"] "_law_power" (defScope s__law_power) f cdv A outer s H E).xe := PassesOwn.leaving
  exact ⟨_, (bss_cons (bs_if (bt_cmp (md := false) dLt op_ltA op2_lt (be_varP 1 (pv 1)) be_int (nomark _)) (bss_one (bs_ret (be_call d__law_reduced hr (by decide) (by rfl) tkD (ba_cons (be_op (md := false) dMul op_mulA op2_mul (BE.p (be_call d__law_inverse hr (by decide) (by rfl) tkD (ba_cons (be_var 0 (pv 0)) ba_nil))) (BE.p (be_op (md := false) dSub op_sub op2_sub be_int (be_varP 1 (pv 1))))) ba_nil)))) bss_nil)
  (bss_one (bs_ret (be_call d__law_reduced hr (by decide) (by rfl) tkD (ba_cons (be_op (md := false) dMul op_mulA op2_mul (be_varP 0 (pv 0)) (be_varP 1 (pv 1))) ba_nil)))))⟩
abbrev s_letters_of : Stmt := topS 9
theorem sc_letters_of : FnScope ["g"] ["g"] (defScope s_letters_of) := ⟨rfl, rfl, rfl, by decide +kernel, rfl, by decide +kernel, by decide +kernel⟩
theorem ok_letters_of {P : Program} {w : World} {K : PySem.W.Frag} {mg : Str → Option Value} {base : Heap} (F : FD K mg "letters_of" s_letters_of)
    {tk_MOST_GENERATORS : Tok} (c_MOST_GENERATORS : mg "MOST_GENERATORS" = some (.int 3 tk_MOST_GENERATORS))
    {a_BadNumber : Addr} (x_BadNumber : ExcF K mg "BadNumber" a_BadNumber)
    {tk_LETTERS : Tok} (c_LETTERS : mg "LETTERS" = some (.str "aAbBcC" tk_LETTERS)) :
    Def P w K mg base "letters_of" ["g"] 1 m_letters_of := by
  refine mk_def F sc_letters_of (by decide) (fun _ _ _ _ _ _ us hl => match us, hl with | [_], _ => rfl) fun f cdv A outer s H E hr => ?_
  have tkD := takes_of (X := cxOf (L2.CX P w) P w K mg base ["g"] "letters_of" (defScope s_letters_of) f cdv A outer s H E) (E := E) rfl rfl rfl rfl
  have howD : PassesOwn (model P w) (A.deeper (envOfC "letters_of" (defScope s_letters_of) s.heap.objs.size f cdv)) (envOfC "letters_of" (defScope s_letters_of) s.heap.objs.size f cdv) (cxOf (L2.CX P w) P w K mg base ["g"] "letters_of" (defScope s_letters_of) f cdv A outer s H E).xe := PassesOwn.leaving
  exact ⟨_, (bss_cons (bs_if (bt_w (bw_or (bt_cmp (md := false) dLt op_ltA op2_lt (be_varP 0 (pv 0)) be_int (nomark _)) (bw_or1 (bt_cmp (md := false) dGt op_gtA op2_gt (be_varP 0 (pv 0)) (be_globI (by rfl) c_MOST_GENERATORS) (nomark _))))) (bss_one (bs_raiseS x_BadNumber (by rfl) tkD (by rfl))) bss_nil)
  (bss_one (bs_ret (be_sl (be_globS (by rfl) c_LETTERS) bo_none (bo_some (BE.p (be_op (md := false) dMul op_mulA op2_mul be_int (be_varP 0 (pv 0)))))))))⟩
abbrev s_is_word : Stmt := topS 11
theorem sc_is_word : FnScope ["g", "text", "letters", "letter"] ["g", "text"] (defScope s_is_word) := ⟨rfl, rfl, rfl, by decide +kernel, rfl, by decide +kernel, by decide +kernel⟩
theorem ok_is_word {P : Program} {w : World} {K : PySem.W.Frag} {mg : Str → Option Value} {base : Heap} (F : FD K mg "is_word" s_is_word)
    (d_letters_of : Def P w K mg base "letters_of" ["g"] 1 m_letters_of)
    (n_all : mg "all" = none) :
    Def P w K mg base "is_word" ["g", "text"] 2 m_is_word := by
  refine mk_def F sc_is_word (by decide) (fun _ _ _ _ _ _ us hl => match us, hl with | [_, _], _ => rfl) fun f cdv A outer s H E hr => ?_
  have tkD := takes_of (X := cxOf (L2.CX P w) P w K mg base ["g", "text", "letters", "letter"] "is_word" (defScope s_is_word) f cdv A outer s H E) (E := E) rfl rfl rfl rfl
  have howD : PassesOwn (model P w) (A.deeper (envOfC "is_word" (defScope s_is_word) s.heap.objs.size f cdv)) (envOfC "is_word" (defScope s_is_word) s.heap.objs.size f cdv) (cxOf (L2.CX P w) P w K mg base ["g", "text", "letters", "letter"] "is_word" (defScope s_is_word) f cdv A outer s H E).xe := PassesOwn.leaving
  exact ⟨_, (bss_cons (bs_set 2 (be_call d_letters_of hr (by decide) (by rfl) tkD (ba_cons (be_var 0 (pv 0)) ba_nil)) sc_is_word.nd rfl (by first | exact .inl rfl | exact .inr rfl))
  (bss_one (bs_ret (be_callB (md := false) dAll (cr_all rfl) fn_all (by rfl) n_all (by decide +kernel) (ba_cons (BE.p (be_n (bn_lc (own := [("letter", 3)]) rfl sc_is_word.nd (bi_seq (be_var 1 (pv 1))) (blkOk_by (N := ["g", "text", "letters", "letter"]) (sc := defScope s_is_word) (by decide +kernel)) (by decide) (fun _ _ _ _ _ => ⟨_, (bg_name 3 (pg_name (i := 3) sc_is_word.nd rfl (by first | exact .inl rfl | exact .inr rfl)))⟩) (fun _ _ _ _ _ => ⟨_, bts_nil⟩) (fun _ _ _ _ _ => ⟨_, (be_cmp (md := false) dIn op_in_sign op2_in (be_varP 3 (pv 3)) (be_varP 2 (pv 2)) (by rfl))⟩)))) ba_nil)))))⟩
abbrev s_check_word : Stmt := topS 12
theorem sc_check_word : FnScope ["g", "text"] ["g", "text"] (defScope s_check_word) := ⟨rfl, rfl, rfl, by decide +kernel, rfl, by decide +kernel, by decide +kernel⟩
theorem ok_check_word {P : Program} {w : World} {K : PySem.W.Frag} {mg : Str → Option Value} {base : Heap} (F : FD K mg "check_word" s_check_word)
    (d_is_word : Def P w K mg base "is_word" ["g", "text"] 2 m_is_word)
    {a_NotWord : Addr} (x_NotWord : ExcF K mg "NotWord" a_NotWord)
    (n_len : mg "len" = none)
    {tk_MOST_LETTERS : Tok} (c_MOST_LETTERS : mg "MOST_LETTERS" = some (.int 60 tk_MOST_LETTERS)) :
    Def P w K mg base "check_word" ["g", "text"] 3 m_check_word := by
  refine mk_def F sc_check_word (by decide) (fun _ _ _ _ _ _ us hl => match us, hl with | [_, _], _ => rfl) fun f cdv A outer s H E hr => ?_
  have tkD := takes_of (X := cxOf (L2.CX P w) P w K mg base ["g", "text"] "check_word" (defScope s_check_word) f cdv A outer s H E) (E := E) rfl rfl rfl rfl
  have howD : PassesOwn (model P w) (A.deeper (envOfC "check_word" (defScope s_check_word) s.heap.objs.size f cdv)) (envOfC "check_word" (defScope s_check_word) s.heap.objs.size f cdv) (cxOf (L2.CX P w) P w K mg base ["g", "text"] "check_word" (defScope s_check_word) f cdv A outer s H E).xe := PassesOwn.leaving
  exact ⟨_, (bss_cons (bs_if (bt_not (bt_truth (BE.p (be_call d_is_word hr (by decide) (by rfl) tkD (ba_cons (be_var 0 (pv 0)) (ba_cons (be_var 1 (pv 1)) ba_nil)))))) (bss_one (bs_raiseS x_NotWord (by rfl) tkD (by rfl))) bss_nil)
  (bss_one (bs_if (bt_cmp (md := false) dGt op_gtA op2_gt (BE.p (be_callB (md := false) dLen call_lenA fn_len (by rfl) n_len (by decide +kernel) (ba_cons (be_varP 1 (pv 1)) ba_nil))) (be_globI (by rfl) c_MOST_LETTERS) (nomark _)) (bss_one (bs_raiseS x_NotWord (by rfl) tkD (by rfl))) bss_nil)))⟩
abbrev s_inverse_letter : Stmt := topS 10
theorem sc_inverse_letter : FnScope ["letter"] ["letter"] (defScope s_inverse_letter) := ⟨rfl, rfl, rfl, by decide +kernel, rfl, by decide +kernel, by decide +kernel⟩
theorem ok_inverse_letter {P : Program} {w : World} {K : PySem.W.Frag} {mg : Str → Option Value} {base : Heap} (F : FD K mg "inverse_letter" s_inverse_letter)
    {a_INVERSES : Addr} (g_INVERSES : mg "INVERSES" = some (.ref a_INVERSES)) (t_INVERSES : Tab K w a_INVERSES tb_INVERSES)
    {a_NotWord : Addr} (x_NotWord : ExcF K mg "NotWord" a_NotWord) :
    Def P w K mg base "inverse_letter" ["letter"] 1 m_inverse_letter := by
  refine mk_def F sc_inverse_letter (by decide) (fun _ _ _ _ _ _ us hl => match us, hl with | [_], _ => rfl) fun f cdv A outer s H E hr => ?_
  have tkD := takes_of (X := cxOf (L2.CX P w) P w K mg base ["letter"] "inverse_letter" (defScope s_inverse_letter) f cdv A outer s H E) (E := E) rfl rfl rfl rfl
  have howD : PassesOwn (model P w) (A.deeper (envOfC "inverse_letter" (defScope s_inverse_letter) s.heap.objs.size f cdv)) (envOfC "inverse_letter" (defScope s_inverse_letter) s.heap.objs.size f cdv) (cxOf (L2.CX P w) P w K mg base ["letter"] "inverse_letter" (defScope s_inverse_letter) f cdv A outer s H E).xe := PassesOwn.leaving
  exact ⟨_, (bss_cons (bs_if (bt_tabNi t_INVERSES (be_varP 0 (pv 0)) (pe_glob (by rfl) g_INVERSES rfl)) (bss_one (bs_raiseS x_NotWord (by rfl) tkD (by rfl))) bss_nil)
  (bss_one (bs_ret (be_tab t_INVERSES (pe_glob (by rfl) g_INVERSES rfl) (be_varP 0 (pv 0)) (fun _ _ => rfl)))))⟩
abbrev s_cancelled : Stmt := topS 16
theorem sc_cancelled : FnScope ["text", "kept", "letter"] ["text"] (defScope s_cancelled) := ⟨rfl, rfl, rfl, by decide +kernel, rfl, by decide +kernel, by decide +kernel⟩
theorem ok_cancelled {P : Program} {w : World} {K : PySem.W.Frag} {mg : Str → Option Value} {base : Heap} (F : FD K mg "cancelled" s_cancelled)
    (d_inverse_letter : Def P w K mg base "inverse_letter" ["letter"] 1 m_inverse_letter) :
    Def P w K mg base "cancelled" ["text"] 2 m_cancelled := by
  refine mk_def F sc_cancelled (by decide) (fun _ _ _ _ _ _ us hl => match us, hl with | [_], _ => rfl) fun f cdv A outer s H E hr => ?_
  have tkD := takes_of (X := cxOf (L2.CX P w) P w K mg base ["text", "kept", "letter"] "cancelled" (defScope s_cancelled) f cdv A outer s H E) (E := E) rfl rfl rfl rfl
  have howD : PassesOwn (model P w) (A.deeper (envOfC "cancelled" (defScope s_cancelled) s.heap.objs.size f cdv)) (envOfC "cancelled" (defScope s_cancelled) s.heap.objs.size f cdv) (cxOf (L2.CX P w) P w K mg base ["text", "kept", "letter"] "cancelled" (defScope s_cancelled) f cdv A outer s H E).xe := PassesOwn.leaving
  exact ⟨_, (bss_cons (bs_setOwn 1 (bn_lst ba_nil) sc_cancelled.nd rfl (by first | exact .inl rfl | exact .inr rfl))
  (bss_cons (bs_for howD rfl (bi_seq (be_var 0 (pv 0))) (bg_name 2 (pg_name (i := 2) sc_cancelled.nd rfl (by first | exact .inl rfl | exact .inr rfl))) (bss_one (bs_if (bt_w (bw_and (bt_truth (be_varP 1 (pv 1))) (bw_and1 (bt_cmp (md := false) dEq (op_eqA hr.units) op2_eq (BE.p (be_ixV (pv 1) (BE.p (be_neg be_int)) (fun _ _ => rfl))) (BE.p (be_call d_inverse_letter hr (by decide) (by rfl) tkD (ba_cons (be_var 2 (pv 2)) ba_nil))) (nomark _))))) (bss_one (bs_popS (i := 1) (pv 1))) (bss_one (bs_appS (i := 1) (be_var 2 (pv 2)) (pv 1))))))
  (bss_one (bs_frz 1 (bs_ret (be_join0S (be_var 1 (pv 1))))))))⟩
abbrev s_flipped : Stmt := topS 15
theorem sc_flipped : FnScope ["text", "letter"] ["text"] (defScope s_flipped) := ⟨rfl, rfl, rfl, by decide +kernel, rfl, by decide +kernel, by decide +kernel⟩
theorem ok_flipped {P : Program} {w : World} {K : PySem.W.Frag} {mg : Str → Option Value} {base : Heap} (F : FD K mg "flipped" s_flipped)
    (d_inverse_letter : Def P w K mg base "inverse_letter" ["letter"] 1 m_inverse_letter) :
    Def P w K mg base "flipped" ["text"] 2 m_flipped := by
  refine mk_def F sc_flipped (by decide) (fun _ _ _ _ _ _ us hl => match us, hl with | [_], _ => rfl) fun f cdv A outer s H E hr => ?_
  have tkD := takes_of (X := cxOf (L2.CX P w) P w K mg base ["text", "letter"] "flipped" (defScope s_flipped) f cdv A outer s H E) (E := E) rfl rfl rfl rfl
  have howD : PassesOwn (model P w) (A.deeper (envOfC "flipped" (defScope s_flipped) s.heap.objs.size f cdv)) (envOfC "flipped" (defScope s_flipped) s.heap.objs.size f cdv) (cxOf (L2.CX P w) P w K mg base ["text", "letter"] "flipped" (defScope s_flipped) f cdv A outer s H E).xe := PassesOwn.leaving
  exact ⟨_, (bss_one (bs_ret (be_join0S (be_n (bn_lc (own := [("letter", 1)]) rfl sc_flipped.nd (bi_seq (be_rev (be_var 0 (pv 0)))) (blkOk_by (N := ["text", "letter"]) (sc := defScope s_flipped) (by decide +kernel)) (by decide) (fun _ _ _ _ _ => ⟨_, (bg_name 1 (pg_name (i := 1) sc_flipped.nd rfl (by first | exact .inl rfl | exact .inr rfl)))⟩) (fun _ _ _ _ _ => ⟨_, bts_nil⟩) (fun _ _ _ _ _ => ⟨_, (be_call d_inverse_letter hr (by decide) (by rfl) takes0 (ba_cons (be_var 1 (pv 1)) ba_nil))⟩))))))⟩
abbrev s_power : Stmt := topS 20
theorem sc_power : FnScope ["word", "exponent"] ["word", "exponent"] (defScope s_power) := ⟨rfl, rfl, rfl, by decide +kernel, rfl, by decide +kernel, by decide +kernel⟩
theorem ok_power {P : Program} {w : World} {K : PySem.W.Frag} {mg : Str → Option Value} {base : Heap} (F : FD K mg "power" s_power)
    (d_check_word : Def P w K mg base "check_word" ["g", "text"] 3 m_check_word)
    {tk_MOST_EXPONENT : Tok} (c_MOST_EXPONENT : mg "MOST_EXPONENT" = some (.int 20 tk_MOST_EXPONENT))
    {a_BadNumber : Addr} (x_BadNumber : ExcF K mg "BadNumber" a_BadNumber)
    (d_cancelled : Def P w K mg base "cancelled" ["text"] 2 m_cancelled)
    (d_flipped : Def P w K mg base "flipped" ["text"] 2 m_flipped) :
    Def P w K mg base "power" ["word", "exponent"] 4 m_power := by
  refine mk_def F sc_power (by decide) (fun _ _ _ _ _ _ us hl => match us, hl with | [_, _], _ => rfl) fun f cdv A outer s H E hr => ?_
  have tkD := takes_of (X := cxOf (L2.CX P w) P w K mg base ["word", "exponent"] "power" (defScope s_power) f cdv A outer s H E) (E := E) rfl rfl rfl rfl
  have howD : PassesOwn (model P w) (A.deeper (envOfC "power" (defScope s_power) s.heap.objs.size f cdv)) (envOfC "power" (defScope s_power) s.heap.objs.size f cdv) (cxOf (L2.CX P w) P w K mg base ["word", "exponent"] "power" (defScope s_power) f cdv A outer s H E).xe := PassesOwn.leaving
  exact ⟨_, (bss_cons (bs_expr (be_call d_check_word hr (by decide) (by rfl) tkD (ba_cons be_int (ba_cons (be_var 0 (pv 0)) ba_nil))))
  (bss_cons (bs_if (bt_w (bw_or (bt_cmp (md := false) dLt op_ltA op2_lt (be_varP 1 (pv 1)) (BE.p (be_neg (be_globI (by rfl) c_MOST_EXPONENT))) (nomark _)) (bw_or1 (bt_cmp (md := false) dGt op_gtA op2_gt (be_varP 1 (pv 1)) (be_globI (by rfl) c_MOST_EXPONENT) (nomark _))))) (bss_one (bs_raiseS x_BadNumber (by rfl) tkD (by rfl))) bss_nil)
  (bss_cons (bs_if (bt_cmp (md := false) dLt op_ltA op2_lt (be_varP 1 (pv 1)) be_int (nomark _)) (bss_one (bs_ret (be_call d_cancelled hr (by decide) (by rfl) tkD (ba_cons (be_op (md := false) dMul op_mulA op2_mul (BE.p (be_call d_flipped hr (by decide) (by rfl) tkD (ba_cons (be_var 0 (pv 0)) ba_nil))) (BE.p (be_neg (be_varP 1 (pv 1))))) ba_nil)))) bss_nil)
  (bss_one (bs_ret (be_call d_cancelled hr (by decide) (by rfl) tkD (ba_cons (be_op (md := false) dMul op_mulA op2_mul (be_varP 0 (pv 0)) (be_varP 1 (pv 1))) ba_nil)))))))⟩
abbrev s_product : Stmt := topS 19
theorem sc_product : FnScope ["one", "other"] ["one", "other"] (defScope s_product) := ⟨rfl, rfl, rfl, by decide +kernel, rfl, by decide +kernel, by decide +kernel⟩
theorem ok_product {P : Program} {w : World} {K : PySem.W.Frag} {mg : Str → Option Value} {base : Heap} (F : FD K mg "product" s_product)
    (d_check_word : Def P w K mg base "check_word" ["g", "text"] 3 m_check_word)
    (d_cancelled : Def P w K mg base "cancelled" ["text"] 2 m_cancelled) :
    Def P w K mg base "product" ["one", "other"] 4 m_product := by
  refine mk_def F sc_product (by decide) (fun _ _ _ _ _ _ us hl => match us, hl with | [_, _], _ => rfl) fun f cdv A outer s H E hr => ?_
  have tkD := takes_of (X := cxOf (L2.CX P w) P w K mg base ["one", "other"] "product" (defScope s_product) f cdv A outer s H E) (E := E) rfl rfl rfl rfl
  have howD : PassesOwn (model P w) (A.deeper (envOfC "product" (defScope s_product) s.heap.objs.size f cdv)) (envOfC "product" (defScope s_product) s.heap.objs.size f cdv) (cxOf (L2.CX P w) P w K mg base ["one", "other"] "product" (defScope s_product) f cdv A outer s H E).xe := PassesOwn.leaving
  exact ⟨_, (bss_cons (bs_expr (be_call d_check_word hr (by decide) (by rfl) tkD (ba_cons be_int (ba_cons (be_var 0 (pv 0)) ba_nil))))
  (bss_cons (bs_expr (be_call d_check_word hr (by decide) (by rfl) tkD (ba_cons be_int (ba_cons (be_var 1 (pv 1)) ba_nil))))
  (bss_one (bs_ret (be_call d_cancelled hr (by decide) (by rfl) tkD (ba_cons (be_op (md := true) dAdd op_addA op2_add (be_var 0 (pv 0)) (be_var 1 (pv 1))) ba_nil))))))⟩
abbrev s__law_told : Stmt := topS 27
theorem sc__law_told : FnScope ["which", "one", "other"] ["which", "one", "other"] (defScope s__law_told) := ⟨rfl, rfl, rfl, by decide +kernel, rfl, by decide +kernel, by decide +kernel⟩
theorem ok__law_told {P : Program} {w : World} {K : PySem.W.Frag} {mg : Str → Option Value} {base : Heap} (F : FD K mg "_law_told" s__law_told)
    (d_product : Def P w K mg base "product" ["one", "other"] 4 m_product)
    (d_power : Def P w K mg base "power" ["word", "exponent"] 4 m_power)
    {ka_BadNumber : Addr} (k_BadNumber : CatchF K mg "BadNumber" ka_BadNumber k_sub)
    {ka_NotWord : Addr} (k_NotWord : CatchF K mg "NotWord" ka_NotWord k_sub) :
    Def P w K mg base "_law_told" ["which", "one", "other"] 5 m__law_told := by
  refine mk_def F sc__law_told (by decide) (fun _ _ _ _ _ _ us hl => match us, hl with | [_, _, _], _ => rfl) fun f cdv A outer s H E hr => ?_
  have tkD := takes_of (X := cxOf (L2.CX P w) P w K mg base ["which", "one", "other"] "_law_told" (defScope s__law_told) f cdv A outer s H E) (E := E) rfl rfl rfl rfl
  have howD : PassesOwn (model P w) (A.deeper (envOfC "_law_told" (defScope s__law_told) s.heap.objs.size f cdv)) (envOfC "_law_told" (defScope s__law_told) s.heap.objs.size f cdv) (cxOf (L2.CX P w) P w K mg base ["which", "one", "other"] "_law_told" (defScope s__law_told) f cdv A outer s H E).xe := PassesOwn.leaving
  exact ⟨_, (bss_one (bs_tryN rfl rfl tkD (fun W pn xe tk ho => ⟨_, (bss_cons (bs_if (bt_cmp (md := false) dEq (op_eqA hr.units) op2_eq (be_varP 0 (pv 0)) be_int (nomark _)) (bss_one (bs_ret (be_call d_product hr (by decide) (by rfl) tk (ba_cons (be_var 1 (pv 1)) (ba_cons (be_var 2 (pv 2)) ba_nil))))) bss_nil)
  (bss_one (bs_ret (be_call d_power hr (by decide) (by rfl) tk (ba_cons (be_var 1 (pv 1)) (ba_cons (be_var 2 (pv 2)) ba_nil))))))⟩)
  (HdsM.cons k_NotWord.c ⟨rfl, by decide, .inl k_NotWord.c.g⟩ (fun a oe pn hz hf => ⟨_, (bss_one (bs_ret be_str))⟩)
  (HdsM.cons k_BadNumber.c ⟨rfl, by decide, .inl k_BadNumber.c.g⟩ (fun a oe pn hz hf => ⟨_, (bss_one (bs_ret be_str))⟩)
  .nil))))⟩
abbrev s__law_cell : Stmt := topS 22
theorem sc__law_cell : FnScope ["script", "k"] ["script", "k"] (defScope s__law_cell) := ⟨rfl, rfl, rfl, by decide +kernel, rfl, by decide +kernel, by decide +kernel⟩
theorem ok__law_cell {P : Program} {w : World} {K : PySem.W.Frag} {mg : Str → Option Value} {base : Heap} (F : FD K mg "_law_cell" s__law_cell)
    (n_len : mg "len" = none) :
    Def P w K mg base "_law_cell" ["script", "k"] 1 m__law_cell := by
  refine mk_def F sc__law_cell (by decide) (fun _ _ _ _ _ _ us hl => match us, hl with | [_, _], _ => rfl) fun f cdv A outer s H E hr => ?_
  have tkD := takes_of (X := cxOf (L2.CX P w) P w K mg base ["script", "k"] "_law_cell" (defScope s__law_cell) f cdv A outer s H E) (E := E) rfl rfl rfl rfl
  have howD : PassesOwn (model P w) (A.deeper (envOfC "_law_cell" (defScope s__law_cell) s.heap.objs.size f cdv)) (envOfC "_law_cell" (defScope s__law_cell) s.heap.objs.size f cdv) (cxOf (L2.CX P w) P w K mg base ["script", "k"] "_law_cell" (defScope s__law_cell) f cdv A outer s H E).xe := PassesOwn.leaving
  exact ⟨_, (bss_cons (bs_if (bt_cmp (md := false) dLt op_ltA op2_lt (be_varP 1 (pv 1)) (BE.p (be_callB (md := false) dLen call_lenA fn_len (by rfl) n_len (by decide +kernel) (ba_cons (be_varP 0 (pv 0)) ba_nil))) (nomark _)) (bss_one (bs_ret (be_ixV (pv 0) (be_varP 1 (pv 1)) (fun _ _ => rfl)))) bss_nil)
  (bss_one (bs_ret be_int)))⟩
abbrev s_reduced : Stmt := topS 18
theorem sc_reduced : FnScope ["word"] ["word"] (defScope s_reduced) := ⟨rfl, rfl, rfl, by decide +kernel, rfl, by decide +kernel, by decide +kernel⟩
theorem ok_reduced {P : Program} {w : World} {K : PySem.W.Frag} {mg : Str → Option Value} {base : Heap} (F : FD K mg "reduced" s_reduced)
    (d_check_word : Def P w K mg base "check_word" ["g", "text"] 3 m_check_word)
    (d_cancelled : Def P w K mg base "cancelled" ["text"] 2 m_cancelled) :
    Def P w K mg base "reduced" ["word"] 4 m_reduced := by
  refine mk_def F sc_reduced (by decide) (fun _ _ _ _ _ _ us hl => match us, hl with | [_], _ => rfl) fun f cdv A outer s H E hr => ?_
  have tkD := takes_of (X := cxOf (L2.CX P w) P w K mg base ["word"] "reduced" (defScope s_reduced) f cdv A outer s H E) (E := E) rfl rfl rfl rfl
  have howD : PassesOwn (model P w) (A.deeper (envOfC "reduced" (defScope s_reduced) s.heap.objs.size f cdv)) (envOfC "reduced" (defScope s_reduced) s.heap.objs.size f cdv) (cxOf (L2.CX P w) P w K mg base ["word"] "reduced" (defScope s_reduced) f cdv A outer s H E).xe := PassesOwn.leaving
  exact ⟨_, (bss_cons (bs_expr (be_call d_check_word hr (by decide) (by rfl) tkD (ba_cons be_int (ba_cons (be_var 0 (pv 0)) ba_nil))))
  (bss_one (bs_ret (be_call d_cancelled hr (by decide) (by rfl) tkD (ba_cons (be_var 0 (pv 0)) ba_nil)))))⟩
abbrev s_inverse : Stmt := topS 17
theorem sc_inverse : FnScope ["word"] ["word"] (defScope s_inverse) := ⟨rfl, rfl, rfl, by decide +kernel, rfl, by decide +kernel, by decide +kernel⟩
theorem ok_inverse {P : Program} {w : World} {K : PySem.W.Frag} {mg : Str → Option Value} {base : Heap} (F : FD K mg "inverse" s_inverse)
    (d_check_word : Def P w K mg base "check_word" ["g", "text"] 3 m_check_word)
    (d_flipped : Def P w K mg base "flipped" ["text"] 2 m_flipped) :
    Def P w K mg base "inverse" ["word"] 4 m_inverse := by
  refine mk_def F sc_inverse (by decide) (fun _ _ _ _ _ _ us hl => match us, hl with | [_], _ => rfl) fun f cdv A outer s H E hr => ?_
  have tkD := takes_of (X := cxOf (L2.CX P w) P w K mg base ["word"] "inverse" (defScope s_inverse) f cdv A outer s H E) (E := E) rfl rfl rfl rfl
  have howD : PassesOwn (model P w) (A.deeper (envOfC "inverse" (defScope s_inverse) s.heap.objs.size f cdv)) (envOfC "inverse" (defScope s_inverse) s.heap.objs.size f cdv) (cxOf (L2.CX P w) P w K mg base ["word"] "inverse" (defScope s_inverse) f cdv A outer s H E).xe := PassesOwn.leaving
  exact ⟨_, (bss_cons (bs_expr (be_call d_check_word hr (by decide) (by rfl) tkD (ba_cons be_int (ba_cons (be_var 0 (pv 0)) ba_nil))))
  (bss_one (bs_ret (be_call d_flipped hr (by decide) (by rfl) tkD (ba_cons (be_var 0 (pv 0)) ba_nil)))))⟩
abbrev s_law : Stmt := topS 29
theorem sc_law : FnScope ["script", "g", "most", "words", "one", "other", "exponent", "due", "small", "more", "long", "k"] ["script"] (defScope s_law) := ⟨rfl, rfl, rfl, by decide +kernel, rfl, by decide +kernel, by decide +kernel⟩
theorem ok_law {P : Program} {w : World} {K : PySem.W.Frag} {mg : Str → Option Value} {base : Heap} {f : Addr} {fd : FuncData} (F : Fun K "law" "law" s_law f fd)
    (d__law_cell : Def P w K mg base "_law_cell" ["script", "k"] 1 m__law_cell)
    (n_range : mg "range" = none)
    (d__law_word : Def P w K mg base "_law_word" ["cell", "g", "most"] 2 m__law_word)
    (d_product : Def P w K mg base "product" ["one", "other"] 4 m_product)
    (d__law_reduced : Def P w K mg base "_law_reduced" ["word"] 1 m__law_reduced)
    (d_inverse : Def P w K mg base "inverse" ["word"] 4 m_inverse)
    (d__law_power : Def P w K mg base "_law_power" ["word", "exponent"] 2 m__law_power)
    (d__law_told : Def P w K mg base "_law_told" ["which", "one", "other"] 5 m__law_told)
    (d_power : Def P w K mg base "power" ["word", "exponent"] 4 m_power)
    (d_reduced : Def P w K mg base "reduced" ["word"] 4 m_reduced) :
    FnOk P w K mg base (L2.CX P w) 6 f fd ["script"] (spM K mg 1 m_law) := by
  refine mk_fn F sc_law (by decide) fun f cdv A outer s H E hr => ?_
  have tkD := takes_of (X := cxOf (L2.CX P w) P w K mg base ["script", "g", "most", "words", "one", "other", "exponent", "due", "small", "more", "long", "k"] "law" (defScope s_law) f cdv A outer s H E) (E := E) rfl rfl rfl rfl
  have howD : PassesOwn (model P w) (A.deeper (envOfC "law" (defScope s_law) s.heap.objs.size f cdv)) (envOfC "law" (defScope s_law) s.heap.objs.size f cdv) (cxOf (L2.CX P w) P w K mg base ["script", "g", "most", "words", "one", "other", "exponent", "due", "small", "more", "long", "k"] "law" (defScope s_law) f cdv A outer s H E).xe := PassesOwn.leaving
  exact ⟨_, (bss_cons (bs_set 1 (be_op (md := true) dAdd op_addA op2_add be_int (be_op (md := false) dMod op_mod op2_mod (BE.p (be_call d__law_cell hr (by decide) (by rfl) tkD (ba_cons (be_var 0 (pv 0)) (ba_cons be_int ba_nil)))) be_int)) sc_law.nd rfl (by first | exact .inl rfl | exact .inr rfl))
  (bss_cons (bs_set 2 be_int sc_law.nd rfl (by first | exact .inl rfl | exact .inr rfl))
  (bss_cons (bs_if (bt_cmp (md := false) dEq (op_eqA hr.units) op2_eq (BE.p (be_op (md := false) dMod op_mod op2_mod (BE.p (be_op (md := false) dFdiv op_fdivW op2_fdiv (BE.p (be_call d__law_cell hr (by decide) (by rfl) tkD (ba_cons (be_var 0 (pv 0)) (ba_cons be_int ba_nil)))) be_int)) be_int)) be_int (nomark _)) (bss_one (bs_set 2 be_int sc_law.nd rfl (by first | exact .inl rfl | exact .inr rfl))) bss_nil)
  (bss_cons (bs_asgL (bl_lc (i := 3) (own := [("k", 11)]) rfl sc_law.nd rfl rfl (sw_true rfl rfl rfl (by decide +kernel)) (bi_range1 (by rfl) n_range (ba_cons be_int ba_nil)) (blkOk_by (N := ["script", "g", "most", "words", "one", "other", "exponent", "due", "small", "more", "long", "k"]) (sc := defScope s_law) (by decide +kernel)) (by decide) (fun _ _ _ _ _ => ⟨_, (bg_name 11 (pg_name (i := 11) sc_law.nd rfl (by first | exact .inl rfl | exact .inr rfl)))⟩) (fun _ _ _ _ _ => ⟨_, bts_nil⟩) (fun _ _ _ _ _ => ⟨_, (be_call d__law_word hr (by decide) (by rfl) takes0 (ba_cons (be_call d__law_cell hr (by decide) (by rfl) takes0 (ba_cons (be_var 0 (pv 0)) (ba_cons (be_op (md := true) dAdd op_addA op2_add be_int (be_var 11 (pv 11))) ba_nil))) (ba_cons (be_var 1 (pv 1)) (ba_cons (be_var 2 (pv 2)) ba_nil))))⟩)))
  (bss_cons (bs_set 4 (be_ixV (pv 3) be_int (fun _ _ => rfl)) sc_law.nd rfl (by first | exact .inl rfl | exact .inr rfl))
  (bss_cons (bs_set 5 (be_ixV (pv 3) be_int (fun _ _ => rfl)) sc_law.nd rfl (by first | exact .inl rfl | exact .inr rfl))
  (bss_cons (bs_if (bt_w (bw_or (bt_cmp (md := false) dNe (op_neA hr.units) op2_ne (BE.p (be_call d_product hr (by decide) (by rfl) tkD (ba_cons (be_var 4 (pv 4)) (ba_cons (be_var 5 (pv 5)) ba_nil)))) (BE.p (be_call d__law_reduced hr (by decide) (by rfl) tkD (ba_cons (be_op (md := true) dAdd op_addA op2_add (be_var 4 (pv 4)) (be_var 5 (pv 5))) ba_nil))) (nomark _)) (bw_or1 (bt_cmp (md := false) dNe (op_neA hr.units) op2_ne (BE.p (be_call d_product hr (by decide) (by rfl) tkD (ba_cons (be_var 4 (pv 4)) (ba_cons (be_call d_inverse hr (by decide) (by rfl) tkD (ba_cons (be_var 4 (pv 4)) ba_nil)) ba_nil)))) be_str (nomark _))))) (bss_one (bs_ret be_bool)) bss_nil)
  (bss_cons (bs_if (bt_w (bw_and (bt_cmp (md := false) dEq (op_eqA hr.units) op2_eq (be_varP 2 (pv 2)) be_int (nomark _)) (bw_and1 (bt_cmp (md := false) dNe (op_neA hr.units) op2_ne (BE.p (be_call d_product hr (by decide) (by rfl) tkD (ba_cons (be_call d_product hr (by decide) (by rfl) tkD (ba_cons (be_var 4 (pv 4)) (ba_cons (be_var 5 (pv 5)) ba_nil))) (ba_cons (be_ixV (pv 3) be_int (fun _ _ => rfl)) ba_nil)))) (BE.p (be_call d_product hr (by decide) (by rfl) tkD (ba_cons (be_var 4 (pv 4)) (ba_cons (be_call d_product hr (by decide) (by rfl) tkD (ba_cons (be_var 5 (pv 5)) (ba_cons (be_ixV (pv 3) be_int (fun _ _ => rfl)) ba_nil))) ba_nil)))) (nomark _))))) (bss_one (bs_ret be_bool)) bss_nil)
  (bss_cons (bs_set 6 (be_op (md := false) dSub op_sub op2_sub (BE.p (be_op (md := false) dMod op_mod op2_mod (BE.p (be_call d__law_cell hr (by decide) (by rfl) tkD (ba_cons (be_var 0 (pv 0)) (ba_cons be_int ba_nil)))) be_int)) be_int) sc_law.nd rfl (by first | exact .inl rfl | exact .inr rfl))
  (bss_cons (bs_set 7 be_str sc_law.nd rfl (by first | exact .inl rfl | exact .inr rfl))
  (bss_cons (bs_if (bt_chain dLe dLe op_leA op_leA op2_le op2_le (BE.p (be_neg be_int)) (be_varP 6 (pv 6)) be_int (by rfl)) (bss_one (bs_set 7 (be_call d__law_power hr (by decide) (by rfl) tkD (ba_cons (be_var 4 (pv 4)) (ba_cons (be_var 6 (pv 6)) ba_nil))) sc_law.nd rfl (by first | exact .inl rfl | exact .inr rfl))) bss_nil)
  (bss_cons (bs_if (bt_cmp (md := false) dNe (op_neA hr.units) op2_ne (BE.p (be_call d__law_told hr (by decide) (by rfl) tkD (ba_cons be_int (ba_cons (be_var 4 (pv 4)) (ba_cons (be_var 6 (pv 6)) ba_nil))))) (be_varP 7 (pv 7)) (nomark _)) (bss_one (bs_ret be_bool)) bss_nil)
  (bss_cons (bs_set 8 (be_op (md := false) dMod op_mod op2_mod (BE.p (be_call d__law_cell hr (by decide) (by rfl) tkD (ba_cons (be_var 0 (pv 0)) (ba_cons be_int ba_nil)))) be_int) sc_law.nd rfl (by first | exact .inl rfl | exact .inr rfl))
  (bss_cons (bs_set 9 (be_op (md := false) dMod op_mod op2_mod (BE.p (be_call d__law_cell hr (by decide) (by rfl) tkD (ba_cons (be_var 0 (pv 0)) (ba_cons be_int ba_nil)))) be_int) sc_law.nd rfl (by first | exact .inl rfl | exact .inr rfl))
  (bss_cons (bs_if (bt_w (bw_and (bt_cmp (md := false) dEq (op_eqA hr.units) op2_eq (be_varP 2 (pv 2)) be_int (nomark _)) (bw_and1 (bt_cmp (md := false) dNe (op_neA hr.units) op2_ne (BE.p (be_call d_product hr (by decide) (by rfl) tkD (ba_cons (be_call d_power hr (by decide) (by rfl) tkD (ba_cons (be_var 4 (pv 4)) (ba_cons (be_var 8 (pv 8)) ba_nil))) (ba_cons (be_call d_power hr (by decide) (by rfl) tkD (ba_cons (be_var 4 (pv 4)) (ba_cons (be_var 9 (pv 9)) ba_nil))) ba_nil)))) (BE.p (be_call d_power hr (by decide) (by rfl) tkD (ba_cons (be_var 4 (pv 4)) (ba_cons (be_op (md := true) dAdd op_addA op2_add (be_var 8 (pv 8)) (be_var 9 (pv 9))) ba_nil)))) (nomark _))))) (bss_one (bs_ret be_bool)) bss_nil)
  (bss_cons (bs_set 10 (be_op (md := false) dMul op_mulA op2_mul be_str be_int) sc_law.nd rfl (by first | exact .inl rfl | exact .inr rfl))
  (bss_cons (bs_if (bt_w (bw_or (bt_cmp (md := false) dNe (op_neA hr.units) op2_ne (BE.p (be_call d__law_told hr (by decide) (by rfl) tkD (ba_cons be_int (ba_cons (be_var 10 (pv 10)) (ba_cons (be_var 5 (pv 5)) ba_nil))))) be_str (nomark _)) (bw_or (bt_cmp (md := false) dNe (op_neA hr.units) op2_ne (BE.p (be_call d__law_told hr (by decide) (by rfl) tkD (ba_cons be_int (ba_cons (be_var 4 (pv 4)) (ba_cons (be_var 10 (pv 10)) ba_nil))))) be_str (nomark _)) (bw_or1 (bt_cmp (md := false) dNe (op_neA hr.units) op2_ne (BE.p (be_call d__law_told hr (by decide) (by rfl) tkD (ba_cons be_int (ba_cons (be_var 10 (pv 10)) (ba_cons be_int ba_nil))))) be_str (nomark _)))))) (bss_one (bs_ret be_bool)) bss_nil)
  (bss_one (bs_ret (be_and (be_cmp (md := false) dEq (op_eqA hr.units) op2_eq (BE.p (be_call d_reduced hr (by decide) (by rfl) tkD (ba_cons (be_var 4 (pv 4)) ba_nil))) (BE.p (be_call d_power hr (by decide) (by rfl) tkD (ba_cons (be_var 4 (pv 4)) (ba_cons be_int ba_nil)))) (nomark _)) (be_one (be_cmp (md := false) dEq (op_eqA hr.units) op2_eq (BE.p (be_call d_power hr (by decide) (by rfl) tkD (ba_cons (be_var 4 (pv 4)) (ba_cons be_int ba_nil)))) be_str (nomark _)))))))))))))))))))))))⟩
theorem all_mk {P : Program} {w : World} {K : PySem.W.Frag} {h : Heap} {mg : Str → Option Value} {fa : Addr} (X : K.In h) (G : h.Ns mainGlobals mg) (hfa : mg "law" = some (.ref fa))
    {f__law_values : Addr}
    {oc__law_values kV__law_values dc__law_values pm__law_values cd__law_values ct__law_values : Value}
    {od__law_values an__law_values : Option Addr}
    {sl__law_values : Array (Option Value)}
    (a__law_values : PySem.W.nsIn K mainGlobals "_law_values" = some (some (.ref f__law_values)))
    (l__law_values : K.lookup f__law_values = some ⟨oc__law_values, od__law_values, .func (PySem.W.fnOf "_law_values" "_law_values" (defArgs s__law_values) (defBody s__law_values) (defScope s__law_values) .none kV__law_values dc__law_values pm__law_values an__law_values cd__law_values ct__law_values), sl__law_values⟩)
    (cc__law_values : PySem.W.codeIn K cd__law_values "_law_values" = true)
    (kk__law_values : PySem.W.keepIn K (.ref f__law_values) = true)
    {f__law_word : Addr}
    {oc__law_word kV__law_word dc__law_word pm__law_word cd__law_word ct__law_word : Value}
    {od__law_word an__law_word : Option Addr}
    {sl__law_word : Array (Option Value)}
    (a__law_word : PySem.W.nsIn K mainGlobals "_law_word" = some (some (.ref f__law_word)))
    (l__law_word : K.lookup f__law_word = some ⟨oc__law_word, od__law_word, .func (PySem.W.fnOf "_law_word" "_law_word" (defArgs s__law_word) (defBody s__law_word) (defScope s__law_word) .none kV__law_word dc__law_word pm__law_word an__law_word cd__law_word ct__law_word), sl__law_word⟩)
    (cc__law_word : PySem.W.codeIn K cd__law_word "_law_word" = true)
    (kk__law_word : PySem.W.keepIn K (.ref f__law_word) = true)
    {f__law_reduced : Addr}
    {oc__law_reduced kV__law_reduced dc__law_reduced pm__law_reduced cd__law_reduced ct__law_reduced : Value}
    {od__law_reduced an__law_reduced : Option Addr}
    {sl__law_reduced : Array (Option Value)}
    (a__law_reduced : PySem.W.nsIn K mainGlobals "_law_reduced" = some (some (.ref f__law_reduced)))
    (l__law_reduced : K.lookup f__law_reduced = some ⟨oc__law_reduced, od__law_reduced, .func (PySem.W.fnOf "_law_reduced" "_law_reduced" (defArgs s__law_reduced) (defBody s__law_reduced) (defScope s__law_reduced) .none kV__law_reduced dc__law_reduced pm__law_reduced an__law_reduced cd__law_reduced ct__law_reduced), sl__law_reduced⟩)
    (cc__law_reduced : PySem.W.codeIn K cd__law_reduced "_law_reduced" = true)
    (kk__law_reduced : PySem.W.keepIn K (.ref f__law_reduced) = true)
    {f__law_inverse : Addr}
    {oc__law_inverse kV__law_inverse dc__law_inverse pm__law_inverse cd__law_inverse ct__law_inverse : Value}
    {od__law_inverse an__law_inverse : Option Addr}
    {sl__law_inverse : Array (Option Value)}
    (a__law_inverse : PySem.W.nsIn K mainGlobals "_law_inverse" = some (some (.ref f__law_inverse)))
    (l__law_inverse : K.lookup f__law_inverse = some ⟨oc__law_inverse, od__law_inverse, .func (PySem.W.fnOf "_law_inverse" "_law_inverse" (defArgs s__law_inverse) (defBody s__law_inverse) (defScope s__law_inverse) .none kV__law_inverse dc__law_inverse pm__law_inverse an__law_inverse cd__law_inverse ct__law_inverse), sl__law_inverse⟩)
    (cc__law_inverse : PySem.W.codeIn K cd__law_inverse "_law_inverse" = true)
    (kk__law_inverse : PySem.W.keepIn K (.ref f__law_inverse) = true)
    {f__law_power : Addr}
    {oc__law_power kV__law_power dc__law_power pm__law_power cd__law_power ct__law_power : Value}
    {od__law_power an__law_power : Option Addr}
    {sl__law_power : Array (Option Value)}
    (a__law_power : PySem.W.nsIn K mainGlobals "_law_power" = some (some (.ref f__law_power)))
    (l__law_power : K.lookup f__law_power = some ⟨oc__law_power, od__law_power, .func (PySem.W.fnOf "_law_power" "_law_power" (defArgs s__law_power) (defBody s__law_power) (defScope s__law_power) .none kV__law_power dc__law_power pm__law_power an__law_power cd__law_power ct__law_power), sl__law_power⟩)
    (cc__law_power : PySem.W.codeIn K cd__law_power "_law_power" = true)
    (kk__law_power : PySem.W.keepIn K (.ref f__law_power) = true)
    {f_letters_of : Addr}
    {oc_letters_of kV_letters_of dc_letters_of pm_letters_of cd_letters_of ct_letters_of : Value}
    {od_letters_of an_letters_of : Option Addr}
    {sl_letters_of : Array (Option Value)}
    (a_letters_of : PySem.W.nsIn K mainGlobals "letters_of" = some (some (.ref f_letters_of)))
    (l_letters_of : K.lookup f_letters_of = some ⟨oc_letters_of, od_letters_of, .func (PySem.W.fnOf "letters_of" "letters_of" (defArgs s_letters_of) (defBody s_letters_of) (defScope s_letters_of) .none kV_letters_of dc_letters_of pm_letters_of an_letters_of cd_letters_of ct_letters_of), sl_letters_of⟩)
    (cc_letters_of : PySem.W.codeIn K cd_letters_of "letters_of" = true)
    (kk_letters_of : PySem.W.keepIn K (.ref f_letters_of) = true)
    {f_is_word : Addr}
    {oc_is_word kV_is_word dc_is_word pm_is_word cd_is_word ct_is_word : Value}
    {od_is_word an_is_word : Option Addr}
    {sl_is_word : Array (Option Value)}
    (a_is_word : PySem.W.nsIn K mainGlobals "is_word" = some (some (.ref f_is_word)))
    (l_is_word : K.lookup f_is_word = some ⟨oc_is_word, od_is_word, .func (PySem.W.fnOf "is_word" "is_word" (defArgs s_is_word) (defBody s_is_word) (defScope s_is_word) .none kV_is_word dc_is_word pm_is_word an_is_word cd_is_word ct_is_word), sl_is_word⟩)
    (cc_is_word : PySem.W.codeIn K cd_is_word "is_word" = true)
    (kk_is_word : PySem.W.keepIn K (.ref f_is_word) = true)
    {f_check_word : Addr}
    {oc_check_word kV_check_word dc_check_word pm_check_word cd_check_word ct_check_word : Value}
    {od_check_word an_check_word : Option Addr}
    {sl_check_word : Array (Option Value)}
    (a_check_word : PySem.W.nsIn K mainGlobals "check_word" = some (some (.ref f_check_word)))
    (l_check_word : K.lookup f_check_word = some ⟨oc_check_word, od_check_word, .func (PySem.W.fnOf "check_word" "check_word" (defArgs s_check_word) (defBody s_check_word) (defScope s_check_word) .none kV_check_word dc_check_word pm_check_word an_check_word cd_check_word ct_check_word), sl_check_word⟩)
    (cc_check_word : PySem.W.codeIn K cd_check_word "check_word" = true)
    (kk_check_word : PySem.W.keepIn K (.ref f_check_word) = true)
    {f_inverse_letter : Addr}
    {oc_inverse_letter kV_inverse_letter dc_inverse_letter pm_inverse_letter cd_inverse_letter ct_inverse_letter : Value}
    {od_inverse_letter an_inverse_letter : Option Addr}
    {sl_inverse_letter : Array (Option Value)}
    (a_inverse_letter : PySem.W.nsIn K mainGlobals "inverse_letter" = some (some (.ref f_inverse_letter)))
    (l_inverse_letter : K.lookup f_inverse_letter = some ⟨oc_inverse_letter, od_inverse_letter, .func (PySem.W.fnOf "inverse_letter" "inverse_letter" (defArgs s_inverse_letter) (defBody s_inverse_letter) (defScope s_inverse_letter) .none kV_inverse_letter dc_inverse_letter pm_inverse_letter an_inverse_letter cd_inverse_letter ct_inverse_letter), sl_inverse_letter⟩)
    (cc_inverse_letter : PySem.W.codeIn K cd_inverse_letter "inverse_letter" = true)
    (kk_inverse_letter : PySem.W.keepIn K (.ref f_inverse_letter) = true)
    {f_cancelled : Addr}
    {oc_cancelled kV_cancelled dc_cancelled pm_cancelled cd_cancelled ct_cancelled : Value}
    {od_cancelled an_cancelled : Option Addr}
    {sl_cancelled : Array (Option Value)}
    (a_cancelled : PySem.W.nsIn K mainGlobals "cancelled" = some (some (.ref f_cancelled)))
    (l_cancelled : K.lookup f_cancelled = some ⟨oc_cancelled, od_cancelled, .func (PySem.W.fnOf "cancelled" "cancelled" (defArgs s_cancelled) (defBody s_cancelled) (defScope s_cancelled) .none kV_cancelled dc_cancelled pm_cancelled an_cancelled cd_cancelled ct_cancelled), sl_cancelled⟩)
    (cc_cancelled : PySem.W.codeIn K cd_cancelled "cancelled" = true)
    (kk_cancelled : PySem.W.keepIn K (.ref f_cancelled) = true)
    {f_flipped : Addr}
    {oc_flipped kV_flipped dc_flipped pm_flipped cd_flipped ct_flipped : Value}
    {od_flipped an_flipped : Option Addr}
    {sl_flipped : Array (Option Value)}
    (a_flipped : PySem.W.nsIn K mainGlobals "flipped" = some (some (.ref f_flipped)))
    (l_flipped : K.lookup f_flipped = some ⟨oc_flipped, od_flipped, .func (PySem.W.fnOf "flipped" "flipped" (defArgs s_flipped) (defBody s_flipped) (defScope s_flipped) .none kV_flipped dc_flipped pm_flipped an_flipped cd_flipped ct_flipped), sl_flipped⟩)
    (cc_flipped : PySem.W.codeIn K cd_flipped "flipped" = true)
    (kk_flipped : PySem.W.keepIn K (.ref f_flipped) = true)
    {f_power : Addr}
    {oc_power kV_power dc_power pm_power cd_power ct_power : Value}
    {od_power an_power : Option Addr}
    {sl_power : Array (Option Value)}
    (a_power : PySem.W.nsIn K mainGlobals "power" = some (some (.ref f_power)))
    (l_power : K.lookup f_power = some ⟨oc_power, od_power, .func (PySem.W.fnOf "power" "power" (defArgs s_power) (defBody s_power) (defScope s_power) .none kV_power dc_power pm_power an_power cd_power ct_power), sl_power⟩)
    (cc_power : PySem.W.codeIn K cd_power "power" = true)
    (kk_power : PySem.W.keepIn K (.ref f_power) = true)
    {f_product : Addr}
    {oc_product kV_product dc_product pm_product cd_product ct_product : Value}
    {od_product an_product : Option Addr}
    {sl_product : Array (Option Value)}
    (a_product : PySem.W.nsIn K mainGlobals "product" = some (some (.ref f_product)))
    (l_product : K.lookup f_product = some ⟨oc_product, od_product, .func (PySem.W.fnOf "product" "product" (defArgs s_product) (defBody s_product) (defScope s_product) .none kV_product dc_product pm_product an_product cd_product ct_product), sl_product⟩)
    (cc_product : PySem.W.codeIn K cd_product "product" = true)
    (kk_product : PySem.W.keepIn K (.ref f_product) = true)
    {f__law_told : Addr}
    {oc__law_told kV__law_told dc__law_told pm__law_told cd__law_told ct__law_told : Value}
    {od__law_told an__law_told : Option Addr}
    {sl__law_told : Array (Option Value)}
    (a__law_told : PySem.W.nsIn K mainGlobals "_law_told" = some (some (.ref f__law_told)))
    (l__law_told : K.lookup f__law_told = some ⟨oc__law_told, od__law_told, .func (PySem.W.fnOf "_law_told" "_law_told" (defArgs s__law_told) (defBody s__law_told) (defScope s__law_told) .none kV__law_told dc__law_told pm__law_told an__law_told cd__law_told ct__law_told), sl__law_told⟩)
    (cc__law_told : PySem.W.codeIn K cd__law_told "_law_told" = true)
    (kk__law_told : PySem.W.keepIn K (.ref f__law_told) = true)
    {f__law_cell : Addr}
    {oc__law_cell kV__law_cell dc__law_cell pm__law_cell cd__law_cell ct__law_cell : Value}
    {od__law_cell an__law_cell : Option Addr}
    {sl__law_cell : Array (Option Value)}
    (a__law_cell : PySem.W.nsIn K mainGlobals "_law_cell" = some (some (.ref f__law_cell)))
    (l__law_cell : K.lookup f__law_cell = some ⟨oc__law_cell, od__law_cell, .func (PySem.W.fnOf "_law_cell" "_law_cell" (defArgs s__law_cell) (defBody s__law_cell) (defScope s__law_cell) .none kV__law_cell dc__law_cell pm__law_cell an__law_cell cd__law_cell ct__law_cell), sl__law_cell⟩)
    (cc__law_cell : PySem.W.codeIn K cd__law_cell "_law_cell" = true)
    (kk__law_cell : PySem.W.keepIn K (.ref f__law_cell) = true)
    {f_reduced : Addr}
    {oc_reduced kV_reduced dc_reduced pm_reduced cd_reduced ct_reduced : Value}
    {od_reduced an_reduced : Option Addr}
    {sl_reduced : Array (Option Value)}
    (a_reduced : PySem.W.nsIn K mainGlobals "reduced" = some (some (.ref f_reduced)))
    (l_reduced : K.lookup f_reduced = some ⟨oc_reduced, od_reduced, .func (PySem.W.fnOf "reduced" "reduced" (defArgs s_reduced) (defBody s_reduced) (defScope s_reduced) .none kV_reduced dc_reduced pm_reduced an_reduced cd_reduced ct_reduced), sl_reduced⟩)
    (cc_reduced : PySem.W.codeIn K cd_reduced "reduced" = true)
    (kk_reduced : PySem.W.keepIn K (.ref f_reduced) = true)
    {f_inverse : Addr}
    {oc_inverse kV_inverse dc_inverse pm_inverse cd_inverse ct_inverse : Value}
    {od_inverse an_inverse : Option Addr}
    {sl_inverse : Array (Option Value)}
    (a_inverse : PySem.W.nsIn K mainGlobals "inverse" = some (some (.ref f_inverse)))
    (l_inverse : K.lookup f_inverse = some ⟨oc_inverse, od_inverse, .func (PySem.W.fnOf "inverse" "inverse" (defArgs s_inverse) (defBody s_inverse) (defScope s_inverse) .none kV_inverse dc_inverse pm_inverse an_inverse cd_inverse ct_inverse), sl_inverse⟩)
    (cc_inverse : PySem.W.codeIn K cd_inverse "inverse" = true)
    (kk_inverse : PySem.W.keepIn K (.ref f_inverse) = true)
    {f_law : Addr}
    {oc_law kV_law dc_law pm_law cd_law ct_law : Value}
    {od_law an_law : Option Addr}
    {sl_law : Array (Option Value)}
    (a_law : PySem.W.nsIn K mainGlobals "law" = some (some (.ref f_law)))
    (l_law : K.lookup f_law = some ⟨oc_law, od_law, .func (PySem.W.fnOf "law" "law" (defArgs s_law) (defBody s_law) (defScope s_law) .none kV_law dc_law pm_law an_law cd_law ct_law), sl_law⟩)
    (cc_law : PySem.W.codeIn K cd_law "law" = true)
    (kk_law : PySem.W.keepIn K (.ref f_law) = true)
    (z_range : PySem.W.nsIn K mainGlobals "range" = some none)
    (z_int : PySem.W.nsIn K mainGlobals "int" = some none)
    (z_len : PySem.W.nsIn K mainGlobals "len" = some none)
    {t_MOST_GENERATORS : Tok}
    (v_MOST_GENERATORS : PySem.W.nsIn K mainGlobals "MOST_GENERATORS" = some (some (.int 3 t_MOST_GENERATORS)))
    {C_BadNumber : Addr}
    (e_BadNumber : PySem.W.nsIn K mainGlobals "BadNumber" = some (some (.ref C_BadNumber)))
    (ex_BadNumber : PySem.W.excIn K C_BadNumber [.type "ValueError", .type "Exception", .type "BaseException", .type "object"] "ValueError.__new__" = true)
    (ek_BadNumber : PySem.W.keepIn K (.ref C_BadNumber) = true)
    (eb_BadNumber : PySem.W.subIn K (.ref C_BadNumber) (.type "BaseException") = some true)
    (et_BadNumber : PySem.W.typeIn K (.ref C_BadNumber) = some (.type "type"))
    {t_LETTERS : Tok}
    (v_LETTERS : PySem.W.nsIn K mainGlobals "LETTERS" = some (some (.str "aAbBcC" t_LETTERS)))
    (z_all : PySem.W.nsIn K mainGlobals "all" = some none)
    {C_NotWord : Addr}
    (e_NotWord : PySem.W.nsIn K mainGlobals "NotWord" = some (some (.ref C_NotWord)))
    (ex_NotWord : PySem.W.excIn K C_NotWord [.type "ValueError", .type "Exception", .type "BaseException", .type "object"] "ValueError.__new__" = true)
    (ek_NotWord : PySem.W.keepIn K (.ref C_NotWord) = true)
    (eb_NotWord : PySem.W.subIn K (.ref C_NotWord) (.type "BaseException") = some true)
    (et_NotWord : PySem.W.typeIn K (.ref C_NotWord) = some (.type "type"))
    {t_MOST_LETTERS : Tok}
    (v_MOST_LETTERS : PySem.W.nsIn K mainGlobals "MOST_LETTERS" = some (some (.int 60 t_MOST_LETTERS)))
    {t_MOST_EXPONENT : Tok}
    (v_MOST_EXPONENT : PySem.W.nsIn K mainGlobals "MOST_EXPONENT" = some (some (.int 20 t_MOST_EXPONENT)))
    (eh_BadNumber : PySem.W.hasDictIn K C_BadNumber = true)
    (es_BadNumber_BadNumber : PySem.W.subIn K (.ref C_BadNumber) (.ref C_BadNumber) = some true)
    (es_NotWord_BadNumber : PySem.W.subIn K (.ref C_NotWord) (.ref C_BadNumber) = some false)
    (eh_NotWord : PySem.W.hasDictIn K C_NotWord = true)
    (es_BadNumber_NotWord : PySem.W.subIn K (.ref C_BadNumber) (.ref C_NotWord) = some false)
    (es_NotWord_NotWord : PySem.W.subIn K (.ref C_NotWord) (.ref C_NotWord) = some true)
    {d_INVERSES : Addr}
    {es_INVERSES : Array DictEntry}
    {n_INVERSES : Nat}
    (g_INVERSES : PySem.W.nsIn K mainGlobals "INVERSES" = some (some (.ref d_INVERSES)))
    (tl_INVERSES : K.lookup d_INVERSES = some ⟨.type "dict", none, .dict es_INVERSES n_INVERSES, #[]⟩)
    (tk_INVERSES : PySem.W.KeysLit w.params es_INVERSES.toList)
    (tw_INVERSES : (d_INVERSES == sysModules) = false)
    (tt_INVERSES : TabIs es_INVERSES.toList tb_INVERSES) :
    ∃ fd : FuncData, (∀ (s : Shared) (v : Value), BindsTo s fd ⟨[v], []⟩ [("script", v)]) ∧ ∀ base : Heap, K.In base → base.Ns mainGlobals mg → FnOk P w K mg base (L2.CX P w) 6 fa fd ["script"] (spLaw K m_law) := by
  have e := hfa.symm.trans (PySem.W.mg_of X G a_law)
  cases e
  have X_BadNumber : ExcF K mg "BadNumber" C_BadNumber := ⟨PySem.W.mg_of X G e_BadNumber, ex_BadNumber, ek_BadNumber, eb_BadNumber, et_BadNumber⟩
  have X_NotWord : ExcF K mg "NotWord" C_NotWord := ⟨PySem.W.mg_of X G e_NotWord, ex_NotWord, ek_NotWord, eb_NotWord, et_NotWord⟩
  have K_BadNumber : CatchF K mg "BadNumber" C_BadNumber k_sub := ⟨catch_of (l := [("BadNumber", true), ("NotWord", false)]) X_BadNumber.g (fun _ => rfl) (look_cons ⟨_, X_BadNumber.g, PySem.W.exm_ref eb_BadNumber eh_BadNumber et_BadNumber es_BadNumber_BadNumber⟩ (look_cons ⟨_, X_NotWord.g, PySem.W.exm_ref eb_BadNumber eh_BadNumber et_BadNumber es_NotWord_BadNumber⟩ look_nil))⟩
  have K_NotWord : CatchF K mg "NotWord" C_NotWord k_sub := ⟨catch_of (l := [("BadNumber", false), ("NotWord", true)]) X_NotWord.g (fun _ => rfl) (look_cons ⟨_, X_BadNumber.g, PySem.W.exm_ref eb_NotWord eh_NotWord et_NotWord es_BadNumber_NotWord⟩ (look_cons ⟨_, X_NotWord.g, PySem.W.exm_ref eb_NotWord eh_NotWord et_NotWord es_NotWord_NotWord⟩ look_nil))⟩
  have T_INVERSES : Tab K w d_INVERSES tb_INVERSES := tab_of tl_INVERSES tk_INVERSES tw_INVERSES tt_INVERSES
  have D__law_values : ∀ base : Heap, Def P w K mg base "_law_values" ["cell", "count", "size"] 1 m__law_values := fun base => ok__law_values (P := P) (w := w) (base := base) ⟨_, _, fun_mk (st := s__law_values) l__law_values cc__law_values kk__law_values, PySem.W.mg_of X G a__law_values⟩ (PySem.W.mg_none_of X G z_range) (PySem.W.mg_none_of X G z_int)
  have D__law_word : ∀ base : Heap, Def P w K mg base "_law_word" ["cell", "g", "most"] 2 m__law_word := fun base => ok__law_word (P := P) (w := w) (base := base) ⟨_, _, fun_mk (st := s__law_word) l__law_word cc__law_word kk__law_word, PySem.W.mg_of X G a__law_word⟩ (D__law_values base)
  have D__law_reduced : ∀ base : Heap, Def P w K mg base "_law_reduced" ["word"] 1 m__law_reduced := fun base => ok__law_reduced (P := P) (w := w) (base := base) ⟨_, _, fun_mk (st := s__law_reduced) l__law_reduced cc__law_reduced kk__law_reduced, PySem.W.mg_of X G a__law_reduced⟩ (PySem.W.mg_none_of X G z_len)
  have D__law_inverse : ∀ base : Heap, Def P w K mg base "_law_inverse" ["word"] 1 m__law_inverse := fun base => ok__law_inverse (P := P) (w := w) (base := base) ⟨_, _, fun_mk (st := s__law_inverse) l__law_inverse cc__law_inverse kk__law_inverse, PySem.W.mg_of X G a__law_inverse⟩ 
  have D__law_power : ∀ base : Heap, Def P w K mg base "_law_power" ["word", "exponent"] 2 m__law_power := fun base => ok__law_power (P := P) (w := w) (base := base) ⟨_, _, fun_mk (st := s__law_power) l__law_power cc__law_power kk__law_power, PySem.W.mg_of X G a__law_power⟩ (D__law_reduced base) (D__law_inverse base)
  have D_letters_of : ∀ base : Heap, Def P w K mg base "letters_of" ["g"] 1 m_letters_of := fun base => ok_letters_of (P := P) (w := w) (base := base) ⟨_, _, fun_mk (st := s_letters_of) l_letters_of cc_letters_of kk_letters_of, PySem.W.mg_of X G a_letters_of⟩ (PySem.W.mg_of X G v_MOST_GENERATORS) X_BadNumber (PySem.W.mg_of X G v_LETTERS)
  have D_is_word : ∀ base : Heap, Def P w K mg base "is_word" ["g", "text"] 2 m_is_word := fun base => ok_is_word (P := P) (w := w) (base := base) ⟨_, _, fun_mk (st := s_is_word) l_is_word cc_is_word kk_is_word, PySem.W.mg_of X G a_is_word⟩ (D_letters_of base) (PySem.W.mg_none_of X G z_all)
  have D_check_word : ∀ base : Heap, Def P w K mg base "check_word" ["g", "text"] 3 m_check_word := fun base => ok_check_word (P := P) (w := w) (base := base) ⟨_, _, fun_mk (st := s_check_word) l_check_word cc_check_word kk_check_word, PySem.W.mg_of X G a_check_word⟩ (D_is_word base) X_NotWord (PySem.W.mg_none_of X G z_len) (PySem.W.mg_of X G v_MOST_LETTERS)
  have D_inverse_letter : ∀ base : Heap, Def P w K mg base "inverse_letter" ["letter"] 1 m_inverse_letter := fun base => ok_inverse_letter (P := P) (w := w) (base := base) ⟨_, _, fun_mk (st := s_inverse_letter) l_inverse_letter cc_inverse_letter kk_inverse_letter, PySem.W.mg_of X G a_inverse_letter⟩ (PySem.W.mg_of X G g_INVERSES) T_INVERSES X_NotWord
  have D_cancelled : ∀ base : Heap, Def P w K mg base "cancelled" ["text"] 2 m_cancelled := fun base => ok_cancelled (P := P) (w := w) (base := base) ⟨_, _, fun_mk (st := s_cancelled) l_cancelled cc_cancelled kk_cancelled, PySem.W.mg_of X G a_cancelled⟩ (D_inverse_letter base)
  have D_flipped : ∀ base : Heap, Def P w K mg base "flipped" ["text"] 2 m_flipped := fun base => ok_flipped (P := P) (w := w) (base := base) ⟨_, _, fun_mk (st := s_flipped) l_flipped cc_flipped kk_flipped, PySem.W.mg_of X G a_flipped⟩ (D_inverse_letter base)
  have D_power : ∀ base : Heap, Def P w K mg base "power" ["word", "exponent"] 4 m_power := fun base => ok_power (P := P) (w := w) (base := base) ⟨_, _, fun_mk (st := s_power) l_power cc_power kk_power, PySem.W.mg_of X G a_power⟩ (D_check_word base) (PySem.W.mg_of X G v_MOST_EXPONENT) X_BadNumber (D_cancelled base) (D_flipped base)
  have D_product : ∀ base : Heap, Def P w K mg base "product" ["one", "other"] 4 m_product := fun base => ok_product (P := P) (w := w) (base := base) ⟨_, _, fun_mk (st := s_product) l_product cc_product kk_product, PySem.W.mg_of X G a_product⟩ (D_check_word base) (D_cancelled base)
  have D__law_told : ∀ base : Heap, Def P w K mg base "_law_told" ["which", "one", "other"] 5 m__law_told := fun base => ok__law_told (P := P) (w := w) (base := base) ⟨_, _, fun_mk (st := s__law_told) l__law_told cc__law_told kk__law_told, PySem.W.mg_of X G a__law_told⟩ (D_product base) (D_power base) K_BadNumber K_NotWord
  have D__law_cell : ∀ base : Heap, Def P w K mg base "_law_cell" ["script", "k"] 1 m__law_cell := fun base => ok__law_cell (P := P) (w := w) (base := base) ⟨_, _, fun_mk (st := s__law_cell) l__law_cell cc__law_cell kk__law_cell, PySem.W.mg_of X G a__law_cell⟩ (PySem.W.mg_none_of X G z_len)
  have D_reduced : ∀ base : Heap, Def P w K mg base "reduced" ["word"] 4 m_reduced := fun base => ok_reduced (P := P) (w := w) (base := base) ⟨_, _, fun_mk (st := s_reduced) l_reduced cc_reduced kk_reduced, PySem.W.mg_of X G a_reduced⟩ (D_check_word base) (D_cancelled base)
  have D_inverse : ∀ base : Heap, Def P w K mg base "inverse" ["word"] 4 m_inverse := fun base => ok_inverse (P := P) (w := w) (base := base) ⟨_, _, fun_mk (st := s_inverse) l_inverse cc_inverse kk_inverse, PySem.W.mg_of X G a_inverse⟩ (D_check_word base) (D_flipped base)
  exact ⟨_, fun s v => .of_eq rfl, fun base _ _ => law_fn (ok_law (P := P) (w := w) (base := base) (fun_mk (st := s_law) l_law cc_law kk_law) (D__law_cell base) (PySem.W.mg_none_of X G z_range) (D__law_word base) (D_product base) (D__law_reduced base) (D_inverse base) (D__law_power base) (D__law_told base) (D_power base) (D_reduced base))⟩
end Law
namespace Law
open PySem DW L2
open SX (S S_tl S_len S_cat)
set_option autoImplicit false
/-! pre -/
def rstep (st : List Nat) (c : Nat) : List Nat := match st with
  | t :: s => if t = inv c then s else c :: t :: s
  | [] => [c]
theorem rstep_cut {t c : Nat} {s : List Nat} (e : t = inv c) : rstep (t :: s) c = s := if_pos e
theorem rstep_add {t c : Nat} {s : List Nat} (e : ¬ t = inv c) : rstep (t :: s) c = c :: t :: s := if_neg e
def redS (st cs : List Nat) : List Nat := cs.foldl rstep st
def red (w : List Nat) : List Nat := (redS [] w).reverse
def invw (w : List Nat) : List Nat := w.reverse.map inv
theorem redS_cons (st : List Nat) (c : Nat) (cs : List Nat) : redS st (c :: cs) = redS (rstep st c) cs := rfl
theorem redS_app (st a b : List Nat) : redS st (a ++ b) = redS (redS st a) b := List.foldl_append
theorem rstep_len (st : List Nat) (c : Nat) : (rstep st c).length ≤ st.length + 1 := by
  unfold rstep
  split
  · split
    · rw [List.length_cons]; omega
    · rw [List.length_cons, List.length_cons]; omega
  · rw [List.length_cons]; omega
theorem redS_len : ∀ (cs st : List Nat), (redS st cs).length ≤ st.length + cs.length
  | [], st => Nat.le_refl _
  | c :: cs, st => by
    have := redS_len cs (rstep st c)
    have := rstep_len st c
    rw [redS_cons, List.length_cons]
    omega
theorem red_len (w : List Nat) : (red w).length ≤ w.length := by
  have := redS_len w []
  unfold red
  rw [List.length_reverse]
  simpa using this
theorem rstep_wd {st : List Nat} {c : Nat} (h : Wd st) (hc : c ∈ L6) : Wd (rstep st c) := by
  unfold rstep
  split
  · split
    · exact fun x hx => h x (List.mem_cons_of_mem _ hx)
    · exact fun x hx => (List.mem_cons.mp hx).elim (fun e => e ▸ hc) (h x)
  · exact fun x hx => (List.mem_cons.mp hx).elim (fun e => e ▸ hc) (h x)
theorem redS_wd : ∀ {cs st : List Nat}, Wd st → Wd cs → Wd (redS st cs)
  | [], _, h, _ => h
  | c :: cs, st, h, hc => redS_wd (cs := cs) (rstep_wd h (hc c List.mem_cons_self)) fun x hx => hc x (List.mem_cons_of_mem _ hx)
theorem nil_wd : Wd [] := fun _ h => nomatch h
theorem red_wd {w : List Nat} (h : Wd w) : Wd (red w) := fun c hc => redS_wd nil_wd h c (List.mem_reverse.mp hc)
theorem invw_wd {w : List Nat} (h : Wd w) : Wd (invw w) := fun c hc => by
  obtain ⟨d, hd, e⟩ := List.mem_map.mp hc
  rw [← e]
  exact inv_mem d (h d (List.mem_reverse.mp hd))
theorem invw_len (w : List Nat) : (invw w).length = w.length := by unfold invw; rw [List.length_map, List.length_reverse]
theorem invw_invw {w : List Nat} (h : Wd w) : invw (invw w) = w := by
  unfold invw
  rw [← List.map_reverse, List.reverse_reverse, List.map_map]
  conv => rhs; rw [← List.map_id w]
  exact List.map_congr_left fun c hc => inv_inv c (h c hc)
theorem invw_app (a b : List Nat) : invw (a ++ b) = invw b ++ invw a := by unfold invw; rw [List.reverse_append, List.map_append]
theorem app_wd {a b : List Nat} (ha : Wd a) (hb : Wd b) : Wd (a ++ b) := fun c hc => (List.mem_append.mp hc).elim (ha c) (hb c)
/-- no two neighbours cut each other -/
def Irr : List Nat → Prop
  | a :: b :: r => b ≠ inv a ∧ Irr (b :: r)
  | _ => True
theorem Irr.tail {a : Nat} {r : List Nat} (h : Irr (a :: r)) : Irr r := by
  cases r with
  | nil => trivial
  | cons b r => exact h.2
theorem rstep_irr {st : List Nat} {c : Nat} (h : Irr st) : Irr (rstep st c) := by
  unfold rstep
  split
  · split
    · exact h.tail
    · rename_i hne
      exact ⟨hne, h⟩
  · trivial
theorem redS_irr : ∀ {cs st : List Nat}, Irr st → Irr (redS st cs)
  | [], _, h => h
  | c :: cs, st, h => redS_irr (cs := cs) (rstep_irr h)
/-- a stack that is reduced takes a letter and its inverse as nothing -/
theorem rstep_pair {st : List Nat} {c : Nat} (h : Irr st) (hs : Wd st) (hc : c ∈ L6) : rstep (rstep st c) (inv c) = st := by
  cases st with
  | nil => exact rstep_cut (inv_inv c hc).symm
  | cons t s =>
    by_cases e : t = inv c
    · rw [rstep_cut e, ← e]
      cases s with
      | nil => rfl
      | cons u v => exact rstep_add h.1
    · rw [rstep_add e]
      exact rstep_cut (inv_inv c hc).symm
/-- reduction does not see a pair that is cut -/
theorem redS_pair {st a b : List Nat} {c : Nat} (h : Irr st) (hs : Wd st) (ha : Wd a) (hc : c ∈ L6) : redS st (a ++ c :: inv c :: b) = redS st (a ++ b) := by
  rw [redS_app, redS_app, redS_cons, redS_cons, rstep_pair (redS_irr h) (redS_wd hs ha) hc]
/-- a word pushed onto a stack, then its inverse -/
theorem redS_invw : ∀ (w st : List Nat), Irr st → Wd st → Wd w → redS (redS st w) (invw w) = st
  | [], st, _, _, _ => rfl
  | c :: w, st, h, hs, hw => by
    have hc := hw c List.mem_cons_self
    have hw' : Wd w := fun x hx => hw x (List.mem_cons_of_mem _ hx)
    have e : invw (c :: w) = invw w ++ [inv c] := by unfold invw; rw [List.reverse_cons, List.map_append]; rfl
    rw [e, redS_cons, redS_app, redS_invw w (rstep st c) (rstep_irr h) (rstep_wd hs hc) hw']
    exact rstep_pair h hs hc
/-- a reduced word is pushed as it is, if it meets no inverse -/
theorem redS_of_irr : ∀ (w st : List Nat), Irr (w.reverse ++ st) → (∀ c ∈ w, c ∈ L6) → Wd st → redS st w = w.reverse ++ st
  | [], st, _, _, _ => rfl
  | c :: w, st, h, hw, hs => by
    have hc := hw c List.mem_cons_self
    have e1 : (c :: w).reverse ++ st = w.reverse ++ (c :: st) := by rw [List.reverse_cons, List.append_assoc]; rfl
    rw [e1] at h ⊢
    have hst : rstep st c = c :: st := by
      cases st with
      | nil => rfl
      | cons t s =>
        have hI : ∀ (a b : List Nat), Irr (a ++ b) → Irr b := fun a => by
          induction a with
          | nil => exact fun b h => h
          | cons x a ih => exact fun b h => ih b (Irr.tail h)
        have h2 : Irr (c :: t :: s) := hI w.reverse _ h
        show (if t = inv c then s else c :: t :: s) = _
        rw [if_neg h2.1]
    rw [redS_cons, hst]
    exact redS_of_irr w (c :: st) h (fun x hx => hw x (List.mem_cons_of_mem _ hx)) fun x hx => (List.mem_cons.mp hx).elim (fun e => e ▸ hc) (hs x)
/-- reducing again changes nothing -/
theorem red_red {w : List Nat} (h : Wd w) : red (red w) = red w := by
  have hi : Irr (redS [] w) := redS_irr trivial
  unfold red
  have := redS_of_irr (redS [] w).reverse [] (by rw [List.reverse_reverse, List.append_nil]; exact hi) (fun c hc => redS_wd nil_wd h c (List.mem_reverse.mp hc)) nil_wd
  rw [this, List.reverse_reverse, List.append_nil]
/-- cuts do not change the reduced form -/
theorem red_pair {a b : List Nat} {c : Nat} (ha : Wd a) (hc : c ∈ L6) : red (a ++ c :: inv c :: b) = red (a ++ b) := by
  unfold red
  rw [redS_pair (st := []) trivial nil_wd ha hc]
theorem red_invw {w : List Nat} (h : Wd w) : red (w ++ invw w) = [] := by
  unfold red
  rw [redS_app, redS_invw w [] trivial nil_wd h]
  rfl
theorem irr_of_red {w : List Nat} (h : red w = w) : Irr w.reverse := by
  have hi : Irr (redS [] w) := redS_irr trivial
  have e : (redS [] w).reverse = w := h
  rw [← e, List.reverse_reverse]
  exact hi
theorem occ_L6 : ∀ c ∈ L6, Builtin.Str.occurrences (S L6) (S [c]) 0 (S L6).length 1 = [L6.idxOf c] := L6_all ⟨by decide +kernel, by decide +kernel, by decide +kernel, by decide +kernel, by decide +kernel, by decide +kernel⟩
abbrev l6 : List Nat := [65, 97, 66, 98, 67, 99]
theorem l6_at : ∀ c ∈ L6, l6[L6.idxOf c]? = some (inv c) := L6_all (by decide)
theorem o_idxL6 {c : Nat} (h : c ∈ L6) : dIndexS (S L6) (one c) = .ok (.int ((L6.idxOf c : Nat) : Int)) := by
  show (match Builtin.Str.occurrences (S L6) (S [c]) 0 (S L6).length 1 with | i :: _ => R.ok (PyData.int (i : Nat)) | [] => R.stuck) = _
  rw [occ_L6 c h]
theorem o_invL6 {c : Nat} (h : c ∈ L6) : dIdx (.str (S l6)) (.int ((L6.idxOf c : Nat) : Int)) = .ok (one (inv c)) := o_ixS (by decide) (l6_at c h)
/-- the last of a list -/
theorem o_ixLast {l : List D} {d : D} : dIdx (.list (l ++ [d])) (.int (-1)) = .ok d := by
  unfold dIdx
  dsimp only
  rw [atI_last]
theorem ones_snoc (s : List Nat) (t : Nat) : (t :: s).reverse.map one = s.reverse.map one ++ [one t] := by rw [List.reverse_cons, List.map_append]; rfl
theorem one_eq {a b : Nat} : decide ([a] = [b]) = decide (a = b) := decide_eq_decide.mpr ⟨fun h => (List.cons.inj h).1, fun h => by rw [h]⟩
theorem ones_len (s : List Nat) : (s.map one).length = s.length := List.length_map ..
/-- the reading of a script's cell -/
def cellN (ns : List Int) (k : Nat) : Int := ns.getD k 0
/-- the letters of g generators -/
def lt (g : Int) : List Nat := L6.take (2 * g.toNat)
theorem lt_sub {g : Int} {c : Nat} (h : c ∈ lt g) : c ∈ L6 := List.mem_of_mem_take h
theorem lt_3 : lt 3 = L6 := by decide
theorem cut_lt {g : Int} (h1 : 1 ≤ g) (h2 : g ≤ 3) : cutG L6 none (some (2 * g)) = lt g := by
  have : g = 1 ∨ g = 2 ∨ g = 3 := by omega
  rcases this with rfl | rfl | rfl <;> decide
theorem lt_len {g : Int} (h1 : 1 ≤ g) (h2 : g ≤ 3) : ((lt g).length : Int) = 2 * g := by
  have : g = 1 ∨ g = 2 ∨ g = 3 := by omega
  rcases this with rfl | rfl | rfl <;> decide
abbrev okw (g : Int) (t : List Nat) : Bool := t.all fun c => decide (c ∈ lt g)
theorem okw_iff {g : Int} {t : List Nat} : okw g t = true ↔ ∀ c ∈ t, c ∈ lt g := by
  unfold okw
  rw [List.all_eq_true]
  exact ⟨fun h c hc => of_decide_eq_true (h c hc), fun h c hc => decide_eq_true (h c hc)⟩
theorem okw3 {t : List Nat} (h : Wd t) : okw 3 t = true := okw_iff.mpr fun c hc => by rw [lt_3]; exact h c hc
theorem o_slS {l : List Nat} {lo hi : Option Int} (h : l.length ≤ 16777216) : dSl (.str (S l)) lo hi = .ok (.str (S (cutG l lo hi))) := if_pos (sz_ok h)
theorem o_slL {l : List D} {lo hi : Option Int} : dSl (.list l) lo hi = .ok (.list (cutG l lo hi)) := rfl
theorem rg_int {z : Int} (h1 : -1000 ≤ z) (h2 : z ≤ 1000) : dRange1 [.int z] = .ok ((List.range z.toNat).map fun (k : Nat) => PyData.int (k : Int)) := by
  have h : small z = true := by
    unfold small
    exact decide_eq_true ⟨by omega, by omega⟩
  have e : rangeL 0 z = (List.range z.toNat).map fun (k : Nat) => PyData.int (k : Int) := by
    unfold rangeL
    rw [Int.sub_zero]
    exact List.map_congr_left fun k _ => by show PyData.int (0 + (k : Int)) = PyData.int (k : Int); rw [Int.zero_add]
  unfold dRange1
  simp only [h, e, if_true]
theorem cut_to {α : Type} {l : List α} {n : Nat} (h : n ≤ l.length) : cutG l none (some (n : Int)) = l.take n := by
  unfold cutG
  have e1 : HT.sIx l.length l.length (some (n : Int)) = min n l.length := HT.sIx_nat _ _ _
  have e0 : HT.sIx l.length 0 none = 0 := rfl
  rw [e1, e0, List.drop_zero, Nat.sub_zero, Nat.min_eq_left h]
theorem cut_from {α : Type} {l : List α} {n : Nat} (h : n ≤ l.length) : cutG l (some (n : Int)) none = l.drop n := by
  unfold cutG
  have e1 : HT.sIx l.length 0 (some (n : Int)) = min n l.length := HT.sIx_nat _ _ _
  have e0 : HT.sIx l.length l.length none = l.length := rfl
  rw [e1, e0, Nat.min_eq_left h]
  exact List.take_of_length_le (by rw [List.length_drop]; omega)
theorem lt_wd {g : Int} {w : List Nat} (h : ∀ x ∈ w, x ∈ lt g) : Wd w := fun x hx => lt_sub (h x hx)
theorem nat_of {z n : Int} (hn : 0 < n) : ∃ k : Nat, z % n = (k : Int) ∧ (k : Int) < n := ⟨(z % n).toNat, by have := Int.emod_nonneg z (show n ≠ 0 by omega); omega, by have := Int.emod_nonneg z (show n ≠ 0 by omega); have := Int.emod_lt_of_pos z hn; omega⟩
theorem cut_to' {α : Type} {l : List α} {n : Nat} : cutG l none (some (n : Int)) = l.take (min n l.length) := by
  unfold cutG
  have e1 : HT.sIx l.length l.length (some (n : Int)) = min n l.length := HT.sIx_nat _ _ _
  have e0 : HT.sIx l.length 0 none = 0 := rfl
  rw [e1, e0, List.drop_zero, Nat.sub_zero]
theorem o_neZ {z : Str} : dNe (.str z) (.str z) = .ok (.bool false) := by
  show R.ok (PyData.bool (!decide (z.cps.toList = z.cps.toList))) = _
  rw [decide_eq_true rfl]; rfl
theorem o_repB {b : Bool} : dRepr [.bool b] = .ok (.str (PyData.shown (.bool b))) := rfl
theorem o_isS {z : Str} : dIsT "str" (.str z) = .ok (.bool true) := rfl
theorem e_tryas_err {x : Str} {i : Nat} {sub : Str → Option Bool} {body suite : MS} {ρ ρ' : En} {d : D} (h : body (clean ρ) = .err (x, []) ρ') (hs : sub x = some true) (h2 : suite ((clean ρ').set i (some .exc)) = .rt d) : sTryAs x i sub body suite ρ = .rt d := by
  unfold sTryAs
  rw [h]
  dsimp only
  rw [hs]
  dsimp only
  rw [if_pos (by rw [decide_eq_true rfl]; rfl), h2]
theorem lc_cons {i : Nat} {m : ME} {ρ : En} {d : D} {ds : List D} : lcLoop (gN i) mYes m ρ (d :: ds) = (m (ρ.set i (some (.sh d)))).quiet.bind fun y => (lcLoop (gN i) mYes m ρ ds).bind fun ys => .ok (y :: ys) := rfl
theorem lc_nil {i : Nat} {m : ME} {ρ : En} : lcLoop (gN i) mYes m ρ [] = .ok [] := rfl
/-- a stack takes the reduced form of a word as the word itself -/
theorem rstep_rev {st s : List Nat} {c : Nat} (h : Irr st) (hs : Wd st) (hw : Wd s) (hc : c ∈ L6) : redS st (rstep s c).reverse = rstep (redS st s.reverse) c := by
  have push : redS st (c :: s).reverse = rstep (redS st s.reverse) c := by rw [List.reverse_cons, redS_app]; rfl
  cases s with
  | nil => exact push
  | cons t s =>
    by_cases e : t = inv c
    · have ht : t ∈ L6 := hw t List.mem_cons_self
      have ec : c = inv t := by rw [e, inv_inv c hc]
      have hw' : Wd s.reverse := fun x hx => hw x (List.mem_cons_of_mem _ (List.mem_reverse.mp hx))
      rw [rstep_cut e, List.reverse_cons, redS_app]
      show redS st s.reverse = rstep (rstep (redS st s.reverse) t) c
      rw [ec, rstep_pair (redS_irr h) (redS_wd hs hw') ht]
    · rw [rstep_add e]; exact push
theorem redS_rev : ∀ (cs s st : List Nat), Irr st → Wd st → Wd s → Wd cs → redS st (redS s cs).reverse = redS (redS st s.reverse) cs
  | [], s, st, _, _, _, _ => rfl
  | c :: cs, s, st, h, hs, hw, hc => by
    have c1 := hc c List.mem_cons_self
    rw [redS_cons, redS_rev cs (rstep s c) st h hs (rstep_wd hw c1) (fun x hx => hc x (List.mem_cons_of_mem _ hx)), rstep_rev h hs hw c1, redS_cons]
theorem irr_nil : Irr [] := trivial
theorem redS_red {st b : List Nat} (h : Irr st) (hs : Wd st) (hb : Wd b) : redS st (red b) = redS st b := by
  unfold red
  rw [redS_rev b [] st h hs nil_wd hb]
  rfl
theorem red_app_r {a b : List Nat} (ha : Wd a) (hb : Wd b) : red (a ++ red b) = red (a ++ b) := by
  have e : redS [] (a ++ red b) = redS [] (a ++ b) := by rw [redS_app, redS_app, redS_red (redS_irr irr_nil) (redS_wd nil_wd ha) hb]
  show (redS [] (a ++ red b)).reverse = (redS [] (a ++ b)).reverse
  rw [e]
theorem red_app_l {a b : List Nat} (ha : Wd a) : red (red a ++ b) = red (a ++ b) := by
  have e : redS [] (red a ++ b) = redS [] (a ++ b) := by rw [redS_app, redS_app, redS_red irr_nil nil_wd ha]
  show (redS [] (red a ++ b)).reverse = (redS [] (a ++ b)).reverse
  rw [e]
theorem repL_len (n : Nat) (w : List Nat) : (repL n w).length = n * w.length := by
  unfold repL
  induction n with
  | zero => rw [List.replicate_zero, List.flatten_nil, List.length_nil, Nat.zero_mul]
  | succ n ih => rw [List.replicate_succ, List.flatten_cons, List.length_append, ih, Nat.succ_mul, Nat.add_comm]
theorem repL_wd {n : Nat} {w : List Nat} (h : Wd w) : Wd (repL n w) := fun c hc => by
  unfold repL at hc
  obtain ⟨l, h1, h2⟩ := List.mem_flatten.mp hc
  rw [(List.mem_replicate.mp h1).2] at h2
  exact h c h2
theorem repL_add (n m : Nat) (w : List Nat) : repL (n + m) w = repL n w ++ repL m w := by
  unfold repL
  rw [← List.replicate_append_replicate, List.flatten_append]
theorem repL_one (w : List Nat) : repL 1 w = w := by
  unfold repL
  show w ++ [] = w
  rw [List.append_nil]
theorem repL_zero (w : List Nat) : repL 0 w = [] := rfl
def pw (e : Int) (w : List Nat) : List Nat := if e < 0 then red (repL (-e).toNat (invw w)) else red (repL e.toNat w)
theorem pw_nat {n : Nat} {w : List Nat} : pw (n : Int) w = red (repL n w) := by
  unfold pw
  rw [if_neg (by omega), Int.toNat_natCast]
theorem pw_add {n m : Nat} {w : List Nat} (hw : Wd w) : red (pw (n : Int) w ++ pw (m : Int) w) = pw ((n : Int) + (m : Int)) w := by
  have e : (n : Int) + (m : Int) = ((n + m : Nat) : Int) := by omega
  rw [e, pw_nat, pw_nat, pw_nat, red_app_l (repL_wd hw), red_app_r (repL_wd hw) (repL_wd hw), repL_add]
theorem pw_one {w : List Nat} : pw 1 w = red w := by
  have := pw_nat (n := 1) (w := w)
  rw [repL_one] at this
  exact this
theorem pw_zero {w : List Nat} : pw 0 w = [] := by
  have := pw_nat (n := 0) (w := w)
  rw [repL_zero] at this
  exact this
theorem pw_wd {e : Int} {w : List Nat} (hw : Wd w) : Wd (pw e w) := by
  unfold pw
  split
  · exact red_wd (repL_wd (invw_wd hw))
  · exact red_wd (repL_wd hw)

theorem lit_0 : Str.ofString "" = S [] := by decide +kernel
theorem lit_1 : Str.ofString "aAbBcC" = S L6 := by decide +kernel
theorem lit_2 : Str.ofString "AaBbCc" = S l6 := by decide +kernel
theorem lit_3 : Str.ofString "there are 1, 2 or 3 generators" = S [116, 104, 101, 114, 101, 32, 97, 114, 101, 32, 49, 44, 32, 50, 32, 111, 114, 32, 51, 32, 103, 101, 110, 101, 114, 97, 116, 111, 114, 115] := by decide +kernel
theorem lit_4 : Str.ofString "not a word over the letters of the generators" = S [110, 111, 116, 32, 97, 32, 119, 111, 114, 100, 32, 111, 118, 101, 114, 32, 116, 104, 101, 32, 108, 101, 116, 116, 101, 114, 115, 32, 111, 102, 32, 116, 104, 101, 32, 103, 101, 110, 101, 114, 97, 116, 111, 114, 115] := by decide +kernel
theorem lit_5 : Str.ofString "a word has at most 60 letters here" = S [97, 32, 119, 111, 114, 100, 32, 104, 97, 115, 32, 97, 116, 32, 109, 111, 115, 116, 32, 54, 48, 32, 108, 101, 116, 116, 101, 114, 115, 32, 104, 101, 114, 101] := by decide +kernel
theorem lit_6 : Str.ofString "not a letter" = S [110, 111, 116, 32, 97, 32, 108, 101, 116, 116, 101, 114] := by decide +kernel
theorem lit_7 : Str.ofString "an exponent is from -20 to 20" = S [97, 110, 32, 101, 120, 112, 111, 110, 101, 110, 116, 32, 105, 115, 32, 102, 114, 111, 109, 32, 45, 50, 48, 32, 116, 111, 32, 50, 48] := by decide +kernel
theorem lit_8 : Str.ofString "word" = S [119, 111, 114, 100] := by decide +kernel
theorem lit_9 : Str.ofString "number" = S [110, 117, 109, 98, 101, 114] := by decide +kernel
theorem lit_10 : Str.ofString "ab" = S [97, 98] := by decide +kernel
/-! _law_values -/
theorem lp__law_values (c n s : Int) (hs : 0 < s) (hs2 : s < 1000000000) : ∀ (ks : List Int) (vs : List Int) (rest : Int) (o5 o6 : Option SD), (∀ k ∈ ks, 0 ≤ k ∧ k < 1000) → vs.length + ks.length ≤ 10000 → (∀ v ∈ vs, 0 ≤ v ∧ v < s) →
    ∃ (ws : List Int) (r : Int) (o5' o6' : Option SD), ws.length = vs.length + ks.length ∧ (∀ v ∈ ws, 0 ≤ v ∧ v < s) ∧
      mLoop (gN 5) lb__law_values_1 (ks.map PyData.int) [some (.sh (.int c)), some (.sh (.int n)), some (.sh (.int s)), some (.own (vs.map PyData.int)), some (.sh (.int rest)), o5, o6] =
        .nx [some (.sh (.int c)), some (.sh (.int n)), some (.sh (.int s)), some (.own (ws.map PyData.int)), some (.sh (.int r)), o5', o6']
  | [], vs, rest, o5, o6, _, _, hv => ⟨vs, rest, o5, o6, rfl, hv, rfl⟩
  | k :: ks, vs, rest, o5, o6, hk, hl, hv => by
    have hz := sizeLine_eq
    obtain ⟨k0, k1⟩ := hk k List.mem_cons_self
    rw [List.length_cons] at hl
    have more : ∀ (x : Int), (∀ v ∈ vs ++ [x % s], 0 ≤ v ∧ v < s) := fun x v h => by
      rcases List.mem_append.mp h with h | h
      · exact hv v h
      · rw [List.mem_singleton.mp h]
        exact ⟨Int.emod_nonneg _ (by omega), Int.emod_lt_of_pos _ hs⟩
    have step : ∃ (x r : Int) (o6' : Option SD), lb__law_values_1 [some (.sh (.int c)), some (.sh (.int n)), some (.sh (.int s)), some (.own (vs.map PyData.int)), some (.sh (.int rest)), some (.sh (.int k)), o6] =
        .nx [some (.sh (.int c)), some (.sh (.int n)), some (.sh (.int s)), some (.own ((vs ++ [x % s]).map PyData.int)), some (.sh (.int r)), some (.sh (.int k)), o6'] := by
      unfold lb__law_values_1
      have p10 : dPow (.int 10) (.int 12) = .ok (.int (10 ^ 12)) := o_pow (by decide)
      have app : ∀ x : Int, (vs ++ [x % s]).map PyData.int = vs.map PyData.int ++ [.int (x % s)] := fun x => by rw [List.map_append]; rfl
      by_cases h : (10 : Int) ^ 12 ≤ rest
      · refine ⟨rest, rest / s, o6, ?_⟩
        simp -implicitDefEqProofs only [e_sCons, e_sNil, e_sBreak, e_sCont, e_sRet, e_sRetN, e_sExpr, e_sIf, e_sAsg, e_sOwn, e_sFrz, e_sRaise, e_sFor, e_loop_nil, e_mC, e_m1, e_m2, e_mF, e_mCall, e_mM1, e_aNil, e_aCons, e_aLst, e_mTup, e_mLst, e_mN, e_mT, e_mTru, e_mAndT, e_mOrT, e_mNotT, e_mAnd, e_mOr, e_mNot, e_mIf, e_mChain, e_iSeq, e_iRange1, e_iRange2, e_oNone, e_oSome, e_mSl, e_mYes, e_mLc, e_gN, v0, vS, p0, p0o, pS, f0, f0s, f0n, fS, R.bind_ok, R.bind_err, R.bind_stuck, R.quiet_ok, O.of_ok, O.of_err, O.of_stuck, O.thn_nx, O.thn_rt, O.thn_bk, O.thn_ct, O.thn_err, fin_nx, fin_rt, fin_err, asB_b, o_add, o_addI, o_sub, o_neg, o_lt, o_le, o_gt, o_ge, o_eqI, o_neI, o_eqS, o_neS, o_inS, o_lenL, o_lenT, o_int, o_itS, o_itL, o_itT, o_truL, o_truB, o_truI, List.set_cons_zero, List.set_cons_succ, List.length_cons, List.length_nil, if_true, if_false, Bool.not_true, Bool.not_false, Bool.false_eq_true, Option.isSome_some, Option.isSome_none, Nat.reduceAdd, Nat.zero_add, decide_true, decide_false, lit_0, lit_1, lit_2, lit_3, lit_4, lit_5, lit_6, lit_7, lit_8, lit_9, lit_10, p10, decide_eq_true h]
        rw [e_app (ds := vs.map PyData.int) rfl]
        simp -implicitDefEqProofs only [e_sCons, e_sNil, e_sBreak, e_sCont, e_sRet, e_sRetN, e_sExpr, e_sIf, e_sAsg, e_sOwn, e_sFrz, e_sRaise, e_sFor, e_loop_nil, e_mC, e_m1, e_m2, e_mF, e_mCall, e_mM1, e_aNil, e_aCons, e_aLst, e_mTup, e_mLst, e_mN, e_mT, e_mTru, e_mAndT, e_mOrT, e_mNotT, e_mAnd, e_mOr, e_mNot, e_mIf, e_mChain, e_iSeq, e_iRange1, e_iRange2, e_oNone, e_oSome, e_mSl, e_mYes, e_mLc, e_gN, v0, vS, p0, p0o, pS, f0, f0s, f0n, fS, R.bind_ok, R.bind_err, R.bind_stuck, R.quiet_ok, O.of_ok, O.of_err, O.of_stuck, O.thn_nx, O.thn_rt, O.thn_bk, O.thn_ct, O.thn_err, fin_nx, fin_rt, fin_err, asB_b, o_add, o_addI, o_sub, o_neg, o_lt, o_le, o_gt, o_ge, o_eqI, o_neI, o_eqS, o_neS, o_inS, o_lenL, o_lenT, o_int, o_itS, o_itL, o_itT, o_truL, o_truB, o_truI, List.set_cons_zero, List.set_cons_succ, List.length_cons, List.length_nil, if_true, if_false, Bool.not_true, Bool.not_false, Bool.false_eq_true, Option.isSome_some, Option.isSome_none, Nat.reduceAdd, Nat.zero_add, decide_true, decide_false, lit_0, lit_1, lit_2, lit_3, lit_4, lit_5, lit_6, lit_7, lit_8, lit_9, lit_10, o_mod hs]
        rw [if_pos (by rw [List.length_map, hz]; omega)]
        simp -implicitDefEqProofs only [e_sCons, e_sNil, e_sBreak, e_sCont, e_sRet, e_sRetN, e_sExpr, e_sIf, e_sAsg, e_sOwn, e_sFrz, e_sRaise, e_sFor, e_loop_nil, e_mC, e_m1, e_m2, e_mF, e_mCall, e_mM1, e_aNil, e_aCons, e_aLst, e_mTup, e_mLst, e_mN, e_mT, e_mTru, e_mAndT, e_mOrT, e_mNotT, e_mAnd, e_mOr, e_mNot, e_mIf, e_mChain, e_iSeq, e_iRange1, e_iRange2, e_oNone, e_oSome, e_mSl, e_mYes, e_mLc, e_gN, v0, vS, p0, p0o, pS, f0, f0s, f0n, fS, R.bind_ok, R.bind_err, R.bind_stuck, R.quiet_ok, O.of_ok, O.of_err, O.of_stuck, O.thn_nx, O.thn_rt, O.thn_bk, O.thn_ct, O.thn_err, fin_nx, fin_rt, fin_err, asB_b, o_add, o_addI, o_sub, o_neg, o_lt, o_le, o_gt, o_ge, o_eqI, o_neI, o_eqS, o_neS, o_inS, o_lenL, o_lenT, o_int, o_itS, o_itL, o_itT, o_truL, o_truB, o_truI, List.set_cons_zero, List.set_cons_succ, List.length_cons, List.length_nil, if_true, if_false, Bool.not_true, Bool.not_false, Bool.false_eq_true, Option.isSome_some, Option.isSome_none, Nat.reduceAdd, Nat.zero_add, decide_true, decide_false, lit_0, lit_1, lit_2, lit_3, lit_4, lit_5, lit_6, lit_7, lit_8, lit_9, lit_10, o_fdiv ⟨hs, show s.natAbs.log2 < 9000 by have := log_small (a := s) (by omega); omega⟩, app]
      · have m1 : 0 ≤ c % 2147483647 ∧ c % 2147483647 < 2147483647 := ⟨Int.emod_nonneg _ (by decide), Int.emod_lt_of_pos _ (by decide)⟩
        have m2 : ∀ z : Int, 0 ≤ z % 2147483647 ∧ z % 2147483647 < 2147483647 := fun z => ⟨Int.emod_nonneg _ (by decide), Int.emod_lt_of_pos _ (by decide)⟩
        have m3 := m2 (c % 2147483647 * 48271 + k * 69621 + 7)
        refine ⟨(c % 2147483647 * 48271 + k * 69621 + 7) % 2147483647 * 16807 % 2147483647, rest, some (.sh (.int ((c % 2147483647 * 48271 + k * 69621 + 7) % 2147483647))), ?_⟩
        simp -implicitDefEqProofs only [e_sCons, e_sNil, e_sBreak, e_sCont, e_sRet, e_sRetN, e_sExpr, e_sIf, e_sAsg, e_sOwn, e_sFrz, e_sRaise, e_sFor, e_loop_nil, e_mC, e_m1, e_m2, e_mF, e_mCall, e_mM1, e_aNil, e_aCons, e_aLst, e_mTup, e_mLst, e_mN, e_mT, e_mTru, e_mAndT, e_mOrT, e_mNotT, e_mAnd, e_mOr, e_mNot, e_mIf, e_mChain, e_iSeq, e_iRange1, e_iRange2, e_oNone, e_oSome, e_mSl, e_mYes, e_mLc, e_gN, v0, vS, p0, p0o, pS, f0, f0s, f0n, fS, R.bind_ok, R.bind_err, R.bind_stuck, R.quiet_ok, O.of_ok, O.of_err, O.of_stuck, O.thn_nx, O.thn_rt, O.thn_bk, O.thn_ct, O.thn_err, fin_nx, fin_rt, fin_err, asB_b, o_add, o_addI, o_sub, o_neg, o_lt, o_le, o_gt, o_ge, o_eqI, o_neI, o_eqS, o_neS, o_inS, o_lenL, o_lenT, o_int, o_itS, o_itL, o_itT, o_truL, o_truB, o_truI, List.set_cons_zero, List.set_cons_succ, List.length_cons, List.length_nil, if_true, if_false, Bool.not_true, Bool.not_false, Bool.false_eq_true, Option.isSome_some, Option.isSome_none, Nat.reduceAdd, Nat.zero_add, decide_true, decide_false, lit_0, lit_1, lit_2, lit_3, lit_4, lit_5, lit_6, lit_7, lit_8, lit_9, lit_10, p10, decide_eq_false h, o_mod (show (0 : Int) < 2147483647 by decide), o_mulS (show (c % 2147483647).natAbs < 2 ^ 64 by omega) (show (48271 : Int).natAbs < 2 ^ 64 by decide), o_mulS (show k.natAbs < 2 ^ 64 by omega) (show (69621 : Int).natAbs < 2 ^ 64 by decide)]
        rw [e_app (ds := vs.map PyData.int) rfl]
        simp -implicitDefEqProofs only [e_sCons, e_sNil, e_sBreak, e_sCont, e_sRet, e_sRetN, e_sExpr, e_sIf, e_sAsg, e_sOwn, e_sFrz, e_sRaise, e_sFor, e_loop_nil, e_mC, e_m1, e_m2, e_mF, e_mCall, e_mM1, e_aNil, e_aCons, e_aLst, e_mTup, e_mLst, e_mN, e_mT, e_mTru, e_mAndT, e_mOrT, e_mNotT, e_mAnd, e_mOr, e_mNot, e_mIf, e_mChain, e_iSeq, e_iRange1, e_iRange2, e_oNone, e_oSome, e_mSl, e_mYes, e_mLc, e_gN, v0, vS, p0, p0o, pS, f0, f0s, f0n, fS, R.bind_ok, R.bind_err, R.bind_stuck, R.quiet_ok, O.of_ok, O.of_err, O.of_stuck, O.thn_nx, O.thn_rt, O.thn_bk, O.thn_ct, O.thn_err, fin_nx, fin_rt, fin_err, asB_b, o_add, o_addI, o_sub, o_neg, o_lt, o_le, o_gt, o_ge, o_eqI, o_neI, o_eqS, o_neS, o_inS, o_lenL, o_lenT, o_int, o_itS, o_itL, o_itT, o_truL, o_truB, o_truI, List.set_cons_zero, List.set_cons_succ, List.length_cons, List.length_nil, if_true, if_false, Bool.not_true, Bool.not_false, Bool.false_eq_true, Option.isSome_some, Option.isSome_none, Nat.reduceAdd, Nat.zero_add, decide_true, decide_false, lit_0, lit_1, lit_2, lit_3, lit_4, lit_5, lit_6, lit_7, lit_8, lit_9, lit_10, o_mod (show (0 : Int) < 2147483647 by decide), o_mulS (show ((c % 2147483647 * 48271 + k * 69621 + 7) % 2147483647).natAbs < 2 ^ 64 by omega) (show (16807 : Int).natAbs < 2 ^ 64 by decide), o_mod hs]
        rw [if_pos (by rw [List.length_map, hz]; omega)]
        simp -implicitDefEqProofs only [e_sCons, e_sNil, e_sBreak, e_sCont, e_sRet, e_sRetN, e_sExpr, e_sIf, e_sAsg, e_sOwn, e_sFrz, e_sRaise, e_sFor, e_loop_nil, e_mC, e_m1, e_m2, e_mF, e_mCall, e_mM1, e_aNil, e_aCons, e_aLst, e_mTup, e_mLst, e_mN, e_mT, e_mTru, e_mAndT, e_mOrT, e_mNotT, e_mAnd, e_mOr, e_mNot, e_mIf, e_mChain, e_iSeq, e_iRange1, e_iRange2, e_oNone, e_oSome, e_mSl, e_mYes, e_mLc, e_gN, v0, vS, p0, p0o, pS, f0, f0s, f0n, fS, R.bind_ok, R.bind_err, R.bind_stuck, R.quiet_ok, O.of_ok, O.of_err, O.of_stuck, O.thn_nx, O.thn_rt, O.thn_bk, O.thn_ct, O.thn_err, fin_nx, fin_rt, fin_err, asB_b, o_add, o_addI, o_sub, o_neg, o_lt, o_le, o_gt, o_ge, o_eqI, o_neI, o_eqS, o_neS, o_inS, o_lenL, o_lenT, o_int, o_itS, o_itL, o_itT, o_truL, o_truB, o_truI, List.set_cons_zero, List.set_cons_succ, List.length_cons, List.length_nil, if_true, if_false, Bool.not_true, Bool.not_false, Bool.false_eq_true, Option.isSome_some, Option.isSome_none, Nat.reduceAdd, Nat.zero_add, decide_true, decide_false, lit_0, lit_1, lit_2, lit_3, lit_4, lit_5, lit_6, lit_7, lit_8, lit_9, lit_10, app]
    obtain ⟨x, r, o6', hst⟩ := step
    obtain ⟨ws, r', o5', o6'', hw1, hw2, hw3⟩ := lp__law_values c n s hs hs2 ks (vs ++ [x % s]) r (some (.sh (.int k))) o6' (fun y hy => hk y (List.mem_cons_of_mem _ hy)) (by rw [List.length_append, List.length_singleton]; omega) (more x)
    refine ⟨ws, r', o5', o6'', ?_, hw2, ?_⟩
    · rw [hw1, List.length_append, List.length_singleton, List.length_cons]; omega
    · rw [List.map_cons, e_loop_nx hst]
      exact hw3
theorem rg_law {n : Nat} (hn : n ≤ 1000) : dRange1 [.int (n : Int)] = .ok (((List.range n).map fun (k : Nat) => (k : Int)).map PyData.int) := by
  have h : small (n : Int) = true := by
    unfold small
    exact decide_eq_true ⟨by omega, by omega⟩
  have e : rangeL 0 (n : Int) = ((List.range n).map fun (k : Nat) => (k : Int)).map PyData.int := by
    unfold rangeL
    rw [Int.sub_zero, Int.toNat_natCast, List.map_map]
    exact List.map_congr_left fun k _ => by show PyData.int (0 + (k : Int)) = PyData.int (k : Int); rw [Int.zero_add]
  unfold dRange1
  simp only [h, e, if_true]
theorem r__law_values (c s : Int) (n : Nat) (hn : n ≤ 1000) (hs : 0 < s) (hs2 : s < 1000000000) : ∃ ws : List Int, ws.length = n ∧ (∀ v ∈ ws, 0 ≤ v ∧ v < s) ∧ m__law_values [.int c, .int (n : Int), .int s] = .ok (.list (ws.map PyData.int)) := by
  have hz := sizeLine_eq
  have er := rg_law hn
  obtain ⟨ws, r, o5, o6, h1, h2, h3⟩ := lp__law_values c n s hs hs2 ((List.range n).map fun (k : Nat) => (k : Int)) [] c none none (fun k hk => by
    obtain ⟨j, hj, rfl⟩ := List.mem_map.mp hk
    have := List.mem_range.mp hj
    omega) (by simp; omega) (fun _ h => nomatch h)
  refine ⟨ws, by rw [h1]; simp, h2, ?_⟩
  show fin (b__law_values [some (.sh (.int c)), some (.sh (.int (n : Int))), some (.sh (.int s)), none, none, none, none]) = _
  unfold b__law_values
  simp -implicitDefEqProofs only [e_sCons, e_sNil, e_sBreak, e_sCont, e_sRet, e_sRetN, e_sExpr, e_sIf, e_sAsg, e_sOwn, e_sFrz, e_sRaise, e_sFor, e_loop_nil, e_mC, e_m1, e_m2, e_mF, e_mCall, e_mM1, e_aNil, e_aCons, e_aLst, e_mTup, e_mLst, e_mN, e_mT, e_mTru, e_mAndT, e_mOrT, e_mNotT, e_mAnd, e_mOr, e_mNot, e_mIf, e_mChain, e_iSeq, e_iRange1, e_iRange2, e_oNone, e_oSome, e_mSl, e_mYes, e_mLc, e_gN, v0, vS, p0, p0o, pS, f0, f0s, f0n, fS, R.bind_ok, R.bind_err, R.bind_stuck, R.quiet_ok, O.of_ok, O.of_err, O.of_stuck, O.thn_nx, O.thn_rt, O.thn_bk, O.thn_ct, O.thn_err, fin_nx, fin_rt, fin_err, asB_b, o_add, o_addI, o_sub, o_neg, o_lt, o_le, o_gt, o_ge, o_eqI, o_neI, o_eqS, o_neS, o_inS, o_lenL, o_lenT, o_int, o_itS, o_itL, o_itT, o_truL, o_truB, o_truI, List.set_cons_zero, List.set_cons_succ, List.length_cons, List.length_nil, if_true, if_false, Bool.not_true, Bool.not_false, Bool.false_eq_true, Option.isSome_some, Option.isSome_none, Nat.reduceAdd, Nat.zero_add, decide_true, decide_false, lit_0, lit_1, lit_2, lit_3, lit_4, lit_5, lit_6, lit_7, lit_8, lit_9, lit_10]
  rw [if_pos (by rw [hz]; decide)]
  simp -implicitDefEqProofs only [e_sCons, e_sNil, e_sBreak, e_sCont, e_sRet, e_sRetN, e_sExpr, e_sIf, e_sAsg, e_sOwn, e_sFrz, e_sRaise, e_sFor, e_loop_nil, e_mC, e_m1, e_m2, e_mF, e_mCall, e_mM1, e_aNil, e_aCons, e_aLst, e_mTup, e_mLst, e_mN, e_mT, e_mTru, e_mAndT, e_mOrT, e_mNotT, e_mAnd, e_mOr, e_mNot, e_mIf, e_mChain, e_iSeq, e_iRange1, e_iRange2, e_oNone, e_oSome, e_mSl, e_mYes, e_mLc, e_gN, v0, vS, p0, p0o, pS, f0, f0s, f0n, fS, R.bind_ok, R.bind_err, R.bind_stuck, R.quiet_ok, O.of_ok, O.of_err, O.of_stuck, O.thn_nx, O.thn_rt, O.thn_bk, O.thn_ct, O.thn_err, fin_nx, fin_rt, fin_err, asB_b, o_add, o_addI, o_sub, o_neg, o_lt, o_le, o_gt, o_ge, o_eqI, o_neI, o_eqS, o_neS, o_inS, o_lenL, o_lenT, o_int, o_itS, o_itL, o_itT, o_truL, o_truB, o_truI, List.set_cons_zero, List.set_cons_succ, List.length_cons, List.length_nil, if_true, if_false, Bool.not_true, Bool.not_false, Bool.false_eq_true, Option.isSome_some, Option.isSome_none, Nat.reduceAdd, Nat.zero_add, decide_true, decide_false, lit_0, lit_1, lit_2, lit_3, lit_4, lit_5, lit_6, lit_7, lit_8, lit_9, lit_10, er]
  have h3 : mLoop (gN 5) lb__law_values_1 (((List.range n).map fun (k : Nat) => (k : Int)).map PyData.int) [some (.sh (.int c)), some (.sh (.int (n : Int))), some (.sh (.int s)), some (.own []), some (.sh (.int c)), none, none] = .nx [some (.sh (.int c)), some (.sh (.int (n : Int))), some (.sh (.int s)), some (.own (ws.map PyData.int)), some (.sh (.int r)), o5, o6] := h3
  rw [h3]
  simp -implicitDefEqProofs only [e_sCons, e_sNil, e_sBreak, e_sCont, e_sRet, e_sRetN, e_sExpr, e_sIf, e_sAsg, e_sOwn, e_sFrz, e_sRaise, e_sFor, e_loop_nil, e_mC, e_m1, e_m2, e_mF, e_mCall, e_mM1, e_aNil, e_aCons, e_aLst, e_mTup, e_mLst, e_mN, e_mT, e_mTru, e_mAndT, e_mOrT, e_mNotT, e_mAnd, e_mOr, e_mNot, e_mIf, e_mChain, e_iSeq, e_iRange1, e_iRange2, e_oNone, e_oSome, e_mSl, e_mYes, e_mLc, e_gN, v0, vS, p0, p0o, pS, f0, f0s, f0n, fS, R.bind_ok, R.bind_err, R.bind_stuck, R.quiet_ok, O.of_ok, O.of_err, O.of_stuck, O.thn_nx, O.thn_rt, O.thn_bk, O.thn_ct, O.thn_err, fin_nx, fin_rt, fin_err, asB_b, o_add, o_addI, o_sub, o_neg, o_lt, o_le, o_gt, o_ge, o_eqI, o_neI, o_eqS, o_neS, o_inS, o_lenL, o_lenT, o_int, o_itS, o_itL, o_itT, o_truL, o_truB, o_truI, List.set_cons_zero, List.set_cons_succ, List.length_cons, List.length_nil, if_true, if_false, Bool.not_true, Bool.not_false, Bool.false_eq_true, Option.isSome_some, Option.isSome_none, Nat.reduceAdd, Nat.zero_add, decide_true, decide_false, lit_0, lit_1, lit_2, lit_3, lit_4, lit_5, lit_6, lit_7, lit_8, lit_9, lit_10]

/-! _law_word -/
theorem r__law_word (c g : Int) (most : Nat) (h1 : 1 ≤ g) (h2 : g ≤ 3) (hm : most ≤ 900) : ∃ w : List Nat, w.length ≤ most ∧ (∀ x ∈ w, x ∈ lt g) ∧ m__law_word [.int c, .int g, .int (most : Int)] = .ok (.str (S w)) := by
  have hz := sizeLine_eq
  obtain ⟨vs, hv1, hv2, hv3⟩ := r__law_values c 997 (most + 1) (by omega) (by decide) (by decide)
  obtain ⟨x0, e0⟩ : ∃ x0, vs[0]? = some x0 := ⟨_, List.getElem?_eq_getElem (by omega)⟩
  have m0 : 0 ≤ x0 % ((most : Int) + 1) ∧ x0 % ((most : Int) + 1) < (most : Int) + 1 := ⟨Int.emod_nonneg _ (by omega), Int.emod_lt_of_pos _ (by omega)⟩
  have hcut : ∃ us : List Int, us.length ≤ most ∧ (∀ v ∈ us, 0 ≤ v) ∧ cutG (vs.map PyData.int) (some 1) (some (1 + x0 % ((most : Int) + 1))) = us.map PyData.int := by
    refine ⟨cutG vs (some 1) (some (1 + x0 % ((most : Int) + 1))), ?_, fun v hv => ?_, ?_⟩
    · unfold cutG
      rw [List.length_take, List.length_drop, hv1]
      have e1 : HT.sIx (most + 1) 0 (some 1) = min 1 (most + 1) := HT.sIx_nat (most + 1) 0 1
      rw [e1]
      omega
    · exact (hv2 v (List.mem_of_mem_drop (List.mem_of_mem_take hv))).1
    · unfold cutG
      rw [List.length_map, List.map_take, List.map_drop]
  obtain ⟨us, hu1, hu2, hu3⟩ := hcut
  have hg : 0 < 2 * g := by omega
  have pick : ∀ v : Int, 0 ≤ v → ∃ x ∈ lt g, dIdx (.str (S L6)) (.int (v % (2 * g))) = .ok (one x) := fun v hv => by
    have q0 : 0 ≤ v % (2 * g) := Int.emod_nonneg _ (by omega)
    have q1 : v % (2 * g) < 2 * g := Int.emod_lt_of_pos _ hg
    have hl := lt_len h1 h2
    generalize v % (2 * g) = z at q0 q1
    obtain ⟨j, rfl⟩ : ∃ j : Nat, z = (j : Int) := ⟨z.toNat, by omega⟩
    have hi : j < (lt g).length := by omega
    have e : L6[j]? = some (lt g)[j] := by
      have e1 : (lt g)[j]? = some (lt g)[j] := List.getElem?_eq_getElem hi
      rw [← e1]
      unfold lt
      have : j < 2 * g.toNat := by omega
      rw [List.getElem?_take, if_pos this]
    exact ⟨_, List.getElem_mem hi, o_ixS (by decide) e⟩
  have comp : ∀ us : List Int, (∀ v ∈ us, 0 ≤ v) → ∃ w : List Nat, w.length = us.length ∧ (∀ x ∈ w, x ∈ lt g) ∧ lcLoop (gN 4) mYes ce__law_word_1 [some (.sh (.int c)), some (.sh (.int g)), some (.sh (.int (most : Int))), some (.sh (.list (vs.map PyData.int))), none] (us.map PyData.int) = .ok (w.map one') := by
    intro us
    induction us with
    | nil => exact fun _ => ⟨[], rfl, (fun _ h => nomatch h), rfl⟩
    | cons v us ih =>
      intro h
      obtain ⟨w, w1, w2, w3⟩ := ih fun y hy => h y (List.mem_cons_of_mem _ hy)
      obtain ⟨x, x1, x2⟩ := pick v (h v List.mem_cons_self)
      refine ⟨x :: w, by rw [List.length_cons, List.length_cons, w1], fun y hy => (List.mem_cons.mp hy).elim (fun e => e ▸ x1) (w2 y), ?_⟩
      show R.bind (ce__law_word_1 [some (.sh (.int c)), some (.sh (.int g)), some (.sh (.int (most : Int))), some (.sh (.list (vs.map PyData.int))), some (.sh (.int v))]).quiet (fun y => (lcLoop (gN 4) mYes ce__law_word_1 [some (.sh (.int c)), some (.sh (.int g)), some (.sh (.int (most : Int))), some (.sh (.list (vs.map PyData.int))), none] (us.map PyData.int)).bind fun ys => R.ok (y :: ys)) = _
      rw [w3]
      unfold ce__law_word_1
      simp -implicitDefEqProofs only [e_sCons, e_sNil, e_sBreak, e_sCont, e_sRet, e_sRetN, e_sExpr, e_sIf, e_sAsg, e_sOwn, e_sFrz, e_sRaise, e_sFor, e_loop_nil, e_mC, e_m1, e_m2, e_mF, e_mCall, e_mM1, e_aNil, e_aCons, e_aLst, e_mTup, e_mLst, e_mN, e_mT, e_mTru, e_mAndT, e_mOrT, e_mNotT, e_mAnd, e_mOr, e_mNot, e_mIf, e_mChain, e_iSeq, e_iRange1, e_iRange2, e_oNone, e_oSome, e_mSl, e_mYes, e_mLc, e_gN, v0, vS, p0, p0o, pS, f0, f0s, f0n, fS, R.bind_ok, R.bind_err, R.bind_stuck, R.quiet_ok, O.of_ok, O.of_err, O.of_stuck, O.thn_nx, O.thn_rt, O.thn_bk, O.thn_ct, O.thn_err, fin_nx, fin_rt, fin_err, asB_b, o_add, o_addI, o_sub, o_neg, o_lt, o_le, o_gt, o_ge, o_eqI, o_neI, o_eqS, o_neS, o_inS, o_lenL, o_lenT, o_int, o_itS, o_itL, o_itT, o_truL, o_truB, o_truI, List.set_cons_zero, List.set_cons_succ, List.length_cons, List.length_nil, if_true, if_false, Bool.not_true, Bool.not_false, Bool.false_eq_true, Option.isSome_some, Option.isSome_none, Nat.reduceAdd, Nat.zero_add, decide_true, decide_false, lit_0, lit_1, lit_2, lit_3, lit_4, lit_5, lit_6, lit_7, lit_8, lit_9, lit_10, o_mulS (show (2 : Int).natAbs < 2 ^ 64 by decide) (show g.natAbs < 2 ^ 64 by omega), o_mod hg, x2]
      rfl
  obtain ⟨w, w1, w2, w3⟩ := comp us hu2
  refine ⟨w, by omega, w2, ?_⟩
  show fin (b__law_word [some (.sh (.int c)), some (.sh (.int g)), some (.sh (.int (most : Int))), none, none]) = _
  unfold b__law_word
  have hv3 : m__law_values [.int c, .int ((most : Int) + 1), .int 997] = .ok (.list (vs.map PyData.int)) := hv3
  have e0' : (vs.map PyData.int)[0]? = some (.int x0) := by rw [List.getElem?_map, e0]; rfl
  have ix : dIdx (.list (vs.map PyData.int)) (.int 0) = .ok (.int x0) := o_ixL (i := 0) e0'
  simp -implicitDefEqProofs only [e_sCons, e_sNil, e_sBreak, e_sCont, e_sRet, e_sRetN, e_sExpr, e_sIf, e_sAsg, e_sOwn, e_sFrz, e_sRaise, e_sFor, e_loop_nil, e_mC, e_m1, e_m2, e_mF, e_mCall, e_mM1, e_aNil, e_aCons, e_aLst, e_mTup, e_mLst, e_mN, e_mT, e_mTru, e_mAndT, e_mOrT, e_mNotT, e_mAnd, e_mOr, e_mNot, e_mIf, e_mChain, e_iSeq, e_iRange1, e_iRange2, e_oNone, e_oSome, e_mSl, e_mYes, e_mLc, e_gN, v0, vS, p0, p0o, pS, f0, f0s, f0n, fS, R.bind_ok, R.bind_err, R.bind_stuck, R.quiet_ok, O.of_ok, O.of_err, O.of_stuck, O.thn_nx, O.thn_rt, O.thn_bk, O.thn_ct, O.thn_err, fin_nx, fin_rt, fin_err, asB_b, o_add, o_addI, o_sub, o_neg, o_lt, o_le, o_gt, o_ge, o_eqI, o_neI, o_eqS, o_neS, o_inS, o_lenL, o_lenT, o_int, o_itS, o_itL, o_itT, o_truL, o_truB, o_truI, List.set_cons_zero, List.set_cons_succ, List.length_cons, List.length_nil, if_true, if_false, Bool.not_true, Bool.not_false, Bool.false_eq_true, Option.isSome_some, Option.isSome_none, Nat.reduceAdd, Nat.zero_add, decide_true, decide_false, lit_0, lit_1, lit_2, lit_3, lit_4, lit_5, lit_6, lit_7, lit_8, lit_9, lit_10, hv3, ix, o_mod (show (0 : Int) < (most : Int) + 1 by omega), o_slL, hu3]
  rw [if_pos (by rw [List.length_map, hz]; omega)]
  have w3 : lcLoop (gN 4) mYes ce__law_word_1 (wipeD (clean [some (.sh (.int c)), some (.sh (.int g)), some (.sh (.int (most : Int))), some (.sh (.list (vs.map PyData.int))), none]) [4]) (us.map PyData.int) = .ok (w.map one') := w3
  rw [w3]
  simp -implicitDefEqProofs only [e_sCons, e_sNil, e_sBreak, e_sCont, e_sRet, e_sRetN, e_sExpr, e_sIf, e_sAsg, e_sOwn, e_sFrz, e_sRaise, e_sFor, e_loop_nil, e_mC, e_m1, e_m2, e_mF, e_mCall, e_mM1, e_aNil, e_aCons, e_aLst, e_mTup, e_mLst, e_mN, e_mT, e_mTru, e_mAndT, e_mOrT, e_mNotT, e_mAnd, e_mOr, e_mNot, e_mIf, e_mChain, e_iSeq, e_iRange1, e_iRange2, e_oNone, e_oSome, e_mSl, e_mYes, e_mLc, e_gN, v0, vS, p0, p0o, pS, f0, f0s, f0n, fS, R.bind_ok, R.bind_err, R.bind_stuck, R.quiet_ok, O.of_ok, O.of_err, O.of_stuck, O.thn_nx, O.thn_rt, O.thn_bk, O.thn_ct, O.thn_err, fin_nx, fin_rt, fin_err, asB_b, o_add, o_addI, o_sub, o_neg, o_lt, o_le, o_gt, o_ge, o_eqI, o_neI, o_eqS, o_neS, o_inS, o_lenL, o_lenT, o_int, o_itS, o_itL, o_itT, o_truL, o_truB, o_truI, List.set_cons_zero, List.set_cons_succ, List.length_cons, List.length_nil, if_true, if_false, Bool.not_true, Bool.not_false, Bool.false_eq_true, Option.isSome_some, Option.isSome_none, Nat.reduceAdd, Nat.zero_add, decide_true, decide_false, lit_0, lit_1, lit_2, lit_3, lit_4, lit_5, lit_6, lit_7, lit_8, lit_9, lit_10, o_join (show w.length ≤ 16777216 by omega)]

/-! _law_reduced -/
theorem st__law_reduced {s0 : Option SD} {st : List Nat} {c : Nat} (hc : c ∈ L6) (hl : st.length < 1000000) :
    lb__law_reduced_1 [s0, some (.own (st.reverse.map one)), some (.sh (one c))] = .nx [s0, some (.own ((rstep st c).reverse.map one)), some (.sh (one c))] := by
  have hz := sizeLine_eq
  unfold lb__law_reduced_1
  cases st with
  | nil =>
    simp -implicitDefEqProofs only [e_sCons, e_sNil, e_sBreak, e_sCont, e_sRet, e_sRetN, e_sExpr, e_sIf, e_sAsg, e_sOwn, e_sFrz, e_sRaise, e_sFor, e_loop_nil, e_mC, e_m1, e_m2, e_mF, e_mCall, e_mM1, e_aNil, e_aCons, e_aLst, e_mTup, e_mLst, e_mN, e_mT, e_mTru, e_mAndT, e_mOrT, e_mNotT, e_mAnd, e_mOr, e_mNot, e_mIf, e_mChain, e_iSeq, e_iRange1, e_iRange2, e_oNone, e_oSome, e_mSl, e_mYes, e_mLc, e_gN, v0, vS, p0, p0o, pS, f0, f0s, f0n, fS, R.bind_ok, R.bind_err, R.bind_stuck, R.quiet_ok, O.of_ok, O.of_err, O.of_stuck, O.thn_nx, O.thn_rt, O.thn_bk, O.thn_ct, O.thn_err, fin_nx, fin_rt, fin_err, asB_b, o_add, o_addI, o_sub, o_neg, o_lt, o_le, o_gt, o_ge, o_eqI, o_neI, o_eqS, o_neS, o_inS, o_lenL, o_lenT, o_int, o_itS, o_itL, o_itT, o_truL, o_truB, o_truI, List.set_cons_zero, List.set_cons_succ, List.length_cons, List.length_nil, if_true, if_false, Bool.not_true, Bool.not_false, Bool.false_eq_true, Option.isSome_some, Option.isSome_none, Nat.reduceAdd, Nat.zero_add, decide_true, decide_false, lit_0, lit_1, lit_2, lit_3, lit_4, lit_5, lit_6, lit_7, lit_8, lit_9, lit_10, List.reverse_nil, List.map_nil]
    have e0 : decide ((0 : Int) < ((0 : Nat) : Int)) = false := by decide
    simp -implicitDefEqProofs only [e_sCons, e_sNil, e_sBreak, e_sCont, e_sRet, e_sRetN, e_sExpr, e_sIf, e_sAsg, e_sOwn, e_sFrz, e_sRaise, e_sFor, e_loop_nil, e_mC, e_m1, e_m2, e_mF, e_mCall, e_mM1, e_aNil, e_aCons, e_aLst, e_mTup, e_mLst, e_mN, e_mT, e_mTru, e_mAndT, e_mOrT, e_mNotT, e_mAnd, e_mOr, e_mNot, e_mIf, e_mChain, e_iSeq, e_iRange1, e_iRange2, e_oNone, e_oSome, e_mSl, e_mYes, e_mLc, e_gN, v0, vS, p0, p0o, pS, f0, f0s, f0n, fS, R.bind_ok, R.bind_err, R.bind_stuck, R.quiet_ok, O.of_ok, O.of_err, O.of_stuck, O.thn_nx, O.thn_rt, O.thn_bk, O.thn_ct, O.thn_err, fin_nx, fin_rt, fin_err, asB_b, o_add, o_addI, o_sub, o_neg, o_lt, o_le, o_gt, o_ge, o_eqI, o_neI, o_eqS, o_neS, o_inS, o_lenL, o_lenT, o_int, o_itS, o_itL, o_itT, o_truL, o_truB, o_truI, List.set_cons_zero, List.set_cons_succ, List.length_cons, List.length_nil, if_true, if_false, Bool.not_true, Bool.not_false, Bool.false_eq_true, Option.isSome_some, Option.isSome_none, Nat.reduceAdd, Nat.zero_add, decide_true, decide_false, lit_0, lit_1, lit_2, lit_3, lit_4, lit_5, lit_6, lit_7, lit_8, lit_9, lit_10, e0]
    rw [e_app (ds := []) rfl]
    simp -implicitDefEqProofs only [e_sCons, e_sNil, e_sBreak, e_sCont, e_sRet, e_sRetN, e_sExpr, e_sIf, e_sAsg, e_sOwn, e_sFrz, e_sRaise, e_sFor, e_loop_nil, e_mC, e_m1, e_m2, e_mF, e_mCall, e_mM1, e_aNil, e_aCons, e_aLst, e_mTup, e_mLst, e_mN, e_mT, e_mTru, e_mAndT, e_mOrT, e_mNotT, e_mAnd, e_mOr, e_mNot, e_mIf, e_mChain, e_iSeq, e_iRange1, e_iRange2, e_oNone, e_oSome, e_mSl, e_mYes, e_mLc, e_gN, v0, vS, p0, p0o, pS, f0, f0s, f0n, fS, R.bind_ok, R.bind_err, R.bind_stuck, R.quiet_ok, O.of_ok, O.of_err, O.of_stuck, O.thn_nx, O.thn_rt, O.thn_bk, O.thn_ct, O.thn_err, fin_nx, fin_rt, fin_err, asB_b, o_add, o_addI, o_sub, o_neg, o_lt, o_le, o_gt, o_ge, o_eqI, o_neI, o_eqS, o_neS, o_inS, o_lenL, o_lenT, o_int, o_itS, o_itL, o_itT, o_truL, o_truB, o_truI, List.set_cons_zero, List.set_cons_succ, List.length_cons, List.length_nil, if_true, if_false, Bool.not_true, Bool.not_false, Bool.false_eq_true, Option.isSome_some, Option.isSome_none, Nat.reduceAdd, Nat.zero_add, decide_true, decide_false, lit_0, lit_1, lit_2, lit_3, lit_4, lit_5, lit_6, lit_7, lit_8, lit_9, lit_10]
    rw [if_pos (by rw [hz]; decide)]
    rfl
  | cons t s =>
    have e0 : decide ((0 : Int) < (((s.reverse.map one ++ [one t]).length : Nat) : Int)) = true := decide_eq_true (by rw [List.length_append, List.length_singleton]; omega)
    simp -implicitDefEqProofs only [e_sCons, e_sNil, e_sBreak, e_sCont, e_sRet, e_sRetN, e_sExpr, e_sIf, e_sAsg, e_sOwn, e_sFrz, e_sRaise, e_sFor, e_loop_nil, e_mC, e_m1, e_m2, e_mF, e_mCall, e_mM1, e_aNil, e_aCons, e_aLst, e_mTup, e_mLst, e_mN, e_mT, e_mTru, e_mAndT, e_mOrT, e_mNotT, e_mAnd, e_mOr, e_mNot, e_mIf, e_mChain, e_iSeq, e_iRange1, e_iRange2, e_oNone, e_oSome, e_mSl, e_mYes, e_mLc, e_gN, v0, vS, p0, p0o, pS, f0, f0s, f0n, fS, R.bind_ok, R.bind_err, R.bind_stuck, R.quiet_ok, O.of_ok, O.of_err, O.of_stuck, O.thn_nx, O.thn_rt, O.thn_bk, O.thn_ct, O.thn_err, fin_nx, fin_rt, fin_err, asB_b, o_add, o_addI, o_sub, o_neg, o_lt, o_le, o_gt, o_ge, o_eqI, o_neI, o_eqS, o_neS, o_inS, o_lenL, o_lenT, o_int, o_itS, o_itL, o_itT, o_truL, o_truB, o_truI, List.set_cons_zero, List.set_cons_succ, List.length_cons, List.length_nil, if_true, if_false, Bool.not_true, Bool.not_false, Bool.false_eq_true, Option.isSome_some, Option.isSome_none, Nat.reduceAdd, Nat.zero_add, decide_true, decide_false, lit_0, lit_1, lit_2, lit_3, lit_4, lit_5, lit_6, lit_7, lit_8, lit_9, lit_10]
    rw [ones_snoc, o_ixLast]
    simp -implicitDefEqProofs only [e_sCons, e_sNil, e_sBreak, e_sCont, e_sRet, e_sRetN, e_sExpr, e_sIf, e_sAsg, e_sOwn, e_sFrz, e_sRaise, e_sFor, e_loop_nil, e_mC, e_m1, e_m2, e_mF, e_mCall, e_mM1, e_aNil, e_aCons, e_aLst, e_mTup, e_mLst, e_mN, e_mT, e_mTru, e_mAndT, e_mOrT, e_mNotT, e_mAnd, e_mOr, e_mNot, e_mIf, e_mChain, e_iSeq, e_iRange1, e_iRange2, e_oNone, e_oSome, e_mSl, e_mYes, e_mLc, e_gN, v0, vS, p0, p0o, pS, f0, f0s, f0n, fS, R.bind_ok, R.bind_err, R.bind_stuck, R.quiet_ok, O.of_ok, O.of_err, O.of_stuck, O.thn_nx, O.thn_rt, O.thn_bk, O.thn_ct, O.thn_err, fin_nx, fin_rt, fin_err, asB_b, o_add, o_addI, o_sub, o_neg, o_lt, o_le, o_gt, o_ge, o_eqI, o_neI, o_eqS, o_neS, o_inS, o_lenL, o_lenT, o_int, o_itS, o_itL, o_itT, o_truL, o_truB, o_truI, List.set_cons_zero, List.set_cons_succ, List.length_cons, List.length_nil, if_true, if_false, Bool.not_true, Bool.not_false, Bool.false_eq_true, Option.isSome_some, Option.isSome_none, Nat.reduceAdd, Nat.zero_add, decide_true, decide_false, lit_0, lit_1, lit_2, lit_3, lit_4, lit_5, lit_6, lit_7, lit_8, lit_9, lit_10, e0, o_idxL6 hc, o_invL6 hc, one_eq]
    by_cases e : t = inv c
    · have e1 : rstep (t :: s) c = s := rstep_cut e
      rw [decide_eq_true e, e1]
      simp -implicitDefEqProofs only [e_sCons, e_sNil, e_sBreak, e_sCont, e_sRet, e_sRetN, e_sExpr, e_sIf, e_sAsg, e_sOwn, e_sFrz, e_sRaise, e_sFor, e_loop_nil, e_mC, e_m1, e_m2, e_mF, e_mCall, e_mM1, e_aNil, e_aCons, e_aLst, e_mTup, e_mLst, e_mN, e_mT, e_mTru, e_mAndT, e_mOrT, e_mNotT, e_mAnd, e_mOr, e_mNot, e_mIf, e_mChain, e_iSeq, e_iRange1, e_iRange2, e_oNone, e_oSome, e_mSl, e_mYes, e_mLc, e_gN, v0, vS, p0, p0o, pS, f0, f0s, f0n, fS, R.bind_ok, R.bind_err, R.bind_stuck, R.quiet_ok, O.of_ok, O.of_err, O.of_stuck, O.thn_nx, O.thn_rt, O.thn_bk, O.thn_ct, O.thn_err, fin_nx, fin_rt, fin_err, asB_b, o_add, o_addI, o_sub, o_neg, o_lt, o_le, o_gt, o_ge, o_eqI, o_neI, o_eqS, o_neS, o_inS, o_lenL, o_lenT, o_int, o_itS, o_itL, o_itT, o_truL, o_truB, o_truI, List.set_cons_zero, List.set_cons_succ, List.length_cons, List.length_nil, if_true, if_false, Bool.not_true, Bool.not_false, Bool.false_eq_true, Option.isSome_some, Option.isSome_none, Nat.reduceAdd, Nat.zero_add, decide_true, decide_false, lit_0, lit_1, lit_2, lit_3, lit_4, lit_5, lit_6, lit_7, lit_8, lit_9, lit_10]
      rw [e_pop (ds := s.reverse.map one ++ [one t]) (d := one t) rfl (by rw [List.length_append]; simp)]
      rw [List.dropLast_concat]
      try rfl
    · have e1 : rstep (t :: s) c = c :: t :: s := rstep_add e
      rw [decide_eq_false e, e1]
      simp -implicitDefEqProofs only [e_sCons, e_sNil, e_sBreak, e_sCont, e_sRet, e_sRetN, e_sExpr, e_sIf, e_sAsg, e_sOwn, e_sFrz, e_sRaise, e_sFor, e_loop_nil, e_mC, e_m1, e_m2, e_mF, e_mCall, e_mM1, e_aNil, e_aCons, e_aLst, e_mTup, e_mLst, e_mN, e_mT, e_mTru, e_mAndT, e_mOrT, e_mNotT, e_mAnd, e_mOr, e_mNot, e_mIf, e_mChain, e_iSeq, e_iRange1, e_iRange2, e_oNone, e_oSome, e_mSl, e_mYes, e_mLc, e_gN, v0, vS, p0, p0o, pS, f0, f0s, f0n, fS, R.bind_ok, R.bind_err, R.bind_stuck, R.quiet_ok, O.of_ok, O.of_err, O.of_stuck, O.thn_nx, O.thn_rt, O.thn_bk, O.thn_ct, O.thn_err, fin_nx, fin_rt, fin_err, asB_b, o_add, o_addI, o_sub, o_neg, o_lt, o_le, o_gt, o_ge, o_eqI, o_neI, o_eqS, o_neS, o_inS, o_lenL, o_lenT, o_int, o_itS, o_itL, o_itT, o_truL, o_truB, o_truI, List.set_cons_zero, List.set_cons_succ, List.length_cons, List.length_nil, if_true, if_false, Bool.not_true, Bool.not_false, Bool.false_eq_true, Option.isSome_some, Option.isSome_none, Nat.reduceAdd, Nat.zero_add, decide_true, decide_false, lit_0, lit_1, lit_2, lit_3, lit_4, lit_5, lit_6, lit_7, lit_8, lit_9, lit_10]
      rw [e_app (ds := s.reverse.map one ++ [one t]) rfl]
      simp -implicitDefEqProofs only [e_sCons, e_sNil, e_sBreak, e_sCont, e_sRet, e_sRetN, e_sExpr, e_sIf, e_sAsg, e_sOwn, e_sFrz, e_sRaise, e_sFor, e_loop_nil, e_mC, e_m1, e_m2, e_mF, e_mCall, e_mM1, e_aNil, e_aCons, e_aLst, e_mTup, e_mLst, e_mN, e_mT, e_mTru, e_mAndT, e_mOrT, e_mNotT, e_mAnd, e_mOr, e_mNot, e_mIf, e_mChain, e_iSeq, e_iRange1, e_iRange2, e_oNone, e_oSome, e_mSl, e_mYes, e_mLc, e_gN, v0, vS, p0, p0o, pS, f0, f0s, f0n, fS, R.bind_ok, R.bind_err, R.bind_stuck, R.quiet_ok, O.of_ok, O.of_err, O.of_stuck, O.thn_nx, O.thn_rt, O.thn_bk, O.thn_ct, O.thn_err, fin_nx, fin_rt, fin_err, asB_b, o_add, o_addI, o_sub, o_neg, o_lt, o_le, o_gt, o_ge, o_eqI, o_neI, o_eqS, o_neS, o_inS, o_lenL, o_lenT, o_int, o_itS, o_itL, o_itT, o_truL, o_truB, o_truI, List.set_cons_zero, List.set_cons_succ, List.length_cons, List.length_nil, if_true, if_false, Bool.not_true, Bool.not_false, Bool.false_eq_true, Option.isSome_some, Option.isSome_none, Nat.reduceAdd, Nat.zero_add, decide_true, decide_false, lit_0, lit_1, lit_2, lit_3, lit_4, lit_5, lit_6, lit_7, lit_8, lit_9, lit_10]
      rw [if_pos (by rw [List.length_append, ones_len, List.length_reverse]; simp only [List.length_cons, List.length_nil] at hl ⊢; omega), ones_snoc, ones_snoc]
      try rfl
theorem lp__law_reduced {s0 : Option SD} : ∀ (cs st : List Nat) (o : Option SD), Wd cs → st.length + cs.length < 1000000 →
    ∃ o', mLoop (gN 2) lb__law_reduced_1 (cs.map one) [s0, some (.own (st.reverse.map one)), o] = .nx [s0, some (.own ((redS st cs).reverse.map one)), o']
  | [], st, o, _, _ => ⟨o, rfl⟩
  | c :: cs, st, o, hw, hl => by
    have hc := hw c List.mem_cons_self
    rw [List.length_cons] at hl
    have hr := rstep_len st c
    obtain ⟨o', h⟩ := lp__law_reduced cs (rstep st c) (some (.sh (one c))) (fun x hx => hw x (List.mem_cons_of_mem _ hx)) (by omega)
    refine ⟨o', ?_⟩
    rw [List.map_cons, e_loop_nx (st__law_reduced hc (by omega)), h]
    rfl
theorem r__law_reduced {w : List Nat} (h : Wd w) (hl : w.length < 1000000) : m__law_reduced [.str (S w)] = .ok (.str (S (red w))) := by
  have hz := sizeLine_eq
  obtain ⟨o', h1⟩ := lp__law_reduced (s0 := some (.sh (.str (S w)))) w [] none h (by simpa using hl)
  have h1 : mLoop (gN 2) lb__law_reduced_1 (w.map one) [some (.sh (.str (S w))), some (.own []), none] = .nx [some (.sh (.str (S w))), some (.own ((redS [] w).reverse.map one)), o'] := h1
  show fin (b__law_reduced [some (.sh (.str (S w))), none, none]) = _
  unfold b__law_reduced
  simp -implicitDefEqProofs only [e_sCons, e_sNil, e_sBreak, e_sCont, e_sRet, e_sRetN, e_sExpr, e_sIf, e_sAsg, e_sOwn, e_sFrz, e_sRaise, e_sFor, e_loop_nil, e_mC, e_m1, e_m2, e_mF, e_mCall, e_mM1, e_aNil, e_aCons, e_aLst, e_mTup, e_mLst, e_mN, e_mT, e_mTru, e_mAndT, e_mOrT, e_mNotT, e_mAnd, e_mOr, e_mNot, e_mIf, e_mChain, e_iSeq, e_iRange1, e_iRange2, e_oNone, e_oSome, e_mSl, e_mYes, e_mLc, e_gN, v0, vS, p0, p0o, pS, f0, f0s, f0n, fS, R.bind_ok, R.bind_err, R.bind_stuck, R.quiet_ok, O.of_ok, O.of_err, O.of_stuck, O.thn_nx, O.thn_rt, O.thn_bk, O.thn_ct, O.thn_err, fin_nx, fin_rt, fin_err, asB_b, o_add, o_addI, o_sub, o_neg, o_lt, o_le, o_gt, o_ge, o_eqI, o_neI, o_eqS, o_neS, o_inS, o_lenL, o_lenT, o_int, o_itS, o_itL, o_itT, o_truL, o_truB, o_truI, List.set_cons_zero, List.set_cons_succ, List.length_cons, List.length_nil, if_true, if_false, Bool.not_true, Bool.not_false, Bool.false_eq_true, Option.isSome_some, Option.isSome_none, Nat.reduceAdd, Nat.zero_add, decide_true, decide_false, lit_0, lit_1, lit_2, lit_3, lit_4, lit_5, lit_6, lit_7, lit_8, lit_9, lit_10]
  rw [if_pos (by rw [hz]; decide)]
  simp -implicitDefEqProofs only [e_sCons, e_sNil, e_sBreak, e_sCont, e_sRet, e_sRetN, e_sExpr, e_sIf, e_sAsg, e_sOwn, e_sFrz, e_sRaise, e_sFor, e_loop_nil, e_mC, e_m1, e_m2, e_mF, e_mCall, e_mM1, e_aNil, e_aCons, e_aLst, e_mTup, e_mLst, e_mN, e_mT, e_mTru, e_mAndT, e_mOrT, e_mNotT, e_mAnd, e_mOr, e_mNot, e_mIf, e_mChain, e_iSeq, e_iRange1, e_iRange2, e_oNone, e_oSome, e_mSl, e_mYes, e_mLc, e_gN, v0, vS, p0, p0o, pS, f0, f0s, f0n, fS, R.bind_ok, R.bind_err, R.bind_stuck, R.quiet_ok, O.of_ok, O.of_err, O.of_stuck, O.thn_nx, O.thn_rt, O.thn_bk, O.thn_ct, O.thn_err, fin_nx, fin_rt, fin_err, asB_b, o_add, o_addI, o_sub, o_neg, o_lt, o_le, o_gt, o_ge, o_eqI, o_neI, o_eqS, o_neS, o_inS, o_lenL, o_lenT, o_int, o_itS, o_itL, o_itT, o_truL, o_truB, o_truI, List.set_cons_zero, List.set_cons_succ, List.length_cons, List.length_nil, if_true, if_false, Bool.not_true, Bool.not_false, Bool.false_eq_true, Option.isSome_some, Option.isSome_none, Nat.reduceAdd, Nat.zero_add, decide_true, decide_false, lit_0, lit_1, lit_2, lit_3, lit_4, lit_5, lit_6, lit_7, lit_8, lit_9, lit_10]
  rw [h1]
  simp -implicitDefEqProofs only [e_sCons, e_sNil, e_sBreak, e_sCont, e_sRet, e_sRetN, e_sExpr, e_sIf, e_sAsg, e_sOwn, e_sFrz, e_sRaise, e_sFor, e_loop_nil, e_mC, e_m1, e_m2, e_mF, e_mCall, e_mM1, e_aNil, e_aCons, e_aLst, e_mTup, e_mLst, e_mN, e_mT, e_mTru, e_mAndT, e_mOrT, e_mNotT, e_mAnd, e_mOr, e_mNot, e_mIf, e_mChain, e_iSeq, e_iRange1, e_iRange2, e_oNone, e_oSome, e_mSl, e_mYes, e_mLc, e_gN, v0, vS, p0, p0o, pS, f0, f0s, f0n, fS, R.bind_ok, R.bind_err, R.bind_stuck, R.quiet_ok, O.of_ok, O.of_err, O.of_stuck, O.thn_nx, O.thn_rt, O.thn_bk, O.thn_ct, O.thn_err, fin_nx, fin_rt, fin_err, asB_b, o_add, o_addI, o_sub, o_neg, o_lt, o_le, o_gt, o_ge, o_eqI, o_neI, o_eqS, o_neS, o_inS, o_lenL, o_lenT, o_int, o_itS, o_itL, o_itT, o_truL, o_truB, o_truI, List.set_cons_zero, List.set_cons_succ, List.length_cons, List.length_nil, if_true, if_false, Bool.not_true, Bool.not_false, Bool.false_eq_true, Option.isSome_some, Option.isSome_none, Nat.reduceAdd, Nat.zero_add, decide_true, decide_false, lit_0, lit_1, lit_2, lit_3, lit_4, lit_5, lit_6, lit_7, lit_8, lit_9, lit_10]
  rw [o_join (l := (redS [] w).reverse) (by rw [List.length_reverse]; have := redS_len w []; simp only [List.length_nil, Nat.zero_add] at this; omega)]
  rfl

/-! _law_inverse -/
theorem r__law_inverse {w : List Nat} (h : Wd w) (hl : w.length ≤ 1000000) : m__law_inverse [.str (S w)] = .ok (.str (S (invw w))) := by
  have hz := sizeLine_eq
  show fin (b__law_inverse [some (.sh (.str (S w))), none]) = _
  unfold b__law_inverse
  simp -implicitDefEqProofs only [e_sCons, e_sNil, e_sBreak, e_sCont, e_sRet, e_sRetN, e_sExpr, e_sIf, e_sAsg, e_sOwn, e_sFrz, e_sRaise, e_sFor, e_loop_nil, e_mC, e_m1, e_m2, e_mF, e_mCall, e_mM1, e_aNil, e_aCons, e_aLst, e_mTup, e_mLst, e_mN, e_mT, e_mTru, e_mAndT, e_mOrT, e_mNotT, e_mAnd, e_mOr, e_mNot, e_mIf, e_mChain, e_iSeq, e_iRange1, e_iRange2, e_oNone, e_oSome, e_mSl, e_mYes, e_mLc, e_gN, v0, vS, p0, p0o, pS, f0, f0s, f0n, fS, R.bind_ok, R.bind_err, R.bind_stuck, R.quiet_ok, O.of_ok, O.of_err, O.of_stuck, O.thn_nx, O.thn_rt, O.thn_bk, O.thn_ct, O.thn_err, fin_nx, fin_rt, fin_err, asB_b, o_add, o_addI, o_sub, o_neg, o_lt, o_le, o_gt, o_ge, o_eqI, o_neI, o_eqS, o_neS, o_inS, o_lenL, o_lenT, o_int, o_itS, o_itL, o_itT, o_truL, o_truB, o_truI, List.set_cons_zero, List.set_cons_succ, List.length_cons, List.length_nil, if_true, if_false, Bool.not_true, Bool.not_false, Bool.false_eq_true, Option.isSome_some, Option.isSome_none, Nat.reduceAdd, Nat.zero_add, decide_true, decide_false, lit_0, lit_1, lit_2, lit_3, lit_4, lit_5, lit_6, lit_7, lit_8, lit_9, lit_10, o_revS (show w.length ≤ 16777216 by omega)]
  have e : lcLoop (gN 1) mYes ce__law_inverse_1 (wipeD (clean [some (.sh (.str (S w))), none]) [1]) (w.reverse.map one') = .ok ((w.reverse.map one').map fun d => match d with | .str z => one (inv (z.cps.toList.getD 0 0)) | _ => .none) := by
    refine lc_map _ fun d hd => ?_
    obtain ⟨c, hc, rfl⟩ := List.mem_map.mp hd
    show ce__law_inverse_1 [some (.sh (.str (S w))), some (.sh (one c))] = _
    unfold ce__law_inverse_1
    simp -implicitDefEqProofs only [e_sCons, e_sNil, e_sBreak, e_sCont, e_sRet, e_sRetN, e_sExpr, e_sIf, e_sAsg, e_sOwn, e_sFrz, e_sRaise, e_sFor, e_loop_nil, e_mC, e_m1, e_m2, e_mF, e_mCall, e_mM1, e_aNil, e_aCons, e_aLst, e_mTup, e_mLst, e_mN, e_mT, e_mTru, e_mAndT, e_mOrT, e_mNotT, e_mAnd, e_mOr, e_mNot, e_mIf, e_mChain, e_iSeq, e_iRange1, e_iRange2, e_oNone, e_oSome, e_mSl, e_mYes, e_mLc, e_gN, v0, vS, p0, p0o, pS, f0, f0s, f0n, fS, R.bind_ok, R.bind_err, R.bind_stuck, R.quiet_ok, O.of_ok, O.of_err, O.of_stuck, O.thn_nx, O.thn_rt, O.thn_bk, O.thn_ct, O.thn_err, fin_nx, fin_rt, fin_err, asB_b, o_add, o_addI, o_sub, o_neg, o_lt, o_le, o_gt, o_ge, o_eqI, o_neI, o_eqS, o_neS, o_inS, o_lenL, o_lenT, o_int, o_itS, o_itL, o_itT, o_truL, o_truB, o_truI, List.set_cons_zero, List.set_cons_succ, List.length_cons, List.length_nil, if_true, if_false, Bool.not_true, Bool.not_false, Bool.false_eq_true, Option.isSome_some, Option.isSome_none, Nat.reduceAdd, Nat.zero_add, decide_true, decide_false, lit_0, lit_1, lit_2, lit_3, lit_4, lit_5, lit_6, lit_7, lit_8, lit_9, lit_10, o_idxL6 (h c (List.mem_reverse.mp hc)), o_invL6 (h c (List.mem_reverse.mp hc))]
    rfl
  rw [if_pos (by rw [List.length_map, List.length_reverse, hz]; omega), e]
  simp -implicitDefEqProofs only [e_sCons, e_sNil, e_sBreak, e_sCont, e_sRet, e_sRetN, e_sExpr, e_sIf, e_sAsg, e_sOwn, e_sFrz, e_sRaise, e_sFor, e_loop_nil, e_mC, e_m1, e_m2, e_mF, e_mCall, e_mM1, e_aNil, e_aCons, e_aLst, e_mTup, e_mLst, e_mN, e_mT, e_mTru, e_mAndT, e_mOrT, e_mNotT, e_mAnd, e_mOr, e_mNot, e_mIf, e_mChain, e_iSeq, e_iRange1, e_iRange2, e_oNone, e_oSome, e_mSl, e_mYes, e_mLc, e_gN, v0, vS, p0, p0o, pS, f0, f0s, f0n, fS, R.bind_ok, R.bind_err, R.bind_stuck, R.quiet_ok, O.of_ok, O.of_err, O.of_stuck, O.thn_nx, O.thn_rt, O.thn_bk, O.thn_ct, O.thn_err, fin_nx, fin_rt, fin_err, asB_b, o_add, o_addI, o_sub, o_neg, o_lt, o_le, o_gt, o_ge, o_eqI, o_neI, o_eqS, o_neS, o_inS, o_lenL, o_lenT, o_int, o_itS, o_itL, o_itT, o_truL, o_truB, o_truI, List.set_cons_zero, List.set_cons_succ, List.length_cons, List.length_nil, if_true, if_false, Bool.not_true, Bool.not_false, Bool.false_eq_true, Option.isSome_some, Option.isSome_none, Nat.reduceAdd, Nat.zero_add, decide_true, decide_false, lit_0, lit_1, lit_2, lit_3, lit_4, lit_5, lit_6, lit_7, lit_8, lit_9, lit_10]
  have e2 : ((w.reverse.map one').map fun d => match d with | .str z => one (inv (z.cps.toList.getD 0 0)) | _ => .none) = (invw w).map one' := by
    unfold invw
    rw [List.map_map, List.map_map]
    rfl
  rw [e2, o_join (by rw [invw_len]; omega)]
  simp -implicitDefEqProofs only [e_sCons, e_sNil, e_sBreak, e_sCont, e_sRet, e_sRetN, e_sExpr, e_sIf, e_sAsg, e_sOwn, e_sFrz, e_sRaise, e_sFor, e_loop_nil, e_mC, e_m1, e_m2, e_mF, e_mCall, e_mM1, e_aNil, e_aCons, e_aLst, e_mTup, e_mLst, e_mN, e_mT, e_mTru, e_mAndT, e_mOrT, e_mNotT, e_mAnd, e_mOr, e_mNot, e_mIf, e_mChain, e_iSeq, e_iRange1, e_iRange2, e_oNone, e_oSome, e_mSl, e_mYes, e_mLc, e_gN, v0, vS, p0, p0o, pS, f0, f0s, f0n, fS, R.bind_ok, R.bind_err, R.bind_stuck, R.quiet_ok, O.of_ok, O.of_err, O.of_stuck, O.thn_nx, O.thn_rt, O.thn_bk, O.thn_ct, O.thn_err, fin_nx, fin_rt, fin_err, asB_b, o_add, o_addI, o_sub, o_neg, o_lt, o_le, o_gt, o_ge, o_eqI, o_neI, o_eqS, o_neS, o_inS, o_lenL, o_lenT, o_int, o_itS, o_itL, o_itT, o_truL, o_truB, o_truI, List.set_cons_zero, List.set_cons_succ, List.length_cons, List.length_nil, if_true, if_false, Bool.not_true, Bool.not_false, Bool.false_eq_true, Option.isSome_some, Option.isSome_none, Nat.reduceAdd, Nat.zero_add, decide_true, decide_false, lit_0, lit_1, lit_2, lit_3, lit_4, lit_5, lit_6, lit_7, lit_8, lit_9, lit_10]

/-! _law_power -/
theorem r__law_power {e : Int} {w : List Nat} (hw : Wd w) (hl : w.length ≤ 60) (h1 : -20 ≤ e) (h2 : e ≤ 20) : m__law_power [.str (S w), .int e] = .ok (.str (S (pw e w))) := by
  show fin (b__law_power [some (.sh (.str (S w))), some (.sh (.int e))]) = _
  unfold b__law_power pw
  by_cases h : e < 0
  · have b1 : (-e).toNat * (invw w).length ≤ 1200 := by rw [invw_len]; exact Nat.mul_le_mul (show (-e).toNat ≤ 20 by omega) hl
    have em : dMul (.str (S (invw w))) (.int (0 - e)) = .ok (.str (S (repL (-e).toNat (invw w)))) := by rw [Int.zero_sub]; exact o_mulT ⟨by omega, by omega, by rw [Nat.mul_comm]; omega⟩
    rw [if_pos h]
    simp -implicitDefEqProofs only [e_sCons, e_sNil, e_sBreak, e_sCont, e_sRet, e_sRetN, e_sExpr, e_sIf, e_sAsg, e_sOwn, e_sFrz, e_sRaise, e_sFor, e_loop_nil, e_mC, e_m1, e_m2, e_mF, e_mCall, e_mM1, e_aNil, e_aCons, e_aLst, e_mTup, e_mLst, e_mN, e_mT, e_mTru, e_mAndT, e_mOrT, e_mNotT, e_mAnd, e_mOr, e_mNot, e_mIf, e_mChain, e_iSeq, e_iRange1, e_iRange2, e_oNone, e_oSome, e_mSl, e_mYes, e_mLc, e_gN, v0, vS, p0, p0o, pS, f0, f0s, f0n, fS, R.bind_ok, R.bind_err, R.bind_stuck, R.quiet_ok, O.of_ok, O.of_err, O.of_stuck, O.thn_nx, O.thn_rt, O.thn_bk, O.thn_ct, O.thn_err, fin_nx, fin_rt, fin_err, asB_b, o_add, o_addI, o_sub, o_neg, o_lt, o_le, o_gt, o_ge, o_eqI, o_neI, o_eqS, o_neS, o_inS, o_lenL, o_lenT, o_int, o_itS, o_itL, o_itT, o_truL, o_truB, o_truI, List.set_cons_zero, List.set_cons_succ, List.length_cons, List.length_nil, if_true, if_false, Bool.not_true, Bool.not_false, Bool.false_eq_true, Option.isSome_some, Option.isSome_none, Nat.reduceAdd, Nat.zero_add, decide_true, decide_false, lit_0, lit_1, lit_2, lit_3, lit_4, lit_5, lit_6, lit_7, lit_8, lit_9, lit_10, decide_eq_true h, r__law_inverse hw (show w.length ≤ 1000000 by omega), em, r__law_reduced (repL_wd (invw_wd hw)) (show (repL (-e).toNat (invw w)).length < 1000000 by rw [repL_len]; omega)]
  · have b1 : e.toNat * w.length ≤ 1200 := Nat.mul_le_mul (show e.toNat ≤ 20 by omega) hl
    have em : dMul (.str (S w)) (.int e) = .ok (.str (S (repL e.toNat w))) := o_mulT ⟨by omega, by omega, by rw [Nat.mul_comm]; omega⟩
    rw [if_neg h]
    simp -implicitDefEqProofs only [e_sCons, e_sNil, e_sBreak, e_sCont, e_sRet, e_sRetN, e_sExpr, e_sIf, e_sAsg, e_sOwn, e_sFrz, e_sRaise, e_sFor, e_loop_nil, e_mC, e_m1, e_m2, e_mF, e_mCall, e_mM1, e_aNil, e_aCons, e_aLst, e_mTup, e_mLst, e_mN, e_mT, e_mTru, e_mAndT, e_mOrT, e_mNotT, e_mAnd, e_mOr, e_mNot, e_mIf, e_mChain, e_iSeq, e_iRange1, e_iRange2, e_oNone, e_oSome, e_mSl, e_mYes, e_mLc, e_gN, v0, vS, p0, p0o, pS, f0, f0s, f0n, fS, R.bind_ok, R.bind_err, R.bind_stuck, R.quiet_ok, O.of_ok, O.of_err, O.of_stuck, O.thn_nx, O.thn_rt, O.thn_bk, O.thn_ct, O.thn_err, fin_nx, fin_rt, fin_err, asB_b, o_add, o_addI, o_sub, o_neg, o_lt, o_le, o_gt, o_ge, o_eqI, o_neI, o_eqS, o_neS, o_inS, o_lenL, o_lenT, o_int, o_itS, o_itL, o_itT, o_truL, o_truB, o_truI, List.set_cons_zero, List.set_cons_succ, List.length_cons, List.length_nil, if_true, if_false, Bool.not_true, Bool.not_false, Bool.false_eq_true, Option.isSome_some, Option.isSome_none, Nat.reduceAdd, Nat.zero_add, decide_true, decide_false, lit_0, lit_1, lit_2, lit_3, lit_4, lit_5, lit_6, lit_7, lit_8, lit_9, lit_10, decide_eq_false h, em, r__law_reduced (repL_wd hw) (show (repL e.toNat w).length < 1000000 by rw [repL_len]; omega)]

/-! letters_of -/
theorem r_letters_of {g : Int} (h1 : 1 ≤ g) (h2 : g ≤ 3) : m_letters_of [.int g] = .ok (.str (S (lt g))) := by
  show fin (b_letters_of [some (.sh (.int g))]) = _
  unfold b_letters_of
  have e1 : decide (g < 1) = false := decide_eq_false (by omega)
  have e2 : decide (3 < g) = false := decide_eq_false (by omega)
  simp -implicitDefEqProofs only [e_sCons, e_sNil, e_sBreak, e_sCont, e_sRet, e_sRetN, e_sExpr, e_sIf, e_sAsg, e_sOwn, e_sFrz, e_sRaise, e_sFor, e_loop_nil, e_mC, e_m1, e_m2, e_mF, e_mCall, e_mM1, e_aNil, e_aCons, e_aLst, e_mTup, e_mLst, e_mN, e_mT, e_mTru, e_mAndT, e_mOrT, e_mNotT, e_mAnd, e_mOr, e_mNot, e_mIf, e_mChain, e_iSeq, e_iRange1, e_iRange2, e_oNone, e_oSome, e_mSl, e_mYes, e_mLc, e_gN, v0, vS, p0, p0o, pS, f0, f0s, f0n, fS, R.bind_ok, R.bind_err, R.bind_stuck, R.quiet_ok, O.of_ok, O.of_err, O.of_stuck, O.thn_nx, O.thn_rt, O.thn_bk, O.thn_ct, O.thn_err, fin_nx, fin_rt, fin_err, asB_b, o_add, o_addI, o_sub, o_neg, o_lt, o_le, o_gt, o_ge, o_eqI, o_neI, o_eqS, o_neS, o_inS, o_lenL, o_lenT, o_int, o_itS, o_itL, o_itT, o_truL, o_truB, o_truI, List.set_cons_zero, List.set_cons_succ, List.length_cons, List.length_nil, if_true, if_false, Bool.not_true, Bool.not_false, Bool.false_eq_true, Option.isSome_some, Option.isSome_none, Nat.reduceAdd, Nat.zero_add, decide_true, decide_false, lit_0, lit_1, lit_2, lit_3, lit_4, lit_5, lit_6, lit_7, lit_8, lit_9, lit_10, e1, e2, o_mulS (show (2 : Int).natAbs < 2 ^ 64 by decide) (show g.natAbs < 2 ^ 64 by omega), o_slS (show L6.length ≤ 16777216 by decide), cut_lt h1 h2]
theorem r_letters_of_bad {g : Int} (h : g < 1 ∨ 3 < g) : m_letters_of [.int g] = .err ("BadNumber", []) := by
  show fin (b_letters_of [some (.sh (.int g))]) = _
  unfold b_letters_of
  rcases h with h | h
  · simp -implicitDefEqProofs only [e_sCons, e_sNil, e_sBreak, e_sCont, e_sRet, e_sRetN, e_sExpr, e_sIf, e_sAsg, e_sOwn, e_sFrz, e_sRaise, e_sFor, e_loop_nil, e_mC, e_m1, e_m2, e_mF, e_mCall, e_mM1, e_aNil, e_aCons, e_aLst, e_mTup, e_mLst, e_mN, e_mT, e_mTru, e_mAndT, e_mOrT, e_mNotT, e_mAnd, e_mOr, e_mNot, e_mIf, e_mChain, e_iSeq, e_iRange1, e_iRange2, e_oNone, e_oSome, e_mSl, e_mYes, e_mLc, e_gN, v0, vS, p0, p0o, pS, f0, f0s, f0n, fS, R.bind_ok, R.bind_err, R.bind_stuck, R.quiet_ok, O.of_ok, O.of_err, O.of_stuck, O.thn_nx, O.thn_rt, O.thn_bk, O.thn_ct, O.thn_err, fin_nx, fin_rt, fin_err, asB_b, o_add, o_addI, o_sub, o_neg, o_lt, o_le, o_gt, o_ge, o_eqI, o_neI, o_eqS, o_neS, o_inS, o_lenL, o_lenT, o_int, o_itS, o_itL, o_itT, o_truL, o_truB, o_truI, List.set_cons_zero, List.set_cons_succ, List.length_cons, List.length_nil, if_true, if_false, Bool.not_true, Bool.not_false, Bool.false_eq_true, Option.isSome_some, Option.isSome_none, Nat.reduceAdd, Nat.zero_add, decide_true, decide_false, lit_0, lit_1, lit_2, lit_3, lit_4, lit_5, lit_6, lit_7, lit_8, lit_9, lit_10, decide_eq_true h]
  · by_cases h2 : g < 1
    · simp -implicitDefEqProofs only [e_sCons, e_sNil, e_sBreak, e_sCont, e_sRet, e_sRetN, e_sExpr, e_sIf, e_sAsg, e_sOwn, e_sFrz, e_sRaise, e_sFor, e_loop_nil, e_mC, e_m1, e_m2, e_mF, e_mCall, e_mM1, e_aNil, e_aCons, e_aLst, e_mTup, e_mLst, e_mN, e_mT, e_mTru, e_mAndT, e_mOrT, e_mNotT, e_mAnd, e_mOr, e_mNot, e_mIf, e_mChain, e_iSeq, e_iRange1, e_iRange2, e_oNone, e_oSome, e_mSl, e_mYes, e_mLc, e_gN, v0, vS, p0, p0o, pS, f0, f0s, f0n, fS, R.bind_ok, R.bind_err, R.bind_stuck, R.quiet_ok, O.of_ok, O.of_err, O.of_stuck, O.thn_nx, O.thn_rt, O.thn_bk, O.thn_ct, O.thn_err, fin_nx, fin_rt, fin_err, asB_b, o_add, o_addI, o_sub, o_neg, o_lt, o_le, o_gt, o_ge, o_eqI, o_neI, o_eqS, o_neS, o_inS, o_lenL, o_lenT, o_int, o_itS, o_itL, o_itT, o_truL, o_truB, o_truI, List.set_cons_zero, List.set_cons_succ, List.length_cons, List.length_nil, if_true, if_false, Bool.not_true, Bool.not_false, Bool.false_eq_true, Option.isSome_some, Option.isSome_none, Nat.reduceAdd, Nat.zero_add, decide_true, decide_false, lit_0, lit_1, lit_2, lit_3, lit_4, lit_5, lit_6, lit_7, lit_8, lit_9, lit_10, decide_eq_true h2]
    · simp -implicitDefEqProofs only [e_sCons, e_sNil, e_sBreak, e_sCont, e_sRet, e_sRetN, e_sExpr, e_sIf, e_sAsg, e_sOwn, e_sFrz, e_sRaise, e_sFor, e_loop_nil, e_mC, e_m1, e_m2, e_mF, e_mCall, e_mM1, e_aNil, e_aCons, e_aLst, e_mTup, e_mLst, e_mN, e_mT, e_mTru, e_mAndT, e_mOrT, e_mNotT, e_mAnd, e_mOr, e_mNot, e_mIf, e_mChain, e_iSeq, e_iRange1, e_iRange2, e_oNone, e_oSome, e_mSl, e_mYes, e_mLc, e_gN, v0, vS, p0, p0o, pS, f0, f0s, f0n, fS, R.bind_ok, R.bind_err, R.bind_stuck, R.quiet_ok, O.of_ok, O.of_err, O.of_stuck, O.thn_nx, O.thn_rt, O.thn_bk, O.thn_ct, O.thn_err, fin_nx, fin_rt, fin_err, asB_b, o_add, o_addI, o_sub, o_neg, o_lt, o_le, o_gt, o_ge, o_eqI, o_neI, o_eqS, o_neS, o_inS, o_lenL, o_lenT, o_int, o_itS, o_itL, o_itT, o_truL, o_truB, o_truI, List.set_cons_zero, List.set_cons_succ, List.length_cons, List.length_nil, if_true, if_false, Bool.not_true, Bool.not_false, Bool.false_eq_true, Option.isSome_some, Option.isSome_none, Nat.reduceAdd, Nat.zero_add, decide_true, decide_false, lit_0, lit_1, lit_2, lit_3, lit_4, lit_5, lit_6, lit_7, lit_8, lit_9, lit_10, decide_eq_true h, decide_eq_false h2]

/-! is_word -/
theorem r_is_word {g : Int} {t : List Nat} (h1 : 1 ≤ g) (h2 : g ≤ 3) (hl : t.length ≤ 1000000) : m_is_word [.int g, .str (S t)] = .ok (.bool (okw g t)) := by
  have hz := sizeLine_eq
  show fin (b_is_word [some (.sh (.int g)), some (.sh (.str (S t))), none, none]) = _
  unfold b_is_word
  simp -implicitDefEqProofs only [e_sCons, e_sNil, e_sBreak, e_sCont, e_sRet, e_sRetN, e_sExpr, e_sIf, e_sAsg, e_sOwn, e_sFrz, e_sRaise, e_sFor, e_loop_nil, e_mC, e_m1, e_m2, e_mF, e_mCall, e_mM1, e_aNil, e_aCons, e_aLst, e_mTup, e_mLst, e_mN, e_mT, e_mTru, e_mAndT, e_mOrT, e_mNotT, e_mAnd, e_mOr, e_mNot, e_mIf, e_mChain, e_iSeq, e_iRange1, e_iRange2, e_oNone, e_oSome, e_mSl, e_mYes, e_mLc, e_gN, v0, vS, p0, p0o, pS, f0, f0s, f0n, fS, R.bind_ok, R.bind_err, R.bind_stuck, R.quiet_ok, O.of_ok, O.of_err, O.of_stuck, O.thn_nx, O.thn_rt, O.thn_bk, O.thn_ct, O.thn_err, fin_nx, fin_rt, fin_err, asB_b, o_add, o_addI, o_sub, o_neg, o_lt, o_le, o_gt, o_ge, o_eqI, o_neI, o_eqS, o_neS, o_inS, o_lenL, o_lenT, o_int, o_itS, o_itL, o_itT, o_truL, o_truB, o_truI, List.set_cons_zero, List.set_cons_succ, List.length_cons, List.length_nil, if_true, if_false, Bool.not_true, Bool.not_false, Bool.false_eq_true, Option.isSome_some, Option.isSome_none, Nat.reduceAdd, Nat.zero_add, decide_true, decide_false, lit_0, lit_1, lit_2, lit_3, lit_4, lit_5, lit_6, lit_7, lit_8, lit_9, lit_10, r_letters_of h1 h2]
  have e : lcLoop (gN 3) mYes ce_is_word_1 (wipeD (clean [some (.sh (.int g)), some (.sh (.str (S t))), some (.sh (.str (S (lt g)))), none]) [3]) (t.map one') = .ok ((t.map one').map fun d => match d with | .str z => .bool (decide (z.cps.toList.getD 0 0 ∈ lt g)) | _ => .none) := by
    refine lc_map _ fun d hd => ?_
    obtain ⟨c, _, rfl⟩ := List.mem_map.mp hd
    show ce_is_word_1 [some (.sh (.int g)), some (.sh (.str (S t))), some (.sh (.str (S (lt g)))), some (.sh (one c))] = _
    unfold ce_is_word_1
    simp -implicitDefEqProofs only [e_sCons, e_sNil, e_sBreak, e_sCont, e_sRet, e_sRetN, e_sExpr, e_sIf, e_sAsg, e_sOwn, e_sFrz, e_sRaise, e_sFor, e_loop_nil, e_mC, e_m1, e_m2, e_mF, e_mCall, e_mM1, e_aNil, e_aCons, e_aLst, e_mTup, e_mLst, e_mN, e_mT, e_mTru, e_mAndT, e_mOrT, e_mNotT, e_mAnd, e_mOr, e_mNot, e_mIf, e_mChain, e_iSeq, e_iRange1, e_iRange2, e_oNone, e_oSome, e_mSl, e_mYes, e_mLc, e_gN, v0, vS, p0, p0o, pS, f0, f0s, f0n, fS, R.bind_ok, R.bind_err, R.bind_stuck, R.quiet_ok, O.of_ok, O.of_err, O.of_stuck, O.thn_nx, O.thn_rt, O.thn_bk, O.thn_ct, O.thn_err, fin_nx, fin_rt, fin_err, asB_b, o_add, o_addI, o_sub, o_neg, o_lt, o_le, o_gt, o_ge, o_eqI, o_neI, o_eqS, o_neS, o_inS, o_lenL, o_lenT, o_int, o_itS, o_itL, o_itT, o_truL, o_truB, o_truI, List.set_cons_zero, List.set_cons_succ, List.length_cons, List.length_nil, if_true, if_false, Bool.not_true, Bool.not_false, Bool.false_eq_true, Option.isSome_some, Option.isSome_none, Nat.reduceAdd, Nat.zero_add, decide_true, decide_false, lit_0, lit_1, lit_2, lit_3, lit_4, lit_5, lit_6, lit_7, lit_8, lit_9, lit_10]
    rfl
  rw [if_pos (by rw [List.length_map, hz]; omega), e]
  simp -implicitDefEqProofs only [e_sCons, e_sNil, e_sBreak, e_sCont, e_sRet, e_sRetN, e_sExpr, e_sIf, e_sAsg, e_sOwn, e_sFrz, e_sRaise, e_sFor, e_loop_nil, e_mC, e_m1, e_m2, e_mF, e_mCall, e_mM1, e_aNil, e_aCons, e_aLst, e_mTup, e_mLst, e_mN, e_mT, e_mTru, e_mAndT, e_mOrT, e_mNotT, e_mAnd, e_mOr, e_mNot, e_mIf, e_mChain, e_iSeq, e_iRange1, e_iRange2, e_oNone, e_oSome, e_mSl, e_mYes, e_mLc, e_gN, v0, vS, p0, p0o, pS, f0, f0s, f0n, fS, R.bind_ok, R.bind_err, R.bind_stuck, R.quiet_ok, O.of_ok, O.of_err, O.of_stuck, O.thn_nx, O.thn_rt, O.thn_bk, O.thn_ct, O.thn_err, fin_nx, fin_rt, fin_err, asB_b, o_add, o_addI, o_sub, o_neg, o_lt, o_le, o_gt, o_ge, o_eqI, o_neI, o_eqS, o_neS, o_inS, o_lenL, o_lenT, o_int, o_itS, o_itL, o_itT, o_truL, o_truB, o_truI, List.set_cons_zero, List.set_cons_succ, List.length_cons, List.length_nil, if_true, if_false, Bool.not_true, Bool.not_false, Bool.false_eq_true, Option.isSome_some, Option.isSome_none, Nat.reduceAdd, Nat.zero_add, decide_true, decide_false, lit_0, lit_1, lit_2, lit_3, lit_4, lit_5, lit_6, lit_7, lit_8, lit_9, lit_10]
  have e2 : ((t.map one').map fun d => match d with | .str z => PyData.bool (decide (z.cps.toList.getD 0 0 ∈ lt g)) | _ => .none) = (t.map fun c => decide (c ∈ lt g)).map PyData.bool := by
    rw [List.map_map, List.map_map]
    rfl
  rw [e2, o_all]
  simp -implicitDefEqProofs only [e_sCons, e_sNil, e_sBreak, e_sCont, e_sRet, e_sRetN, e_sExpr, e_sIf, e_sAsg, e_sOwn, e_sFrz, e_sRaise, e_sFor, e_loop_nil, e_mC, e_m1, e_m2, e_mF, e_mCall, e_mM1, e_aNil, e_aCons, e_aLst, e_mTup, e_mLst, e_mN, e_mT, e_mTru, e_mAndT, e_mOrT, e_mNotT, e_mAnd, e_mOr, e_mNot, e_mIf, e_mChain, e_iSeq, e_iRange1, e_iRange2, e_oNone, e_oSome, e_mSl, e_mYes, e_mLc, e_gN, v0, vS, p0, p0o, pS, f0, f0s, f0n, fS, R.bind_ok, R.bind_err, R.bind_stuck, R.quiet_ok, O.of_ok, O.of_err, O.of_stuck, O.thn_nx, O.thn_rt, O.thn_bk, O.thn_ct, O.thn_err, fin_nx, fin_rt, fin_err, asB_b, o_add, o_addI, o_sub, o_neg, o_lt, o_le, o_gt, o_ge, o_eqI, o_neI, o_eqS, o_neS, o_inS, o_lenL, o_lenT, o_int, o_itS, o_itL, o_itT, o_truL, o_truB, o_truI, List.set_cons_zero, List.set_cons_succ, List.length_cons, List.length_nil, if_true, if_false, Bool.not_true, Bool.not_false, Bool.false_eq_true, Option.isSome_some, Option.isSome_none, Nat.reduceAdd, Nat.zero_add, decide_true, decide_false, lit_0, lit_1, lit_2, lit_3, lit_4, lit_5, lit_6, lit_7, lit_8, lit_9, lit_10]
  rw [List.all_map]
  rfl
theorem r_is_word_bad {g : Int} {t : Str} (h : g < 1 ∨ 3 < g) : m_is_word [.int g, .str t] = .err ("BadNumber", []) := by
  show fin (b_is_word [some (.sh (.int g)), some (.sh (.str t)), none, none]) = _
  unfold b_is_word
  simp -implicitDefEqProofs only [e_sCons, e_sNil, e_sBreak, e_sCont, e_sRet, e_sRetN, e_sExpr, e_sIf, e_sAsg, e_sOwn, e_sFrz, e_sRaise, e_sFor, e_loop_nil, e_mC, e_m1, e_m2, e_mF, e_mCall, e_mM1, e_aNil, e_aCons, e_aLst, e_mTup, e_mLst, e_mN, e_mT, e_mTru, e_mAndT, e_mOrT, e_mNotT, e_mAnd, e_mOr, e_mNot, e_mIf, e_mChain, e_iSeq, e_iRange1, e_iRange2, e_oNone, e_oSome, e_mSl, e_mYes, e_mLc, e_gN, v0, vS, p0, p0o, pS, f0, f0s, f0n, fS, R.bind_ok, R.bind_err, R.bind_stuck, R.quiet_ok, O.of_ok, O.of_err, O.of_stuck, O.thn_nx, O.thn_rt, O.thn_bk, O.thn_ct, O.thn_err, fin_nx, fin_rt, fin_err, asB_b, o_add, o_addI, o_sub, o_neg, o_lt, o_le, o_gt, o_ge, o_eqI, o_neI, o_eqS, o_neS, o_inS, o_lenL, o_lenT, o_int, o_itS, o_itL, o_itT, o_truL, o_truB, o_truI, List.set_cons_zero, List.set_cons_succ, List.length_cons, List.length_nil, if_true, if_false, Bool.not_true, Bool.not_false, Bool.false_eq_true, Option.isSome_some, Option.isSome_none, Nat.reduceAdd, Nat.zero_add, decide_true, decide_false, lit_0, lit_1, lit_2, lit_3, lit_4, lit_5, lit_6, lit_7, lit_8, lit_9, lit_10, r_letters_of_bad h]

/-! check_word -/
theorem r_check_word {g : Int} {t : List Nat} (h1 : 1 ≤ g) (h2 : g ≤ 3) (h : okw g t = true) (hl : t.length ≤ 60) : m_check_word [.int g, .str (S t)] = .ok .none := by
  have hz := sizeLine_eq
  show fin (b_check_word [some (.sh (.int g)), some (.sh (.str (S t)))]) = _
  unfold b_check_word
  simp -implicitDefEqProofs only [e_sCons, e_sNil, e_sBreak, e_sCont, e_sRet, e_sRetN, e_sExpr, e_sIf, e_sAsg, e_sOwn, e_sFrz, e_sRaise, e_sFor, e_loop_nil, e_mC, e_m1, e_m2, e_mF, e_mCall, e_mM1, e_aNil, e_aCons, e_aLst, e_mTup, e_mLst, e_mN, e_mT, e_mTru, e_mAndT, e_mOrT, e_mNotT, e_mAnd, e_mOr, e_mNot, e_mIf, e_mChain, e_iSeq, e_iRange1, e_iRange2, e_oNone, e_oSome, e_mSl, e_mYes, e_mLc, e_gN, v0, vS, p0, p0o, pS, f0, f0s, f0n, fS, R.bind_ok, R.bind_err, R.bind_stuck, R.quiet_ok, O.of_ok, O.of_err, O.of_stuck, O.thn_nx, O.thn_rt, O.thn_bk, O.thn_ct, O.thn_err, fin_nx, fin_rt, fin_err, asB_b, o_add, o_addI, o_sub, o_neg, o_lt, o_le, o_gt, o_ge, o_eqI, o_neI, o_eqS, o_neS, o_inS, o_lenL, o_lenT, o_int, o_itS, o_itL, o_itT, o_truL, o_truB, o_truI, List.set_cons_zero, List.set_cons_succ, List.length_cons, List.length_nil, if_true, if_false, Bool.not_true, Bool.not_false, Bool.false_eq_true, Option.isSome_some, Option.isSome_none, Nat.reduceAdd, Nat.zero_add, decide_true, decide_false, lit_0, lit_1, lit_2, lit_3, lit_4, lit_5, lit_6, lit_7, lit_8, lit_9, lit_10, r_is_word h1 h2 (show t.length ≤ 1000000 by omega), h, o_lenS]
  rw [if_pos (by rw [hz]; omega)]
  simp -implicitDefEqProofs only [e_sCons, e_sNil, e_sBreak, e_sCont, e_sRet, e_sRetN, e_sExpr, e_sIf, e_sAsg, e_sOwn, e_sFrz, e_sRaise, e_sFor, e_loop_nil, e_mC, e_m1, e_m2, e_mF, e_mCall, e_mM1, e_aNil, e_aCons, e_aLst, e_mTup, e_mLst, e_mN, e_mT, e_mTru, e_mAndT, e_mOrT, e_mNotT, e_mAnd, e_mOr, e_mNot, e_mIf, e_mChain, e_iSeq, e_iRange1, e_iRange2, e_oNone, e_oSome, e_mSl, e_mYes, e_mLc, e_gN, v0, vS, p0, p0o, pS, f0, f0s, f0n, fS, R.bind_ok, R.bind_err, R.bind_stuck, R.quiet_ok, O.of_ok, O.of_err, O.of_stuck, O.thn_nx, O.thn_rt, O.thn_bk, O.thn_ct, O.thn_err, fin_nx, fin_rt, fin_err, asB_b, o_add, o_addI, o_sub, o_neg, o_lt, o_le, o_gt, o_ge, o_eqI, o_neI, o_eqS, o_neS, o_inS, o_lenL, o_lenT, o_int, o_itS, o_itL, o_itT, o_truL, o_truB, o_truI, List.set_cons_zero, List.set_cons_succ, List.length_cons, List.length_nil, if_true, if_false, Bool.not_true, Bool.not_false, Bool.false_eq_true, Option.isSome_some, Option.isSome_none, Nat.reduceAdd, Nat.zero_add, decide_true, decide_false, lit_0, lit_1, lit_2, lit_3, lit_4, lit_5, lit_6, lit_7, lit_8, lit_9, lit_10, decide_eq_false (show ¬ (60 : Int) < (t.length : Int) by omega)]
theorem r_check_word_bad {g : Int} {t : List Nat} (h1 : 1 ≤ g) (h2 : g ≤ 3) (hl : t.length ≤ 1000000) (h : okw g t = false ∨ 60 < t.length) : m_check_word [.int g, .str (S t)] = .err ("NotWord", []) := by
  have hz := sizeLine_eq
  show fin (b_check_word [some (.sh (.int g)), some (.sh (.str (S t)))]) = _
  unfold b_check_word
  cases e : okw g t with
  | false => simp -implicitDefEqProofs only [e_sCons, e_sNil, e_sBreak, e_sCont, e_sRet, e_sRetN, e_sExpr, e_sIf, e_sAsg, e_sOwn, e_sFrz, e_sRaise, e_sFor, e_loop_nil, e_mC, e_m1, e_m2, e_mF, e_mCall, e_mM1, e_aNil, e_aCons, e_aLst, e_mTup, e_mLst, e_mN, e_mT, e_mTru, e_mAndT, e_mOrT, e_mNotT, e_mAnd, e_mOr, e_mNot, e_mIf, e_mChain, e_iSeq, e_iRange1, e_iRange2, e_oNone, e_oSome, e_mSl, e_mYes, e_mLc, e_gN, v0, vS, p0, p0o, pS, f0, f0s, f0n, fS, R.bind_ok, R.bind_err, R.bind_stuck, R.quiet_ok, O.of_ok, O.of_err, O.of_stuck, O.thn_nx, O.thn_rt, O.thn_bk, O.thn_ct, O.thn_err, fin_nx, fin_rt, fin_err, asB_b, o_add, o_addI, o_sub, o_neg, o_lt, o_le, o_gt, o_ge, o_eqI, o_neI, o_eqS, o_neS, o_inS, o_lenL, o_lenT, o_int, o_itS, o_itL, o_itT, o_truL, o_truB, o_truI, List.set_cons_zero, List.set_cons_succ, List.length_cons, List.length_nil, if_true, if_false, Bool.not_true, Bool.not_false, Bool.false_eq_true, Option.isSome_some, Option.isSome_none, Nat.reduceAdd, Nat.zero_add, decide_true, decide_false, lit_0, lit_1, lit_2, lit_3, lit_4, lit_5, lit_6, lit_7, lit_8, lit_9, lit_10, r_is_word h1 h2 hl, e]
  | true =>
    rcases h with h | h
    · rw [e] at h; cases h
    · simp -implicitDefEqProofs only [e_sCons, e_sNil, e_sBreak, e_sCont, e_sRet, e_sRetN, e_sExpr, e_sIf, e_sAsg, e_sOwn, e_sFrz, e_sRaise, e_sFor, e_loop_nil, e_mC, e_m1, e_m2, e_mF, e_mCall, e_mM1, e_aNil, e_aCons, e_aLst, e_mTup, e_mLst, e_mN, e_mT, e_mTru, e_mAndT, e_mOrT, e_mNotT, e_mAnd, e_mOr, e_mNot, e_mIf, e_mChain, e_iSeq, e_iRange1, e_iRange2, e_oNone, e_oSome, e_mSl, e_mYes, e_mLc, e_gN, v0, vS, p0, p0o, pS, f0, f0s, f0n, fS, R.bind_ok, R.bind_err, R.bind_stuck, R.quiet_ok, O.of_ok, O.of_err, O.of_stuck, O.thn_nx, O.thn_rt, O.thn_bk, O.thn_ct, O.thn_err, fin_nx, fin_rt, fin_err, asB_b, o_add, o_addI, o_sub, o_neg, o_lt, o_le, o_gt, o_ge, o_eqI, o_neI, o_eqS, o_neS, o_inS, o_lenL, o_lenT, o_int, o_itS, o_itL, o_itT, o_truL, o_truB, o_truI, List.set_cons_zero, List.set_cons_succ, List.length_cons, List.length_nil, if_true, if_false, Bool.not_true, Bool.not_false, Bool.false_eq_true, Option.isSome_some, Option.isSome_none, Nat.reduceAdd, Nat.zero_add, decide_true, decide_false, lit_0, lit_1, lit_2, lit_3, lit_4, lit_5, lit_6, lit_7, lit_8, lit_9, lit_10, r_is_word h1 h2 hl, e, o_lenS]
      rw [if_pos (by rw [hz]; omega)]
      simp -implicitDefEqProofs only [e_sCons, e_sNil, e_sBreak, e_sCont, e_sRet, e_sRetN, e_sExpr, e_sIf, e_sAsg, e_sOwn, e_sFrz, e_sRaise, e_sFor, e_loop_nil, e_mC, e_m1, e_m2, e_mF, e_mCall, e_mM1, e_aNil, e_aCons, e_aLst, e_mTup, e_mLst, e_mN, e_mT, e_mTru, e_mAndT, e_mOrT, e_mNotT, e_mAnd, e_mOr, e_mNot, e_mIf, e_mChain, e_iSeq, e_iRange1, e_iRange2, e_oNone, e_oSome, e_mSl, e_mYes, e_mLc, e_gN, v0, vS, p0, p0o, pS, f0, f0s, f0n, fS, R.bind_ok, R.bind_err, R.bind_stuck, R.quiet_ok, O.of_ok, O.of_err, O.of_stuck, O.thn_nx, O.thn_rt, O.thn_bk, O.thn_ct, O.thn_err, fin_nx, fin_rt, fin_err, asB_b, o_add, o_addI, o_sub, o_neg, o_lt, o_le, o_gt, o_ge, o_eqI, o_neI, o_eqS, o_neS, o_inS, o_lenL, o_lenT, o_int, o_itS, o_itL, o_itT, o_truL, o_truB, o_truI, List.set_cons_zero, List.set_cons_succ, List.length_cons, List.length_nil, if_true, if_false, Bool.not_true, Bool.not_false, Bool.false_eq_true, Option.isSome_some, Option.isSome_none, Nat.reduceAdd, Nat.zero_add, decide_true, decide_false, lit_0, lit_1, lit_2, lit_3, lit_4, lit_5, lit_6, lit_7, lit_8, lit_9, lit_10, decide_eq_true (show (60 : Int) < (t.length : Int) by omega)]

/-! inverse_letter -/
theorem tb_L6 : ∀ c ∈ L6, tb_INVERSES.lookup (S [c]) = some (one (inv c)) := L6_all ⟨by rfl, by rfl, by rfl, by rfl, by rfl, by rfl⟩
theorem tb_no (z : Str) (h : ∀ c ∈ L6, z ≠ S [c]) : tb_INVERSES.lookup z = none := by
  have key : ∀ c ∈ L6, (z == S [c]) = false := fun c hc => beq_false_of_ne (h c hc)
  show List.lookup z [(S [97], one 65), (S [65], one 97), (S [98], one 66), (S [66], one 98), (S [99], one 67), (S [67], one 99)] = none
  simp only [List.lookup_cons, key 97 (by decide), key 65 (by decide), key 98 (by decide), key 66 (by decide), key 99 (by decide), key 67 (by decide), List.lookup_nil]
theorem r_inverse_letter (c : Nat) (h : c ∈ L6) : m_inverse_letter [one c] = .ok (one (inv c)) := by
  have e := tb_L6 c h
  show fin (sCons _ _ [some (.sh (one c))]) = _
  simp -implicitDefEqProofs only [e_sCons, e_sNil, e_sBreak, e_sCont, e_sRet, e_sRetN, e_sExpr, e_sIf, e_sAsg, e_sOwn, e_sFrz, e_sRaise, e_sFor, e_loop_nil, e_mC, e_m1, e_m2, e_mF, e_mCall, e_mM1, e_aNil, e_aCons, e_aLst, e_mTup, e_mLst, e_mN, e_mT, e_mTru, e_mAndT, e_mOrT, e_mNotT, e_mAnd, e_mOr, e_mNot, e_mIf, e_mChain, e_iSeq, e_iRange1, e_iRange2, e_oNone, e_oSome, e_mSl, e_mYes, e_mLc, e_gN, v0, vS, p0, p0o, pS, f0, f0s, f0n, fS, R.bind_ok, R.bind_err, R.bind_stuck, R.quiet_ok, O.of_ok, O.of_err, O.of_stuck, O.thn_nx, O.thn_rt, O.thn_bk, O.thn_ct, O.thn_err, fin_nx, fin_rt, fin_err, asB_b, o_add, o_addI, o_sub, o_neg, o_lt, o_le, o_gt, o_ge, o_eqI, o_neI, o_eqS, o_neS, o_inS, o_lenL, o_lenT, o_int, o_itS, o_itL, o_itT, o_truL, o_truB, o_truI, List.set_cons_zero, List.set_cons_succ, List.length_cons, List.length_nil, if_true, if_false, Bool.not_true, Bool.not_false, Bool.false_eq_true, Option.isSome_some, Option.isSome_none, Nat.reduceAdd, Nat.zero_add, decide_true, decide_false, lit_0, lit_1, lit_2, lit_3, lit_4, lit_5, lit_6, lit_7, lit_8, lit_9, lit_10, o_tNi, e, o_tAt e]

theorem r_inverse_letter_bad (z : Str) (h : ∀ c ∈ L6, z ≠ S [c]) : m_inverse_letter [.str z] = .err ("NotWord", []) := by
  have e := tb_no z h
  show fin (sCons _ _ [some (.sh (.str z))]) = _
  simp -implicitDefEqProofs only [e_sCons, e_sNil, e_sBreak, e_sCont, e_sRet, e_sRetN, e_sExpr, e_sIf, e_sAsg, e_sOwn, e_sFrz, e_sRaise, e_sFor, e_loop_nil, e_mC, e_m1, e_m2, e_mF, e_mCall, e_mM1, e_aNil, e_aCons, e_aLst, e_mTup, e_mLst, e_mN, e_mT, e_mTru, e_mAndT, e_mOrT, e_mNotT, e_mAnd, e_mOr, e_mNot, e_mIf, e_mChain, e_iSeq, e_iRange1, e_iRange2, e_oNone, e_oSome, e_mSl, e_mYes, e_mLc, e_gN, v0, vS, p0, p0o, pS, f0, f0s, f0n, fS, R.bind_ok, R.bind_err, R.bind_stuck, R.quiet_ok, O.of_ok, O.of_err, O.of_stuck, O.thn_nx, O.thn_rt, O.thn_bk, O.thn_ct, O.thn_err, fin_nx, fin_rt, fin_err, asB_b, o_add, o_addI, o_sub, o_neg, o_lt, o_le, o_gt, o_ge, o_eqI, o_neI, o_eqS, o_neS, o_inS, o_lenL, o_lenT, o_int, o_itS, o_itL, o_itT, o_truL, o_truB, o_truI, List.set_cons_zero, List.set_cons_succ, List.length_cons, List.length_nil, if_true, if_false, Bool.not_true, Bool.not_false, Bool.false_eq_true, Option.isSome_some, Option.isSome_none, Nat.reduceAdd, Nat.zero_add, decide_true, decide_false, lit_0, lit_1, lit_2, lit_3, lit_4, lit_5, lit_6, lit_7, lit_8, lit_9, lit_10, o_tNi, e]


/-! cancelled -/
theorem st_cancelled {s0 : Option SD} {st : List Nat} {c : Nat} (hc : c ∈ L6) (hl : st.length < 1000000) :
    lb_cancelled_1 [s0, some (.own (st.reverse.map one)), some (.sh (one c))] = .nx [s0, some (.own ((rstep st c).reverse.map one)), some (.sh (one c))] := by
  have hz := sizeLine_eq
  unfold lb_cancelled_1
  cases st with
  | nil =>
    simp -implicitDefEqProofs only [e_sCons, e_sNil, e_sBreak, e_sCont, e_sRet, e_sRetN, e_sExpr, e_sIf, e_sAsg, e_sOwn, e_sFrz, e_sRaise, e_sFor, e_loop_nil, e_mC, e_m1, e_m2, e_mF, e_mCall, e_mM1, e_aNil, e_aCons, e_aLst, e_mTup, e_mLst, e_mN, e_mT, e_mTru, e_mAndT, e_mOrT, e_mNotT, e_mAnd, e_mOr, e_mNot, e_mIf, e_mChain, e_iSeq, e_iRange1, e_iRange2, e_oNone, e_oSome, e_mSl, e_mYes, e_mLc, e_gN, v0, vS, p0, p0o, pS, f0, f0s, f0n, fS, R.bind_ok, R.bind_err, R.bind_stuck, R.quiet_ok, O.of_ok, O.of_err, O.of_stuck, O.thn_nx, O.thn_rt, O.thn_bk, O.thn_ct, O.thn_err, fin_nx, fin_rt, fin_err, asB_b, o_add, o_addI, o_sub, o_neg, o_lt, o_le, o_gt, o_ge, o_eqI, o_neI, o_eqS, o_neS, o_inS, o_lenL, o_lenT, o_int, o_itS, o_itL, o_itT, o_truL, o_truB, o_truI, List.set_cons_zero, List.set_cons_succ, List.length_cons, List.length_nil, if_true, if_false, Bool.not_true, Bool.not_false, Bool.false_eq_true, Option.isSome_some, Option.isSome_none, Nat.reduceAdd, Nat.zero_add, decide_true, decide_false, lit_0, lit_1, lit_2, lit_3, lit_4, lit_5, lit_6, lit_7, lit_8, lit_9, lit_10, List.reverse_nil, List.map_nil, List.isEmpty_nil]
    rw [e_app (ds := []) rfl]
    simp -implicitDefEqProofs only [e_sCons, e_sNil, e_sBreak, e_sCont, e_sRet, e_sRetN, e_sExpr, e_sIf, e_sAsg, e_sOwn, e_sFrz, e_sRaise, e_sFor, e_loop_nil, e_mC, e_m1, e_m2, e_mF, e_mCall, e_mM1, e_aNil, e_aCons, e_aLst, e_mTup, e_mLst, e_mN, e_mT, e_mTru, e_mAndT, e_mOrT, e_mNotT, e_mAnd, e_mOr, e_mNot, e_mIf, e_mChain, e_iSeq, e_iRange1, e_iRange2, e_oNone, e_oSome, e_mSl, e_mYes, e_mLc, e_gN, v0, vS, p0, p0o, pS, f0, f0s, f0n, fS, R.bind_ok, R.bind_err, R.bind_stuck, R.quiet_ok, O.of_ok, O.of_err, O.of_stuck, O.thn_nx, O.thn_rt, O.thn_bk, O.thn_ct, O.thn_err, fin_nx, fin_rt, fin_err, asB_b, o_add, o_addI, o_sub, o_neg, o_lt, o_le, o_gt, o_ge, o_eqI, o_neI, o_eqS, o_neS, o_inS, o_lenL, o_lenT, o_int, o_itS, o_itL, o_itT, o_truL, o_truB, o_truI, List.set_cons_zero, List.set_cons_succ, List.length_cons, List.length_nil, if_true, if_false, Bool.not_true, Bool.not_false, Bool.false_eq_true, Option.isSome_some, Option.isSome_none, Nat.reduceAdd, Nat.zero_add, decide_true, decide_false, lit_0, lit_1, lit_2, lit_3, lit_4, lit_5, lit_6, lit_7, lit_8, lit_9, lit_10]
    rw [if_pos (by rw [hz]; decide)]
    rfl
  | cons t s =>
    have he : ((t :: s).reverse.map one).isEmpty = false := by rw [ones_snoc]; cases s.reverse.map one <;> rfl
    simp -implicitDefEqProofs only [e_sCons, e_sNil, e_sBreak, e_sCont, e_sRet, e_sRetN, e_sExpr, e_sIf, e_sAsg, e_sOwn, e_sFrz, e_sRaise, e_sFor, e_loop_nil, e_mC, e_m1, e_m2, e_mF, e_mCall, e_mM1, e_aNil, e_aCons, e_aLst, e_mTup, e_mLst, e_mN, e_mT, e_mTru, e_mAndT, e_mOrT, e_mNotT, e_mAnd, e_mOr, e_mNot, e_mIf, e_mChain, e_iSeq, e_iRange1, e_iRange2, e_oNone, e_oSome, e_mSl, e_mYes, e_mLc, e_gN, v0, vS, p0, p0o, pS, f0, f0s, f0n, fS, R.bind_ok, R.bind_err, R.bind_stuck, R.quiet_ok, O.of_ok, O.of_err, O.of_stuck, O.thn_nx, O.thn_rt, O.thn_bk, O.thn_ct, O.thn_err, fin_nx, fin_rt, fin_err, asB_b, o_add, o_addI, o_sub, o_neg, o_lt, o_le, o_gt, o_ge, o_eqI, o_neI, o_eqS, o_neS, o_inS, o_lenL, o_lenT, o_int, o_itS, o_itL, o_itT, o_truL, o_truB, o_truI, List.set_cons_zero, List.set_cons_succ, List.length_cons, List.length_nil, if_true, if_false, Bool.not_true, Bool.not_false, Bool.false_eq_true, Option.isSome_some, Option.isSome_none, Nat.reduceAdd, Nat.zero_add, decide_true, decide_false, lit_0, lit_1, lit_2, lit_3, lit_4, lit_5, lit_6, lit_7, lit_8, lit_9, lit_10, he]
    rw [ones_snoc, o_ixLast]
    simp -implicitDefEqProofs only [e_sCons, e_sNil, e_sBreak, e_sCont, e_sRet, e_sRetN, e_sExpr, e_sIf, e_sAsg, e_sOwn, e_sFrz, e_sRaise, e_sFor, e_loop_nil, e_mC, e_m1, e_m2, e_mF, e_mCall, e_mM1, e_aNil, e_aCons, e_aLst, e_mTup, e_mLst, e_mN, e_mT, e_mTru, e_mAndT, e_mOrT, e_mNotT, e_mAnd, e_mOr, e_mNot, e_mIf, e_mChain, e_iSeq, e_iRange1, e_iRange2, e_oNone, e_oSome, e_mSl, e_mYes, e_mLc, e_gN, v0, vS, p0, p0o, pS, f0, f0s, f0n, fS, R.bind_ok, R.bind_err, R.bind_stuck, R.quiet_ok, O.of_ok, O.of_err, O.of_stuck, O.thn_nx, O.thn_rt, O.thn_bk, O.thn_ct, O.thn_err, fin_nx, fin_rt, fin_err, asB_b, o_add, o_addI, o_sub, o_neg, o_lt, o_le, o_gt, o_ge, o_eqI, o_neI, o_eqS, o_neS, o_inS, o_lenL, o_lenT, o_int, o_itS, o_itL, o_itT, o_truL, o_truB, o_truI, List.set_cons_zero, List.set_cons_succ, List.length_cons, List.length_nil, if_true, if_false, Bool.not_true, Bool.not_false, Bool.false_eq_true, Option.isSome_some, Option.isSome_none, Nat.reduceAdd, Nat.zero_add, decide_true, decide_false, lit_0, lit_1, lit_2, lit_3, lit_4, lit_5, lit_6, lit_7, lit_8, lit_9, lit_10, r_inverse_letter c hc, one_eq]
    by_cases e : t = inv c
    · have e1 : rstep (t :: s) c = s := rstep_cut e
      rw [decide_eq_true e, if_pos rfl, e1]
      rw [e_pop (ds := s.reverse.map one ++ [one t]) (d := one t) rfl (by rw [List.length_append]; simp)]
      rw [List.dropLast_concat]
      try rfl
    · have e1 : rstep (t :: s) c = c :: t :: s := rstep_add e
      rw [decide_eq_false e, if_neg (by decide), e1]
      rw [e_app (ds := s.reverse.map one ++ [one t]) rfl]
      simp -implicitDefEqProofs only [e_sCons, e_sNil, e_sBreak, e_sCont, e_sRet, e_sRetN, e_sExpr, e_sIf, e_sAsg, e_sOwn, e_sFrz, e_sRaise, e_sFor, e_loop_nil, e_mC, e_m1, e_m2, e_mF, e_mCall, e_mM1, e_aNil, e_aCons, e_aLst, e_mTup, e_mLst, e_mN, e_mT, e_mTru, e_mAndT, e_mOrT, e_mNotT, e_mAnd, e_mOr, e_mNot, e_mIf, e_mChain, e_iSeq, e_iRange1, e_iRange2, e_oNone, e_oSome, e_mSl, e_mYes, e_mLc, e_gN, v0, vS, p0, p0o, pS, f0, f0s, f0n, fS, R.bind_ok, R.bind_err, R.bind_stuck, R.quiet_ok, O.of_ok, O.of_err, O.of_stuck, O.thn_nx, O.thn_rt, O.thn_bk, O.thn_ct, O.thn_err, fin_nx, fin_rt, fin_err, asB_b, o_add, o_addI, o_sub, o_neg, o_lt, o_le, o_gt, o_ge, o_eqI, o_neI, o_eqS, o_neS, o_inS, o_lenL, o_lenT, o_int, o_itS, o_itL, o_itT, o_truL, o_truB, o_truI, List.set_cons_zero, List.set_cons_succ, List.length_cons, List.length_nil, if_true, if_false, Bool.not_true, Bool.not_false, Bool.false_eq_true, Option.isSome_some, Option.isSome_none, Nat.reduceAdd, Nat.zero_add, decide_true, decide_false, lit_0, lit_1, lit_2, lit_3, lit_4, lit_5, lit_6, lit_7, lit_8, lit_9, lit_10]
      rw [if_pos (by rw [List.length_append, ones_len, List.length_reverse]; simp only [List.length_cons, List.length_nil] at hl ⊢; omega), ones_snoc, ones_snoc]
      try rfl
theorem lp_cancelled {s0 : Option SD} : ∀ (cs st : List Nat) (o : Option SD), Wd cs → st.length + cs.length < 1000000 →
    ∃ o', mLoop (gN 2) lb_cancelled_1 (cs.map one) [s0, some (.own (st.reverse.map one)), o] = .nx [s0, some (.own ((redS st cs).reverse.map one)), o']
  | [], st, o, _, _ => ⟨o, rfl⟩
  | c :: cs, st, o, hw, hl => by
    have hc := hw c List.mem_cons_self
    rw [List.length_cons] at hl
    have hr := rstep_len st c
    obtain ⟨o', h⟩ := lp_cancelled cs (rstep st c) (some (.sh (one c))) (fun x hx => hw x (List.mem_cons_of_mem _ hx)) (by omega)
    refine ⟨o', ?_⟩
    rw [List.map_cons, e_loop_nx (st_cancelled hc (by omega)), h]
    rfl
theorem r_cancelled {w : List Nat} (h : Wd w) (hl : w.length < 1000000) : m_cancelled [.str (S w)] = .ok (.str (S (red w))) := by
  have hz := sizeLine_eq
  obtain ⟨o', h1⟩ := lp_cancelled (s0 := some (.sh (.str (S w)))) w [] none h (by simpa using hl)
  have h1 : mLoop (gN 2) lb_cancelled_1 (w.map one) [some (.sh (.str (S w))), some (.own []), none] = .nx [some (.sh (.str (S w))), some (.own ((redS [] w).reverse.map one)), o'] := h1
  show fin (b_cancelled [some (.sh (.str (S w))), none, none]) = _
  unfold b_cancelled
  simp -implicitDefEqProofs only [e_sCons, e_sNil, e_sBreak, e_sCont, e_sRet, e_sRetN, e_sExpr, e_sIf, e_sAsg, e_sOwn, e_sFrz, e_sRaise, e_sFor, e_loop_nil, e_mC, e_m1, e_m2, e_mF, e_mCall, e_mM1, e_aNil, e_aCons, e_aLst, e_mTup, e_mLst, e_mN, e_mT, e_mTru, e_mAndT, e_mOrT, e_mNotT, e_mAnd, e_mOr, e_mNot, e_mIf, e_mChain, e_iSeq, e_iRange1, e_iRange2, e_oNone, e_oSome, e_mSl, e_mYes, e_mLc, e_gN, v0, vS, p0, p0o, pS, f0, f0s, f0n, fS, R.bind_ok, R.bind_err, R.bind_stuck, R.quiet_ok, O.of_ok, O.of_err, O.of_stuck, O.thn_nx, O.thn_rt, O.thn_bk, O.thn_ct, O.thn_err, fin_nx, fin_rt, fin_err, asB_b, o_add, o_addI, o_sub, o_neg, o_lt, o_le, o_gt, o_ge, o_eqI, o_neI, o_eqS, o_neS, o_inS, o_lenL, o_lenT, o_int, o_itS, o_itL, o_itT, o_truL, o_truB, o_truI, List.set_cons_zero, List.set_cons_succ, List.length_cons, List.length_nil, if_true, if_false, Bool.not_true, Bool.not_false, Bool.false_eq_true, Option.isSome_some, Option.isSome_none, Nat.reduceAdd, Nat.zero_add, decide_true, decide_false, lit_0, lit_1, lit_2, lit_3, lit_4, lit_5, lit_6, lit_7, lit_8, lit_9, lit_10]
  rw [if_pos (by rw [hz]; decide)]
  simp -implicitDefEqProofs only [e_sCons, e_sNil, e_sBreak, e_sCont, e_sRet, e_sRetN, e_sExpr, e_sIf, e_sAsg, e_sOwn, e_sFrz, e_sRaise, e_sFor, e_loop_nil, e_mC, e_m1, e_m2, e_mF, e_mCall, e_mM1, e_aNil, e_aCons, e_aLst, e_mTup, e_mLst, e_mN, e_mT, e_mTru, e_mAndT, e_mOrT, e_mNotT, e_mAnd, e_mOr, e_mNot, e_mIf, e_mChain, e_iSeq, e_iRange1, e_iRange2, e_oNone, e_oSome, e_mSl, e_mYes, e_mLc, e_gN, v0, vS, p0, p0o, pS, f0, f0s, f0n, fS, R.bind_ok, R.bind_err, R.bind_stuck, R.quiet_ok, O.of_ok, O.of_err, O.of_stuck, O.thn_nx, O.thn_rt, O.thn_bk, O.thn_ct, O.thn_err, fin_nx, fin_rt, fin_err, asB_b, o_add, o_addI, o_sub, o_neg, o_lt, o_le, o_gt, o_ge, o_eqI, o_neI, o_eqS, o_neS, o_inS, o_lenL, o_lenT, o_int, o_itS, o_itL, o_itT, o_truL, o_truB, o_truI, List.set_cons_zero, List.set_cons_succ, List.length_cons, List.length_nil, if_true, if_false, Bool.not_true, Bool.not_false, Bool.false_eq_true, Option.isSome_some, Option.isSome_none, Nat.reduceAdd, Nat.zero_add, decide_true, decide_false, lit_0, lit_1, lit_2, lit_3, lit_4, lit_5, lit_6, lit_7, lit_8, lit_9, lit_10]
  rw [h1]
  simp -implicitDefEqProofs only [e_sCons, e_sNil, e_sBreak, e_sCont, e_sRet, e_sRetN, e_sExpr, e_sIf, e_sAsg, e_sOwn, e_sFrz, e_sRaise, e_sFor, e_loop_nil, e_mC, e_m1, e_m2, e_mF, e_mCall, e_mM1, e_aNil, e_aCons, e_aLst, e_mTup, e_mLst, e_mN, e_mT, e_mTru, e_mAndT, e_mOrT, e_mNotT, e_mAnd, e_mOr, e_mNot, e_mIf, e_mChain, e_iSeq, e_iRange1, e_iRange2, e_oNone, e_oSome, e_mSl, e_mYes, e_mLc, e_gN, v0, vS, p0, p0o, pS, f0, f0s, f0n, fS, R.bind_ok, R.bind_err, R.bind_stuck, R.quiet_ok, O.of_ok, O.of_err, O.of_stuck, O.thn_nx, O.thn_rt, O.thn_bk, O.thn_ct, O.thn_err, fin_nx, fin_rt, fin_err, asB_b, o_add, o_addI, o_sub, o_neg, o_lt, o_le, o_gt, o_ge, o_eqI, o_neI, o_eqS, o_neS, o_inS, o_lenL, o_lenT, o_int, o_itS, o_itL, o_itT, o_truL, o_truB, o_truI, List.set_cons_zero, List.set_cons_succ, List.length_cons, List.length_nil, if_true, if_false, Bool.not_true, Bool.not_false, Bool.false_eq_true, Option.isSome_some, Option.isSome_none, Nat.reduceAdd, Nat.zero_add, decide_true, decide_false, lit_0, lit_1, lit_2, lit_3, lit_4, lit_5, lit_6, lit_7, lit_8, lit_9, lit_10]
  rw [o_join (l := (redS [] w).reverse) (by rw [List.length_reverse]; have := redS_len w []; simp only [List.length_nil, Nat.zero_add] at this; omega)]
  rfl

/-! flipped -/
theorem r_flipped {w : List Nat} (h : Wd w) (hl : w.length ≤ 1000000) : m_flipped [.str (S w)] = .ok (.str (S (invw w))) := by
  have hz := sizeLine_eq
  show fin (b_flipped [some (.sh (.str (S w))), none]) = _
  unfold b_flipped
  simp -implicitDefEqProofs only [e_sCons, e_sNil, e_sBreak, e_sCont, e_sRet, e_sRetN, e_sExpr, e_sIf, e_sAsg, e_sOwn, e_sFrz, e_sRaise, e_sFor, e_loop_nil, e_mC, e_m1, e_m2, e_mF, e_mCall, e_mM1, e_aNil, e_aCons, e_aLst, e_mTup, e_mLst, e_mN, e_mT, e_mTru, e_mAndT, e_mOrT, e_mNotT, e_mAnd, e_mOr, e_mNot, e_mIf, e_mChain, e_iSeq, e_iRange1, e_iRange2, e_oNone, e_oSome, e_mSl, e_mYes, e_mLc, e_gN, v0, vS, p0, p0o, pS, f0, f0s, f0n, fS, R.bind_ok, R.bind_err, R.bind_stuck, R.quiet_ok, O.of_ok, O.of_err, O.of_stuck, O.thn_nx, O.thn_rt, O.thn_bk, O.thn_ct, O.thn_err, fin_nx, fin_rt, fin_err, asB_b, o_add, o_addI, o_sub, o_neg, o_lt, o_le, o_gt, o_ge, o_eqI, o_neI, o_eqS, o_neS, o_inS, o_lenL, o_lenT, o_int, o_itS, o_itL, o_itT, o_truL, o_truB, o_truI, List.set_cons_zero, List.set_cons_succ, List.length_cons, List.length_nil, if_true, if_false, Bool.not_true, Bool.not_false, Bool.false_eq_true, Option.isSome_some, Option.isSome_none, Nat.reduceAdd, Nat.zero_add, decide_true, decide_false, lit_0, lit_1, lit_2, lit_3, lit_4, lit_5, lit_6, lit_7, lit_8, lit_9, lit_10, o_revS (show w.length ≤ 16777216 by omega)]
  have e : lcLoop (gN 1) mYes ce_flipped_1 (wipeD (clean [some (.sh (.str (S w))), none]) [1]) (w.reverse.map one') = .ok ((w.reverse.map one').map fun d => match d with | .str z => one (inv (z.cps.toList.getD 0 0)) | _ => .none) := by
    refine lc_map _ fun d hd => ?_
    obtain ⟨c, hc, rfl⟩ := List.mem_map.mp hd
    show ce_flipped_1 [some (.sh (.str (S w))), some (.sh (one c))] = _
    unfold ce_flipped_1
    simp -implicitDefEqProofs only [e_sCons, e_sNil, e_sBreak, e_sCont, e_sRet, e_sRetN, e_sExpr, e_sIf, e_sAsg, e_sOwn, e_sFrz, e_sRaise, e_sFor, e_loop_nil, e_mC, e_m1, e_m2, e_mF, e_mCall, e_mM1, e_aNil, e_aCons, e_aLst, e_mTup, e_mLst, e_mN, e_mT, e_mTru, e_mAndT, e_mOrT, e_mNotT, e_mAnd, e_mOr, e_mNot, e_mIf, e_mChain, e_iSeq, e_iRange1, e_iRange2, e_oNone, e_oSome, e_mSl, e_mYes, e_mLc, e_gN, v0, vS, p0, p0o, pS, f0, f0s, f0n, fS, R.bind_ok, R.bind_err, R.bind_stuck, R.quiet_ok, O.of_ok, O.of_err, O.of_stuck, O.thn_nx, O.thn_rt, O.thn_bk, O.thn_ct, O.thn_err, fin_nx, fin_rt, fin_err, asB_b, o_add, o_addI, o_sub, o_neg, o_lt, o_le, o_gt, o_ge, o_eqI, o_neI, o_eqS, o_neS, o_inS, o_lenL, o_lenT, o_int, o_itS, o_itL, o_itT, o_truL, o_truB, o_truI, List.set_cons_zero, List.set_cons_succ, List.length_cons, List.length_nil, if_true, if_false, Bool.not_true, Bool.not_false, Bool.false_eq_true, Option.isSome_some, Option.isSome_none, Nat.reduceAdd, Nat.zero_add, decide_true, decide_false, lit_0, lit_1, lit_2, lit_3, lit_4, lit_5, lit_6, lit_7, lit_8, lit_9, lit_10, r_inverse_letter c (h c (List.mem_reverse.mp hc))]
    rfl
  rw [if_pos (by rw [List.length_map, List.length_reverse, hz]; omega), e]
  simp -implicitDefEqProofs only [e_sCons, e_sNil, e_sBreak, e_sCont, e_sRet, e_sRetN, e_sExpr, e_sIf, e_sAsg, e_sOwn, e_sFrz, e_sRaise, e_sFor, e_loop_nil, e_mC, e_m1, e_m2, e_mF, e_mCall, e_mM1, e_aNil, e_aCons, e_aLst, e_mTup, e_mLst, e_mN, e_mT, e_mTru, e_mAndT, e_mOrT, e_mNotT, e_mAnd, e_mOr, e_mNot, e_mIf, e_mChain, e_iSeq, e_iRange1, e_iRange2, e_oNone, e_oSome, e_mSl, e_mYes, e_mLc, e_gN, v0, vS, p0, p0o, pS, f0, f0s, f0n, fS, R.bind_ok, R.bind_err, R.bind_stuck, R.quiet_ok, O.of_ok, O.of_err, O.of_stuck, O.thn_nx, O.thn_rt, O.thn_bk, O.thn_ct, O.thn_err, fin_nx, fin_rt, fin_err, asB_b, o_add, o_addI, o_sub, o_neg, o_lt, o_le, o_gt, o_ge, o_eqI, o_neI, o_eqS, o_neS, o_inS, o_lenL, o_lenT, o_int, o_itS, o_itL, o_itT, o_truL, o_truB, o_truI, List.set_cons_zero, List.set_cons_succ, List.length_cons, List.length_nil, if_true, if_false, Bool.not_true, Bool.not_false, Bool.false_eq_true, Option.isSome_some, Option.isSome_none, Nat.reduceAdd, Nat.zero_add, decide_true, decide_false, lit_0, lit_1, lit_2, lit_3, lit_4, lit_5, lit_6, lit_7, lit_8, lit_9, lit_10]
  have e2 : ((w.reverse.map one').map fun d => match d with | .str z => one (inv (z.cps.toList.getD 0 0)) | _ => .none) = (invw w).map one' := by
    unfold invw
    rw [List.map_map, List.map_map]
    rfl
  rw [e2, o_join (by rw [invw_len]; omega)]
  simp -implicitDefEqProofs only [e_sCons, e_sNil, e_sBreak, e_sCont, e_sRet, e_sRetN, e_sExpr, e_sIf, e_sAsg, e_sOwn, e_sFrz, e_sRaise, e_sFor, e_loop_nil, e_mC, e_m1, e_m2, e_mF, e_mCall, e_mM1, e_aNil, e_aCons, e_aLst, e_mTup, e_mLst, e_mN, e_mT, e_mTru, e_mAndT, e_mOrT, e_mNotT, e_mAnd, e_mOr, e_mNot, e_mIf, e_mChain, e_iSeq, e_iRange1, e_iRange2, e_oNone, e_oSome, e_mSl, e_mYes, e_mLc, e_gN, v0, vS, p0, p0o, pS, f0, f0s, f0n, fS, R.bind_ok, R.bind_err, R.bind_stuck, R.quiet_ok, O.of_ok, O.of_err, O.of_stuck, O.thn_nx, O.thn_rt, O.thn_bk, O.thn_ct, O.thn_err, fin_nx, fin_rt, fin_err, asB_b, o_add, o_addI, o_sub, o_neg, o_lt, o_le, o_gt, o_ge, o_eqI, o_neI, o_eqS, o_neS, o_inS, o_lenL, o_lenT, o_int, o_itS, o_itL, o_itT, o_truL, o_truB, o_truI, List.set_cons_zero, List.set_cons_succ, List.length_cons, List.length_nil, if_true, if_false, Bool.not_true, Bool.not_false, Bool.false_eq_true, Option.isSome_some, Option.isSome_none, Nat.reduceAdd, Nat.zero_add, decide_true, decide_false, lit_0, lit_1, lit_2, lit_3, lit_4, lit_5, lit_6, lit_7, lit_8, lit_9, lit_10]

/-! power -/
theorem pw_bd {n k : Nat} (hn : n ≤ 20) (hk : k ≤ 60) : n * k ≤ 1200 := Nat.mul_le_mul hn hk
theorem r_power {e : Int} {w : List Nat} (hw : Wd w) (hl : w.length ≤ 60) (h1 : -20 ≤ e) (h2 : e ≤ 20) : m_power [.str (S w), .int e] = .ok (.str (S (pw e w))) := by
  show fin (b_power [some (.sh (.str (S w))), some (.sh (.int e))]) = _
  unfold b_power
  simp -implicitDefEqProofs only [e_sCons, e_sNil, e_sBreak, e_sCont, e_sRet, e_sRetN, e_sExpr, e_sIf, e_sAsg, e_sOwn, e_sFrz, e_sRaise, e_sFor, e_loop_nil, e_mC, e_m1, e_m2, e_mF, e_mCall, e_mM1, e_aNil, e_aCons, e_aLst, e_mTup, e_mLst, e_mN, e_mT, e_mTru, e_mAndT, e_mOrT, e_mNotT, e_mAnd, e_mOr, e_mNot, e_mIf, e_mChain, e_iSeq, e_iRange1, e_iRange2, e_oNone, e_oSome, e_mSl, e_mYes, e_mLc, e_gN, v0, vS, p0, p0o, pS, f0, f0s, f0n, fS, R.bind_ok, R.bind_err, R.bind_stuck, R.quiet_ok, O.of_ok, O.of_err, O.of_stuck, O.thn_nx, O.thn_rt, O.thn_bk, O.thn_ct, O.thn_err, fin_nx, fin_rt, fin_err, asB_b, o_add, o_addI, o_sub, o_neg, o_lt, o_le, o_gt, o_ge, o_eqI, o_neI, o_eqS, o_neS, o_inS, o_lenL, o_lenT, o_int, o_itS, o_itL, o_itT, o_truL, o_truB, o_truI, List.set_cons_zero, List.set_cons_succ, List.length_cons, List.length_nil, if_true, if_false, Bool.not_true, Bool.not_false, Bool.false_eq_true, Option.isSome_some, Option.isSome_none, Nat.reduceAdd, Nat.zero_add, decide_true, decide_false, lit_0, lit_1, lit_2, lit_3, lit_4, lit_5, lit_6, lit_7, lit_8, lit_9, lit_10, r_check_word (show (1 : Int) ≤ 3 by decide) (show (3 : Int) ≤ 3 by decide) (okw3 hw) hl, decide_eq_false (show ¬ e < -20 by omega), decide_eq_false (show ¬ 20 < e by omega)]
  unfold pw
  by_cases h : e < 0
  · have b1 : (-e).toNat * (invw w).length ≤ 1200 := by rw [invw_len]; exact pw_bd (by omega) hl
    have em : dMul (.str (S (invw w))) (.int (-e)) = .ok (.str (S (repL (-e).toNat (invw w)))) := o_mulT ⟨by omega, by omega, by rw [Nat.mul_comm]; omega⟩
    rw [if_pos h]
    simp -implicitDefEqProofs only [e_sCons, e_sNil, e_sBreak, e_sCont, e_sRet, e_sRetN, e_sExpr, e_sIf, e_sAsg, e_sOwn, e_sFrz, e_sRaise, e_sFor, e_loop_nil, e_mC, e_m1, e_m2, e_mF, e_mCall, e_mM1, e_aNil, e_aCons, e_aLst, e_mTup, e_mLst, e_mN, e_mT, e_mTru, e_mAndT, e_mOrT, e_mNotT, e_mAnd, e_mOr, e_mNot, e_mIf, e_mChain, e_iSeq, e_iRange1, e_iRange2, e_oNone, e_oSome, e_mSl, e_mYes, e_mLc, e_gN, v0, vS, p0, p0o, pS, f0, f0s, f0n, fS, R.bind_ok, R.bind_err, R.bind_stuck, R.quiet_ok, O.of_ok, O.of_err, O.of_stuck, O.thn_nx, O.thn_rt, O.thn_bk, O.thn_ct, O.thn_err, fin_nx, fin_rt, fin_err, asB_b, o_add, o_addI, o_sub, o_neg, o_lt, o_le, o_gt, o_ge, o_eqI, o_neI, o_eqS, o_neS, o_inS, o_lenL, o_lenT, o_int, o_itS, o_itL, o_itT, o_truL, o_truB, o_truI, List.set_cons_zero, List.set_cons_succ, List.length_cons, List.length_nil, if_true, if_false, Bool.not_true, Bool.not_false, Bool.false_eq_true, Option.isSome_some, Option.isSome_none, Nat.reduceAdd, Nat.zero_add, decide_true, decide_false, lit_0, lit_1, lit_2, lit_3, lit_4, lit_5, lit_6, lit_7, lit_8, lit_9, lit_10, decide_eq_true h, r_flipped hw (show w.length ≤ 1000000 by omega), em, r_cancelled (repL_wd (invw_wd hw)) (show (repL (-e).toNat (invw w)).length < 1000000 by rw [repL_len]; omega)]
  · have b1 : e.toNat * w.length ≤ 1200 := pw_bd (by omega) hl
    have em : dMul (.str (S w)) (.int e) = .ok (.str (S (repL e.toNat w))) := o_mulT ⟨by omega, by omega, by rw [Nat.mul_comm]; omega⟩
    rw [if_neg h]
    simp -implicitDefEqProofs only [e_sCons, e_sNil, e_sBreak, e_sCont, e_sRet, e_sRetN, e_sExpr, e_sIf, e_sAsg, e_sOwn, e_sFrz, e_sRaise, e_sFor, e_loop_nil, e_mC, e_m1, e_m2, e_mF, e_mCall, e_mM1, e_aNil, e_aCons, e_aLst, e_mTup, e_mLst, e_mN, e_mT, e_mTru, e_mAndT, e_mOrT, e_mNotT, e_mAnd, e_mOr, e_mNot, e_mIf, e_mChain, e_iSeq, e_iRange1, e_iRange2, e_oNone, e_oSome, e_mSl, e_mYes, e_mLc, e_gN, v0, vS, p0, p0o, pS, f0, f0s, f0n, fS, R.bind_ok, R.bind_err, R.bind_stuck, R.quiet_ok, O.of_ok, O.of_err, O.of_stuck, O.thn_nx, O.thn_rt, O.thn_bk, O.thn_ct, O.thn_err, fin_nx, fin_rt, fin_err, asB_b, o_add, o_addI, o_sub, o_neg, o_lt, o_le, o_gt, o_ge, o_eqI, o_neI, o_eqS, o_neS, o_inS, o_lenL, o_lenT, o_int, o_itS, o_itL, o_itT, o_truL, o_truB, o_truI, List.set_cons_zero, List.set_cons_succ, List.length_cons, List.length_nil, if_true, if_false, Bool.not_true, Bool.not_false, Bool.false_eq_true, Option.isSome_some, Option.isSome_none, Nat.reduceAdd, Nat.zero_add, decide_true, decide_false, lit_0, lit_1, lit_2, lit_3, lit_4, lit_5, lit_6, lit_7, lit_8, lit_9, lit_10, decide_eq_false h, em, r_cancelled (repL_wd hw) (show (repL e.toNat w).length < 1000000 by rw [repL_len]; omega)]
theorem r_power_num {e : Int} {w : List Nat} (hw : Wd w) (hl : w.length ≤ 60) (h : e < -20 ∨ 20 < e) : m_power [.str (S w), .int e] = .err ("BadNumber", []) := by
  show fin (b_power [some (.sh (.str (S w))), some (.sh (.int e))]) = _
  unfold b_power
  rcases h with h | h
  · simp -implicitDefEqProofs only [e_sCons, e_sNil, e_sBreak, e_sCont, e_sRet, e_sRetN, e_sExpr, e_sIf, e_sAsg, e_sOwn, e_sFrz, e_sRaise, e_sFor, e_loop_nil, e_mC, e_m1, e_m2, e_mF, e_mCall, e_mM1, e_aNil, e_aCons, e_aLst, e_mTup, e_mLst, e_mN, e_mT, e_mTru, e_mAndT, e_mOrT, e_mNotT, e_mAnd, e_mOr, e_mNot, e_mIf, e_mChain, e_iSeq, e_iRange1, e_iRange2, e_oNone, e_oSome, e_mSl, e_mYes, e_mLc, e_gN, v0, vS, p0, p0o, pS, f0, f0s, f0n, fS, R.bind_ok, R.bind_err, R.bind_stuck, R.quiet_ok, O.of_ok, O.of_err, O.of_stuck, O.thn_nx, O.thn_rt, O.thn_bk, O.thn_ct, O.thn_err, fin_nx, fin_rt, fin_err, asB_b, o_add, o_addI, o_sub, o_neg, o_lt, o_le, o_gt, o_ge, o_eqI, o_neI, o_eqS, o_neS, o_inS, o_lenL, o_lenT, o_int, o_itS, o_itL, o_itT, o_truL, o_truB, o_truI, List.set_cons_zero, List.set_cons_succ, List.length_cons, List.length_nil, if_true, if_false, Bool.not_true, Bool.not_false, Bool.false_eq_true, Option.isSome_some, Option.isSome_none, Nat.reduceAdd, Nat.zero_add, decide_true, decide_false, lit_0, lit_1, lit_2, lit_3, lit_4, lit_5, lit_6, lit_7, lit_8, lit_9, lit_10, r_check_word (show (1 : Int) ≤ 3 by decide) (show (3 : Int) ≤ 3 by decide) (okw3 hw) hl, decide_eq_true h]
  · simp -implicitDefEqProofs only [e_sCons, e_sNil, e_sBreak, e_sCont, e_sRet, e_sRetN, e_sExpr, e_sIf, e_sAsg, e_sOwn, e_sFrz, e_sRaise, e_sFor, e_loop_nil, e_mC, e_m1, e_m2, e_mF, e_mCall, e_mM1, e_aNil, e_aCons, e_aLst, e_mTup, e_mLst, e_mN, e_mT, e_mTru, e_mAndT, e_mOrT, e_mNotT, e_mAnd, e_mOr, e_mNot, e_mIf, e_mChain, e_iSeq, e_iRange1, e_iRange2, e_oNone, e_oSome, e_mSl, e_mYes, e_mLc, e_gN, v0, vS, p0, p0o, pS, f0, f0s, f0n, fS, R.bind_ok, R.bind_err, R.bind_stuck, R.quiet_ok, O.of_ok, O.of_err, O.of_stuck, O.thn_nx, O.thn_rt, O.thn_bk, O.thn_ct, O.thn_err, fin_nx, fin_rt, fin_err, asB_b, o_add, o_addI, o_sub, o_neg, o_lt, o_le, o_gt, o_ge, o_eqI, o_neI, o_eqS, o_neS, o_inS, o_lenL, o_lenT, o_int, o_itS, o_itL, o_itT, o_truL, o_truB, o_truI, List.set_cons_zero, List.set_cons_succ, List.length_cons, List.length_nil, if_true, if_false, Bool.not_true, Bool.not_false, Bool.false_eq_true, Option.isSome_some, Option.isSome_none, Nat.reduceAdd, Nat.zero_add, decide_true, decide_false, lit_0, lit_1, lit_2, lit_3, lit_4, lit_5, lit_6, lit_7, lit_8, lit_9, lit_10, r_check_word (show (1 : Int) ≤ 3 by decide) (show (3 : Int) ≤ 3 by decide) (okw3 hw) hl, decide_eq_false (show ¬ e < -20 by omega), decide_eq_true h]
theorem r_power_bad {e : Int} {w : List Nat} (hl : w.length ≤ 1000000) (h : okw 3 w = false ∨ 60 < w.length) : m_power [.str (S w), .int e] = .err ("NotWord", []) := by
  show fin (b_power [some (.sh (.str (S w))), some (.sh (.int e))]) = _
  unfold b_power
  simp -implicitDefEqProofs only [e_sCons, e_sNil, e_sBreak, e_sCont, e_sRet, e_sRetN, e_sExpr, e_sIf, e_sAsg, e_sOwn, e_sFrz, e_sRaise, e_sFor, e_loop_nil, e_mC, e_m1, e_m2, e_mF, e_mCall, e_mM1, e_aNil, e_aCons, e_aLst, e_mTup, e_mLst, e_mN, e_mT, e_mTru, e_mAndT, e_mOrT, e_mNotT, e_mAnd, e_mOr, e_mNot, e_mIf, e_mChain, e_iSeq, e_iRange1, e_iRange2, e_oNone, e_oSome, e_mSl, e_mYes, e_mLc, e_gN, v0, vS, p0, p0o, pS, f0, f0s, f0n, fS, R.bind_ok, R.bind_err, R.bind_stuck, R.quiet_ok, O.of_ok, O.of_err, O.of_stuck, O.thn_nx, O.thn_rt, O.thn_bk, O.thn_ct, O.thn_err, fin_nx, fin_rt, fin_err, asB_b, o_add, o_addI, o_sub, o_neg, o_lt, o_le, o_gt, o_ge, o_eqI, o_neI, o_eqS, o_neS, o_inS, o_lenL, o_lenT, o_int, o_itS, o_itL, o_itT, o_truL, o_truB, o_truI, List.set_cons_zero, List.set_cons_succ, List.length_cons, List.length_nil, if_true, if_false, Bool.not_true, Bool.not_false, Bool.false_eq_true, Option.isSome_some, Option.isSome_none, Nat.reduceAdd, Nat.zero_add, decide_true, decide_false, lit_0, lit_1, lit_2, lit_3, lit_4, lit_5, lit_6, lit_7, lit_8, lit_9, lit_10, r_check_word_bad (show (1 : Int) ≤ 3 by decide) (show (3 : Int) ≤ 3 by decide) hl h]

/-! product -/
theorem r_product {a b : List Nat} (ha : Wd a) (hb : Wd b) (la : a.length ≤ 60) (lb : b.length ≤ 60) : m_product [.str (S a), .str (S b)] = .ok (.str (S (red (a ++ b)))) := by
  have hz := sizeLine_eq
  show fin (b_product [some (.sh (.str (S a))), some (.sh (.str (S b)))]) = _
  unfold b_product
  simp -implicitDefEqProofs only [e_sCons, e_sNil, e_sBreak, e_sCont, e_sRet, e_sRetN, e_sExpr, e_sIf, e_sAsg, e_sOwn, e_sFrz, e_sRaise, e_sFor, e_loop_nil, e_mC, e_m1, e_m2, e_mF, e_mCall, e_mM1, e_aNil, e_aCons, e_aLst, e_mTup, e_mLst, e_mN, e_mT, e_mTru, e_mAndT, e_mOrT, e_mNotT, e_mAnd, e_mOr, e_mNot, e_mIf, e_mChain, e_iSeq, e_iRange1, e_iRange2, e_oNone, e_oSome, e_mSl, e_mYes, e_mLc, e_gN, v0, vS, p0, p0o, pS, f0, f0s, f0n, fS, R.bind_ok, R.bind_err, R.bind_stuck, R.quiet_ok, O.of_ok, O.of_err, O.of_stuck, O.thn_nx, O.thn_rt, O.thn_bk, O.thn_ct, O.thn_err, fin_nx, fin_rt, fin_err, asB_b, o_add, o_addI, o_sub, o_neg, o_lt, o_le, o_gt, o_ge, o_eqI, o_neI, o_eqS, o_neS, o_inS, o_lenL, o_lenT, o_int, o_itS, o_itL, o_itT, o_truL, o_truB, o_truI, List.set_cons_zero, List.set_cons_succ, List.length_cons, List.length_nil, if_true, if_false, Bool.not_true, Bool.not_false, Bool.false_eq_true, Option.isSome_some, Option.isSome_none, Nat.reduceAdd, Nat.zero_add, decide_true, decide_false, lit_0, lit_1, lit_2, lit_3, lit_4, lit_5, lit_6, lit_7, lit_8, lit_9, lit_10, r_check_word (show (1 : Int) ≤ 3 by decide) (show (3 : Int) ≤ 3 by decide) (okw3 ha) la, r_check_word (show (1 : Int) ≤ 3 by decide) (show (3 : Int) ≤ 3 by decide) (okw3 hb) lb, o_addS]
  rw [if_pos (by rw [hz]; omega)]
  simp -implicitDefEqProofs only [e_sCons, e_sNil, e_sBreak, e_sCont, e_sRet, e_sRetN, e_sExpr, e_sIf, e_sAsg, e_sOwn, e_sFrz, e_sRaise, e_sFor, e_loop_nil, e_mC, e_m1, e_m2, e_mF, e_mCall, e_mM1, e_aNil, e_aCons, e_aLst, e_mTup, e_mLst, e_mN, e_mT, e_mTru, e_mAndT, e_mOrT, e_mNotT, e_mAnd, e_mOr, e_mNot, e_mIf, e_mChain, e_iSeq, e_iRange1, e_iRange2, e_oNone, e_oSome, e_mSl, e_mYes, e_mLc, e_gN, v0, vS, p0, p0o, pS, f0, f0s, f0n, fS, R.bind_ok, R.bind_err, R.bind_stuck, R.quiet_ok, O.of_ok, O.of_err, O.of_stuck, O.thn_nx, O.thn_rt, O.thn_bk, O.thn_ct, O.thn_err, fin_nx, fin_rt, fin_err, asB_b, o_add, o_addI, o_sub, o_neg, o_lt, o_le, o_gt, o_ge, o_eqI, o_neI, o_eqS, o_neS, o_inS, o_lenL, o_lenT, o_int, o_itS, o_itL, o_itT, o_truL, o_truB, o_truI, List.set_cons_zero, List.set_cons_succ, List.length_cons, List.length_nil, if_true, if_false, Bool.not_true, Bool.not_false, Bool.false_eq_true, Option.isSome_some, Option.isSome_none, Nat.reduceAdd, Nat.zero_add, decide_true, decide_false, lit_0, lit_1, lit_2, lit_3, lit_4, lit_5, lit_6, lit_7, lit_8, lit_9, lit_10, r_cancelled (app_wd ha hb) (show (a ++ b).length < 1000000 by rw [List.length_append]; omega)]
theorem r_product_bad1 {a b : List Nat} (hl : a.length ≤ 1000000) (h : okw 3 a = false ∨ 60 < a.length) : m_product [.str (S a), .str (S b)] = .err ("NotWord", []) := by
  show fin (b_product [some (.sh (.str (S a))), some (.sh (.str (S b)))]) = _
  unfold b_product
  simp -implicitDefEqProofs only [e_sCons, e_sNil, e_sBreak, e_sCont, e_sRet, e_sRetN, e_sExpr, e_sIf, e_sAsg, e_sOwn, e_sFrz, e_sRaise, e_sFor, e_loop_nil, e_mC, e_m1, e_m2, e_mF, e_mCall, e_mM1, e_aNil, e_aCons, e_aLst, e_mTup, e_mLst, e_mN, e_mT, e_mTru, e_mAndT, e_mOrT, e_mNotT, e_mAnd, e_mOr, e_mNot, e_mIf, e_mChain, e_iSeq, e_iRange1, e_iRange2, e_oNone, e_oSome, e_mSl, e_mYes, e_mLc, e_gN, v0, vS, p0, p0o, pS, f0, f0s, f0n, fS, R.bind_ok, R.bind_err, R.bind_stuck, R.quiet_ok, O.of_ok, O.of_err, O.of_stuck, O.thn_nx, O.thn_rt, O.thn_bk, O.thn_ct, O.thn_err, fin_nx, fin_rt, fin_err, asB_b, o_add, o_addI, o_sub, o_neg, o_lt, o_le, o_gt, o_ge, o_eqI, o_neI, o_eqS, o_neS, o_inS, o_lenL, o_lenT, o_int, o_itS, o_itL, o_itT, o_truL, o_truB, o_truI, List.set_cons_zero, List.set_cons_succ, List.length_cons, List.length_nil, if_true, if_false, Bool.not_true, Bool.not_false, Bool.false_eq_true, Option.isSome_some, Option.isSome_none, Nat.reduceAdd, Nat.zero_add, decide_true, decide_false, lit_0, lit_1, lit_2, lit_3, lit_4, lit_5, lit_6, lit_7, lit_8, lit_9, lit_10, r_check_word_bad (show (1 : Int) ≤ 3 by decide) (show (3 : Int) ≤ 3 by decide) hl h]
theorem r_product_bad2 {a b : List Nat} (ha : Wd a) (la : a.length ≤ 60) (hl : b.length ≤ 1000000) (h : okw 3 b = false ∨ 60 < b.length) : m_product [.str (S a), .str (S b)] = .err ("NotWord", []) := by
  show fin (b_product [some (.sh (.str (S a))), some (.sh (.str (S b)))]) = _
  unfold b_product
  simp -implicitDefEqProofs only [e_sCons, e_sNil, e_sBreak, e_sCont, e_sRet, e_sRetN, e_sExpr, e_sIf, e_sAsg, e_sOwn, e_sFrz, e_sRaise, e_sFor, e_loop_nil, e_mC, e_m1, e_m2, e_mF, e_mCall, e_mM1, e_aNil, e_aCons, e_aLst, e_mTup, e_mLst, e_mN, e_mT, e_mTru, e_mAndT, e_mOrT, e_mNotT, e_mAnd, e_mOr, e_mNot, e_mIf, e_mChain, e_iSeq, e_iRange1, e_iRange2, e_oNone, e_oSome, e_mSl, e_mYes, e_mLc, e_gN, v0, vS, p0, p0o, pS, f0, f0s, f0n, fS, R.bind_ok, R.bind_err, R.bind_stuck, R.quiet_ok, O.of_ok, O.of_err, O.of_stuck, O.thn_nx, O.thn_rt, O.thn_bk, O.thn_ct, O.thn_err, fin_nx, fin_rt, fin_err, asB_b, o_add, o_addI, o_sub, o_neg, o_lt, o_le, o_gt, o_ge, o_eqI, o_neI, o_eqS, o_neS, o_inS, o_lenL, o_lenT, o_int, o_itS, o_itL, o_itT, o_truL, o_truB, o_truI, List.set_cons_zero, List.set_cons_succ, List.length_cons, List.length_nil, if_true, if_false, Bool.not_true, Bool.not_false, Bool.false_eq_true, Option.isSome_some, Option.isSome_none, Nat.reduceAdd, Nat.zero_add, decide_true, decide_false, lit_0, lit_1, lit_2, lit_3, lit_4, lit_5, lit_6, lit_7, lit_8, lit_9, lit_10, r_check_word (show (1 : Int) ≤ 3 by decide) (show (3 : Int) ≤ 3 by decide) (okw3 ha) la, r_check_word_bad (show (1 : Int) ≤ 3 by decide) (show (3 : Int) ≤ 3 by decide) hl h]

/-! _law_told -/
theorem clean3 {a b c : D} : clean [some (.sh a), some (.sh b), some (.sh c)] = [some (.sh a), some (.sh b), some (.sh c)] := rfl
theorem told_err {z : Int} {a : D} {b : D} {n r : Str} (hb : (sCons (sIf (mT (m2 dEq (mVarP 0) (mC (.int 0)))) (sRet (mCall 2 m_product (aCons (mVar 1) (aCons (mVar 2) aNil)))) sNil) (sRet (mCall 2 m_power (aCons (mVar 1) (aCons (mVar 2) aNil))))) [some (.sh (.int z)), some (.sh a), some (.sh b)] = .err (n, []) [some (.sh (.int z)), some (.sh a), some (.sh b)])
    (hn : (n = "NotWord" ∧ r = "word") ∨ (n = "BadNumber" ∧ r = "number")) : m__law_told [.int z, a, b] = .ok (.str r) := by
  show fin (b__law_told [some (.sh (.int z)), some (.sh a), some (.sh b)]) = _
  unfold b__law_told sTryN
  rw [clean3, hb]
  rcases hn with ⟨rfl, rfl⟩ | ⟨rfl, rfl⟩ <;> rfl
theorem told_ok {z : Int} {a : D} {b : D} {d : D} (hb : (sCons (sIf (mT (m2 dEq (mVarP 0) (mC (.int 0)))) (sRet (mCall 2 m_product (aCons (mVar 1) (aCons (mVar 2) aNil)))) sNil) (sRet (mCall 2 m_power (aCons (mVar 1) (aCons (mVar 2) aNil))))) [some (.sh (.int z)), some (.sh a), some (.sh b)] = .rt d) : m__law_told [.int z, a, b] = .ok d := by
  show fin (b__law_told [some (.sh (.int z)), some (.sh a), some (.sh b)]) = _
  unfold b__law_told sTryN
  rw [clean3, hb]
  rfl
theorem told_prod {a b : D} (h : m_product [a, b] = .err ("NotWord", [])) : m__law_told [.int 0, a, b] = .ok (.str "word") :=
  told_err (n := "NotWord") (by simp -implicitDefEqProofs only [e_sCons, e_sNil, e_sBreak, e_sCont, e_sRet, e_sRetN, e_sExpr, e_sIf, e_sAsg, e_sOwn, e_sFrz, e_sRaise, e_sFor, e_loop_nil, e_mC, e_m1, e_m2, e_mF, e_mCall, e_mM1, e_aNil, e_aCons, e_aLst, e_mTup, e_mLst, e_mN, e_mT, e_mTru, e_mAndT, e_mOrT, e_mNotT, e_mAnd, e_mOr, e_mNot, e_mIf, e_mChain, e_iSeq, e_iRange1, e_iRange2, e_oNone, e_oSome, e_mSl, e_mYes, e_mLc, e_gN, v0, vS, p0, p0o, pS, f0, f0s, f0n, fS, R.bind_ok, R.bind_err, R.bind_stuck, R.quiet_ok, O.of_ok, O.of_err, O.of_stuck, O.thn_nx, O.thn_rt, O.thn_bk, O.thn_ct, O.thn_err, fin_nx, fin_rt, fin_err, asB_b, o_add, o_addI, o_sub, o_neg, o_lt, o_le, o_gt, o_ge, o_eqI, o_neI, o_eqS, o_neS, o_inS, o_lenL, o_lenT, o_int, o_itS, o_itL, o_itT, o_truL, o_truB, o_truI, List.set_cons_zero, List.set_cons_succ, List.length_cons, List.length_nil, if_true, if_false, Bool.not_true, Bool.not_false, Bool.false_eq_true, Option.isSome_some, Option.isSome_none, Nat.reduceAdd, Nat.zero_add, decide_true, decide_false, lit_0, lit_1, lit_2, lit_3, lit_4, lit_5, lit_6, lit_7, lit_8, lit_9, lit_10, h, decide_eq_true (show (0 : Int) = 0 by rfl)]) (.inl ⟨rfl, rfl⟩)
theorem told_pow {a b d : D} (h : m_power [a, b] = .ok d) : m__law_told [.int 1, a, b] = .ok d :=
  told_ok (by simp -implicitDefEqProofs only [e_sCons, e_sNil, e_sBreak, e_sCont, e_sRet, e_sRetN, e_sExpr, e_sIf, e_sAsg, e_sOwn, e_sFrz, e_sRaise, e_sFor, e_loop_nil, e_mC, e_m1, e_m2, e_mF, e_mCall, e_mM1, e_aNil, e_aCons, e_aLst, e_mTup, e_mLst, e_mN, e_mT, e_mTru, e_mAndT, e_mOrT, e_mNotT, e_mAnd, e_mOr, e_mNot, e_mIf, e_mChain, e_iSeq, e_iRange1, e_iRange2, e_oNone, e_oSome, e_mSl, e_mYes, e_mLc, e_gN, v0, vS, p0, p0o, pS, f0, f0s, f0n, fS, R.bind_ok, R.bind_err, R.bind_stuck, R.quiet_ok, O.of_ok, O.of_err, O.of_stuck, O.thn_nx, O.thn_rt, O.thn_bk, O.thn_ct, O.thn_err, fin_nx, fin_rt, fin_err, asB_b, o_add, o_addI, o_sub, o_neg, o_lt, o_le, o_gt, o_ge, o_eqI, o_neI, o_eqS, o_neS, o_inS, o_lenL, o_lenT, o_int, o_itS, o_itL, o_itT, o_truL, o_truB, o_truI, List.set_cons_zero, List.set_cons_succ, List.length_cons, List.length_nil, if_true, if_false, Bool.not_true, Bool.not_false, Bool.false_eq_true, Option.isSome_some, Option.isSome_none, Nat.reduceAdd, Nat.zero_add, decide_true, decide_false, lit_0, lit_1, lit_2, lit_3, lit_4, lit_5, lit_6, lit_7, lit_8, lit_9, lit_10, h, decide_eq_false (show ¬ (1 : Int) = 0 by decide)])
theorem told_pow_w {a b : D} (h : m_power [a, b] = .err ("NotWord", [])) : m__law_told [.int 1, a, b] = .ok (.str "word") :=
  told_err (n := "NotWord") (by simp -implicitDefEqProofs only [e_sCons, e_sNil, e_sBreak, e_sCont, e_sRet, e_sRetN, e_sExpr, e_sIf, e_sAsg, e_sOwn, e_sFrz, e_sRaise, e_sFor, e_loop_nil, e_mC, e_m1, e_m2, e_mF, e_mCall, e_mM1, e_aNil, e_aCons, e_aLst, e_mTup, e_mLst, e_mN, e_mT, e_mTru, e_mAndT, e_mOrT, e_mNotT, e_mAnd, e_mOr, e_mNot, e_mIf, e_mChain, e_iSeq, e_iRange1, e_iRange2, e_oNone, e_oSome, e_mSl, e_mYes, e_mLc, e_gN, v0, vS, p0, p0o, pS, f0, f0s, f0n, fS, R.bind_ok, R.bind_err, R.bind_stuck, R.quiet_ok, O.of_ok, O.of_err, O.of_stuck, O.thn_nx, O.thn_rt, O.thn_bk, O.thn_ct, O.thn_err, fin_nx, fin_rt, fin_err, asB_b, o_add, o_addI, o_sub, o_neg, o_lt, o_le, o_gt, o_ge, o_eqI, o_neI, o_eqS, o_neS, o_inS, o_lenL, o_lenT, o_int, o_itS, o_itL, o_itT, o_truL, o_truB, o_truI, List.set_cons_zero, List.set_cons_succ, List.length_cons, List.length_nil, if_true, if_false, Bool.not_true, Bool.not_false, Bool.false_eq_true, Option.isSome_some, Option.isSome_none, Nat.reduceAdd, Nat.zero_add, decide_true, decide_false, lit_0, lit_1, lit_2, lit_3, lit_4, lit_5, lit_6, lit_7, lit_8, lit_9, lit_10, h, decide_eq_false (show ¬ (1 : Int) = 0 by decide)]) (.inl ⟨rfl, rfl⟩)
theorem told_pow_n {a b : D} (h : m_power [a, b] = .err ("BadNumber", [])) : m__law_told [.int 1, a, b] = .ok (.str "number") :=
  told_err (n := "BadNumber") (by simp -implicitDefEqProofs only [e_sCons, e_sNil, e_sBreak, e_sCont, e_sRet, e_sRetN, e_sExpr, e_sIf, e_sAsg, e_sOwn, e_sFrz, e_sRaise, e_sFor, e_loop_nil, e_mC, e_m1, e_m2, e_mF, e_mCall, e_mM1, e_aNil, e_aCons, e_aLst, e_mTup, e_mLst, e_mN, e_mT, e_mTru, e_mAndT, e_mOrT, e_mNotT, e_mAnd, e_mOr, e_mNot, e_mIf, e_mChain, e_iSeq, e_iRange1, e_iRange2, e_oNone, e_oSome, e_mSl, e_mYes, e_mLc, e_gN, v0, vS, p0, p0o, pS, f0, f0s, f0n, fS, R.bind_ok, R.bind_err, R.bind_stuck, R.quiet_ok, O.of_ok, O.of_err, O.of_stuck, O.thn_nx, O.thn_rt, O.thn_bk, O.thn_ct, O.thn_err, fin_nx, fin_rt, fin_err, asB_b, o_add, o_addI, o_sub, o_neg, o_lt, o_le, o_gt, o_ge, o_eqI, o_neI, o_eqS, o_neS, o_inS, o_lenL, o_lenT, o_int, o_itS, o_itL, o_itT, o_truL, o_truB, o_truI, List.set_cons_zero, List.set_cons_succ, List.length_cons, List.length_nil, if_true, if_false, Bool.not_true, Bool.not_false, Bool.false_eq_true, Option.isSome_some, Option.isSome_none, Nat.reduceAdd, Nat.zero_add, decide_true, decide_false, lit_0, lit_1, lit_2, lit_3, lit_4, lit_5, lit_6, lit_7, lit_8, lit_9, lit_10, h, decide_eq_false (show ¬ (1 : Int) = 0 by decide)]) (.inr ⟨rfl, rfl⟩)

/-! _law_cell -/
theorem r__law_cell (ns : List Int) (k : Nat) (hl : ns.length ≤ 1000) : m__law_cell [.list (ns.map PyData.int), .int (k : Int)] = .ok (.int (cellN ns k)) := by
  show fin (b__law_cell [some (.sh (.list (ns.map PyData.int))), some (.sh (.int (k : Int)))]) = _
  unfold b__law_cell cellN
  by_cases h : k < ns.length
  · have e : (ns.map PyData.int)[k]? = some (.int ns[k]) := by rw [List.getElem?_map, List.getElem?_eq_getElem h]; rfl
    simp -implicitDefEqProofs only [e_sCons, e_sNil, e_sBreak, e_sCont, e_sRet, e_sRetN, e_sExpr, e_sIf, e_sAsg, e_sOwn, e_sFrz, e_sRaise, e_sFor, e_loop_nil, e_mC, e_m1, e_m2, e_mF, e_mCall, e_mM1, e_aNil, e_aCons, e_aLst, e_mTup, e_mLst, e_mN, e_mT, e_mTru, e_mAndT, e_mOrT, e_mNotT, e_mAnd, e_mOr, e_mNot, e_mIf, e_mChain, e_iSeq, e_iRange1, e_iRange2, e_oNone, e_oSome, e_mSl, e_mYes, e_mLc, e_gN, v0, vS, p0, p0o, pS, f0, f0s, f0n, fS, R.bind_ok, R.bind_err, R.bind_stuck, R.quiet_ok, O.of_ok, O.of_err, O.of_stuck, O.thn_nx, O.thn_rt, O.thn_bk, O.thn_ct, O.thn_err, fin_nx, fin_rt, fin_err, asB_b, o_add, o_addI, o_sub, o_neg, o_lt, o_le, o_gt, o_ge, o_eqI, o_neI, o_eqS, o_neS, o_inS, o_lenL, o_lenT, o_int, o_itS, o_itL, o_itT, o_truL, o_truB, o_truI, List.set_cons_zero, List.set_cons_succ, List.length_cons, List.length_nil, if_true, if_false, Bool.not_true, Bool.not_false, Bool.false_eq_true, Option.isSome_some, Option.isSome_none, Nat.reduceAdd, Nat.zero_add, decide_true, decide_false, lit_0, lit_1, lit_2, lit_3, lit_4, lit_5, lit_6, lit_7, lit_8, lit_9, lit_10, List.length_map, decide_eq_true (show (k : Int) < (ns.length : Int) by omega), o_ixL e]
    rw [List.getD_eq_getElem?_getD, List.getElem?_eq_getElem h]
    rfl
  · simp -implicitDefEqProofs only [e_sCons, e_sNil, e_sBreak, e_sCont, e_sRet, e_sRetN, e_sExpr, e_sIf, e_sAsg, e_sOwn, e_sFrz, e_sRaise, e_sFor, e_loop_nil, e_mC, e_m1, e_m2, e_mF, e_mCall, e_mM1, e_aNil, e_aCons, e_aLst, e_mTup, e_mLst, e_mN, e_mT, e_mTru, e_mAndT, e_mOrT, e_mNotT, e_mAnd, e_mOr, e_mNot, e_mIf, e_mChain, e_iSeq, e_iRange1, e_iRange2, e_oNone, e_oSome, e_mSl, e_mYes, e_mLc, e_gN, v0, vS, p0, p0o, pS, f0, f0s, f0n, fS, R.bind_ok, R.bind_err, R.bind_stuck, R.quiet_ok, O.of_ok, O.of_err, O.of_stuck, O.thn_nx, O.thn_rt, O.thn_bk, O.thn_ct, O.thn_err, fin_nx, fin_rt, fin_err, asB_b, o_add, o_addI, o_sub, o_neg, o_lt, o_le, o_gt, o_ge, o_eqI, o_neI, o_eqS, o_neS, o_inS, o_lenL, o_lenT, o_int, o_itS, o_itL, o_itT, o_truL, o_truB, o_truI, List.set_cons_zero, List.set_cons_succ, List.length_cons, List.length_nil, if_true, if_false, Bool.not_true, Bool.not_false, Bool.false_eq_true, Option.isSome_some, Option.isSome_none, Nat.reduceAdd, Nat.zero_add, decide_true, decide_false, lit_0, lit_1, lit_2, lit_3, lit_4, lit_5, lit_6, lit_7, lit_8, lit_9, lit_10, List.length_map, decide_eq_false (show ¬ (k : Int) < (ns.length : Int) by omega)]
    rw [List.getD_eq_getElem?_getD, List.getElem?_eq_none (by omega)]
    rfl

/-! reduced -/
theorem r_reduced {w : List Nat} (h : Wd w) (hl : w.length ≤ 60) : m_reduced [.str (S w)] = .ok (.str (S (red w))) := by
  show fin (b_reduced [some (.sh (.str (S w)))]) = _
  unfold b_reduced
  simp -implicitDefEqProofs only [e_sCons, e_sNil, e_sBreak, e_sCont, e_sRet, e_sRetN, e_sExpr, e_sIf, e_sAsg, e_sOwn, e_sFrz, e_sRaise, e_sFor, e_loop_nil, e_mC, e_m1, e_m2, e_mF, e_mCall, e_mM1, e_aNil, e_aCons, e_aLst, e_mTup, e_mLst, e_mN, e_mT, e_mTru, e_mAndT, e_mOrT, e_mNotT, e_mAnd, e_mOr, e_mNot, e_mIf, e_mChain, e_iSeq, e_iRange1, e_iRange2, e_oNone, e_oSome, e_mSl, e_mYes, e_mLc, e_gN, v0, vS, p0, p0o, pS, f0, f0s, f0n, fS, R.bind_ok, R.bind_err, R.bind_stuck, R.quiet_ok, O.of_ok, O.of_err, O.of_stuck, O.thn_nx, O.thn_rt, O.thn_bk, O.thn_ct, O.thn_err, fin_nx, fin_rt, fin_err, asB_b, o_add, o_addI, o_sub, o_neg, o_lt, o_le, o_gt, o_ge, o_eqI, o_neI, o_eqS, o_neS, o_inS, o_lenL, o_lenT, o_int, o_itS, o_itL, o_itT, o_truL, o_truB, o_truI, List.set_cons_zero, List.set_cons_succ, List.length_cons, List.length_nil, if_true, if_false, Bool.not_true, Bool.not_false, Bool.false_eq_true, Option.isSome_some, Option.isSome_none, Nat.reduceAdd, Nat.zero_add, decide_true, decide_false, lit_0, lit_1, lit_2, lit_3, lit_4, lit_5, lit_6, lit_7, lit_8, lit_9, lit_10, r_check_word (show (1 : Int) ≤ 3 by decide) (show (3 : Int) ≤ 3 by decide) (okw3 h) hl, r_cancelled h (by omega)]
theorem r_reduced_bad {w : List Nat} (hl : w.length ≤ 1000000) (h : okw 3 w = false ∨ 60 < w.length) : m_reduced [.str (S w)] = .err ("NotWord", []) := by
  show fin (b_reduced [some (.sh (.str (S w)))]) = _
  unfold b_reduced
  simp -implicitDefEqProofs only [e_sCons, e_sNil, e_sBreak, e_sCont, e_sRet, e_sRetN, e_sExpr, e_sIf, e_sAsg, e_sOwn, e_sFrz, e_sRaise, e_sFor, e_loop_nil, e_mC, e_m1, e_m2, e_mF, e_mCall, e_mM1, e_aNil, e_aCons, e_aLst, e_mTup, e_mLst, e_mN, e_mT, e_mTru, e_mAndT, e_mOrT, e_mNotT, e_mAnd, e_mOr, e_mNot, e_mIf, e_mChain, e_iSeq, e_iRange1, e_iRange2, e_oNone, e_oSome, e_mSl, e_mYes, e_mLc, e_gN, v0, vS, p0, p0o, pS, f0, f0s, f0n, fS, R.bind_ok, R.bind_err, R.bind_stuck, R.quiet_ok, O.of_ok, O.of_err, O.of_stuck, O.thn_nx, O.thn_rt, O.thn_bk, O.thn_ct, O.thn_err, fin_nx, fin_rt, fin_err, asB_b, o_add, o_addI, o_sub, o_neg, o_lt, o_le, o_gt, o_ge, o_eqI, o_neI, o_eqS, o_neS, o_inS, o_lenL, o_lenT, o_int, o_itS, o_itL, o_itT, o_truL, o_truB, o_truI, List.set_cons_zero, List.set_cons_succ, List.length_cons, List.length_nil, if_true, if_false, Bool.not_true, Bool.not_false, Bool.false_eq_true, Option.isSome_some, Option.isSome_none, Nat.reduceAdd, Nat.zero_add, decide_true, decide_false, lit_0, lit_1, lit_2, lit_3, lit_4, lit_5, lit_6, lit_7, lit_8, lit_9, lit_10, r_check_word_bad (show (1 : Int) ≤ 3 by decide) (show (3 : Int) ≤ 3 by decide) hl h]

/-! inverse -/
theorem r_inverse {w : List Nat} (h : Wd w) (hl : w.length ≤ 60) : m_inverse [.str (S w)] = .ok (.str (S (invw w))) := by
  show fin (b_inverse [some (.sh (.str (S w)))]) = _
  unfold b_inverse
  simp -implicitDefEqProofs only [e_sCons, e_sNil, e_sBreak, e_sCont, e_sRet, e_sRetN, e_sExpr, e_sIf, e_sAsg, e_sOwn, e_sFrz, e_sRaise, e_sFor, e_loop_nil, e_mC, e_m1, e_m2, e_mF, e_mCall, e_mM1, e_aNil, e_aCons, e_aLst, e_mTup, e_mLst, e_mN, e_mT, e_mTru, e_mAndT, e_mOrT, e_mNotT, e_mAnd, e_mOr, e_mNot, e_mIf, e_mChain, e_iSeq, e_iRange1, e_iRange2, e_oNone, e_oSome, e_mSl, e_mYes, e_mLc, e_gN, v0, vS, p0, p0o, pS, f0, f0s, f0n, fS, R.bind_ok, R.bind_err, R.bind_stuck, R.quiet_ok, O.of_ok, O.of_err, O.of_stuck, O.thn_nx, O.thn_rt, O.thn_bk, O.thn_ct, O.thn_err, fin_nx, fin_rt, fin_err, asB_b, o_add, o_addI, o_sub, o_neg, o_lt, o_le, o_gt, o_ge, o_eqI, o_neI, o_eqS, o_neS, o_inS, o_lenL, o_lenT, o_int, o_itS, o_itL, o_itT, o_truL, o_truB, o_truI, List.set_cons_zero, List.set_cons_succ, List.length_cons, List.length_nil, if_true, if_false, Bool.not_true, Bool.not_false, Bool.false_eq_true, Option.isSome_some, Option.isSome_none, Nat.reduceAdd, Nat.zero_add, decide_true, decide_false, lit_0, lit_1, lit_2, lit_3, lit_4, lit_5, lit_6, lit_7, lit_8, lit_9, lit_10, r_check_word (show (1 : Int) ≤ 3 by decide) (show (3 : Int) ≤ 3 by decide) (okw3 h) hl, r_flipped h (by omega)]
theorem r_inverse_bad {w : List Nat} (hl : w.length ≤ 1000000) (h : okw 3 w = false ∨ 60 < w.length) : m_inverse [.str (S w)] = .err ("NotWord", []) := by
  show fin (b_inverse [some (.sh (.str (S w)))]) = _
  unfold b_inverse
  simp -implicitDefEqProofs only [e_sCons, e_sNil, e_sBreak, e_sCont, e_sRet, e_sRetN, e_sExpr, e_sIf, e_sAsg, e_sOwn, e_sFrz, e_sRaise, e_sFor, e_loop_nil, e_mC, e_m1, e_m2, e_mF, e_mCall, e_mM1, e_aNil, e_aCons, e_aLst, e_mTup, e_mLst, e_mN, e_mT, e_mTru, e_mAndT, e_mOrT, e_mNotT, e_mAnd, e_mOr, e_mNot, e_mIf, e_mChain, e_iSeq, e_iRange1, e_iRange2, e_oNone, e_oSome, e_mSl, e_mYes, e_mLc, e_gN, v0, vS, p0, p0o, pS, f0, f0s, f0n, fS, R.bind_ok, R.bind_err, R.bind_stuck, R.quiet_ok, O.of_ok, O.of_err, O.of_stuck, O.thn_nx, O.thn_rt, O.thn_bk, O.thn_ct, O.thn_err, fin_nx, fin_rt, fin_err, asB_b, o_add, o_addI, o_sub, o_neg, o_lt, o_le, o_gt, o_ge, o_eqI, o_neI, o_eqS, o_neS, o_inS, o_lenL, o_lenT, o_int, o_itS, o_itL, o_itT, o_truL, o_truB, o_truI, List.set_cons_zero, List.set_cons_succ, List.length_cons, List.length_nil, if_true, if_false, Bool.not_true, Bool.not_false, Bool.false_eq_true, Option.isSome_some, Option.isSome_none, Nat.reduceAdd, Nat.zero_add, decide_true, decide_false, lit_0, lit_1, lit_2, lit_3, lit_4, lit_5, lit_6, lit_7, lit_8, lit_9, lit_10, r_check_word_bad (show (1 : Int) ≤ 3 by decide) (show (3 : Int) ≤ 3 by decide) hl h]

/-! k02 -/
theorem cell_any (ns : List Int) (hl : ns.length ≤ 63) (k : Nat) : m__law_cell [.list (ns.map PyData.int), .int (k : Int)] = .ok (.int (cellN ns k)) := r__law_cell ns k (by omega)
theorem words3 (ns : List Int) (hl : ns.length ≤ 63) (g : Int) (h1 : 1 ≤ g) (h2 : g ≤ 3) (m : Nat) (hm : m ≤ 60) (ρ : En) (hr : ∀ (k : Nat) (d w : D), m__law_cell [.list (ns.map PyData.int), .int (1 + (k : Int))] = .ok d → m__law_word [d, .int g, .int (m : Int)] = .ok w → ce_law_1 (ρ.set 11 (some (.sh (.int (k : Int))))) = .ok w) :
    ∃ a b c : List Nat, Wd a ∧ Wd b ∧ Wd c ∧ a.length ≤ m ∧ b.length ≤ m ∧ c.length ≤ m ∧ lcLoop (gN 11) mYes ce_law_1 ρ ((List.range (3 : Int).toNat).map fun (k : Nat) => PyData.int (k : Int)) = .ok [.str (S a), .str (S b), .str (S c)] := by
  have each : ∀ k : Nat, ∃ w : List Nat, Wd w ∧ w.length ≤ m ∧ ce_law_1 (ρ.set 11 (some (.sh (.int (k : Int))))) = .ok (.str (S w)) := fun k => by
    obtain ⟨w, w1, w2, w3⟩ := r__law_word (cellN ns (1 + k)) g m h1 h2 (by omega)
    refine ⟨w, lt_wd w2, w1, ?_⟩
    have e := cell_any ns hl (1 + k)
    have e2 : ((1 + k : Nat) : Int) = 1 + (k : Int) := by omega
    rw [e2] at e
    exact hr k _ _ e w3
  obtain ⟨a, a1, a2, a3⟩ := each 0
  obtain ⟨b, b1, b2, b3⟩ := each 1
  obtain ⟨c, c1, c2, c3⟩ := each 2
  refine ⟨a, b, c, a1, b1, c1, a2, b2, c2, ?_⟩
  have er : ((List.range (3 : Int).toNat).map fun (k : Nat) => PyData.int (k : Int)) = [.int ((0 : Nat) : Int), .int ((1 : Nat) : Int), .int ((2 : Nat) : Int)] := rfl
  rw [er, lc_cons, lc_cons, lc_cons, lc_nil, a3, b3, c3]
  rfl
abbrev A2 (ns : List Int) : Option SD := some (.sh (.list (ns.map PyData.int)))
abbrev I2 (n : Int) : Option SD := some (.sh (.int n))
abbrev W2 (w : List Nat) : Option SD := some (.sh (.str (S w)))
theorem law_true (ns : List Int) (hl : ns.length ≤ 63) (hb : ∀ z ∈ ns, Builtin.Int.intBits z ≤ 1048576) : m_law [.list (ns.map PyData.int)] = .ok (.bool true) := by
  have hz := sizeLine_eq
  show fin (b_law [A2 ns, none, none, none, none, none, none, none, none, none, none, none]) = _
  obtain ⟨gk, gk1, gk2⟩ := nat_of (z := cellN ns 0) (n := 3) (by decide)
  have c0 : m__law_cell [.list (ns.map PyData.int), .int 0] = .ok (.int (cellN ns 0)) := cell_any ns hl 0
  have c4 : m__law_cell [.list (ns.map PyData.int), .int 4] = .ok (.int (cellN ns 4)) := cell_any ns hl 4
  have c5 : m__law_cell [.list (ns.map PyData.int), .int 5] = .ok (.int (cellN ns 5)) := cell_any ns hl 5
  have c6 : m__law_cell [.list (ns.map PyData.int), .int 6] = .ok (.int (cellN ns 6)) := cell_any ns hl 6
  have s1 : st_law_1 [A2 ns, none, none, none, none, none, none, none, none, none, none, none] = .nx [A2 ns, I2 (1 + (gk : Int)), none, none, none, none, none, none, none, none, none, none] := by
    unfold st_law_1
    simp -implicitDefEqProofs only [e_sCons, e_sNil, e_sBreak, e_sCont, e_sRet, e_sRetN, e_sExpr, e_sIf, e_sAsg, e_sOwn, e_sFrz, e_sRaise, e_sFor, e_loop_nil, e_mC, e_m1, e_m2, e_mF, e_mCall, e_mM1, e_aNil, e_aCons, e_aLst, e_mTup, e_mLst, e_mN, e_mT, e_mTru, e_mAndT, e_mOrT, e_mNotT, e_mAnd, e_mOr, e_mNot, e_mIf, e_mChain, e_iSeq, e_iRange1, e_iRange2, e_oNone, e_oSome, e_mSl, e_mYes, e_mLc, e_gN, v0, vS, p0, p0o, pS, f0, f0s, f0n, fS, R.bind_ok, R.bind_err, R.bind_stuck, R.quiet_ok, O.of_ok, O.of_err, O.of_stuck, O.thn_nx, O.thn_rt, O.thn_bk, O.thn_ct, O.thn_err, fin_nx, fin_rt, fin_err, asB_b, o_add, o_addI, o_sub, o_neg, o_lt, o_le, o_gt, o_ge, o_eqI, o_neI, o_eqS, o_neS, o_inS, o_lenL, o_lenT, o_int, o_itS, o_itL, o_itT, o_truL, o_truB, o_truI, List.set_cons_zero, List.set_cons_succ, List.length_cons, List.length_nil, if_true, if_false, Bool.not_true, Bool.not_false, Bool.false_eq_true, Option.isSome_some, Option.isSome_none, Nat.reduceAdd, Nat.zero_add, decide_true, decide_false, lit_0, lit_1, lit_2, lit_3, lit_4, lit_5, lit_6, lit_7, lit_8, lit_9, lit_10, c0, o_mod (show (0 : Int) < 3 by decide), gk1]
  have s2 : st_law_2 [A2 ns, I2 (1 + (gk : Int)), none, none, none, none, none, none, none, none, none, none] = .nx [A2 ns, I2 (1 + (gk : Int)), I2 12, none, none, none, none, none, none, none, none, none] := rfl
  obtain ⟨m, hm, s3⟩ : ∃ m : Nat, (m = 12 ∨ m = 60) ∧ st_law_3 [A2 ns, I2 (1 + (gk : Int)), I2 12, none, none, none, none, none, none, none, none, none] = .nx [A2 ns, I2 (1 + (gk : Int)), I2 (m : Int), none, none, none, none, none, none, none, none, none] := by
    unfold st_law_3
    by_cases h : cellN ns 0 / 3 % 9 = 4
    · refine ⟨60, .inr rfl, ?_⟩
      simp -implicitDefEqProofs only [e_sCons, e_sNil, e_sBreak, e_sCont, e_sRet, e_sRetN, e_sExpr, e_sIf, e_sAsg, e_sOwn, e_sFrz, e_sRaise, e_sFor, e_loop_nil, e_mC, e_m1, e_m2, e_mF, e_mCall, e_mM1, e_aNil, e_aCons, e_aLst, e_mTup, e_mLst, e_mN, e_mT, e_mTru, e_mAndT, e_mOrT, e_mNotT, e_mAnd, e_mOr, e_mNot, e_mIf, e_mChain, e_iSeq, e_iRange1, e_iRange2, e_oNone, e_oSome, e_mSl, e_mYes, e_mLc, e_gN, v0, vS, p0, p0o, pS, f0, f0s, f0n, fS, R.bind_ok, R.bind_err, R.bind_stuck, R.quiet_ok, O.of_ok, O.of_err, O.of_stuck, O.thn_nx, O.thn_rt, O.thn_bk, O.thn_ct, O.thn_err, fin_nx, fin_rt, fin_err, asB_b, o_add, o_addI, o_sub, o_neg, o_lt, o_le, o_gt, o_ge, o_eqI, o_neI, o_eqS, o_neS, o_inS, o_lenL, o_lenT, o_int, o_itS, o_itL, o_itT, o_truL, o_truB, o_truI, List.set_cons_zero, List.set_cons_succ, List.length_cons, List.length_nil, if_true, if_false, Bool.not_true, Bool.not_false, Bool.false_eq_true, Option.isSome_some, Option.isSome_none, Nat.reduceAdd, Nat.zero_add, decide_true, decide_false, lit_0, lit_1, lit_2, lit_3, lit_4, lit_5, lit_6, lit_7, lit_8, lit_9, lit_10, c0, o_fdiv (show 0 < (3 : Int) ∧ (3 : Int).natAbs.log2 < 9000 by decide), o_mod (show (0 : Int) < 9 by decide), decide_eq_true h]
      rfl
    · refine ⟨12, .inl rfl, ?_⟩
      simp -implicitDefEqProofs only [e_sCons, e_sNil, e_sBreak, e_sCont, e_sRet, e_sRetN, e_sExpr, e_sIf, e_sAsg, e_sOwn, e_sFrz, e_sRaise, e_sFor, e_loop_nil, e_mC, e_m1, e_m2, e_mF, e_mCall, e_mM1, e_aNil, e_aCons, e_aLst, e_mTup, e_mLst, e_mN, e_mT, e_mTru, e_mAndT, e_mOrT, e_mNotT, e_mAnd, e_mOr, e_mNot, e_mIf, e_mChain, e_iSeq, e_iRange1, e_iRange2, e_oNone, e_oSome, e_mSl, e_mYes, e_mLc, e_gN, v0, vS, p0, p0o, pS, f0, f0s, f0n, fS, R.bind_ok, R.bind_err, R.bind_stuck, R.quiet_ok, O.of_ok, O.of_err, O.of_stuck, O.thn_nx, O.thn_rt, O.thn_bk, O.thn_ct, O.thn_err, fin_nx, fin_rt, fin_err, asB_b, o_add, o_addI, o_sub, o_neg, o_lt, o_le, o_gt, o_ge, o_eqI, o_neI, o_eqS, o_neS, o_inS, o_lenL, o_lenT, o_int, o_itS, o_itL, o_itT, o_truL, o_truB, o_truI, List.set_cons_zero, List.set_cons_succ, List.length_cons, List.length_nil, if_true, if_false, Bool.not_true, Bool.not_false, Bool.false_eq_true, Option.isSome_some, Option.isSome_none, Nat.reduceAdd, Nat.zero_add, decide_true, decide_false, lit_0, lit_1, lit_2, lit_3, lit_4, lit_5, lit_6, lit_7, lit_8, lit_9, lit_10, c0, o_fdiv (show 0 < (3 : Int) ∧ (3 : Int).natAbs.log2 < 9000 by decide), o_mod (show (0 : Int) < 9 by decide), decide_eq_false h]
      rfl
  obtain ⟨a, b, c, wa, wb, wc, la, lb, lc, s4⟩ : ∃ a b c : List Nat, Wd a ∧ Wd b ∧ Wd c ∧ a.length ≤ m ∧ b.length ≤ m ∧ c.length ≤ m ∧ st_law_4 [A2 ns, I2 (1 + (gk : Int)), I2 (m : Int), none, none, none, none, none, none, none, none, none] = .nx [A2 ns, I2 (1 + (gk : Int)), I2 (m : Int), some (.sh (.list [.str (S a), .str (S b), .str (S c)])), none, none, none, none, none, none, none, none] := by
    obtain ⟨a, b, c, wa, wb, wc, la, lb, lc, h⟩ := words3 ns hl (1 + (gk : Int)) (by omega) (by omega) m (by omega) (wipeD (clean [A2 ns, I2 (1 + (gk : Int)), I2 (m : Int), none, none, none, none, none, none, none, none, none]) [11]) (fun k d w h1 h2 => by
      show ce_law_1 [A2 ns, I2 (1 + (gk : Int)), I2 (m : Int), none, none, none, none, none, none, none, none, I2 (k : Int)] = _
      unfold ce_law_1
      simp -implicitDefEqProofs only [e_sCons, e_sNil, e_sBreak, e_sCont, e_sRet, e_sRetN, e_sExpr, e_sIf, e_sAsg, e_sOwn, e_sFrz, e_sRaise, e_sFor, e_loop_nil, e_mC, e_m1, e_m2, e_mF, e_mCall, e_mM1, e_aNil, e_aCons, e_aLst, e_mTup, e_mLst, e_mN, e_mT, e_mTru, e_mAndT, e_mOrT, e_mNotT, e_mAnd, e_mOr, e_mNot, e_mIf, e_mChain, e_iSeq, e_iRange1, e_iRange2, e_oNone, e_oSome, e_mSl, e_mYes, e_mLc, e_gN, v0, vS, p0, p0o, pS, f0, f0s, f0n, fS, R.bind_ok, R.bind_err, R.bind_stuck, R.quiet_ok, O.of_ok, O.of_err, O.of_stuck, O.thn_nx, O.thn_rt, O.thn_bk, O.thn_ct, O.thn_err, fin_nx, fin_rt, fin_err, asB_b, o_add, o_addI, o_sub, o_neg, o_lt, o_le, o_gt, o_ge, o_eqI, o_neI, o_eqS, o_neS, o_inS, o_lenL, o_lenT, o_int, o_itS, o_itL, o_itT, o_truL, o_truB, o_truI, List.set_cons_zero, List.set_cons_succ, List.length_cons, List.length_nil, if_true, if_false, Bool.not_true, Bool.not_false, Bool.false_eq_true, Option.isSome_some, Option.isSome_none, Nat.reduceAdd, Nat.zero_add, decide_true, decide_false, lit_0, lit_1, lit_2, lit_3, lit_4, lit_5, lit_6, lit_7, lit_8, lit_9, lit_10, h1, h2])
    refine ⟨a, b, c, wa, wb, wc, la, lb, lc, ?_⟩
    unfold st_law_4
    simp -implicitDefEqProofs only [e_sCons, e_sNil, e_sBreak, e_sCont, e_sRet, e_sRetN, e_sExpr, e_sIf, e_sAsg, e_sOwn, e_sFrz, e_sRaise, e_sFor, e_loop_nil, e_mC, e_m1, e_m2, e_mF, e_mCall, e_mM1, e_aNil, e_aCons, e_aLst, e_mTup, e_mLst, e_mN, e_mT, e_mTru, e_mAndT, e_mOrT, e_mNotT, e_mAnd, e_mOr, e_mNot, e_mIf, e_mChain, e_iSeq, e_iRange1, e_iRange2, e_oNone, e_oSome, e_mSl, e_mYes, e_mLc, e_gN, v0, vS, p0, p0o, pS, f0, f0s, f0n, fS, R.bind_ok, R.bind_err, R.bind_stuck, R.quiet_ok, O.of_ok, O.of_err, O.of_stuck, O.thn_nx, O.thn_rt, O.thn_bk, O.thn_ct, O.thn_err, fin_nx, fin_rt, fin_err, asB_b, o_add, o_addI, o_sub, o_neg, o_lt, o_le, o_gt, o_ge, o_eqI, o_neI, o_eqS, o_neS, o_inS, o_lenL, o_lenT, o_int, o_itS, o_itL, o_itT, o_truL, o_truB, o_truI, List.set_cons_zero, List.set_cons_succ, List.length_cons, List.length_nil, if_true, if_false, Bool.not_true, Bool.not_false, Bool.false_eq_true, Option.isSome_some, Option.isSome_none, Nat.reduceAdd, Nat.zero_add, decide_true, decide_false, lit_0, lit_1, lit_2, lit_3, lit_4, lit_5, lit_6, lit_7, lit_8, lit_9, lit_10, rg_int (z := 3) (by decide) (by decide)]
    rw [if_pos (by rw [hz, List.length_map, List.length_range]; decide), h]
    simp -implicitDefEqProofs only [e_sCons, e_sNil, e_sBreak, e_sCont, e_sRet, e_sRetN, e_sExpr, e_sIf, e_sAsg, e_sOwn, e_sFrz, e_sRaise, e_sFor, e_loop_nil, e_mC, e_m1, e_m2, e_mF, e_mCall, e_mM1, e_aNil, e_aCons, e_aLst, e_mTup, e_mLst, e_mN, e_mT, e_mTru, e_mAndT, e_mOrT, e_mNotT, e_mAnd, e_mOr, e_mNot, e_mIf, e_mChain, e_iSeq, e_iRange1, e_iRange2, e_oNone, e_oSome, e_mSl, e_mYes, e_mLc, e_gN, v0, vS, p0, p0o, pS, f0, f0s, f0n, fS, R.bind_ok, R.bind_err, R.bind_stuck, R.quiet_ok, O.of_ok, O.of_err, O.of_stuck, O.thn_nx, O.thn_rt, O.thn_bk, O.thn_ct, O.thn_err, fin_nx, fin_rt, fin_err, asB_b, o_add, o_addI, o_sub, o_neg, o_lt, o_le, o_gt, o_ge, o_eqI, o_neI, o_eqS, o_neS, o_inS, o_lenL, o_lenT, o_int, o_itS, o_itL, o_itT, o_truL, o_truB, o_truI, List.set_cons_zero, List.set_cons_succ, List.length_cons, List.length_nil, if_true, if_false, Bool.not_true, Bool.not_false, Bool.false_eq_true, Option.isSome_some, Option.isSome_none, Nat.reduceAdd, Nat.zero_add, decide_true, decide_false, lit_0, lit_1, lit_2, lit_3, lit_4, lit_5, lit_6, lit_7, lit_8, lit_9, lit_10]
  have la' : a.length ≤ 60 := by omega
  have lb' : b.length ≤ 60 := by omega
  have lc' : c.length ≤ 60 := by omega
  have x0 : dIdx (.list [.str (S a), .str (S b), .str (S c)]) (.int 0) = .ok (.str (S a)) := rfl
  have x1 : dIdx (.list [.str (S a), .str (S b), .str (S c)]) (.int 1) = .ok (.str (S b)) := rfl
  have x2 : dIdx (.list [.str (S a), .str (S b), .str (S c)]) (.int 2) = .ok (.str (S c)) := rfl
  have s5 : st_law_5 [A2 ns, I2 (1 + (gk : Int)), I2 (m : Int), some (.sh (.list [.str (S a), .str (S b), .str (S c)])), none, none, none, none, none, none, none, none] = .nx [A2 ns, I2 (1 + (gk : Int)), I2 (m : Int), some (.sh (.list [.str (S a), .str (S b), .str (S c)])), W2 a, none, none, none, none, none, none, none] := by
    unfold st_law_5
    simp -implicitDefEqProofs only [e_sCons, e_sNil, e_sBreak, e_sCont, e_sRet, e_sRetN, e_sExpr, e_sIf, e_sAsg, e_sOwn, e_sFrz, e_sRaise, e_sFor, e_loop_nil, e_mC, e_m1, e_m2, e_mF, e_mCall, e_mM1, e_aNil, e_aCons, e_aLst, e_mTup, e_mLst, e_mN, e_mT, e_mTru, e_mAndT, e_mOrT, e_mNotT, e_mAnd, e_mOr, e_mNot, e_mIf, e_mChain, e_iSeq, e_iRange1, e_iRange2, e_oNone, e_oSome, e_mSl, e_mYes, e_mLc, e_gN, v0, vS, p0, p0o, pS, f0, f0s, f0n, fS, R.bind_ok, R.bind_err, R.bind_stuck, R.quiet_ok, O.of_ok, O.of_err, O.of_stuck, O.thn_nx, O.thn_rt, O.thn_bk, O.thn_ct, O.thn_err, fin_nx, fin_rt, fin_err, asB_b, o_add, o_addI, o_sub, o_neg, o_lt, o_le, o_gt, o_ge, o_eqI, o_neI, o_eqS, o_neS, o_inS, o_lenL, o_lenT, o_int, o_itS, o_itL, o_itT, o_truL, o_truB, o_truI, List.set_cons_zero, List.set_cons_succ, List.length_cons, List.length_nil, if_true, if_false, Bool.not_true, Bool.not_false, Bool.false_eq_true, Option.isSome_some, Option.isSome_none, Nat.reduceAdd, Nat.zero_add, decide_true, decide_false, lit_0, lit_1, lit_2, lit_3, lit_4, lit_5, lit_6, lit_7, lit_8, lit_9, lit_10, x0]
  have s6 : st_law_6 [A2 ns, I2 (1 + (gk : Int)), I2 (m : Int), some (.sh (.list [.str (S a), .str (S b), .str (S c)])), W2 a, none, none, none, none, none, none, none] = .nx [A2 ns, I2 (1 + (gk : Int)), I2 (m : Int), some (.sh (.list [.str (S a), .str (S b), .str (S c)])), W2 a, W2 b, none, none, none, none, none, none] := by
    unfold st_law_6
    simp -implicitDefEqProofs only [e_sCons, e_sNil, e_sBreak, e_sCont, e_sRet, e_sRetN, e_sExpr, e_sIf, e_sAsg, e_sOwn, e_sFrz, e_sRaise, e_sFor, e_loop_nil, e_mC, e_m1, e_m2, e_mF, e_mCall, e_mM1, e_aNil, e_aCons, e_aLst, e_mTup, e_mLst, e_mN, e_mT, e_mTru, e_mAndT, e_mOrT, e_mNotT, e_mAnd, e_mOr, e_mNot, e_mIf, e_mChain, e_iSeq, e_iRange1, e_iRange2, e_oNone, e_oSome, e_mSl, e_mYes, e_mLc, e_gN, v0, vS, p0, p0o, pS, f0, f0s, f0n, fS, R.bind_ok, R.bind_err, R.bind_stuck, R.quiet_ok, O.of_ok, O.of_err, O.of_stuck, O.thn_nx, O.thn_rt, O.thn_bk, O.thn_ct, O.thn_err, fin_nx, fin_rt, fin_err, asB_b, o_add, o_addI, o_sub, o_neg, o_lt, o_le, o_gt, o_ge, o_eqI, o_neI, o_eqS, o_neS, o_inS, o_lenL, o_lenT, o_int, o_itS, o_itL, o_itT, o_truL, o_truB, o_truI, List.set_cons_zero, List.set_cons_succ, List.length_cons, List.length_nil, if_true, if_false, Bool.not_true, Bool.not_false, Bool.false_eq_true, Option.isSome_some, Option.isSome_none, Nat.reduceAdd, Nat.zero_add, decide_true, decide_false, lit_0, lit_1, lit_2, lit_3, lit_4, lit_5, lit_6, lit_7, lit_8, lit_9, lit_10, x1]
  have s7 : st_law_7 [A2 ns, I2 (1 + (gk : Int)), I2 (m : Int), some (.sh (.list [.str (S a), .str (S b), .str (S c)])), W2 a, W2 b, none, none, none, none, none, none] = .nx [A2 ns, I2 (1 + (gk : Int)), I2 (m : Int), some (.sh (.list [.str (S a), .str (S b), .str (S c)])), W2 a, W2 b, none, none, none, none, none, none] := by
    unfold st_law_7
    simp -implicitDefEqProofs only [e_sCons, e_sNil, e_sBreak, e_sCont, e_sRet, e_sRetN, e_sExpr, e_sIf, e_sAsg, e_sOwn, e_sFrz, e_sRaise, e_sFor, e_loop_nil, e_mC, e_m1, e_m2, e_mF, e_mCall, e_mM1, e_aNil, e_aCons, e_aLst, e_mTup, e_mLst, e_mN, e_mT, e_mTru, e_mAndT, e_mOrT, e_mNotT, e_mAnd, e_mOr, e_mNot, e_mIf, e_mChain, e_iSeq, e_iRange1, e_iRange2, e_oNone, e_oSome, e_mSl, e_mYes, e_mLc, e_gN, v0, vS, p0, p0o, pS, f0, f0s, f0n, fS, R.bind_ok, R.bind_err, R.bind_stuck, R.quiet_ok, O.of_ok, O.of_err, O.of_stuck, O.thn_nx, O.thn_rt, O.thn_bk, O.thn_ct, O.thn_err, fin_nx, fin_rt, fin_err, asB_b, o_add, o_addI, o_sub, o_neg, o_lt, o_le, o_gt, o_ge, o_eqI, o_neI, o_eqS, o_neS, o_inS, o_lenL, o_lenT, o_int, o_itS, o_itL, o_itT, o_truL, o_truB, o_truI, List.set_cons_zero, List.set_cons_succ, List.length_cons, List.length_nil, if_true, if_false, Bool.not_true, Bool.not_false, Bool.false_eq_true, Option.isSome_some, Option.isSome_none, Nat.reduceAdd, Nat.zero_add, decide_true, decide_false, lit_0, lit_1, lit_2, lit_3, lit_4, lit_5, lit_6, lit_7, lit_8, lit_9, lit_10, r_product wa wb la' lb', o_addS]
    rw [if_pos (by rw [hz]; omega)]
    simp -implicitDefEqProofs only [e_sCons, e_sNil, e_sBreak, e_sCont, e_sRet, e_sRetN, e_sExpr, e_sIf, e_sAsg, e_sOwn, e_sFrz, e_sRaise, e_sFor, e_loop_nil, e_mC, e_m1, e_m2, e_mF, e_mCall, e_mM1, e_aNil, e_aCons, e_aLst, e_mTup, e_mLst, e_mN, e_mT, e_mTru, e_mAndT, e_mOrT, e_mNotT, e_mAnd, e_mOr, e_mNot, e_mIf, e_mChain, e_iSeq, e_iRange1, e_iRange2, e_oNone, e_oSome, e_mSl, e_mYes, e_mLc, e_gN, v0, vS, p0, p0o, pS, f0, f0s, f0n, fS, R.bind_ok, R.bind_err, R.bind_stuck, R.quiet_ok, O.of_ok, O.of_err, O.of_stuck, O.thn_nx, O.thn_rt, O.thn_bk, O.thn_ct, O.thn_err, fin_nx, fin_rt, fin_err, asB_b, o_add, o_addI, o_sub, o_neg, o_lt, o_le, o_gt, o_ge, o_eqI, o_neI, o_eqS, o_neS, o_inS, o_lenL, o_lenT, o_int, o_itS, o_itL, o_itT, o_truL, o_truB, o_truI, List.set_cons_zero, List.set_cons_succ, List.length_cons, List.length_nil, if_true, if_false, Bool.not_true, Bool.not_false, Bool.false_eq_true, Option.isSome_some, Option.isSome_none, Nat.reduceAdd, Nat.zero_add, decide_true, decide_false, lit_0, lit_1, lit_2, lit_3, lit_4, lit_5, lit_6, lit_7, lit_8, lit_9, lit_10, r__law_reduced (app_wd wa wb) (show (a ++ b).length < 1000000 by rw [List.length_append]; omega), o_neZ, r_inverse wa la', r_product wa (invw_wd wa) la' (show (invw a).length ≤ 60 by rw [invw_len]; exact la'), red_invw wa]
  have lr : ∀ w : List Nat, (red w).length ≤ w.length := red_len
  have s8 : st_law_8 [A2 ns, I2 (1 + (gk : Int)), I2 (m : Int), some (.sh (.list [.str (S a), .str (S b), .str (S c)])), W2 a, W2 b, none, none, none, none, none, none] = .nx [A2 ns, I2 (1 + (gk : Int)), I2 (m : Int), some (.sh (.list [.str (S a), .str (S b), .str (S c)])), W2 a, W2 b, none, none, none, none, none, none] := by
    unfold st_law_8
    by_cases h : (m : Int) = 12
    · have q1 := lr (a ++ b)
      have q2 := lr (b ++ c)
      rw [List.length_append] at q1 q2
      simp -implicitDefEqProofs only [e_sCons, e_sNil, e_sBreak, e_sCont, e_sRet, e_sRetN, e_sExpr, e_sIf, e_sAsg, e_sOwn, e_sFrz, e_sRaise, e_sFor, e_loop_nil, e_mC, e_m1, e_m2, e_mF, e_mCall, e_mM1, e_aNil, e_aCons, e_aLst, e_mTup, e_mLst, e_mN, e_mT, e_mTru, e_mAndT, e_mOrT, e_mNotT, e_mAnd, e_mOr, e_mNot, e_mIf, e_mChain, e_iSeq, e_iRange1, e_iRange2, e_oNone, e_oSome, e_mSl, e_mYes, e_mLc, e_gN, v0, vS, p0, p0o, pS, f0, f0s, f0n, fS, R.bind_ok, R.bind_err, R.bind_stuck, R.quiet_ok, O.of_ok, O.of_err, O.of_stuck, O.thn_nx, O.thn_rt, O.thn_bk, O.thn_ct, O.thn_err, fin_nx, fin_rt, fin_err, asB_b, o_add, o_addI, o_sub, o_neg, o_lt, o_le, o_gt, o_ge, o_eqI, o_neI, o_eqS, o_neS, o_inS, o_lenL, o_lenT, o_int, o_itS, o_itL, o_itT, o_truL, o_truB, o_truI, List.set_cons_zero, List.set_cons_succ, List.length_cons, List.length_nil, if_true, if_false, Bool.not_true, Bool.not_false, Bool.false_eq_true, Option.isSome_some, Option.isSome_none, Nat.reduceAdd, Nat.zero_add, decide_true, decide_false, lit_0, lit_1, lit_2, lit_3, lit_4, lit_5, lit_6, lit_7, lit_8, lit_9, lit_10, decide_eq_true h, r_product wa wb la' lb', x2, r_product (red_wd (app_wd wa wb)) wc (show (red (a ++ b)).length ≤ 60 by omega) lc', r_product wb wc lb' lc', r_product wa (red_wd (app_wd wb wc)) la' (show (red (b ++ c)).length ≤ 60 by omega), red_app_l (app_wd wa wb), red_app_r wa (app_wd wb wc), List.append_assoc, o_neZ]
    · simp -implicitDefEqProofs only [e_sCons, e_sNil, e_sBreak, e_sCont, e_sRet, e_sRetN, e_sExpr, e_sIf, e_sAsg, e_sOwn, e_sFrz, e_sRaise, e_sFor, e_loop_nil, e_mC, e_m1, e_m2, e_mF, e_mCall, e_mM1, e_aNil, e_aCons, e_aLst, e_mTup, e_mLst, e_mN, e_mT, e_mTru, e_mAndT, e_mOrT, e_mNotT, e_mAnd, e_mOr, e_mNot, e_mIf, e_mChain, e_iSeq, e_iRange1, e_iRange2, e_oNone, e_oSome, e_mSl, e_mYes, e_mLc, e_gN, v0, vS, p0, p0o, pS, f0, f0s, f0n, fS, R.bind_ok, R.bind_err, R.bind_stuck, R.quiet_ok, O.of_ok, O.of_err, O.of_stuck, O.thn_nx, O.thn_rt, O.thn_bk, O.thn_ct, O.thn_err, fin_nx, fin_rt, fin_err, asB_b, o_add, o_addI, o_sub, o_neg, o_lt, o_le, o_gt, o_ge, o_eqI, o_neI, o_eqS, o_neS, o_inS, o_lenL, o_lenT, o_int, o_itS, o_itL, o_itT, o_truL, o_truB, o_truI, List.set_cons_zero, List.set_cons_succ, List.length_cons, List.length_nil, if_true, if_false, Bool.not_true, Bool.not_false, Bool.false_eq_true, Option.isSome_some, Option.isSome_none, Nat.reduceAdd, Nat.zero_add, decide_true, decide_false, lit_0, lit_1, lit_2, lit_3, lit_4, lit_5, lit_6, lit_7, lit_8, lit_9, lit_10, decide_eq_false h]
  obtain ⟨e, he1, he2, s9⟩ : ∃ e : Int, -22 ≤ e ∧ e ≤ 22 ∧ st_law_9 [A2 ns, I2 (1 + (gk : Int)), I2 (m : Int), some (.sh (.list [.str (S a), .str (S b), .str (S c)])), W2 a, W2 b, none, none, none, none, none, none] = .nx [A2 ns, I2 (1 + (gk : Int)), I2 (m : Int), some (.sh (.list [.str (S a), .str (S b), .str (S c)])), W2 a, W2 b, I2 e, none, none, none, none, none] := by
    obtain ⟨k, k1, k2⟩ := nat_of (z := cellN ns 4) (n := 45) (by decide)
    refine ⟨(k : Int) - 22, by omega, by omega, ?_⟩
    unfold st_law_9
    simp -implicitDefEqProofs only [e_sCons, e_sNil, e_sBreak, e_sCont, e_sRet, e_sRetN, e_sExpr, e_sIf, e_sAsg, e_sOwn, e_sFrz, e_sRaise, e_sFor, e_loop_nil, e_mC, e_m1, e_m2, e_mF, e_mCall, e_mM1, e_aNil, e_aCons, e_aLst, e_mTup, e_mLst, e_mN, e_mT, e_mTru, e_mAndT, e_mOrT, e_mNotT, e_mAnd, e_mOr, e_mNot, e_mIf, e_mChain, e_iSeq, e_iRange1, e_iRange2, e_oNone, e_oSome, e_mSl, e_mYes, e_mLc, e_gN, v0, vS, p0, p0o, pS, f0, f0s, f0n, fS, R.bind_ok, R.bind_err, R.bind_stuck, R.quiet_ok, O.of_ok, O.of_err, O.of_stuck, O.thn_nx, O.thn_rt, O.thn_bk, O.thn_ct, O.thn_err, fin_nx, fin_rt, fin_err, asB_b, o_add, o_addI, o_sub, o_neg, o_lt, o_le, o_gt, o_ge, o_eqI, o_neI, o_eqS, o_neS, o_inS, o_lenL, o_lenT, o_int, o_itS, o_itL, o_itT, o_truL, o_truB, o_truI, List.set_cons_zero, List.set_cons_succ, List.length_cons, List.length_nil, if_true, if_false, Bool.not_true, Bool.not_false, Bool.false_eq_true, Option.isSome_some, Option.isSome_none, Nat.reduceAdd, Nat.zero_add, decide_true, decide_false, lit_0, lit_1, lit_2, lit_3, lit_4, lit_5, lit_6, lit_7, lit_8, lit_9, lit_10, c4, o_mod (show (0 : Int) < 45 by decide), k1]
  have s10 : st_law_10 [A2 ns, I2 (1 + (gk : Int)), I2 (m : Int), some (.sh (.list [.str (S a), .str (S b), .str (S c)])), W2 a, W2 b, I2 e, none, none, none, none, none] = .nx [A2 ns, I2 (1 + (gk : Int)), I2 (m : Int), some (.sh (.list [.str (S a), .str (S b), .str (S c)])), W2 a, W2 b, I2 e, W2 [110, 117, 109, 98, 101, 114], none, none, none, none] := by
    unfold st_law_10
    simp -implicitDefEqProofs only [e_sCons, e_sNil, e_sBreak, e_sCont, e_sRet, e_sRetN, e_sExpr, e_sIf, e_sAsg, e_sOwn, e_sFrz, e_sRaise, e_sFor, e_loop_nil, e_mC, e_m1, e_m2, e_mF, e_mCall, e_mM1, e_aNil, e_aCons, e_aLst, e_mTup, e_mLst, e_mN, e_mT, e_mTru, e_mAndT, e_mOrT, e_mNotT, e_mAnd, e_mOr, e_mNot, e_mIf, e_mChain, e_iSeq, e_iRange1, e_iRange2, e_oNone, e_oSome, e_mSl, e_mYes, e_mLc, e_gN, v0, vS, p0, p0o, pS, f0, f0s, f0n, fS, R.bind_ok, R.bind_err, R.bind_stuck, R.quiet_ok, O.of_ok, O.of_err, O.of_stuck, O.thn_nx, O.thn_rt, O.thn_bk, O.thn_ct, O.thn_err, fin_nx, fin_rt, fin_err, asB_b, o_add, o_addI, o_sub, o_neg, o_lt, o_le, o_gt, o_ge, o_eqI, o_neI, o_eqS, o_neS, o_inS, o_lenL, o_lenT, o_int, o_itS, o_itL, o_itT, o_truL, o_truB, o_truI, List.set_cons_zero, List.set_cons_succ, List.length_cons, List.length_nil, if_true, if_false, Bool.not_true, Bool.not_false, Bool.false_eq_true, Option.isSome_some, Option.isSome_none, Nat.reduceAdd, Nat.zero_add, decide_true, decide_false, lit_0, lit_1, lit_2, lit_3, lit_4, lit_5, lit_6, lit_7, lit_8, lit_9, lit_10]
  obtain ⟨due, s11, s12⟩ : ∃ due : Str, st_law_11 [A2 ns, I2 (1 + (gk : Int)), I2 (m : Int), some (.sh (.list [.str (S a), .str (S b), .str (S c)])), W2 a, W2 b, I2 e, W2 [110, 117, 109, 98, 101, 114], none, none, none, none] = .nx [A2 ns, I2 (1 + (gk : Int)), I2 (m : Int), some (.sh (.list [.str (S a), .str (S b), .str (S c)])), W2 a, W2 b, I2 e, some (.sh (.str due)), none, none, none, none] ∧
      st_law_12 [A2 ns, I2 (1 + (gk : Int)), I2 (m : Int), some (.sh (.list [.str (S a), .str (S b), .str (S c)])), W2 a, W2 b, I2 e, some (.sh (.str due)), none, none, none, none] = .nx [A2 ns, I2 (1 + (gk : Int)), I2 (m : Int), some (.sh (.list [.str (S a), .str (S b), .str (S c)])), W2 a, W2 b, I2 e, some (.sh (.str due)), none, none, none, none] := by
    unfold st_law_11 st_law_12
    by_cases h : -20 ≤ e ∧ e ≤ 20
    · refine ⟨S (pw e a), ?_, ?_⟩
      · simp -implicitDefEqProofs only [e_sCons, e_sNil, e_sBreak, e_sCont, e_sRet, e_sRetN, e_sExpr, e_sIf, e_sAsg, e_sOwn, e_sFrz, e_sRaise, e_sFor, e_loop_nil, e_mC, e_m1, e_m2, e_mF, e_mCall, e_mM1, e_aNil, e_aCons, e_aLst, e_mTup, e_mLst, e_mN, e_mT, e_mTru, e_mAndT, e_mOrT, e_mNotT, e_mAnd, e_mOr, e_mNot, e_mIf, e_mChain, e_iSeq, e_iRange1, e_iRange2, e_oNone, e_oSome, e_mSl, e_mYes, e_mLc, e_gN, v0, vS, p0, p0o, pS, f0, f0s, f0n, fS, R.bind_ok, R.bind_err, R.bind_stuck, R.quiet_ok, O.of_ok, O.of_err, O.of_stuck, O.thn_nx, O.thn_rt, O.thn_bk, O.thn_ct, O.thn_err, fin_nx, fin_rt, fin_err, asB_b, o_add, o_addI, o_sub, o_neg, o_lt, o_le, o_gt, o_ge, o_eqI, o_neI, o_eqS, o_neS, o_inS, o_lenL, o_lenT, o_int, o_itS, o_itL, o_itT, o_truL, o_truB, o_truI, List.set_cons_zero, List.set_cons_succ, List.length_cons, List.length_nil, if_true, if_false, Bool.not_true, Bool.not_false, Bool.false_eq_true, Option.isSome_some, Option.isSome_none, Nat.reduceAdd, Nat.zero_add, decide_true, decide_false, lit_0, lit_1, lit_2, lit_3, lit_4, lit_5, lit_6, lit_7, lit_8, lit_9, lit_10, decide_eq_true h.1, decide_eq_true h.2, r__law_power wa la' h.1 h.2]
      · simp -implicitDefEqProofs only [e_sCons, e_sNil, e_sBreak, e_sCont, e_sRet, e_sRetN, e_sExpr, e_sIf, e_sAsg, e_sOwn, e_sFrz, e_sRaise, e_sFor, e_loop_nil, e_mC, e_m1, e_m2, e_mF, e_mCall, e_mM1, e_aNil, e_aCons, e_aLst, e_mTup, e_mLst, e_mN, e_mT, e_mTru, e_mAndT, e_mOrT, e_mNotT, e_mAnd, e_mOr, e_mNot, e_mIf, e_mChain, e_iSeq, e_iRange1, e_iRange2, e_oNone, e_oSome, e_mSl, e_mYes, e_mLc, e_gN, v0, vS, p0, p0o, pS, f0, f0s, f0n, fS, R.bind_ok, R.bind_err, R.bind_stuck, R.quiet_ok, O.of_ok, O.of_err, O.of_stuck, O.thn_nx, O.thn_rt, O.thn_bk, O.thn_ct, O.thn_err, fin_nx, fin_rt, fin_err, asB_b, o_add, o_addI, o_sub, o_neg, o_lt, o_le, o_gt, o_ge, o_eqI, o_neI, o_eqS, o_neS, o_inS, o_lenL, o_lenT, o_int, o_itS, o_itL, o_itT, o_truL, o_truB, o_truI, List.set_cons_zero, List.set_cons_succ, List.length_cons, List.length_nil, if_true, if_false, Bool.not_true, Bool.not_false, Bool.false_eq_true, Option.isSome_some, Option.isSome_none, Nat.reduceAdd, Nat.zero_add, decide_true, decide_false, lit_0, lit_1, lit_2, lit_3, lit_4, lit_5, lit_6, lit_7, lit_8, lit_9, lit_10, told_pow (r_power wa la' h.1 h.2), o_neZ]
    · refine ⟨S [110, 117, 109, 98, 101, 114], ?_, ?_⟩
      · by_cases h1 : -20 ≤ e
        · simp -implicitDefEqProofs only [e_sCons, e_sNil, e_sBreak, e_sCont, e_sRet, e_sRetN, e_sExpr, e_sIf, e_sAsg, e_sOwn, e_sFrz, e_sRaise, e_sFor, e_loop_nil, e_mC, e_m1, e_m2, e_mF, e_mCall, e_mM1, e_aNil, e_aCons, e_aLst, e_mTup, e_mLst, e_mN, e_mT, e_mTru, e_mAndT, e_mOrT, e_mNotT, e_mAnd, e_mOr, e_mNot, e_mIf, e_mChain, e_iSeq, e_iRange1, e_iRange2, e_oNone, e_oSome, e_mSl, e_mYes, e_mLc, e_gN, v0, vS, p0, p0o, pS, f0, f0s, f0n, fS, R.bind_ok, R.bind_err, R.bind_stuck, R.quiet_ok, O.of_ok, O.of_err, O.of_stuck, O.thn_nx, O.thn_rt, O.thn_bk, O.thn_ct, O.thn_err, fin_nx, fin_rt, fin_err, asB_b, o_add, o_addI, o_sub, o_neg, o_lt, o_le, o_gt, o_ge, o_eqI, o_neI, o_eqS, o_neS, o_inS, o_lenL, o_lenT, o_int, o_itS, o_itL, o_itT, o_truL, o_truB, o_truI, List.set_cons_zero, List.set_cons_succ, List.length_cons, List.length_nil, if_true, if_false, Bool.not_true, Bool.not_false, Bool.false_eq_true, Option.isSome_some, Option.isSome_none, Nat.reduceAdd, Nat.zero_add, decide_true, decide_false, lit_0, lit_1, lit_2, lit_3, lit_4, lit_5, lit_6, lit_7, lit_8, lit_9, lit_10, decide_eq_true h1, decide_eq_false (show ¬ e ≤ 20 by omega)]
        · simp -implicitDefEqProofs only [e_sCons, e_sNil, e_sBreak, e_sCont, e_sRet, e_sRetN, e_sExpr, e_sIf, e_sAsg, e_sOwn, e_sFrz, e_sRaise, e_sFor, e_loop_nil, e_mC, e_m1, e_m2, e_mF, e_mCall, e_mM1, e_aNil, e_aCons, e_aLst, e_mTup, e_mLst, e_mN, e_mT, e_mTru, e_mAndT, e_mOrT, e_mNotT, e_mAnd, e_mOr, e_mNot, e_mIf, e_mChain, e_iSeq, e_iRange1, e_iRange2, e_oNone, e_oSome, e_mSl, e_mYes, e_mLc, e_gN, v0, vS, p0, p0o, pS, f0, f0s, f0n, fS, R.bind_ok, R.bind_err, R.bind_stuck, R.quiet_ok, O.of_ok, O.of_err, O.of_stuck, O.thn_nx, O.thn_rt, O.thn_bk, O.thn_ct, O.thn_err, fin_nx, fin_rt, fin_err, asB_b, o_add, o_addI, o_sub, o_neg, o_lt, o_le, o_gt, o_ge, o_eqI, o_neI, o_eqS, o_neS, o_inS, o_lenL, o_lenT, o_int, o_itS, o_itL, o_itT, o_truL, o_truB, o_truI, List.set_cons_zero, List.set_cons_succ, List.length_cons, List.length_nil, if_true, if_false, Bool.not_true, Bool.not_false, Bool.false_eq_true, Option.isSome_some, Option.isSome_none, Nat.reduceAdd, Nat.zero_add, decide_true, decide_false, lit_0, lit_1, lit_2, lit_3, lit_4, lit_5, lit_6, lit_7, lit_8, lit_9, lit_10, decide_eq_false h1]
      · simp -implicitDefEqProofs only [e_sCons, e_sNil, e_sBreak, e_sCont, e_sRet, e_sRetN, e_sExpr, e_sIf, e_sAsg, e_sOwn, e_sFrz, e_sRaise, e_sFor, e_loop_nil, e_mC, e_m1, e_m2, e_mF, e_mCall, e_mM1, e_aNil, e_aCons, e_aLst, e_mTup, e_mLst, e_mN, e_mT, e_mTru, e_mAndT, e_mOrT, e_mNotT, e_mAnd, e_mOr, e_mNot, e_mIf, e_mChain, e_iSeq, e_iRange1, e_iRange2, e_oNone, e_oSome, e_mSl, e_mYes, e_mLc, e_gN, v0, vS, p0, p0o, pS, f0, f0s, f0n, fS, R.bind_ok, R.bind_err, R.bind_stuck, R.quiet_ok, O.of_ok, O.of_err, O.of_stuck, O.thn_nx, O.thn_rt, O.thn_bk, O.thn_ct, O.thn_err, fin_nx, fin_rt, fin_err, asB_b, o_add, o_addI, o_sub, o_neg, o_lt, o_le, o_gt, o_ge, o_eqI, o_neI, o_eqS, o_neS, o_inS, o_lenL, o_lenT, o_int, o_itS, o_itL, o_itT, o_truL, o_truB, o_truI, List.set_cons_zero, List.set_cons_succ, List.length_cons, List.length_nil, if_true, if_false, Bool.not_true, Bool.not_false, Bool.false_eq_true, Option.isSome_some, Option.isSome_none, Nat.reduceAdd, Nat.zero_add, decide_true, decide_false, lit_0, lit_1, lit_2, lit_3, lit_4, lit_5, lit_6, lit_7, lit_8, lit_9, lit_10, told_pow_n (r_power_num (e := e) wa la' (by omega)), o_neZ]
  obtain ⟨p, hp1, hp2⟩ := nat_of (z := cellN ns 5) (n := 3) (by decide)
  obtain ⟨q, hq1, hq2⟩ := nat_of (z := cellN ns 6) (n := 3) (by decide)
  have s13 : st_law_13 [A2 ns, I2 (1 + (gk : Int)), I2 (m : Int), some (.sh (.list [.str (S a), .str (S b), .str (S c)])), W2 a, W2 b, I2 e, some (.sh (.str due)), none, none, none, none] = .nx [A2 ns, I2 (1 + (gk : Int)), I2 (m : Int), some (.sh (.list [.str (S a), .str (S b), .str (S c)])), W2 a, W2 b, I2 e, some (.sh (.str due)), I2 (p : Int), none, none, none] := by
    unfold st_law_13
    simp -implicitDefEqProofs only [e_sCons, e_sNil, e_sBreak, e_sCont, e_sRet, e_sRetN, e_sExpr, e_sIf, e_sAsg, e_sOwn, e_sFrz, e_sRaise, e_sFor, e_loop_nil, e_mC, e_m1, e_m2, e_mF, e_mCall, e_mM1, e_aNil, e_aCons, e_aLst, e_mTup, e_mLst, e_mN, e_mT, e_mTru, e_mAndT, e_mOrT, e_mNotT, e_mAnd, e_mOr, e_mNot, e_mIf, e_mChain, e_iSeq, e_iRange1, e_iRange2, e_oNone, e_oSome, e_mSl, e_mYes, e_mLc, e_gN, v0, vS, p0, p0o, pS, f0, f0s, f0n, fS, R.bind_ok, R.bind_err, R.bind_stuck, R.quiet_ok, O.of_ok, O.of_err, O.of_stuck, O.thn_nx, O.thn_rt, O.thn_bk, O.thn_ct, O.thn_err, fin_nx, fin_rt, fin_err, asB_b, o_add, o_addI, o_sub, o_neg, o_lt, o_le, o_gt, o_ge, o_eqI, o_neI, o_eqS, o_neS, o_inS, o_lenL, o_lenT, o_int, o_itS, o_itL, o_itT, o_truL, o_truB, o_truI, List.set_cons_zero, List.set_cons_succ, List.length_cons, List.length_nil, if_true, if_false, Bool.not_true, Bool.not_false, Bool.false_eq_true, Option.isSome_some, Option.isSome_none, Nat.reduceAdd, Nat.zero_add, decide_true, decide_false, lit_0, lit_1, lit_2, lit_3, lit_4, lit_5, lit_6, lit_7, lit_8, lit_9, lit_10, c5, o_mod (show (0 : Int) < 3 by decide), hp1]
  have s14 : st_law_14 [A2 ns, I2 (1 + (gk : Int)), I2 (m : Int), some (.sh (.list [.str (S a), .str (S b), .str (S c)])), W2 a, W2 b, I2 e, some (.sh (.str due)), I2 (p : Int), none, none, none] = .nx [A2 ns, I2 (1 + (gk : Int)), I2 (m : Int), some (.sh (.list [.str (S a), .str (S b), .str (S c)])), W2 a, W2 b, I2 e, some (.sh (.str due)), I2 (p : Int), I2 (q : Int), none, none] := by
    unfold st_law_14
    simp -implicitDefEqProofs only [e_sCons, e_sNil, e_sBreak, e_sCont, e_sRet, e_sRetN, e_sExpr, e_sIf, e_sAsg, e_sOwn, e_sFrz, e_sRaise, e_sFor, e_loop_nil, e_mC, e_m1, e_m2, e_mF, e_mCall, e_mM1, e_aNil, e_aCons, e_aLst, e_mTup, e_mLst, e_mN, e_mT, e_mTru, e_mAndT, e_mOrT, e_mNotT, e_mAnd, e_mOr, e_mNot, e_mIf, e_mChain, e_iSeq, e_iRange1, e_iRange2, e_oNone, e_oSome, e_mSl, e_mYes, e_mLc, e_gN, v0, vS, p0, p0o, pS, f0, f0s, f0n, fS, R.bind_ok, R.bind_err, R.bind_stuck, R.quiet_ok, O.of_ok, O.of_err, O.of_stuck, O.thn_nx, O.thn_rt, O.thn_bk, O.thn_ct, O.thn_err, fin_nx, fin_rt, fin_err, asB_b, o_add, o_addI, o_sub, o_neg, o_lt, o_le, o_gt, o_ge, o_eqI, o_neI, o_eqS, o_neS, o_inS, o_lenL, o_lenT, o_int, o_itS, o_itL, o_itT, o_truL, o_truB, o_truI, List.set_cons_zero, List.set_cons_succ, List.length_cons, List.length_nil, if_true, if_false, Bool.not_true, Bool.not_false, Bool.false_eq_true, Option.isSome_some, Option.isSome_none, Nat.reduceAdd, Nat.zero_add, decide_true, decide_false, lit_0, lit_1, lit_2, lit_3, lit_4, lit_5, lit_6, lit_7, lit_8, lit_9, lit_10, c6, o_mod (show (0 : Int) < 3 by decide), hq1]
  have s15 : st_law_15 [A2 ns, I2 (1 + (gk : Int)), I2 (m : Int), some (.sh (.list [.str (S a), .str (S b), .str (S c)])), W2 a, W2 b, I2 e, some (.sh (.str due)), I2 (p : Int), I2 (q : Int), none, none] = .nx [A2 ns, I2 (1 + (gk : Int)), I2 (m : Int), some (.sh (.list [.str (S a), .str (S b), .str (S c)])), W2 a, W2 b, I2 e, some (.sh (.str due)), I2 (p : Int), I2 (q : Int), none, none] := by
    unfold st_law_15
    by_cases h : (m : Int) = 12
    · have len : ∀ n : Nat, n < 3 → (pw (n : Int) a).length ≤ 60 := fun n hn => by
        rw [pw_nat]
        have := lr (repL n a)
        rw [repL_len] at this
        have : n * a.length ≤ 2 * 12 := Nat.mul_le_mul (by omega) (by omega)
        omega
      simp -implicitDefEqProofs only [e_sCons, e_sNil, e_sBreak, e_sCont, e_sRet, e_sRetN, e_sExpr, e_sIf, e_sAsg, e_sOwn, e_sFrz, e_sRaise, e_sFor, e_loop_nil, e_mC, e_m1, e_m2, e_mF, e_mCall, e_mM1, e_aNil, e_aCons, e_aLst, e_mTup, e_mLst, e_mN, e_mT, e_mTru, e_mAndT, e_mOrT, e_mNotT, e_mAnd, e_mOr, e_mNot, e_mIf, e_mChain, e_iSeq, e_iRange1, e_iRange2, e_oNone, e_oSome, e_mSl, e_mYes, e_mLc, e_gN, v0, vS, p0, p0o, pS, f0, f0s, f0n, fS, R.bind_ok, R.bind_err, R.bind_stuck, R.quiet_ok, O.of_ok, O.of_err, O.of_stuck, O.thn_nx, O.thn_rt, O.thn_bk, O.thn_ct, O.thn_err, fin_nx, fin_rt, fin_err, asB_b, o_add, o_addI, o_sub, o_neg, o_lt, o_le, o_gt, o_ge, o_eqI, o_neI, o_eqS, o_neS, o_inS, o_lenL, o_lenT, o_int, o_itS, o_itL, o_itT, o_truL, o_truB, o_truI, List.set_cons_zero, List.set_cons_succ, List.length_cons, List.length_nil, if_true, if_false, Bool.not_true, Bool.not_false, Bool.false_eq_true, Option.isSome_some, Option.isSome_none, Nat.reduceAdd, Nat.zero_add, decide_true, decide_false, lit_0, lit_1, lit_2, lit_3, lit_4, lit_5, lit_6, lit_7, lit_8, lit_9, lit_10, decide_eq_true h, r_power wa la' (show -20 ≤ (p : Int) by omega) (show (p : Int) ≤ 20 by omega), r_power wa la' (show -20 ≤ (q : Int) by omega) (show (q : Int) ≤ 20 by omega), r_product (pw_wd (e := (p : Int)) wa) (pw_wd (e := (q : Int)) wa) (len p (by omega)) (len q (by omega)), pw_add wa, r_power wa la' (show -20 ≤ (p : Int) + (q : Int) by omega) (show (p : Int) + (q : Int) ≤ 20 by omega), o_neZ]
    · simp -implicitDefEqProofs only [e_sCons, e_sNil, e_sBreak, e_sCont, e_sRet, e_sRetN, e_sExpr, e_sIf, e_sAsg, e_sOwn, e_sFrz, e_sRaise, e_sFor, e_loop_nil, e_mC, e_m1, e_m2, e_mF, e_mCall, e_mM1, e_aNil, e_aCons, e_aLst, e_mTup, e_mLst, e_mN, e_mT, e_mTru, e_mAndT, e_mOrT, e_mNotT, e_mAnd, e_mOr, e_mNot, e_mIf, e_mChain, e_iSeq, e_iRange1, e_iRange2, e_oNone, e_oSome, e_mSl, e_mYes, e_mLc, e_gN, v0, vS, p0, p0o, pS, f0, f0s, f0n, fS, R.bind_ok, R.bind_err, R.bind_stuck, R.quiet_ok, O.of_ok, O.of_err, O.of_stuck, O.thn_nx, O.thn_rt, O.thn_bk, O.thn_ct, O.thn_err, fin_nx, fin_rt, fin_err, asB_b, o_add, o_addI, o_sub, o_neg, o_lt, o_le, o_gt, o_ge, o_eqI, o_neI, o_eqS, o_neS, o_inS, o_lenL, o_lenT, o_int, o_itS, o_itL, o_itT, o_truL, o_truB, o_truI, List.set_cons_zero, List.set_cons_succ, List.length_cons, List.length_nil, if_true, if_false, Bool.not_true, Bool.not_false, Bool.false_eq_true, Option.isSome_some, Option.isSome_none, Nat.reduceAdd, Nat.zero_add, decide_true, decide_false, lit_0, lit_1, lit_2, lit_3, lit_4, lit_5, lit_6, lit_7, lit_8, lit_9, lit_10, decide_eq_false h]
  have lo1 : okw 3 (repL 31 [97, 98]) = false ∨ 60 < (repL 31 [97, 98]).length := .inr (by decide +kernel)
  have lo2 : (repL 31 [97, 98]).length ≤ 1000000 := by decide +kernel
  have s16 : st_law_16 [A2 ns, I2 (1 + (gk : Int)), I2 (m : Int), some (.sh (.list [.str (S a), .str (S b), .str (S c)])), W2 a, W2 b, I2 e, some (.sh (.str due)), I2 (p : Int), I2 (q : Int), none, none] = .nx [A2 ns, I2 (1 + (gk : Int)), I2 (m : Int), some (.sh (.list [.str (S a), .str (S b), .str (S c)])), W2 a, W2 b, I2 e, some (.sh (.str due)), I2 (p : Int), I2 (q : Int), W2 (repL 31 [97, 98]), none] := by
    unfold st_law_16
    have em : dMul (.str (S [97, 98])) (.int 31) = .ok (.str (S (repL 31 [97, 98]))) := o_mulT (by decide)
    simp -implicitDefEqProofs only [e_sCons, e_sNil, e_sBreak, e_sCont, e_sRet, e_sRetN, e_sExpr, e_sIf, e_sAsg, e_sOwn, e_sFrz, e_sRaise, e_sFor, e_loop_nil, e_mC, e_m1, e_m2, e_mF, e_mCall, e_mM1, e_aNil, e_aCons, e_aLst, e_mTup, e_mLst, e_mN, e_mT, e_mTru, e_mAndT, e_mOrT, e_mNotT, e_mAnd, e_mOr, e_mNot, e_mIf, e_mChain, e_iSeq, e_iRange1, e_iRange2, e_oNone, e_oSome, e_mSl, e_mYes, e_mLc, e_gN, v0, vS, p0, p0o, pS, f0, f0s, f0n, fS, R.bind_ok, R.bind_err, R.bind_stuck, R.quiet_ok, O.of_ok, O.of_err, O.of_stuck, O.thn_nx, O.thn_rt, O.thn_bk, O.thn_ct, O.thn_err, fin_nx, fin_rt, fin_err, asB_b, o_add, o_addI, o_sub, o_neg, o_lt, o_le, o_gt, o_ge, o_eqI, o_neI, o_eqS, o_neS, o_inS, o_lenL, o_lenT, o_int, o_itS, o_itL, o_itT, o_truL, o_truB, o_truI, List.set_cons_zero, List.set_cons_succ, List.length_cons, List.length_nil, if_true, if_false, Bool.not_true, Bool.not_false, Bool.false_eq_true, Option.isSome_some, Option.isSome_none, Nat.reduceAdd, Nat.zero_add, decide_true, decide_false, lit_0, lit_1, lit_2, lit_3, lit_4, lit_5, lit_6, lit_7, lit_8, lit_9, lit_10, em]
  have s17 : st_law_17 [A2 ns, I2 (1 + (gk : Int)), I2 (m : Int), some (.sh (.list [.str (S a), .str (S b), .str (S c)])), W2 a, W2 b, I2 e, some (.sh (.str due)), I2 (p : Int), I2 (q : Int), W2 (repL 31 [97, 98]), none] = .nx [A2 ns, I2 (1 + (gk : Int)), I2 (m : Int), some (.sh (.list [.str (S a), .str (S b), .str (S c)])), W2 a, W2 b, I2 e, some (.sh (.str due)), I2 (p : Int), I2 (q : Int), W2 (repL 31 [97, 98]), none] := by
    unfold st_law_17
    have t1 : m__law_told [.int 0, .str (S (repL 31 [97, 98])), .str (S b)] = .ok (.str "word") := told_prod (r_product_bad1 lo2 lo1)
    have t2 : m__law_told [.int 0, .str (S a), .str (S (repL 31 [97, 98]))] = .ok (.str "word") := told_prod (r_product_bad2 wa la' lo2 lo1)
    have t3 : m__law_told [.int 1, .str (S (repL 31 [97, 98])), .int 99] = .ok (.str "word") := told_pow_w (r_power_bad lo2 lo1)
    simp -implicitDefEqProofs only [e_sCons, e_sNil, e_sBreak, e_sCont, e_sRet, e_sRetN, e_sExpr, e_sIf, e_sAsg, e_sOwn, e_sFrz, e_sRaise, e_sFor, e_loop_nil, e_mC, e_m1, e_m2, e_mF, e_mCall, e_mM1, e_aNil, e_aCons, e_aLst, e_mTup, e_mLst, e_mN, e_mT, e_mTru, e_mAndT, e_mOrT, e_mNotT, e_mAnd, e_mOr, e_mNot, e_mIf, e_mChain, e_iSeq, e_iRange1, e_iRange2, e_oNone, e_oSome, e_mSl, e_mYes, e_mLc, e_gN, v0, vS, p0, p0o, pS, f0, f0s, f0n, fS, R.bind_ok, R.bind_err, R.bind_stuck, R.quiet_ok, O.of_ok, O.of_err, O.of_stuck, O.thn_nx, O.thn_rt, O.thn_bk, O.thn_ct, O.thn_err, fin_nx, fin_rt, fin_err, asB_b, o_add, o_addI, o_sub, o_neg, o_lt, o_le, o_gt, o_ge, o_eqI, o_neI, o_eqS, o_neS, o_inS, o_lenL, o_lenT, o_int, o_itS, o_itL, o_itT, o_truL, o_truB, o_truI, List.set_cons_zero, List.set_cons_succ, List.length_cons, List.length_nil, if_true, if_false, Bool.not_true, Bool.not_false, Bool.false_eq_true, Option.isSome_some, Option.isSome_none, Nat.reduceAdd, Nat.zero_add, decide_true, decide_false, lit_0, lit_1, lit_2, lit_3, lit_4, lit_5, lit_6, lit_7, lit_8, lit_9, lit_10, t1, t2, t3, o_neZ]
  have s18 : st_law_18 [A2 ns, I2 (1 + (gk : Int)), I2 (m : Int), some (.sh (.list [.str (S a), .str (S b), .str (S c)])), W2 a, W2 b, I2 e, some (.sh (.str due)), I2 (p : Int), I2 (q : Int), W2 (repL 31 [97, 98]), none] = .rt (.bool true) := by
    unfold st_law_18
    have e1 : m_power [.str (S a), .int 1] = .ok (.str (S (red a))) := by rw [r_power wa la' (by decide) (by decide), pw_one]
    have e0 : m_power [.str (S a), .int 0] = .ok (.str (S [])) := by rw [r_power wa la' (by decide) (by decide), pw_zero]
    simp -implicitDefEqProofs only [e_sCons, e_sNil, e_sBreak, e_sCont, e_sRet, e_sRetN, e_sExpr, e_sIf, e_sAsg, e_sOwn, e_sFrz, e_sRaise, e_sFor, e_loop_nil, e_mC, e_m1, e_m2, e_mF, e_mCall, e_mM1, e_aNil, e_aCons, e_aLst, e_mTup, e_mLst, e_mN, e_mT, e_mTru, e_mAndT, e_mOrT, e_mNotT, e_mAnd, e_mOr, e_mNot, e_mIf, e_mChain, e_iSeq, e_iRange1, e_iRange2, e_oNone, e_oSome, e_mSl, e_mYes, e_mLc, e_gN, v0, vS, p0, p0o, pS, f0, f0s, f0n, fS, R.bind_ok, R.bind_err, R.bind_stuck, R.quiet_ok, O.of_ok, O.of_err, O.of_stuck, O.thn_nx, O.thn_rt, O.thn_bk, O.thn_ct, O.thn_err, fin_nx, fin_rt, fin_err, asB_b, o_add, o_addI, o_sub, o_neg, o_lt, o_le, o_gt, o_ge, o_eqI, o_neI, o_eqS, o_neS, o_inS, o_lenL, o_lenT, o_int, o_itS, o_itL, o_itT, o_truL, o_truB, o_truI, List.set_cons_zero, List.set_cons_succ, List.length_cons, List.length_nil, if_true, if_false, Bool.not_true, Bool.not_false, Bool.false_eq_true, Option.isSome_some, Option.isSome_none, Nat.reduceAdd, Nat.zero_add, decide_true, decide_false, lit_0, lit_1, lit_2, lit_3, lit_4, lit_5, lit_6, lit_7, lit_8, lit_9, lit_10, r_reduced wa la', e1, e0, decide_eq_true (show red a = red a by rfl)]
  unfold b_law
  simp -implicitDefEqProofs only [e_sCons, e_sNil, e_sBreak, e_sCont, e_sRet, e_sRetN, e_sExpr, e_sIf, e_sAsg, e_sOwn, e_sFrz, e_sRaise, e_sFor, e_loop_nil, e_mC, e_m1, e_m2, e_mF, e_mCall, e_mM1, e_aNil, e_aCons, e_aLst, e_mTup, e_mLst, e_mN, e_mT, e_mTru, e_mAndT, e_mOrT, e_mNotT, e_mAnd, e_mOr, e_mNot, e_mIf, e_mChain, e_iSeq, e_iRange1, e_iRange2, e_oNone, e_oSome, e_mSl, e_mYes, e_mLc, e_gN, v0, vS, p0, p0o, pS, f0, f0s, f0n, fS, R.bind_ok, R.bind_err, R.bind_stuck, R.quiet_ok, O.of_ok, O.of_err, O.of_stuck, O.thn_nx, O.thn_rt, O.thn_bk, O.thn_ct, O.thn_err, fin_nx, fin_rt, fin_err, asB_b, o_add, o_addI, o_sub, o_neg, o_lt, o_le, o_gt, o_ge, o_eqI, o_neI, o_eqS, o_neS, o_inS, o_lenL, o_lenT, o_int, o_itS, o_itL, o_itT, o_truL, o_truB, o_truI, List.set_cons_zero, List.set_cons_succ, List.length_cons, List.length_nil, if_true, if_false, Bool.not_true, Bool.not_false, Bool.false_eq_true, Option.isSome_some, Option.isSome_none, Nat.reduceAdd, Nat.zero_add, decide_true, decide_false, lit_0, lit_1, lit_2, lit_3, lit_4, lit_5, lit_6, lit_7, lit_8, lit_9, lit_10, s1, s2, s3, s4, s5, s6, s7, s8, s9, s10, s11, s12, s13, s14, s15, s16, s17, s18]

end Law
open PySem PySem.W PyProof.Rows
set_option maxHeartbeats 0 in
theorem PySem.Challenge.cw_cayleywalk_k02_products_and_powers_holds : PySem.Challenge.rw_cayleywalk_k02_products_and_powers.Holds := by
  w_on; o_law; k_head; (case hw => w_witness2)
  k_fill
  refine L2.walk_ofB (l := PySem.Challenge.rw_cayleywalk_k02_products_and_powers) (n := 63) (k := 6) (x := "script") (CX := fun w => L2.CX PySem.Challenge.rw_cayleywalk_k02_products_and_powers.prog w) (sp := fun w => DW.spLaw _ Law.m_law) rfl (by decide) rfl ⟨rfl, by decide, by decide⟩ (fun w h Y => PySem.W.kIn_of Y) ?F (fun w H a ns hl hb _ hS => ⟨a, ns, rfl, hS, Law.law_true ns hl hb, fun _ => rfl⟩) (fun _ _ _ _ _ h => DW.cx_never h)
  case F =>
    intro w mg fa h KX G hmg
    refine' Law.all_mk KX G hmg ?a__law_values ?l__law_values ?cc__law_values ?kk__law_values ?a__law_word ?l__law_word ?cc__law_word ?kk__law_word ?a__law_reduced ?l__law_reduced ?cc__law_reduced ?kk__law_reduced ?a__law_inverse ?l__law_inverse ?cc__law_inverse ?kk__law_inverse ?a__law_power ?l__law_power ?cc__law_power ?kk__law_power ?a_letters_of ?l_letters_of ?cc_letters_of ?kk_letters_of ?a_is_word ?l_is_word ?cc_is_word ?kk_is_word ?a_check_word ?l_check_word ?cc_check_word ?kk_check_word ?a_inverse_letter ?l_inverse_letter ?cc_inverse_letter ?kk_inverse_letter ?a_cancelled ?l_cancelled ?cc_cancelled ?kk_cancelled ?a_flipped ?l_flipped ?cc_flipped ?kk_flipped ?a_power ?l_power ?cc_power ?kk_power ?a_product ?l_product ?cc_product ?kk_product ?a__law_told ?l__law_told ?cc__law_told ?kk__law_told ?a__law_cell ?l__law_cell ?cc__law_cell ?kk__law_cell ?a_reduced ?l_reduced ?cc_reduced ?kk_reduced ?a_inverse ?l_inverse ?cc_inverse ?kk_inverse ?a_law ?l_law ?cc_law ?kk_law ?z_range ?z_int ?z_len ?v_MOST_GENERATORS ?e_BadNumber ?ex_BadNumber ?ek_BadNumber ?eb_BadNumber ?et_BadNumber ?v_LETTERS ?z_all ?e_NotWord ?ex_NotWord ?ek_NotWord ?eb_NotWord ?et_NotWord ?v_MOST_LETTERS ?v_MOST_EXPONENT ?eh_BadNumber ?es_BadNumber_BadNumber ?es_NotWord_BadNumber ?eh_NotWord ?es_BadNumber_NotWord ?es_NotWord_NotWord ?g_INVERSES ?tl_INVERSES ?tk_INVERSES ?tw_INVERSES ?tt_INVERSES
    (case a__law_values => k_is); (case l__law_values => k_is); (case cc__law_values => k_is); (case kk__law_values => k_is); (case a__law_word => k_is); (case l__law_word => k_is); (case cc__law_word => k_is); (case kk__law_word => k_is); (case a__law_reduced => k_is); (case l__law_reduced => k_is); (case cc__law_reduced => k_is); (case kk__law_reduced => k_is); (case a__law_inverse => k_is); (case l__law_inverse => k_is); (case cc__law_inverse => k_is); (case kk__law_inverse => k_is); (case a__law_power => k_is); (case l__law_power => k_is); (case cc__law_power => k_is); (case kk__law_power => k_is); (case a_letters_of => k_is); (case l_letters_of => k_is); (case cc_letters_of => k_is); (case kk_letters_of => k_is); (case a_is_word => k_is); (case l_is_word => k_is); (case cc_is_word => k_is); (case kk_is_word => k_is); (case a_check_word => k_is); (case l_check_word => k_is); (case cc_check_word => k_is); (case kk_check_word => k_is); (case a_inverse_letter => k_is); (case l_inverse_letter => k_is); (case cc_inverse_letter => k_is); (case kk_inverse_letter => k_is); (case a_cancelled => k_is); (case l_cancelled => k_is); (case cc_cancelled => k_is); (case kk_cancelled => k_is); (case a_flipped => k_is); (case l_flipped => k_is); (case cc_flipped => k_is); (case kk_flipped => k_is); (case a_power => k_is); (case l_power => k_is); (case cc_power => k_is); (case kk_power => k_is); (case a_product => k_is); (case l_product => k_is); (case cc_product => k_is); (case kk_product => k_is); (case a__law_told => k_is); (case l__law_told => k_is); (case cc__law_told => k_is); (case kk__law_told => k_is); (case a__law_cell => k_is); (case l__law_cell => k_is); (case cc__law_cell => k_is); (case kk__law_cell => k_is); (case a_reduced => k_is); (case l_reduced => k_is); (case cc_reduced => k_is); (case kk_reduced => k_is); (case a_inverse => k_is); (case l_inverse => k_is); (case cc_inverse => k_is); (case kk_inverse => k_is); (case a_law => k_is); (case l_law => k_is); (case cc_law => k_is); (case kk_law => k_is); (case z_range => k_is); (case z_int => k_is); (case z_len => k_is); (case v_MOST_GENERATORS => k_is); (case e_BadNumber => k_is); (case ex_BadNumber => k_exc); (case ek_BadNumber => k_is); (case eb_BadNumber => k_is); (case et_BadNumber => k_is); (case v_LETTERS => k_is); (case z_all => k_is); (case e_NotWord => k_is); (case ex_NotWord => k_exc); (case ek_NotWord => k_is); (case eb_NotWord => k_is); (case et_NotWord => k_is); (case v_MOST_LETTERS => k_is); (case v_MOST_EXPONENT => k_is); (case eh_BadNumber => k_is); (case es_BadNumber_BadNumber => first | rfl | k_is); (case es_NotWord_BadNumber => first | rfl | k_is); (case eh_NotWord => k_is); (case es_BadNumber_NotWord => first | rfl | k_is); (case es_NotWord_NotWord => first | rfl | k_is); (case g_INVERSES => k_is); (case tl_INVERSES => k_is); (case tk_INVERSES => exact ⟨⟨_, _, rfl, rfl⟩, ⟨⟨_, _, rfl, rfl⟩, ⟨⟨_, _, rfl, rfl⟩, ⟨⟨_, _, rfl, rfl⟩, ⟨⟨_, _, rfl, rfl⟩, ⟨⟨_, _, rfl, rfl⟩, trivial⟩⟩⟩⟩⟩⟩); (case tw_INVERSES => decide); (case tt_INVERSES => exact .cons (x := .str "A") rfl ⟨_, rfl⟩ (fun _ _ => .str _) (.cons (x := .str "a") rfl ⟨_, rfl⟩ (fun _ _ => .str _) (.cons (x := .str "B") rfl ⟨_, rfl⟩ (fun _ _ => .str _) (.cons (x := .str "b") rfl ⟨_, rfl⟩ (fun _ _ => .str _) (.cons (x := .str "C") rfl ⟨_, rfl⟩ (fun _ _ => .str _) (.cons (x := .str "c") rfl ⟨_, rfl⟩ (fun _ _ => .str _) (.nil)))))))

