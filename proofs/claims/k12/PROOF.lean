import PyProof.Rows.All
import Wide.All
import OpenK.AllK
import Wide.FinOn
import HandS.ForMost
import HandS.ForExc
import HandS.EndBits
import HandS.Wide
import HandS.WideMore
import HandS.Flow
import HandS.IsInst
import HandS.RaiseMore
import HandS.StrMore
import HandS.Replace
import HandS.WrittenGet
import HandS.Style
import HandS.Steps
import HandS.ExcIs
import HandS.TryMany
import HandS.Codes
import HandS.TupAny
import KE.KExcIs
import HandS.ExcField
import HandS.HotCalls
import PyProof.ListStr
import HandS.Conv
import HandS.Dict
import HandS.SortInts
import PyProof.ReprRoads
import HandS.ExcInit
import HandS.Iter
import HandS.Zip
import PySem.Challenge.RW_cayleywalk_k12_cuts_and_free_derivations
section
set_option Elab.async false
set_option linter.all false
set_option maxRecDepth 100000
set_option maxHeartbeats 4000000
noncomputable section
namespace DW
open PySem PySem.Spec PyProof.Rows L2

abbrev D := PyData
abbrev Exn := Str × List (Str × D)
inductive R (α : Type) where
  | stuck | ok (a : α) | err (e : Exn) | pick (k : Nat → R α)
/-- what a pick may give -/
abbrev top1000 : Nat := 1000
namespace R
def bind {α β : Type} (r : R α) (f : α → R β) : R β := R.rec (motive := fun _ => R β) .stuck (fun a => f a) (fun e => .err e) (fun _ ih => .pick ih) r
@[simp] theorem bind_ok {α β : Type} (a : α) (f : α → R β) : (R.ok a).bind f = f a := rfl
@[simp] theorem bind_stuck {α β : Type} (f : α → R β) : (R.stuck : R α).bind f = .stuck := rfl
@[simp] theorem bind_err {α β : Type} (e : Exn) (f : α → R β) : (R.err e : R α).bind f = .err e := rfl
theorem bind_pick {α β : Type} (k : Nat → R α) (f : α → R β) : (R.pick k).bind f = .pick fun n => (k n).bind f := rfl
/-- no error may leave -/
def quiet {α : Type} (r : R α) : R α := R.rec (motive := fun _ => R α) .stuck (fun a => .ok a) (fun _ => .stuck) (fun _ ih => .pick ih) r
@[simp] theorem quiet_ok {α : Type} (a : α) : (R.ok a).quiet = .ok a := rfl
@[simp] theorem quiet_err {α : Type} (e : Exn) : (R.err e : R α).quiet = .stuck := rfl
@[simp] theorem quiet_stuck {α : Type} : (R.stuck : R α).quiet = .stuck := rfl
theorem quiet_pick {α : Type} (k : Nat → R α) : (R.pick k).quiet = .pick fun n => (k n).quiet := rfl
/-- neither an error nor a pick may leave -/
def sure {α : Type} : R α → R α
  | .ok a => .ok a
  | _ => .stuck
@[simp] theorem sure_ok {α : Type} (a : α) : (R.ok a).sure = .ok a := rfl
@[simp] theorem sure_err {α : Type} (e : Exn) : (R.err e : R α).sure = .stuck := rfl
@[simp] theorem sure_stuck {α : Type} : (R.stuck : R α).sure = .stuck := rfl
def guard (b : Bool) : R Unit := if b then .ok () else .stuck
@[simp] theorem guard_true : guard true = .ok () := rfl
@[simp] theorem guard_false : guard false = .stuck := rfl
end R

theorem Same.new {H : Hp} {p : Addr} {o : HO} (h : H p = none) : Same H (upd H p o) := fun b x e => by
  rw [upd_ne (ne_of_none e h)]
  exact e
structure Fr (H H0 H' H0' : Hp) : Prop where
  ex : Same H H'
  ez : Same H0 H0'
  sb : Same H0' H'
  ow : ∀ p, H0 p = none → H p ≠ none → H0' p = none
section
variable {H H0 H1 H01 H2 H02 : Hp}
theorem Fr.refl (h : Same H0 H) : Fr H H0 H H0 := ⟨Same.refl _, Same.refl _, h, fun _ h _ => h⟩
theorem Fr.trans (a : Fr H H0 H1 H01) (b : Fr H1 H01 H2 H02) : Fr H H0 H2 H02 :=
  ⟨a.ex.trans b.ex, a.ez.trans b.ez, b.sb, fun p h0 h => b.ow p (a.ow p h0 h) (by
    cases e : H p with
    | none => exact absurd e h
    | some o => rw [a.ex p o e]; simp)⟩
/-- a new object, known at once -/
theorem Fr.new {p : Addr} {o : HO} (h : Same H0 H) (n : H p = none) : Fr H H0 (upd H p o) (upd H0 p o) := by
  have n0 : H0 p = none := h.free n
  refine ⟨Same.new n, Same.new n0, fun b x e => ?_, fun q h0 hq => ?_⟩
  · by_cases hb : b = p
    · subst hb; rw [upd_same] at e ⊢; exact e
    · rw [upd_ne hb] at e ⊢; exact h b x e
  · have : q ≠ p := fun z => hq (by rw [z]; exact n)
    rw [upd_ne this]; exact h0
/-- a new object, not known to the base -/
theorem Fr.loose {p : Addr} {o : HO} (h : Same H0 H) (n : H p = none) : Fr H H0 (upd H p o) H0 :=
  ⟨Same.new n, Same.refl _, fun b x e => Same.new n b x (h b x e), fun _ h0 _ => h0⟩
end

section
variable {K : PySem.W.Frag} {H H' : Hp}
theorem sqT_mono {a : Addr} {xs : List V} (e : Same H H') (h : SqT K H a xs) : SqT K H' a xs := by
  rcases h with (h | ⟨o, h⟩) | h
  · exact .inl (.inl (e _ _ h))
  · exact .inl (.inr ⟨o, e _ _ h⟩)
  · exact .inr h
mutual
theorem dp_mono (e : Same H H') : ∀ (d : D) (v : V), Dp K H v d → Dp K H' v d
  | .none, _, h => by cases h; exact .non
  | .bool _, _, h => by cases h; exact .bl _
  | .int _, _, h => by cases h; exact .int _
  | .str _, _, h => by cases h; exact .str _
  | .list ds, _, h => by cases h with | lst hs ha => exact .lst (e.seq hs) (dpAll_mono e ds _ ha)
  | .tuple ds, _, h => by cases h with | tup hs ha => exact .tup (sqT_mono e hs) (dpAll_mono e ds _ ha)
  | .dict _, _, h => by cases h
theorem dpAll_mono (e : Same H H') : ∀ (ds : List D) (vs : List V), DpAll K H vs ds → DpAll K H' vs ds
  | [], _, h => by cases h; exact .nil
  | d :: ds, _, h => by cases h with | cons h1 h2 => exact .cons (dp_mono e d _ h1) (dpAll_mono e ds _ h2)
end
theorem DpAll.length : ∀ {vs : List V} {ds : List D}, DpAll K H vs ds → vs.length = ds.length
  | _, _, .nil => rfl
  | _, _, .cons _ t => by rw [List.length_cons, List.length_cons, DpAll.length t]
theorem DpAll.get : ∀ {vs : List V} {ds : List D} {i : Nat} {d : D}, DpAll K H vs ds → ds[i]? = some d → ∃ v, vs[i]? = some v ∧ Dp K H v d
  | _, _, _, _, .nil, e => by simp at e
  | _, _, 0, _, .cons r _, e => by simp at e; subst e; exact ⟨_, rfl, r⟩
  | _, _, i + 1, _, .cons _ t, e => by
    obtain ⟨v, h1, h2⟩ := DpAll.get (i := i) t (by simpa using e)
    exact ⟨v, by simpa using h1, h2⟩
theorem DpAll.append : ∀ {vs ws : List V} {ds es : List D}, DpAll K H vs ds → DpAll K H ws es → DpAll K H (vs ++ ws) (ds ++ es)
  | _, _, _, _, .nil, s => s
  | _, _, _, _, .cons r t, s => .cons r (DpAll.append t s)
theorem DpAll.take : ∀ {vs : List V} {ds : List D} (n : Nat), DpAll K H vs ds → DpAll K H (vs.take n) (ds.take n)
  | _, _, 0, _ => .nil
  | _, _, _ + 1, .nil => .nil
  | _, _, n + 1, .cons r t => .cons r (DpAll.take n t)
theorem DpAll.drop : ∀ {vs : List V} {ds : List D} (n : Nat), DpAll K H vs ds → DpAll K H (vs.drop n) (ds.drop n)
  | _, _, 0, r => r
  | _, _, _ + 1, .nil => .nil
  | _, _, n + 1, .cons _ t => DpAll.drop n t
theorem DpAll.set {v : V} {d : D} (r : Dp K H v d) : ∀ {vs : List V} {ds : List D} (n : Nat), DpAll K H vs ds → DpAll K H (vs.set n v) (ds.set n d)
  | _, _, _, .nil => .nil
  | _, _, 0, .cons _ t => .cons r t
  | _, _, n + 1, .cons q t => .cons q (DpAll.set r n t)
theorem DpAll.reverse : ∀ {vs : List V} {ds : List D}, DpAll K H vs ds → DpAll K H vs.reverse ds.reverse
  | _, _, .nil => .nil
  | _, _, .cons r t => by
    rw [List.reverse_cons, List.reverse_cons]
    exact DpAll.append (DpAll.reverse t) (.cons r .nil)
/-- all ints, all texts, all bools -/
theorem DpAll.ints : ∀ {vs : List V} {ns : List Int}, DpAll K H vs (ns.map PyData.int) → vs = ns.map V.int
  | _, [], h => by cases h; rfl
  | _, n :: ns, h => by
    cases h with
    | cons h1 h2 => cases h1; rw [List.map_cons, DpAll.ints h2]
theorem DpAll.strs : ∀ {vs : List V} {ns : List Str}, DpAll K H vs (ns.map PyData.str) → vs = ns.map V.str
  | _, [], h => by cases h; rfl
  | _, n :: ns, h => by
    cases h with
    | cons h1 h2 => cases h1; rw [List.map_cons, DpAll.strs h2]
theorem DpAll.bools : ∀ {vs : List V} {ns : List Bool}, DpAll K H vs (ns.map PyData.bool) → vs = ns.map V.bl
  | _, [], h => by cases h; rfl
  | _, n :: ns, h => by
    cases h with
    | cons h1 h2 => cases h1; rw [List.map_cons, DpAll.bools h2]
end

def ErrOk (K : PySem.W.Frag) (mg : Str → Option Value) (E : XK) (e : Exn) (H H0 : Hp) : Prop := ∃ C, mg e.1 = some (.ref C) ∧ match e.2 with
  | [] => E (.ref C) none H
  | (f, d) :: _ => ∀ v dx, Dp K H0 v d → H dx = none → E (.ref C) (some dx) (upd H dx (.xd [(f, v)]))

/-- what is to be shown of a result -/
def Post {α β : Type} (rel : Hp → β → α → Prop) (K : PySem.W.Frag) (mg : Str → Option Value) (md : Bool) (H H0 : Hp) (r : R α) (Q : β → Hp → Prop) (E : XK) : Prop :=
  R.rec (motive := fun _ => Prop) False (fun d => ∀ v H' H0', Fr H H0 H' H0' → rel (bif md then H0' else H') v d → Q v H')
    (fun e => ∀ H' H0', Fr H H0 H' H0' → ErrOk K mg E e H' H0') (fun _ ih => ∀ n, n < top1000 → ih n) r
section
variable {K : PySem.W.Frag} {mg : Str → Option Value} {α β γ δ : Type} {rel : Hp → β → α → Prop} {rel' : Hp → δ → γ → Prop} {md md' : Bool} {H H0 H' H0' : Hp} {r : R α} {Q Q1 : β → Hp → Prop} {E : XK}
theorem Post.step (h : Post rel K mg md H H0 r Q E) (f : Fr H H0 H' H0') : Post rel K mg md H' H0' r Q E := by
  induction r with
  | stuck => exact h
  | ok d => exact fun v H2 H02 g => h v H2 H02 (f.trans g)
  | err e => exact fun H2 H02 g => h H2 H02 (f.trans g)
  | pick k ih => exact fun n hn => ih n (h n hn)
theorem Post.imp (h : Post rel K mg md H H0 r Q E) (q : ∀ v H', Q v H' → Q1 v H') : Post rel K mg md H H0 r Q1 E := by
  induction r with
  | stuck => exact h
  | ok d => exact fun v H2 H02 g x => q _ _ (h v H2 H02 g x)
  | err e => exact h
  | pick k ih => exact fun n hn => ih n (h n hn)
theorem Post.bind {f : α → R γ} {Q : δ → Hp → Prop} (h : Post rel' K mg md' H H0 (r.bind f) Q E) :
    Post rel K mg md H H0 r (fun v H' => ∃ d H0', True ∧ Fr H H0 H' H0' ∧ rel (bif md then H0' else H') v d ∧ Post rel' K mg md' H' H0' (f d) Q E) E := by
  induction r with
  | stuck => exact h
  | ok d => exact fun v H2 H02 g x => ⟨d, H02, trivial, g, x, Post.step h g⟩
  | err e => exact h
  | pick k ih => exact fun n hn => ih n (h n hn)
theorem Post.quiet (h : Post rel K mg md H H0 r.quiet Q E) : Post rel K mg md H H0 r Q (fun _ _ _ => False) := by
  induction r with
  | stuck => exact h
  | ok d => exact h
  | err e => exact False.elim h
  | pick k ih => exact fun n hn => ih n (h n hn)
theorem Post.sure (h : Post rel K mg md H H0 r.sure Q E) : Post rel K mg md H H0 r Q (fun _ _ _ => False) := by
  cases r with
  | ok d => exact h
  | _ => exact False.elim h
theorem Post.ok {d : α} {v : β} (h : Post rel K mg md H H0 (.ok d) Q E) (f : Fr H H0 H' H0') (x : rel (bif md then H0' else H') v d) : Q v H' := h v H' H0' f x
end

/-! ### slots -/
inductive SD where
  | sh (d : D) | own (ds : List D) | exc (n : Str) (fs : List (Str × D)) | rnd
/-- the error that is handled: where it is, and what it must be -/
structure EA where
  a : Addr
  ok : Str → List (Str × D) → Hp → Prop
  mono : ∀ n fs H H', Same H H' → ok n fs H → ok n fs H'
def EA.none : EA := ⟨0, fun _ _ _ => False, fun _ _ _ _ _ h => h⟩
def eaOf (K : PySem.W.Frag) (mg : Str → Option Value) (a : Addr) (cls : Value) (d : Option Addr) : EA where
  a := a
  ok := fun n fs H0 => ∃ C, mg n = some (.ref C) ∧ cls = .ref C ∧ match fs with
    | [] => d = Option.none
    | (f, x) :: _ => ∃ dx v, d = some dx ∧ H0 dx = some (.xd [(f, v)]) ∧ Dp K H0 v x
  mono := fun n fs H H' s ⟨C, h1, h2, h3⟩ => ⟨C, h1, h2, by
    cases fs with
    | nil => exact h3
    | cons f _ =>
      obtain ⟨dx, v, e1, e2, e3⟩ := h3
      exact ⟨dx, v, e1, s _ _ e2, dp_mono s _ _ e3⟩⟩
/-- a list of small numbers that anyone may pop -/
def RndP (a : Addr) (h : Heap) : Prop := ∃ (vs : Array Value) (n : Nat) (ns : List Int), h.get? a = some { cls := .type "list", data := .seq vs n } ∧ IntsAre vs.toList ns ∧ ns.length ≤ sizeLine ∧ ∀ z ∈ ns, 0 ≤ z ∧ z < 1000
def RndO (a : Addr) : HO := .ext (RndP a)
abbrev En := List (Option SD)
structure Rel (K : PySem.W.Frag) (ea : EA) (Hs H0s : Hp) (σ : L2.St) (H H0 : Hp) (ρ : En) : Prop where
  fr : Fr Hs H0s H H0
  len : σ.length = ρ.length
  sh : ∀ (i : Nat) (d : D), ρ[i]? = some (some (.sh d)) → ∃ v, σ[i]? = some (some v) ∧ Dp K H0 v d
  own : ∀ (i : Nat) (ds : List D), ρ[i]? = some (some (.own ds)) → ∃ p vs, σ[i]? = some (some (.ref p)) ∧ Hs p = none ∧ H0 p = none ∧ H p = some (.lst vs) ∧ DpAll K H0 vs ds
  dis : ∀ (i j : Nat) (ds es : List D) (p : Addr), i ≠ j → ρ[i]? = some (some (.own ds)) → ρ[j]? = some (some (.own es)) → σ[i]? = some (some (.ref p)) → σ[j]? = some (some (.ref p)) → False
  exc : ∀ (i : Nat) n fs, ρ[i]? = some (some (.exc n fs)) → σ[i]? = some (some (.ref ea.a)) ∧ ea.ok n fs H0
  rnd : ∀ (i : Nat), ρ[i]? = some (some .rnd) → ∃ p, σ[i]? = some (some (.ref p)) ∧ H0 p = some (RndO p)
section
variable {K : PySem.W.Frag} {ea : EA} {Hs H0s H H0 H' H0' : Hp} {σ : L2.St} {ρ : En}
theorem Rel.sub (h : Rel K ea Hs H0s σ H H0 ρ) : Same H0 H := h.fr.sb
theorem Rel.step (h : Rel K ea Hs H0s σ H H0 ρ) (f : Fr H H0 H' H0') : Rel K ea Hs H0s σ H' H0' ρ where
  fr := h.fr.trans f
  len := h.len
  sh := fun i d e => let ⟨v, h1, h2⟩ := h.sh i d e; ⟨v, h1, dp_mono f.ez _ _ h2⟩
  own := fun i ds e => let ⟨p, vs, h1, h2, h3, h4, h5⟩ := h.own i ds e
    ⟨p, vs, h1, h2, f.ow p h3 (by rw [h4]; simp), f.ex _ _ h4, dpAll_mono f.ez _ _ h5⟩
  dis := h.dis
  exc := fun i n fs q => ⟨(h.exc i n fs q).1, ea.mono _ _ _ _ f.ez (h.exc i n fs q).2⟩
  rnd := fun i q => let ⟨p, h1, h2⟩ := h.rnd i q; ⟨p, h1, f.ez _ _ h2⟩
/-- a slot set to something of the base, or forgotten -/
theorem Rel.set (h : Rel K ea Hs H0s σ H H0 ρ) {v : V} {d : D} (i : Nat) (x : Dp K H0 v d) : Rel K ea Hs H0s (σ.set i (some v)) H H0 (ρ.set i (some (.sh d))) where
  fr := h.fr
  len := by rw [List.length_set, List.length_set, h.len]
  sh := fun j e q => by
    by_cases hj : i = j
    · subst hj
      rw [List.getElem?_set] at q ⊢
      rw [if_pos rfl] at q ⊢
      split at q
      · rename_i hl
        cases q
        exact ⟨v, by rw [if_pos (by rw [h.len]; exact hl)], x⟩
      · cases q
    · rw [List.getElem?_set_ne hj] at q ⊢
      exact h.sh j e q
  own := fun j ds q => by
    by_cases hj : i = j
    · subst hj
      rw [List.getElem?_set] at q
      rw [if_pos rfl] at q
      split at q <;> cases q
    · rw [List.getElem?_set_ne hj] at q ⊢
      exact h.own j ds q
  dis := fun j k ds es p hjk q1 q2 q3 q4 => by
    have nj : i ≠ j := fun z => by
      subst z
      rw [List.getElem?_set, if_pos rfl] at q1
      split at q1 <;> cases q1
    have nk : i ≠ k := fun z => by
      subst z
      rw [List.getElem?_set, if_pos rfl] at q2
      split at q2 <;> cases q2
    rw [List.getElem?_set_ne nj] at q1 q3
    rw [List.getElem?_set_ne nk] at q2 q4
    exact h.dis j k ds es p hjk q1 q2 q3 q4
  exc := fun j n fs q => by
    by_cases hj : i = j
    · subst hj
      rw [List.getElem?_set, if_pos rfl] at q
      split at q <;> cases q
    · rw [List.getElem?_set_ne hj] at q ⊢
      exact h.exc j n fs q
  rnd := fun j q => by
    by_cases hj : i = j
    · subst hj
      rw [List.getElem?_set, if_pos rfl] at q
      split at q <;> cases q
    · rw [List.getElem?_set_ne hj] at q ⊢
      exact h.rnd j q
theorem Rel.forget (h : Rel K ea Hs H0s σ H H0 ρ) (i : Nat) (v : Option V) : Rel K ea Hs H0s (σ.set i v) H H0 (ρ.set i none) where
  fr := h.fr
  len := by rw [List.length_set, List.length_set, h.len]
  sh := fun j e q => by
    by_cases hj : i = j
    · subst hj
      rw [List.getElem?_set, if_pos rfl] at q
      split at q <;> cases q
    · rw [List.getElem?_set_ne hj] at q ⊢
      exact h.sh j e q
  own := fun j ds q => by
    by_cases hj : i = j
    · subst hj
      rw [List.getElem?_set, if_pos rfl] at q
      split at q <;> cases q
    · rw [List.getElem?_set_ne hj] at q ⊢
      exact h.own j ds q
  dis := fun j k ds es p hjk q1 q2 q3 q4 => by
    have nj : i ≠ j := fun z => by
      subst z
      rw [List.getElem?_set, if_pos rfl] at q1
      split at q1 <;> cases q1
    have nk : i ≠ k := fun z => by
      subst z
      rw [List.getElem?_set, if_pos rfl] at q2
      split at q2 <;> cases q2
    rw [List.getElem?_set_ne nj] at q1 q3
    rw [List.getElem?_set_ne nk] at q2 q4
    exact h.dis j k ds es p hjk q1 q2 q3 q4
  exc := fun j n fs q => by
    by_cases hj : i = j
    · subst hj
      rw [List.getElem?_set, if_pos rfl] at q
      split at q <;> cases q
    · rw [List.getElem?_set_ne hj] at q ⊢
      exact h.exc j n fs q
  rnd := fun j q => by
    by_cases hj : i = j
    · subst hj
      rw [List.getElem?_set, if_pos rfl] at q
      split at q <;> cases q
    · rw [List.getElem?_set_ne hj] at q ⊢
      exact h.rnd j q
/-- a slot set to a list that is its own: new, in no other slot, not in the base -/
theorem Rel.setOwn (h : Rel K ea Hs H0s σ H H0 ρ) {p : Addr} {vs : List V} {ds : List D} (i : Nat) (hs : Hs p = none) (h0 : H0 p = none) (hp : H p = some (.lst vs)) (x : DpAll K H0 vs ds)
    (hd : ∀ (j : Nat) (es : List D), j ≠ i → ρ[j]? = some (some (.own es)) → σ[j]? = some (some (.ref p)) → False) : Rel K ea Hs H0s (σ.set i (some (.ref p))) H H0 (ρ.set i (some (.own ds))) where
  fr := h.fr
  len := by rw [List.length_set, List.length_set, h.len]
  sh := fun j e q => by
    by_cases hj : i = j
    · subst hj
      rw [List.getElem?_set, if_pos rfl] at q
      split at q <;> cases q
    · rw [List.getElem?_set_ne hj] at q ⊢
      exact h.sh j e q
  own := fun j es q => by
    by_cases hj : i = j
    · subst hj
      rw [List.getElem?_set] at q ⊢
      rw [if_pos rfl] at q ⊢
      split at q
      · rename_i hl
        cases q
        exact ⟨p, vs, by rw [if_pos (by rw [h.len]; exact hl)], hs, h0, hp, x⟩
      · cases q
    · rw [List.getElem?_set_ne hj] at q ⊢
      exact h.own j es q
  dis := fun j k es fs q hjk q1 q2 q3 q4 => by
    by_cases hj : i = j
    · subst hj
      by_cases hk : i = k
      · exact hjk hk
      · rw [List.getElem?_set_ne hk] at q2 q4
        rw [List.getElem?_set, if_pos rfl] at q3
        split at q3
        · have e : p = q := by injection q3 with q3; injection q3 with q3; injection q3
          subst e
          exact hd k fs (Ne.symm hk) q2 q4
        · cases q3
    · rw [List.getElem?_set_ne hj] at q1 q3
      by_cases hk : i = k
      · subst hk
        rw [List.getElem?_set, if_pos rfl] at q4
        split at q4
        · have e : p = q := by injection q4 with q4; injection q4 with q4; injection q4
          subst e
          exact hd j es (Ne.symm hj) q1 q3
        · cases q4
      · rw [List.getElem?_set_ne hk] at q2 q4
        exact h.dis j k es fs q hjk q1 q2 q3 q4
  exc := fun j n fs q => by
    by_cases hj : i = j
    · subst hj
      rw [List.getElem?_set, if_pos rfl] at q
      split at q <;> cases q
    · rw [List.getElem?_set_ne hj] at q ⊢
      exact h.exc j n fs q
  rnd := fun j q => by
    by_cases hj : i = j
    · subst hj
      rw [List.getElem?_set, if_pos rfl] at q
      split at q <;> cases q
    · rw [List.getElem?_set_ne hj] at q ⊢
      exact h.rnd j q
/-- an own list becomes part of the base -/
theorem Rel.freeze (h : Rel K ea Hs H0s σ H H0 ρ) {i : Nat} {ds : List D} (e : ρ[i]? = some (some (.own ds))) : ∃ H0', Same H0 H0' ∧ Rel K ea Hs H0s σ H H0' (ρ.set i (some (.sh (.list ds)))) := by
  obtain ⟨p, vs, h1, h2, h3, h4, h5⟩ := h.own i ds e
  have ex : Same H0 (upd H0 p (.lst vs)) := Same.new h3
  refine ⟨upd H0 p (.lst vs), ex, ⟨h.fr.ex, h.fr.ez.trans ex, fun b x q => ?_, fun q z1 z2 => ?_⟩, by rw [List.length_set, h.len], fun j d q => ?_, fun j es q => ?_, fun j k es fs q hjk q1 q2 q3 q4 => ?_, fun j n fs q => ?_, fun j q => ?_⟩
  · by_cases hb : b = p
    · subst hb; rw [upd_same] at q; rw [← q]; exact h4
    · rw [upd_ne hb] at q; exact h.fr.sb b x q
  · have : q ≠ p := fun z => z2 (by rw [z]; exact h2)
    rw [upd_ne this]
    exact h.fr.ow q z1 z2
  · by_cases hj : i = j
    · subst hj
      rw [List.getElem?_set, if_pos rfl] at q
      split at q
      · cases q
        exact ⟨.ref p, h1, .lst (.inl (.inl upd_same)) (dpAll_mono ex _ _ h5)⟩
      · cases q
    · rw [List.getElem?_set_ne hj] at q
      obtain ⟨v, a, b⟩ := h.sh j d q
      exact ⟨v, a, dp_mono ex _ _ b⟩
  · by_cases hj : i = j
    · subst hj
      rw [List.getElem?_set, if_pos rfl] at q
      split at q <;> cases q
    · rw [List.getElem?_set_ne hj] at q
      obtain ⟨p', vs', a1, a2, a3, a4, a5⟩ := h.own j es q
      have np : p' ≠ p := fun z => h.dis i j ds es p hj e q h1 (z ▸ a1)
      exact ⟨p', vs', a1, a2, by rw [upd_ne np]; exact a3, a4, dpAll_mono ex _ _ a5⟩
  · have nj : i ≠ j := fun z => by
      subst z
      rw [List.getElem?_set, if_pos rfl] at q1
      split at q1 <;> cases q1
    have nk : i ≠ k := fun z => by
      subst z
      rw [List.getElem?_set, if_pos rfl] at q2
      split at q2 <;> cases q2
    rw [List.getElem?_set_ne nj] at q1
    rw [List.getElem?_set_ne nk] at q2
    exact h.dis j k es fs q hjk q1 q2 q3 q4
  · have nj : i ≠ j := fun z => by
      subst z
      rw [List.getElem?_set, if_pos rfl] at q
      split at q <;> cases q
    rw [List.getElem?_set_ne nj] at q
    exact ⟨(h.exc j n fs q).1, ea.mono _ _ _ _ ex (h.exc j n fs q).2⟩
  · have nj : i ≠ j := fun z => by
      subst z
      rw [List.getElem?_set, if_pos rfl] at q
      split at q <;> cases q
    rw [List.getElem?_set_ne nj] at q
    obtain ⟨p', a1, a2⟩ := h.rnd j q
    exact ⟨p', a1, ex _ _ a2⟩
/-- an own list is written -/
theorem Rel.write (h : Rel K ea Hs H0s σ H H0 ρ) {i : Nat} {ds es : List D} {p : Addr} {ws : List V} (e : ρ[i]? = some (some (.own ds))) (hp : σ[i]? = some (some (.ref p))) (x : DpAll K H0 ws es) :
    Rel K ea Hs H0s σ (upd H p (.lst ws)) H0 (ρ.set i (some (.own es))) := by
  obtain ⟨p', vs, h1, h2, h3, h4, h5⟩ := h.own i ds e
  have ep : p' = p := by rw [h1] at hp; injection hp with hp; injection hp with hp; injection hp
  subst ep
  refine ⟨⟨fun b x q => ?_, h.fr.ez, fun b x q => ?_, h.fr.ow⟩, by rw [List.length_set, h.len], fun j d q => ?_, fun j fs q => ?_, fun j k fs gs q hjk q1 q2 q3 q4 => ?_, fun j n fs q => ?_, fun j q => ?_⟩
  · have : b ≠ p' := fun z => by rw [z, h2] at q; cases q
    rw [upd_ne this]; exact h.fr.ex b x q
  · have : b ≠ p' := fun z => by rw [z, h3] at q; cases q
    rw [upd_ne this]; exact h.fr.sb b x q
  · by_cases hj : i = j
    · subst hj
      rw [List.getElem?_set, if_pos rfl] at q
      split at q <;> cases q
    · rw [List.getElem?_set_ne hj] at q
      exact h.sh j d q
  · by_cases hj : i = j
    · subst hj
      rw [List.getElem?_set, if_pos rfl] at q
      split at q
      · cases q
        exact ⟨p', ws, h1, h2, h3, upd_same, x⟩
      · cases q
    · rw [List.getElem?_set_ne hj] at q
      obtain ⟨p2, vs', a1, a2, a3, a4, a5⟩ := h.own j fs q
      have np : p2 ≠ p' := fun z => h.dis i j ds fs p' hj e q h1 (z ▸ a1)
      exact ⟨p2, vs', a1, a2, a3, by rw [upd_ne np]; exact a4, a5⟩
  · have own' : ∀ (m : Nat) (zs : List D), (ρ.set i (some (.own es)))[m]? = some (some (.own zs)) → ∃ ys, ρ[m]? = some (some (.own ys)) := fun m zs q => by
      by_cases hm : i = m
      · subst hm; exact ⟨ds, e⟩
      · rw [List.getElem?_set_ne hm] at q; exact ⟨zs, q⟩
    obtain ⟨y1, r1⟩ := own' j fs q1
    obtain ⟨y2, r2⟩ := own' k gs q2
    exact h.dis j k y1 y2 q hjk r1 r2 q3 q4
  · have nj : i ≠ j := fun z => by
      subst z
      rw [List.getElem?_set, if_pos rfl] at q
      split at q <;> cases q
    rw [List.getElem?_set_ne nj] at q
    exact h.exc j n fs q
  · have nj : i ≠ j := fun z => by
      subst z
      rw [List.getElem?_set, if_pos rfl] at q
      split at q <;> cases q
    rw [List.getElem?_set_ne nj] at q
    exact h.rnd j q
/-- a slot set to the caught error -/
theorem Rel.setExc (h : Rel K ea Hs H0s σ H H0 ρ) (i : Nat) {n : Str} {fs : List (Str × D)} (ok : ea.ok n fs H0) : Rel K ea Hs H0s (σ.set i (some (.ref ea.a))) H H0 (ρ.set i (some (.exc n fs))) where
  fr := h.fr
  len := by rw [List.length_set, List.length_set, h.len]
  sh := fun j e q => by
    by_cases hj : i = j
    · subst hj
      rw [List.getElem?_set, if_pos rfl] at q
      split at q <;> cases q
    · rw [List.getElem?_set_ne hj] at q ⊢
      exact h.sh j e q
  own := fun j ds q => by
    by_cases hj : i = j
    · subst hj
      rw [List.getElem?_set, if_pos rfl] at q
      split at q <;> cases q
    · rw [List.getElem?_set_ne hj] at q ⊢
      exact h.own j ds q
  dis := fun j k ds es p hjk q1 q2 q3 q4 => by
    have nj : i ≠ j := fun z => by
      subst z
      rw [List.getElem?_set, if_pos rfl] at q1
      split at q1 <;> cases q1
    have nk : i ≠ k := fun z => by
      subst z
      rw [List.getElem?_set, if_pos rfl] at q2
      split at q2 <;> cases q2
    rw [List.getElem?_set_ne nj] at q1 q3
    rw [List.getElem?_set_ne nk] at q2 q4
    exact h.dis j k ds es p hjk q1 q2 q3 q4
  exc := fun j n fs q => by
    by_cases hj : i = j
    · subst hj
      rw [List.getElem?_set] at q ⊢
      rw [if_pos rfl] at q ⊢
      split at q
      · rename_i hl
        cases q
        exact ⟨by rw [if_pos (by rw [h.len]; exact hl)], ok⟩
      · cases q
    · rw [List.getElem?_set_ne hj] at q ⊢
      exact h.exc j n fs q
  rnd := fun j q => by
    by_cases hj : i = j
    · subst hj
      rw [List.getElem?_set, if_pos rfl] at q
      split at q <;> cases q
    · rw [List.getElem?_set_ne hj] at q ⊢
      exact h.rnd j q
/-- errors forgotten -/
def unx : Option SD → Option SD
  | some (.exc _ _) => none
  | s => s
def clean (ρ : En) : En := ρ.map unx
theorem clean_at {ρ : En} {i : Nat} {s : SD} (h : (clean ρ)[i]? = some (some s)) : ρ[i]? = some (some s) ∧ ∀ n fs, s ≠ .exc n fs := by
  unfold clean at h
  rw [List.getElem?_map] at h
  cases e : ρ[i]? with
  | none => rw [e] at h; cases h
  | some x =>
    rw [e] at h
    have h : some (unx x) = some (some s) := h
    have h : unx x = some s := Option.some.inj h
    cases x with
    | none => cases h
    | some y =>
      cases y with
      | exc _ _ => cases h
      | rnd => have h : some SD.rnd = some s := h; cases h; exact ⟨rfl, fun _ _ z => nomatch z⟩
      | sh d => have h : some (SD.sh d) = some s := h; cases h; exact ⟨rfl, fun _ _ z => nomatch z⟩
      | own d => have h : some (SD.own d) = some s := h; cases h; exact ⟨rfl, fun _ _ z => nomatch z⟩
theorem Rel.clean {ea' : EA} (h : Rel K ea Hs H0s σ H H0 ρ) : Rel K ea' Hs H0s σ H H0 (clean ρ) where
  fr := h.fr
  len := by unfold DW.clean; rw [List.length_map, h.len]
  sh := fun j e q => h.sh j e (clean_at q).1
  own := fun j ds q => h.own j ds (clean_at q).1
  dis := fun j k ds es p hjk q1 q2 q3 q4 => h.dis j k ds es p hjk (clean_at q1).1 (clean_at q2).1 q3 q4
  exc := fun j n fs q => absurd rfl ((clean_at q).2 n fs)
  rnd := fun j q => h.rnd j (clean_at q).1
end
end DW

end
end
section
set_option Elab.async false
set_option linter.all false
set_option maxRecDepth 100000
set_option maxHeartbeats 4000000
noncomputable section
namespace DW
open PySem PySem.Spec PyProof.Rows L2

abbrev ME := En → R D
abbrev MT := En → R Bool
abbrev MA := En → R (List D)
abbrev MO := En → R (Option Int)
abbrev beqr {α : Type} : Hp → α → α → Prop := fun _ a b => a = b

/-- the error that a suite handles -/
def excOf (X : Cx) : EA := match X.pn with
  | p :: _ => eaOf X.K X.mg p.1 p.2.cls p.2.dict
  | [] => EA.none
structure BE (X : Cx) (W : WX) (md : Bool) (e : Expr) (t : TE) (m : ME) : Prop where
  pe : PE X e t
  ev : ∀ Hs H0s σ H H0 ρ Q, Rel X.K (excOf X) Hs H0s σ H H0 ρ → Post (Dp X.K) X.K X.mg md H H0 (m ρ) Q (WE W σ) → t σ H Q
structure BT (X : Cx) (W : WX) (e : Expr) (t : TT) (m : MT) : Prop where
  pe : PT X e t
  ev : ∀ Hs H0s σ H H0 ρ Q, Rel X.K (excOf X) Hs H0s σ H H0 ρ → Post beqr X.K X.mg true H H0 (m ρ) Q (WE W σ) → t σ H Q
structure BW (X : Cx) (W : WX) (e : Expr) (t : TT) (m : MT) : Prop where
  pe : PW X e t
  ev : ∀ Hs H0s σ H H0 ρ Q, Rel X.K (excOf X) Hs H0s σ H H0 ρ → Post beqr X.K X.mg true H H0 (m ρ) Q (WE W σ) → t σ H Q
structure BA (X : Cx) (W : WX) (md : Bool) (es : List Expr) (t : TA) (m : MA) : Prop where
  pe : PA X es t
  ev : ∀ Hs H0s σ H H0 ρ Q, Rel X.K (excOf X) Hs H0s σ H H0 ρ → Post (DpAll X.K) X.K X.mg md H H0 (m ρ) Q (WE W σ) → t σ H Q
structure BO (X : Cx) (W : WX) (e : Option Expr) (t : TO) (m : MO) : Prop where
  pe : PO X e t
  ev : ∀ Hs H0s σ H H0 ρ Q, Rel X.K (excOf X) Hs H0s σ H H0 ρ → Post beqr X.K X.mg true H H0 (m ρ) Q (WE W σ) → t σ H Q

section
variable {X : Cx} {W : WX} {md : Bool} {e a b c : Expr} {t ta tb tc te : TE} {m ma mb mc : ME} {pos : Pos}
theorem dp_md {K : PySem.W.Frag} {H H0 : Hp} {v : V} {d : D} (s : Same H0 H) (h : Dp K (bif md then H0 else H) v d) : Dp K H v d := by
  cases md with
  | true => exact dp_mono s _ _ h
  | false => exact h
theorem dpAll_md {K : PySem.W.Frag} {H H0 : Hp} {v : List V} {d : List D} (s : Same H0 H) (h : DpAll K (bif md then H0 else H) v d) : DpAll K H v d := by
  cases md with
  | true => exact dpAll_mono s _ _ h
  | false => exact h
theorem Post.loose {K : PySem.W.Frag} {mg : Str → Option Value} {H H0 : Hp} {r : R D} {Q : VK} {E : XK} (h : Post (Dp K) K mg false H H0 r Q E) : Post (Dp K) K mg true H H0 r Q E := by
  induction r with
  | stuck => exact h
  | ok d => exact fun v H' H0' f x => h v H' H0' f (dp_mono f.sb _ _ x)
  | err e => exact h
  | pick k ih => exact fun n hn => ih n (h n hn)
theorem Post.loose' {K : PySem.W.Frag} {mg : Str → Option Value} {H H0 : Hp} {r : R D} {Q : VK} {E : XK} (h : Post (Dp K) K mg md H H0 r Q E) : Post (Dp K) K mg true H H0 r Q E := by
  cases md with
  | true => exact h
  | false => exact h.loose
theorem BE.p (h : BE X W true e t m) : BE X W false e t m := ⟨h.pe, fun Hs H0s σ H H0 ρ Q r p => h.ev Hs H0s σ H H0 ρ Q r p.loose⟩

/-! ### names, constants -/
def mVar (i : Nat) : ME := fun ρ => match ρ[i]? with | some (some (.sh d)) => .ok d | _ => .stuck
def mVarP (i : Nat) : ME := fun ρ => match ρ[i]? with | some (some (.sh d)) => .ok d | some (some (.own ds)) => .ok (.list ds) | _ => .stuck
def mC (d : D) : ME := fun _ => .ok d
theorem be_var (i : Nat) {x : Str} (h : PE X (.Name x pos) (tVar i)) : BE X W true (.Name x pos) (tVar i) (mVar i) := by
  refine ⟨h, fun Hs H0s σ H H0 ρ Q r p => ?_⟩
  unfold mVar at p
  split at p
  · rename_i d e
    obtain ⟨v, h1, h2⟩ := r.sh _ _ e
    exact ⟨v, h1, p v H H0 (.refl r.sub) h2⟩
  · exact False.elim p
theorem be_varP (i : Nat) {x : Str} (h : PE X (.Name x pos) (tVar i)) : BE X W false (.Name x pos) (tVar i) (mVarP i) := by
  refine ⟨h, fun Hs H0s σ H H0 ρ Q r p => ?_⟩
  unfold mVarP at p
  split at p
  · rename_i d e
    obtain ⟨v, h1, h2⟩ := r.sh _ _ e
    exact ⟨v, h1, p v H H0 (.refl r.sub) (dp_mono r.sub _ _ h2)⟩
  · rename_i ds e
    obtain ⟨q, vs, h1, h2, h3, h4, h5⟩ := r.own _ _ e
    exact ⟨_, h1, p _ H H0 (.refl r.sub) (.lst (.inl (.inl h4)) (dpAll_mono r.sub _ _ h5))⟩
  · exact False.elim p
theorem be_c {v : V} {d : D} (h : PE X e (tC v)) (hd : ∀ H, Dp X.K H v d) : BE X W md e (tC v) (mC d) :=
  ⟨h, fun Hs H0s σ H H0 ρ Q r p => p v H H0 (.refl r.sub) (by cases md <;> exact hd _)⟩
theorem be_int {i : Int} {j : Nat} : BE X W md (.Constant (.int i) j pos) (tC (.int i)) (mC (.int i)) := be_c pe_int fun _ => .int i
theorem be_str {x : Str} {j : Nat} : BE X W md (.Constant (.str x) j pos) (tC (.str x)) (mC (.str x)) := be_c pe_str fun _ => .str x
theorem be_bool {x : Bool} {j : Nat} : BE X W md (.Constant (.bool x) j pos) (tC (.bl x)) (mC (.bool x)) := be_c pe_bl fun _ => .bl x
theorem be_none {j : Nat} : BE X W md (.Constant .none j pos) (tC .non) (mC .none) := be_c pe_non fun _ => .non
theorem be_glob {x : Str} {v : V} {u : Value} {d : D} (hg : Gl X x) (hm : X.mg x = some u) (r : RelV v u) (hd : ∀ H, Dp X.K H v d) (hdb : (x == ("__debug__" : Str)) = false := by decide) : BE X W md (.Name x pos) (tC v) (mC d) := be_c (pe_glob hg hm r hdb) hd

theorem be_globI {x : Str} {i : Int} {tk : Tok} (hg : Gl X x) (hm : X.mg x = some (.int i tk)) (hdb : (x == ("__debug__" : Str)) = false := by decide) : BE X W md (.Name x pos) (tC (.int i)) (mC (.int i)) := be_c (pe_glob hg hm ⟨_, rfl⟩ hdb) fun _ => .int _
theorem be_globS {x : Str} {i : Str} {tk : Tok} (hg : Gl X x) (hm : X.mg x = some (.str i tk)) (hdb : (x == ("__debug__" : Str)) = false := by decide) : BE X W md (.Name x pos) (tC (.str i)) (mC (.str i)) := be_c (pe_glob hg hm ⟨_, rfl⟩ hdb) fun _ => .str _
/-! ### operations on two values -/
def Op2 (K : PySem.W.Frag) (mg : Str → Option Value) (md : Bool) (r : R2) (f : D → D → R D) : Prop :=
  ∀ (x y : V) (d e : D) (H H0 : Hp) (Q : VK) (E : XK), Same H0 H → Dp K (bif md then H0 else H) x d → Dp K (bif md then H0 else H) y e → Post (Dp K) K mg true H H0 (f d e) Q E → r x y H Q
def m2 (f : D → D → R D) (ma mb : ME) : ME := fun ρ => (ma ρ).bind fun d => (mb ρ).bind fun e => f d e
theorem keep_md {K : PySem.W.Frag} {H H0 H' H0' : Hp} {v : V} {d : D} (f : Fr H H0 H' H0') (h : Dp K (bif md then H0 else H) v d) : Dp K (bif md then H0' else H') v d := by
  cases md with
  | true => exact dp_mono f.ez _ _ h
  | false => exact dp_mono f.ex _ _ h
theorem keepAll_md {K : PySem.W.Frag} {H H0 H' H0' : Hp} {v : List V} {d : List D} (f : Fr H H0 H' H0') (h : DpAll K (bif md then H0 else H) v d) : DpAll K (bif md then H0' else H') v d := by
  cases md with
  | true => exact dpAll_mono f.ez _ _ h
  | false => exact dpAll_mono f.ex _ _ h
theorem ev_op {r : R2} {f : D → D → R D} (hr : Op2 X.K X.mg md r f) (ha : BE X W md a ta ma) (hb : BE X W md b tb mb) :
    ∀ Hs H0s σ H H0 ρ Q, Rel X.K (excOf X) Hs H0s σ H H0 ρ → Post (Dp X.K) X.K X.mg true H H0 (m2 f ma mb ρ) Q (WE W σ) → tOp r ta tb σ H Q := fun Hs H0s σ H H0 ρ Q rl p => by
  refine ha.ev Hs H0s σ H H0 ρ _ rl ((Post.bind p).imp ?_)
  rintro v H1 ⟨d, H01, _, f1, x1, p1⟩
  refine hb.ev Hs H0s σ H1 H01 ρ _ (rl.step f1) ((Post.bind p1).imp ?_)
  rintro u H2 ⟨e, H02, _, f2, x2, p2⟩
  exact hr v u d e H2 H02 Q _ f2.sb (keep_md f2 x1) x2 p2
theorem be_op {r : R2} {op : Operator} (f : D → D → R D) (ho : OpR X (binaryOp op) r) (hr : Op2 X.K X.mg md r f) (ha : BE X W md a ta ma) (hb : BE X W md b tb mb) : BE X W true (.BinOp a op b pos) (tOp r ta tb) (m2 f ma mb) :=
  ⟨pe_op ho ha.pe hb.pe, ev_op hr ha hb⟩
theorem be_cmp {r : R2} {op : CmpOp} (f : D → D → R D) (ho : OpR X (compareOp op) r) (hr : Op2 X.K X.mg md r f) (ha : BE X W md a ta ma) (hb : BE X W md b tb mb) (hm : behindInMarks op b = false) : BE X W true (.Compare a [op] [b] pos) (tOp r ta tb) (m2 f ma mb) :=
  ⟨pe_cmpR ho ha.pe hb.pe hm, ev_op hr ha hb⟩
def asB : D → R Bool
  | .bool b => .ok b
  | _ => .stuck
theorem post_asB {K : PySem.W.Frag} {mg : Str → Option Value} {H H0 : Hp} {r : R D} {Q : Bool → Hp → Prop} {E : XK} (h : Post beqr K mg true H H0 (r.bind asB) Q E) :
    Post (Dp K) K mg true H H0 r (fun x H' => ∃ k, x = .bl k ∧ Q k H') E := by
  induction r with
  | stuck => exact h
  | ok d =>
    cases d with
    | bool b => exact fun v H' H0' f x => by cases x; exact ⟨b, rfl, h b H' H0' f rfl⟩
    | _ => exact False.elim h
  | err e => exact h
  | pick k ih => exact fun n hn => ih n (h n hn)
def mT (m : ME) : MT := fun ρ => (m ρ).bind asB
theorem bt_cmp {r : R2} {op : CmpOp} (f : D → D → R D) (ho : OpR X (compareOp op) r) (hr : Op2 X.K X.mg md r f) (ha : BE X W md a ta ma) (hb : BE X W md b tb mb) (hm : behindInMarks op b = false) : BT X W (.Compare a [op] [b] pos) (tTest (tOp r ta tb)) (mT (m2 f ma mb)) :=
  ⟨pt_cmpR ho ha.pe hb.pe hm, fun Hs H0s σ H H0 ρ Q rl p => ev_op hr ha hb Hs H0s σ H H0 ρ _ rl (post_asB p)⟩
/-- a op b op' c -/
def mChain (f g : D → D → R D) (ma mb mc : ME) : ME := fun ρ => (ma ρ).bind fun d => (mb ρ).bind fun e => (f d e).bind fun k => (asB k).bind fun k => if k then (mc ρ).bind fun z => g e z else .ok (.bool false)
theorem ev_chain {r r' : R2} {f g : D → D → R D} (hr : Op2 X.K X.mg false r f) (hr' : Op2 X.K X.mg false r' g) (ha : BE X W false a ta ma) (hb : BE X W false b tb mb) (hc : BE X W false c tc mc) :
    ∀ Hs H0s σ H H0 ρ Q, Rel X.K (excOf X) Hs H0s σ H H0 ρ → Post (Dp X.K) X.K X.mg true H H0 (mChain f g ma mb mc ρ) Q (WE W σ) → tChain r r' ta tb tc σ H Q := fun Hs H0s σ H H0 ρ Q rl p => by
  refine ha.ev Hs H0s σ H H0 ρ _ rl ((Post.bind p).imp ?_)
  rintro v H1 ⟨d, H01, _, f1, x1, p1⟩
  refine hb.ev Hs H0s σ H1 H01 ρ _ (rl.step f1) ((Post.bind p1).imp ?_)
  rintro u H2 ⟨e, H02, _, f2, x2, p2⟩
  refine hr v u d e H2 H02 _ (WE W σ) f2.sb (keep_md (md := false) f2 x1) x2 ((Post.bind (rel := Dp X.K) (md := true) p2).imp ?_)
  rintro k H3 ⟨kd, H03, _, f3, x3, p3⟩
  cases kd with
  | bool b =>
    cases x3
    refine ⟨b, rfl, ?_⟩
    cases b with
    | true =>
      rw [if_pos rfl]
      refine hc.ev Hs H0s σ H3 H03 ρ _ (((rl.step f1).step f2).step f3) ((Post.bind (rel := Dp X.K) p3).imp ?_)
      rintro z H4 ⟨ze, H04, _, f4, x4, p4⟩
      exact hr' u z e ze H4 H04 Q (WE W σ) f4.sb (keep_md (md := false) (f3.trans f4) x2) x4 p4
    | false =>
      rw [if_neg (by decide)]
      exact p3 (.bl false) H3 H03 (.refl f3.sb) (.bl false)
  | _ => exact False.elim p3
theorem be_chain {r r' : R2} {op op' : CmpOp} (f g : D → D → R D) (ho : OpR X (compareOp op) r) (ho' : OpR X (compareOp op') r') (hr : Op2 X.K X.mg false r f) (hr' : Op2 X.K X.mg false r' g) (ha : BE X W false a ta ma) (hb : BE X W false b tb mb) (hc : BE X W false c tc mc)
    (h1 : lastMarks [op, op'] [b, c] = false) : BE X W true (.Compare a [op, op'] [b, c] pos) (tChain r r' ta tb tc) (mChain f g ma mb mc) := ⟨pe_chain ho ho' ha.pe hb.pe hc.pe h1, ev_chain hr hr' ha hb hc⟩
theorem bt_chain {r r' : R2} {op op' : CmpOp} (f g : D → D → R D) (ho : OpR X (compareOp op) r) (ho' : OpR X (compareOp op') r') (hr : Op2 X.K X.mg false r f) (hr' : Op2 X.K X.mg false r' g) (ha : BE X W false a ta ma) (hb : BE X W false b tb mb) (hc : BE X W false c tc mc)
    (h1 : lastMarks [op, op'] [b, c] = false) : BT X W (.Compare a [op, op'] [b, c] pos) (tTest (tChain r r' ta tb tc)) (mT (mChain f g ma mb mc)) :=
  ⟨pt_chain ho ho' ha.pe hb.pe hc.pe h1, fun Hs H0s σ H H0 ρ Q rl p => ev_chain hr hr' ha hb hc Hs H0s σ H H0 ρ _ rl (post_asB p)⟩

/-! ### truth -/
def dTruth : D → R Bool
  | .none => .ok false
  | .bool b => .ok b
  | .int i => .ok (i != 0)
  | .str x => if x.length ≤ sizeLine then .ok ((x.length : Int) != 0) else .stuck
  | .list xs => .ok (!xs.isEmpty)
  | .tuple xs => .ok (!xs.isEmpty)
  | .dict _ => .stuck
theorem isEmpty_all {K : PySem.W.Frag} {H : Hp} {xs : List V} {ds : List D} (h : DpAll K H xs ds) : xs.isEmpty = ds.isEmpty := by cases h <;> rfl
theorem tru_of {K : PySem.W.Frag} {H : Hp} {v : V} {d : D} {k : Bool} (x : Dp K H v d) (e : dTruth d = .ok k) : TruV K v H k := by
  cases x with
  | non => exact (R.ok.inj e).symm
  | bl b => exact (R.ok.inj e).symm
  | int i => exact (R.ok.inj e).symm
  | str x =>
    have e : (if x.length ≤ sizeLine then R.ok ((x.length : Int) != 0) else R.stuck) = R.ok k := e
    by_cases h : x.length ≤ sizeLine
    · rw [if_pos h] at e; exact ⟨h, (R.ok.inj e).symm⟩
    · rw [if_neg h] at e; cases e
  | lst hs ha => exact .inl ⟨_, hs, by rw [isEmpty_all ha]; exact (R.ok.inj e).symm⟩
  | tup hs ha => exact .inr (.inl ⟨_, hs, by rw [isEmpty_all ha]; exact (R.ok.inj e).symm⟩)
theorem dTruth_ne {d : D} {e : Exn} : dTruth d ≠ .err e := by
  cases d with
  | str x =>
    show (if x.length ≤ sizeLine then R.ok ((x.length : Int) != 0) else R.stuck) ≠ R.err e
    split <;> simp
  | _ => simp [dTruth]
theorem dTruth_np {d : D} {k : Nat → R Bool} : dTruth d ≠ .pick k := by
  cases d with
  | str x =>
    show (if x.length ≤ sizeLine then R.ok ((x.length : Int) != 0) else R.stuck) ≠ R.pick k
    split <;> simp
  | _ => simp [dTruth]
theorem post_truth {K : PySem.W.Frag} {mg : Str → Option Value} {H H0 : Hp} {r : R D} {Q : Bool → Hp → Prop} {E : XK} (h : Post beqr K mg true H H0 (r.bind dTruth) Q E) :
    Post (Dp K) K mg false H H0 r (fun x H' => ∃ k, TruV K x H' k ∧ Q k H') E := by
  induction r with
  | stuck => exact h
  | ok d =>
    intro v H' H0' f x
    have h : Post beqr K mg true H H0 (dTruth d) Q E := h
    cases q : dTruth d with
    | stuck => rw [q] at h; exact False.elim h
    | ok k => rw [q] at h; exact ⟨k, tru_of x q, h k H' H0' f rfl⟩
    | err z => exact absurd q dTruth_ne
    | pick k => exact absurd q dTruth_np
  | err e => exact h
  | pick k ih => exact fun n hn => ih n (h n hn)
def mTru (m : ME) : MT := fun ρ => (m ρ).bind dTruth
theorem bt_truth (ha : BE X W false a ta ma) (he : ∀ whole, isTrue a X.env whole = (do let v ← whole; standAt a.pos; holding [v] (truthy v)) := by intro _; rfl) : BT X W a (fun σ H Q => ta σ H fun x H' => ∃ k, TruV X.K x H' k ∧ Q k H') (mTru ma) :=
  ⟨pt_truth ha.pe he, fun Hs H0s σ H H0 ρ Q rl p => ha.ev Hs H0s σ H H0 ρ _ rl (post_truth p)⟩
variable {tA tB' : TT} {mA mB : MT} {rest : List Expr}
theorem bw_and1 (ha : BT X W a tA mA) : BW X W (.BoolOp .And [a] pos) tA mA := ⟨pw_and1 ha.pe, ha.ev⟩
theorem bw_or1 (ha : BT X W a tA mA) : BW X W (.BoolOp .Or [a] pos) tA mA := ⟨pw_or1 ha.pe, ha.ev⟩
def mAndT (x y : MT) : MT := fun ρ => (x ρ).bind fun k => if k then y ρ else .ok false
def mOrT (x y : MT) : MT := fun ρ => (x ρ).bind fun k => if k then .ok true else y ρ
def mNotT (x : MT) : MT := fun ρ => (x ρ).bind fun k => .ok (!k)
theorem bw_and (ha : BT X W a tA mA) (hb : BW X W (.BoolOp .And (b :: rest) pos) tB' mB) : BW X W (.BoolOp .And (a :: b :: rest) pos) (tAnd tA tB') (mAndT mA mB) := by
  refine ⟨pw_and ha.pe hb.pe, fun Hs H0s σ H H0 ρ Q rl p => ha.ev Hs H0s σ H H0 ρ _ rl ((Post.bind p).imp ?_)⟩
  rintro k H1 ⟨d, H01, _, f1, x1, p1⟩
  have x1 : k = d := x1
  subst x1
  cases k with
  | true => exact hb.ev Hs H0s σ H1 H01 ρ Q (rl.step f1) p1
  | false => exact p1 false H1 H01 (.refl f1.sb) rfl
theorem bw_or (ha : BT X W a tA mA) (hb : BW X W (.BoolOp .Or (b :: rest) pos) tB' mB) : BW X W (.BoolOp .Or (a :: b :: rest) pos) (tOr tA tB') (mOrT mA mB) := by
  refine ⟨pw_or ha.pe hb.pe, fun Hs H0s σ H H0 ρ Q rl p => ha.ev Hs H0s σ H H0 ρ _ rl ((Post.bind p).imp ?_)⟩
  rintro k H1 ⟨d, H01, _, f1, x1, p1⟩
  have x1 : k = d := x1
  subst x1
  cases k with
  | false => exact hb.ev Hs H0s σ H1 H01 ρ Q (rl.step f1) p1
  | true => exact p1 true H1 H01 (.refl f1.sb) rfl
theorem bt_w (h : BW X W e tA mA) : BT X W e tA mA := ⟨h.pe.pt, h.ev⟩
theorem bt_not (ha : BT X W a tA mA) : BT X W (.UnaryOp .Not a pos) (tNot tA) (mNotT mA) := by
  refine ⟨pt_not ha.pe, fun Hs H0s σ H H0 ρ Q rl p => ha.ev Hs H0s σ H H0 ρ _ rl ((Post.bind p).imp ?_)⟩
  rintro k H1 ⟨d, H01, _, f1, x1, p1⟩
  have x1 : k = d := x1
  subst x1
  exact p1 _ H1 H01 (.refl f1.sb) rfl
/-! .. as values -/
def mAnd (x y : ME) : ME := fun ρ => (x ρ).bind fun d => (dTruth d).bind fun k => if k then y ρ else .ok d
def mOr (x y : ME) : ME := fun ρ => (x ρ).bind fun d => (dTruth d).bind fun k => if k then .ok d else y ρ
def mNot (x : ME) : ME := fun ρ => (x ρ).bind fun d => (dTruth d).bind fun k => .ok (.bool (!k))
theorem be_one {op : BoolOp} (h : BE X W md a ta ma) : BE X W md (.BoolOp op [a] pos) ta ma := ⟨pe_one h.pe, h.ev⟩
theorem be_and (ha : BE X W md a ta ma) (hb : BE X W md (.BoolOp .And (b :: rest) pos) tb mb) : BE X W md (.BoolOp .And (a :: b :: rest) pos) (tAndT X.K ta tb) (mAnd ma mb) := by
  refine ⟨pe_andT ha.pe hb.pe, fun Hs H0s σ H H0 ρ Q rl p => ha.ev Hs H0s σ H H0 ρ _ rl ((Post.bind p).imp ?_)⟩
  rintro v H1 ⟨d, H01, _, f1, x1, p1⟩
  cases q : dTruth d with
  | stuck => rw [q] at p1; exact False.elim p1
  | err z => exact absurd q dTruth_ne
  | ok k =>
    rw [q] at p1
    refine ⟨k, tru_of (dp_md f1.sb x1) q, ?_⟩
    cases k with
    | true => rw [if_pos rfl]; exact hb.ev Hs H0s σ H1 H01 ρ Q (rl.step f1) p1
    | false => rw [if_neg (by decide)]; exact p1 v H1 H01 (.refl f1.sb) x1
  | pick k => exact absurd q dTruth_np
theorem be_or (ha : BE X W md a ta ma) (hb : BE X W md (.BoolOp .Or (b :: rest) pos) tb mb) : BE X W md (.BoolOp .Or (a :: b :: rest) pos) (tOrT X.K ta tb) (mOr ma mb) := by
  refine ⟨pe_orT ha.pe hb.pe, fun Hs H0s σ H H0 ρ Q rl p => ha.ev Hs H0s σ H H0 ρ _ rl ((Post.bind p).imp ?_)⟩
  rintro v H1 ⟨d, H01, _, f1, x1, p1⟩
  cases q : dTruth d with
  | stuck => rw [q] at p1; exact False.elim p1
  | err z => exact absurd q dTruth_ne
  | ok k =>
    rw [q] at p1
    refine ⟨k, tru_of (dp_md f1.sb x1) q, ?_⟩
    cases k with
    | false => rw [if_neg (by decide)]; exact hb.ev Hs H0s σ H1 H01 ρ Q (rl.step f1) p1
    | true => rw [if_pos rfl]; exact p1 v H1 H01 (.refl f1.sb) x1
  | pick k => exact absurd q dTruth_np
theorem be_not (ha : BE X W false a ta ma) : BE X W true (.UnaryOp .Not a pos) (tNotT X.K ta) (mNot ma) := by
  refine ⟨pe_notT ha.pe, fun Hs H0s σ H H0 ρ Q rl p => ha.ev Hs H0s σ H H0 ρ _ rl ((Post.bind p).imp ?_)⟩
  rintro v H1 ⟨d, H01, _, f1, x1, p1⟩
  cases q : dTruth d with
  | stuck => rw [q] at p1; exact False.elim p1
  | err z => exact absurd q dTruth_ne
  | ok k =>
    rw [q] at p1
    exact ⟨k, tru_of (dp_md f1.sb x1) q, p1 _ H1 H01 (.refl f1.sb) (.bl _)⟩
  | pick k => exact absurd q dTruth_np
def mIf (x : MT) (y z : ME) : ME := fun ρ => (x ρ).bind fun k => if k then y ρ else z ρ
theorem be_if (hc : BT X W c tA mA) (ha : BE X W md a ta ma) (hb : BE X W md b tb mb) : BE X W md (.IfExp c a b pos) (tIf tA ta tb) (mIf mA ma mb) := by
  refine ⟨pe_ifExp hc.pe ha.pe hb.pe, fun Hs H0s σ H H0 ρ Q rl p => hc.ev Hs H0s σ H H0 ρ _ rl ((Post.bind p).imp ?_)⟩
  rintro k H1 ⟨d, H01, _, f1, x1, p1⟩
  have x1 : k = d := x1
  subst x1
  cases k with
  | true => rw [if_pos rfl]; exact ha.ev Hs H0s σ H1 H01 ρ Q (rl.step f1) p1
  | false => rw [if_neg (by decide)]; exact hb.ev Hs H0s σ H1 H01 ρ Q (rl.step f1) p1

/-! ### unary minus -/
def dNeg : D → R D
  | .int i => .ok (.int (-i))
  | _ => .stuck
def m1 (f : D → R D) (ma : ME) : ME := fun ρ => (ma ρ).bind f
theorem be_neg (ha : BE X W false a ta ma) : BE X W true (.UnaryOp .USub a pos) (tUn (rU fun i => .int (-i)) ta) (m1 dNeg ma) := by
  refine ⟨pe_un un_neg ha.pe, fun Hs H0s σ H H0 ρ Q rl p => ha.ev Hs H0s σ H H0 ρ _ rl ((Post.bind p).imp ?_)⟩
  rintro v H1 ⟨d, H01, _, f1, x1, p1⟩
  cases d with
  | int i => cases x1; exact ⟨i, rfl, p1 _ H1 H01 (.refl f1.sb) (.int _)⟩
  | _ => exact False.elim p1

/-! ### arguments, displays -/
variable {es : List Expr} {tr : TA} {mr : MA}
def aNil : MA := fun _ => .ok []
def aCons (m : ME) (r : MA) : MA := fun ρ => (m ρ).bind fun d => (r ρ).bind fun ds => .ok (d :: ds)
theorem ba_nil : BA X W md [] tNil aNil := ⟨pa_nil, fun Hs H0s σ H H0 ρ Q rl p => p [] H H0 (.refl rl.sub) (by cases md <;> exact .nil)⟩
theorem ba_cons (ha : BE X W md e te m) (hr : BA X W md es tr mr) (hs : starEach (e :: es) X.env = (false, eval e X.env) :: starEach es X.env := by rfl) : BA X W md (e :: es) (tCons te tr) (aCons m mr) := by
  refine ⟨pa_cons ha.pe hr.pe hs, fun Hs H0s σ H H0 ρ Q rl p => ha.ev Hs H0s σ H H0 ρ _ rl ((Post.bind p).imp ?_)⟩
  rintro v H1 ⟨d, H01, _, f1, x1, p1⟩
  refine hr.ev Hs H0s σ H1 H01 ρ _ (rl.step f1) ((Post.bind p1).imp ?_)
  rintro vs H2 ⟨ds, H02, _, f2, x2, p2⟩
  exact p2 (v :: vs) H2 H02 (.refl f2.sb) (by
    have x1 := keep_md f2 x1
    cases md with
    | true => exact .cons x1 x2
    | false => exact .cons x1 x2)
def mTup (r : MA) : ME := fun ρ => (r ρ).bind fun ds => if ds.length ≤ sizeLine then .ok (.tuple ds) else .stuck
def mLst (r : MA) : ME := fun ρ => (r ρ).bind fun ds => if ds.length ≤ sizeLine then .ok (.list ds) else .stuck
theorem be_tup {k : Nat} (h : BA X W true es tr mr) : BE X W true (.Tuple es k pos) (tTup tr) (mTup mr) := by
  refine ⟨pe_tup h.pe, fun Hs H0s σ H H0 ρ Q rl p => h.ev Hs H0s σ H H0 ρ _ rl ((Post.bind p).imp ?_)⟩
  rintro vs H1 ⟨ds, H01, _, f1, x1, p1⟩
  split at p1
  · rename_i hl
    exact ⟨by rw [DpAll.length x1]; exact hl, fun q hq => p1 _ _ _ (Fr.new f1.sb hq) (.tup (.inl (.inl upd_same)) (dpAll_mono (Same.new (f1.sb.free hq)) _ _ x1))⟩
  · exact False.elim p1
theorem be_lst (h : BA X W true es tr mr) : BE X W true (.List es pos) (tLst tr) (mLst mr) := by
  refine ⟨pe_lst h.pe, fun Hs H0s σ H H0 ρ Q rl p => h.ev Hs H0s σ H H0 ρ _ rl ((Post.bind p).imp ?_)⟩
  rintro vs H1 ⟨ds, H01, _, f1, x1, p1⟩
  split at p1
  · rename_i hl
    exact ⟨by rw [DpAll.length x1]; exact hl, fun q hq => p1 _ _ _ (Fr.new f1.sb hq) (.lst (.inl (.inl upd_same)) (dpAll_mono (Same.new (f1.sb.free hq)) _ _ x1))⟩
  · exact False.elim p1

/-! ### calls -/
/-- a built-in, by values -/
def Fn (K : PySem.W.Frag) (mg : Str → Option Value) (md : Bool) (r : List V → Hp → VK → Prop) (f : List D → R D) : Prop :=
  ∀ (xs : List V) (ds : List D) (H H0 : Hp) (Q : VK) (E : XK), Same H0 H → DpAll K (bif md then H0 else H) xs ds → Post (Dp K) K mg true H H0 (f ds) Q E → r xs H Q
def mF (f : List D → R D) (r : MA) : ME := fun ρ => (r ρ).bind f
theorem be_callB {x : Str} {p : Pos} {id : String} {r : List V → Hp → VK → Prop} (f : List D → R D) (hc : CallR X (.builtin id) r) (hf : Fn X.K X.mg md r f) (hg : Gl X x) (hm : X.mg x = none) (hv : bootBuiltins x = some (.builtin id)) (ha : BA X W md (e :: es) tr mr)
    (hn : x ≠ "__name__" := by decide) (hd : (x == ("__debug__" : Str)) = false := by decide) (he : starEach (e :: es) X.env = (false, eval e X.env) :: starEach es X.env := by rfl) (hpl : (backTo pos (starEach es X.env)).any (·.1) = false := by rfl) :
    BE X W true (.Call (.Name x p) (e :: es) [] pos) (tCB r tr) (mF f mr) := by
  refine ⟨pe_callB hc hg hm hv ha.pe hn hd he hpl, fun Hs H0s σ H H0 ρ Q rl p => ha.ev Hs H0s σ H H0 ρ _ rl ((Post.bind p).imp ?_)⟩
  rintro vs H1 ⟨ds, H01, _, f1, x1, p1⟩
  exact hf vs ds H1 H01 Q _ f1.sb x1 p1
theorem be_callTy {x : Str} {p : Pos} {T : String} {r : List V → Hp → VK → Prop} (f : List D → R D) (hc : CallR X (.type T) r) (hf : Fn X.K X.mg md r f) (hg : Gl X x) (hm : X.mg x = none) (hv : bootBuiltins x = some (.type T)) (ha : BA X W md (e :: es) tr mr)
    (hn : x ≠ "__name__" := by decide) (hd : (x == ("__debug__" : Str)) = false := by decide) (he : starEach (e :: es) X.env = (false, eval e X.env) :: starEach es X.env := by rfl) (hpl : (backTo pos (starEach es X.env)).any (·.1) = false := by rfl) :
    BE X W true (.Call (.Name x p) (e :: es) [] pos) (tCB r tr) (mF f mr) := by
  refine ⟨pe_callTy hc hg hm hv ha.pe hn hd he hpl, fun Hs H0s σ H H0 ρ Q rl p => ha.ev Hs H0s σ H H0 ρ _ rl ((Post.bind p).imp ?_)⟩
  rintro vs H1 ⟨ds, H01, _, f1, x1, p1⟩
  exact hf vs ds H1 H01 Q _ f1.sb x1 p1
/-- the promise of a def by its mirror -/
def spM (K : PySem.W.Frag) (mg : Str → Option Value) (n : Nat) (f : List D → R D) : Sp := fun vs H Q E => ∃ H0 ds, Same H0 H ∧ DpAll K H0 vs ds ∧ ds.length = n ∧ Post (Dp K) K mg true H H0 (f ds) Q E
/-- what is known of a def of one's own -/
structure Def (P : Program) (w : World) (K : PySem.W.Frag) (mg : Str → Option Value) (base : Heap) (x : Str) (ps : List Str) (k : Nat) (f : List D → R D) : Prop where
  ex : ∃ (a : Addr) (fd : FuncData), FnOk P w K mg base (L2.CX P w) k a fd ps (spM K mg ps.length f) ∧ mg x = some (.ref a) ∧ PySem.W.keepIn K (.ref a) = true ∧ L2.Binds K fd ps []
def mCall (n : Nat) (f : List D → R D) (r : MA) : ME := fun ρ => (r ρ).bind fun ds => if ds.length = n then f ds else .stuck
theorem be_call {x : Str} {p : Pos} {ps : List Str} {k j n : Nat} {f : List D → R D} (F : Def X.prog X.w X.K X.mg X.base x ps k f) (hr : Room j X.A) (hk : k ≤ j) (hg : Gl X x) (tk : Takes X W) (ha : BA X W true (e :: es) tr mr) (hn : ps.length = n := by rfl)
    (hd : (x == ("__debug__" : Str)) = false := by decide) (he : starEach (e :: es) X.env = (false, eval e X.env) :: starEach es X.env := by rfl) (hpl : (backTo pos (starEach es X.env)).any (·.1) = false := by rfl) :
    BE X W true (.Call (.Name x p) (e :: es) [] pos) (tCallS (spM X.K X.mg n f) (WE W) tr) (mCall n f mr) := by
  subst hn
  obtain ⟨a, fd, h1, h2, h3, h4⟩ := F.ex
  refine ⟨pe_callS h1 (hr.mono hk) hg h2 h3 h4 (fun σ => passAt tk σ) ha.pe hd he hpl, fun Hs H0s σ H H0 ρ Q rl p => ha.ev Hs H0s σ H H0 ρ _ rl ((Post.bind p).imp ?_)⟩
  rintro vs H1 ⟨ds, H01, _, f1, x1, p1⟩
  split at p1
  · rename_i hl
    exact ⟨H01, ds, f1.sb, x1, hl, p1⟩
  · exact False.elim p1

/-! ### slices -/
def oNone : MO := fun _ => .ok none
def oSome (m : ME) : MO := fun ρ => (m ρ).bind fun d => match d with | .int i => .ok (some i) | _ => .stuck
theorem bo_none : BO X W none tNoPart oNone := ⟨po_none, fun Hs H0s σ H H0 ρ Q rl p => p none H H0 (.refl rl.sub) rfl⟩
theorem bo_some (h : BE X W false e te m) : BO X W (some e) (tPart te) (oSome m) := by
  refine ⟨po_some h.pe, fun Hs H0s σ H H0 ρ Q rl p => h.ev Hs H0s σ H H0 ρ _ rl ((Post.bind p).imp ?_)⟩
  rintro v H1 ⟨d, H01, _, f1, x1, p1⟩
  cases d with
  | int i => cases x1; exact ⟨i, rfl, p1 _ H1 H01 (.refl f1.sb) rfl⟩
  | _ => exact False.elim p1
end
end DW

end
end
section
set_option Elab.async false
set_option linter.all false
set_option maxRecDepth 100000
set_option maxHeartbeats 4000000
noncomputable section
namespace DW
open PySem PySem.Spec PyProof.Rows L2

inductive O where
  | nx (ρ : En) | rt (d : D) | rto (ds : List D) | bk (ρ : En) | ct (ρ : En) | err (e : Exn) (ρ : En) | stuck | pick (k : Nat → O)
abbrev MS := En → O
/-- a change at the leaves -/
def O.lf (f : O → O) (o : O) : O := O.rec (motive := fun _ => O) (fun ρ => f (.nx ρ)) (fun d => f (.rt d)) (fun d => f (.rto d)) (fun ρ => f (.bk ρ)) (fun ρ => f (.ct ρ)) (fun e ρ => f (.err e ρ)) (f .stuck) (fun _ ih => .pick ih) o
def O.of {α : Type} (r : R α) (ρ : En) (f : α → O) : O := R.rec (motive := fun _ => O) .stuck (fun a => f a) (fun e => .err e ρ) (fun _ ih => .pick ih) r
@[simp] theorem O.of_ok {α : Type} (a : α) (ρ : En) (f : α → O) : O.of (.ok a) ρ f = f a := rfl
@[simp] theorem O.of_err {α : Type} (e : Exn) (ρ : En) (f : α → O) : O.of (.err e) ρ f = .err e ρ := rfl
@[simp] theorem O.of_stuck {α : Type} (ρ : En) (f : α → O) : O.of (.stuck : R α) ρ f = .stuck := rfl
theorem O.of_pick {α : Type} (k : Nat → R α) (ρ : En) (f : α → O) : O.of (.pick k) ρ f = .pick fun n => O.of (k n) ρ f := rfl
def O.thn1 (f : MS) : O → O
  | .nx ρ => f ρ
  | o => o
def O.thn (o : O) (f : MS) : O := O.lf (O.thn1 f) o
theorem O.thn_pick (k : Nat → O) (f : MS) : (O.pick k).thn f = .pick fun n => (k n).thn f := rfl
@[simp] theorem O.thn_rto (d : List D) (f : MS) : (O.rto d).thn f = .rto d := rfl
/-- behind the body of a loop -/
def O.lp1 (f : MS) : O → O
  | .nx ρ => f ρ
  | .ct ρ => f ρ
  | .bk ρ => .nx ρ
  | o => o
def O.lp (o : O) (f : MS) : O := O.lf (O.lp1 f) o
@[simp] theorem O.lp_nx (ρ : En) (f : MS) : (O.nx ρ).lp f = f ρ := rfl
@[simp] theorem O.lp_ct (ρ : En) (f : MS) : (O.ct ρ).lp f = f ρ := rfl
@[simp] theorem O.lp_bk (ρ : En) (f : MS) : (O.bk ρ).lp f = .nx ρ := rfl
@[simp] theorem O.lp_rt (d : D) (f : MS) : (O.rt d).lp f = .rt d := rfl
@[simp] theorem O.lp_rto (d : List D) (f : MS) : (O.rto d).lp f = .rto d := rfl
@[simp] theorem O.lp_err (e : Exn) (ρ : En) (f : MS) : (O.err e ρ).lp f = .err e ρ := rfl
@[simp] theorem O.lp_stuck (f : MS) : O.stuck.lp f = .stuck := rfl
theorem O.lp_pick (k : Nat → O) (f : MS) : (O.pick k).lp f = .pick fun n => (k n).lp f := rfl
@[simp] theorem O.thn_nx (ρ : En) (f : MS) : (O.nx ρ).thn f = f ρ := rfl
@[simp] theorem O.thn_rt (d : D) (f : MS) : (O.rt d).thn f = .rt d := rfl
@[simp] theorem O.thn_bk (ρ : En) (f : MS) : (O.bk ρ).thn f = .bk ρ := rfl
@[simp] theorem O.thn_ct (ρ : En) (f : MS) : (O.ct ρ).thn f = .ct ρ := rfl
@[simp] theorem O.thn_err (e : Exn) (ρ : En) (f : MS) : (O.err e ρ).thn f = .err e ρ := rfl
@[simp] theorem O.thn_stuck (f : MS) : O.stuck.thn f = .stuck := rfl

def PostS (K : PySem.W.Frag) (mg : Str → Option Value) (ea : EA) (Hs H0s : Hp) (o : O) (D : Ends) (W : WX) : Prop := O.rec (motive := fun _ => Prop)
  (fun ρ => ∀ σ H H0, Rel K ea Hs H0s σ H H0 ρ → D.nx σ H)
  (fun d => ∀ v H H0, Fr Hs H0s H H0 → Dp K H0 v d → D.rt v H)
  (fun ds => ∀ p vs H H0, Fr Hs H0s H H0 → Hs p = none → H0 p = none → H p = some (.lst vs) → DpAll K H0 vs ds → D.rt (.ref p) H)
  (fun ρ => ∀ σ H H0, Rel K ea Hs H0s σ H H0 ρ → D.bk σ H)
  (fun ρ => ∀ σ H H0, Rel K ea Hs H0s σ H H0 ρ → D.ct σ H)
  (fun e ρ => ∀ σ H H0, Rel K ea Hs H0s σ H H0 ρ → ErrOk K mg (WE W σ) e H H0)
  False (fun _ ih => ∀ n, n < top1000 → ih n) o
/-- leaf by leaf -/
theorem PostS.lf {K : PySem.W.Frag} {mg : Str → Option Value} {ea ea' : EA} {Hs H0s Hs' H0s' : Hp} {o : O} {f : O → O} {D D' : Ends} {W W' : WX} (h : PostS K mg ea Hs H0s (O.lf f o) D W)
    (q : ∀ o', (∀ k, o' ≠ .pick k) → PostS K mg ea Hs H0s (f o') D W → PostS K mg ea' Hs' H0s' o' D' W') : PostS K mg ea' Hs' H0s' o D' W' := by
  induction o with
  | pick k ih => exact fun n hn => ih n (h n hn)
  | _ => exact q _ (fun _ z => nomatch z) h
structure BS (X : Cx) (W : WX) (s : Stmt) (t : TS) (m : MS) : Prop where
  pe : PS X s t
  ev : ∀ Hs H0s σ H H0 ρ D, Rel X.K (excOf X) Hs H0s σ H H0 ρ → PostS X.K X.mg (excOf X) Hs H0s (m ρ) D W → t D σ H
structure BSs (X : Cx) (W : WX) (s : List Stmt) (t : TS) (m : MS) : Prop where
  pe : PSs X s t
  ev : ∀ Hs H0s σ H H0 ρ D, Rel X.K (excOf X) Hs H0s σ H H0 ρ → PostS X.K X.mg (excOf X) Hs H0s (m ρ) D W → t D σ H
theorem PostS.of {K : PySem.W.Frag} {mg : Str → Option Value} {ea : EA} {Hs H0s H H0 : Hp} {σ : L2.St} {ρ : En} {α β : Type} {rel : Hp → β → α → Prop} {md : Bool} {r : R α} {f : α → O} {D : Ends} {W : WX}
    (h : PostS K mg ea Hs H0s (O.of r ρ f) D W) (rl : Rel K ea Hs H0s σ H H0 ρ) :
    Post rel K mg md H H0 r (fun v H' => ∃ d H0', True ∧ Fr H H0 H' H0' ∧ rel (bif md then H0' else H') v d ∧ PostS K mg ea Hs H0s (f d) D W) (WE W σ) := by
  induction r with
  | stuck => exact h
  | ok d => exact fun v H' H0' g x => ⟨d, H0', trivial, g, x, h⟩
  | err e => exact fun H' H0' g => h σ H' H0' (rl.step g)
  | pick k ih => exact fun n hn => ih n (h n hn)
theorem Fr.rebase {Hs H0s H1 H01 H H0 : Hp} (f : Fr Hs H0s H1 H01) (g : Fr Hs H01 H H0) : Fr Hs H0s H H0 :=
  ⟨g.ex, f.ez.trans g.ez, g.sb, fun p h0 h => g.ow p (f.ow p h0 h) h⟩
theorem Rel.unbase {K : PySem.W.Frag} {ea : EA} {Hs H0s H1 H01 H H0 : Hp} {σ : L2.St} {ρ : En} (f : Fr Hs H0s H1 H01) (r : Rel K ea Hs H01 σ H H0 ρ) : Rel K ea Hs H0s σ H H0 ρ :=
  ⟨f.rebase r.fr, r.len, r.sh, r.own, r.dis, r.exc, r.rnd⟩
theorem Rel.rebase {K : PySem.W.Frag} {ea : EA} {Hs H0s H01 H H0 : Hp} {σ : L2.St} {ρ : En} (r : Rel K ea Hs H0s σ H H0 ρ) (s1 : Same H0s H01) (s2 : Same H01 H0) : Rel K ea Hs H01 σ H H0 ρ :=
  ⟨⟨r.fr.ex, s2, r.fr.sb, fun p h0 h => r.fr.ow p (s1.free h0) h⟩, r.len, r.sh, r.own, r.dis, r.exc, r.rnd⟩
section
variable {X : Cx} {W : WX} {md : Bool} {e a b c : Expr} {t ta tb tc te : TE} {m ma mb mc : ME} {pos : Pos} {st : Stmt} {sts rest : List Stmt} {s u : TS} {ms mu : MS}
/-! ### blocks -/
def sNil : MS := fun ρ => .nx ρ
def sCons (x y : MS) : MS := fun ρ => (x ρ).thn y
theorem bss_nil : BSs X W [] tNext sNil := ⟨pss_nil, fun Hs H0s σ H H0 ρ D rl p => p σ H H0 rl⟩
theorem bss_cons (h1 : BS X W st s ms) (h2 : BSs X W rest u mu) : BSs X W (st :: rest) (tSeq s u) (sCons ms mu) := by
  refine ⟨pss_cons h1.pe h2.pe, fun Hs H0s σ H H0 ρ D rl p => h1.ev Hs H0s σ H H0 ρ _ rl ?_⟩
  refine PostS.lf (f := O.thn1 mu) p fun o np p => ?_
  cases o with
  | nx ρ' => exact fun σ H H0 r => h2.ev Hs H0s σ H H0 ρ' D r p
  | pick k => exact absurd rfl (np k)
  | _ => exact p
theorem bss_one (h : BS X W st s ms) : BSs X W [st] s ms := ⟨pss_one h.pe, h.ev⟩
/-- own lists at these slots are given to the base ahead of a statement -/
def frz (i : Nat) (ρ : En) : En := match ρ[i]? with
  | some (some (.own ds)) => ρ.set i (some (.sh (.list ds)))
  | _ => ρ
def sFrz (i : Nat) (x : MS) : MS := fun ρ => x (frz i ρ)
theorem Rel.frz {K : PySem.W.Frag} {ea : EA} {Hs H0s H H0 : Hp} {σ : L2.St} {ρ : En} (i : Nat) (h : Rel K ea Hs H0s σ H H0 ρ) : ∃ H0', Rel K ea Hs H0s σ H H0' (frz i ρ) := by
  unfold DW.frz
  split
  · rename_i ds e
    obtain ⟨H0', _, r⟩ := h.freeze e
    exact ⟨H0', r⟩
  · exact ⟨H0, h⟩
theorem bs_frz (i : Nat) (h : BS X W st s ms) : BS X W st s (sFrz i ms) := ⟨h.pe, fun Hs H0s σ H H0 ρ D rl p => by
  obtain ⟨H0', r⟩ := rl.frz i
  exact h.ev Hs H0s σ H H0' _ D r p⟩

/-! ### plain statements -/
theorem bs_pass : BS X W (.Pass pos) tNext sNil := ⟨ps_pass, fun Hs H0s σ H H0 ρ D rl p => p σ H H0 rl⟩
def sBreak : MS := fun ρ => .bk ρ
def sCont : MS := fun ρ => .ct ρ
theorem bs_break : BS X W (.Break pos) tBreak sBreak := ⟨ps_break, fun Hs H0s σ H H0 ρ D rl p => p σ H H0 rl⟩
theorem bs_cont : BS X W (.Continue pos) tCont sCont := ⟨ps_continue, fun Hs H0s σ H H0 ρ D rl p => p σ H H0 rl⟩
def sRet (m : ME) : MS := fun ρ => O.of (m ρ) ρ .rt
def sRetN : MS := fun _ => .rt .none
theorem bs_ret (h : BE X W true e t m) : BS X W (.Return (some e) pos) (tRet t) (sRet m) := by
  refine ⟨ps_ret h.pe, fun Hs H0s σ H H0 ρ D rl p => h.ev Hs H0s σ H H0 ρ _ rl ((PostS.of p rl).imp ?_)⟩
  rintro v H1 ⟨d, H01, _, f1, x1, p1⟩
  exact p1 v H1 H01 (rl.fr.trans f1) x1
theorem bs_retN : BS X W (.Return none pos) tRetN sRetN := ⟨ps_retN, fun Hs H0s σ H H0 ρ D rl p => p .non H H0 rl.fr .non⟩
def sExpr (m : ME) : MS := fun ρ => O.of (m ρ) ρ fun _ => .nx ρ
theorem bs_expr (h : BE X W md e t m) (hs : swapsWith e none pos.line X.env = pure false := by rfl) : BS X W (.Expr e pos) (tDrop t) (sExpr m) := by
  refine ⟨ps_expr h.pe hs, fun Hs H0s σ H H0 ρ D rl p => h.ev Hs H0s σ H H0 ρ _ rl ((PostS.of p rl).imp ?_)⟩
  rintro v H1 ⟨d, H01, _, f1, x1, p1⟩
  exact p1 σ H1 H01 (rl.step f1)
def sIf (x : MT) (y z : MS) : MS := fun ρ => O.of (x ρ) ρ fun k => if k then y ρ else z ρ
theorem bs_if {tA : TT} {mA : MT} {b1 b2 : List Stmt} (hc : BT X W c tA mA) (h1 : BSs X W b1 s ms) (h2 : BSs X W b2 u mu) : BS X W (.If c b1 b2 pos) (tIfS tA s u) (sIf mA ms mu) := by
  refine ⟨ps_if hc.pe h1.pe h2.pe, fun Hs H0s σ H H0 ρ D rl p => hc.ev Hs H0s σ H H0 ρ _ rl ((PostS.of p rl).imp ?_)⟩
  rintro k H1 ⟨d, H01, _, f1, x1, p1⟩
  have x1 : k = d := x1
  subst x1
  cases k with
  | true => rw [if_pos rfl]; exact h1.ev Hs H0s σ H1 H01 ρ D (rl.step f1) p1
  | false => rw [if_neg (by decide)]; exact h2.ev Hs H0s σ H1 H01 ρ D (rl.step f1) p1

/-! ### targets -/
/-- alike but at the slots of the list -/
def Ag (sl : List Nat) (σ σ' : L2.St) : Prop := σ'.length = σ.length ∧ ∀ j : Nat, j ∉ sl → σ'[j]? = σ[j]?
structure BG (X : Cx) (tg : Expr) (g : TG) (sl : List Nat) (mt : D → En → R En) : Prop where
  pe : PG X tg g
  ev : ∀ Hs H0s σ H H0 ρ v d ρ' (Q : L2.St → Hp → Prop), Rel X.K (excOf X) Hs H0s σ H H0 ρ → Dp X.K H0 v d → mt d ρ = .ok ρ' → (∀ σ', Rel X.K (excOf X) Hs H0s σ' H H0 ρ' → Ag sl σ σ' → Q σ' H) → g v σ H Q
structure BGs (X : Cx) (tgs : List Expr) (g : TGs) (sl : List Nat) (mt : List D → En → R En) : Prop where
  pe : PGs X tgs g
  ev : ∀ Hs H0s σ H H0 ρ v d ρ' (Q : L2.St → Hp → Prop), Rel X.K (excOf X) Hs H0s σ H H0 ρ → DpAll X.K H0 v d → mt d ρ = .ok ρ' → (∀ σ', Rel X.K (excOf X) Hs H0s σ' H H0 ρ' → Ag sl σ σ' → Q σ' H) → g v σ H Q
def gN (i : Nat) : D → En → R En := fun d ρ => .ok (ρ.set i (some (.sh d)))
theorem bg_name (i : Nat) {x : Str} (h : PG X (.Name x pos) (gName i)) : BG X (.Name x pos) (gName i) [i] (gN i) := by
  refine ⟨h, fun Hs H0s σ H H0 ρ v d ρ' Q rl x e q => ?_⟩
  cases e
  refine q _ (rl.set i x) ⟨List.length_set, fun j hj => ?_⟩
  have : i ≠ j := fun z => hj (by rw [z]; exact List.mem_cons_self)
  exact List.getElem?_set_ne this
def gsN : List D → En → R En := fun ds ρ => match ds with | [] => .ok ρ | _ => .stuck
def gsC (g : D → En → R En) (gs : List D → En → R En) : List D → En → R En := fun ds ρ => match ds with | d :: ds => (g d ρ).bind (gs ds) | [] => .stuck
theorem bgs_nil : BGs X [] gNil [] gsN := by
  refine ⟨pgs_nil, fun Hs H0s σ H H0 ρ v d ρ' Q rl x e q => ?_⟩
  cases x with
  | nil => cases e; exact ⟨rfl, q _ rl ⟨rfl, fun _ _ => rfl⟩⟩
  | cons _ _ => cases e
theorem bgs_cons {tg : Expr} {tgs : List Expr} {g : TG} {gs : TGs} {mt : D → En → R En} {mts : List D → En → R En} {sl sls : List Nat} (h : BG X tg g sl mt) (hs : BGs X tgs gs sls mts) (pe : PGs X (tg :: tgs) (gCons g gs)) : BGs X (tg :: tgs) (gCons g gs) (sl ++ sls) (gsC mt mts) := by
  refine ⟨pe, fun Hs H0s σ H H0 ρ v d ρ' Q rl x e q => ?_⟩
  cases x with
  | nil => cases e
  | cons x1 x2 =>
    rename_i v1 vs d1 ds
    have e : (mt d1 ρ).bind (mts ds) = .ok ρ' := e
    cases z : mt d1 ρ with
    | ok ρ1 =>
      rw [z] at e
      exact ⟨v1, vs, rfl, h.ev Hs H0s σ H H0 ρ v1 d1 ρ1 _ rl x1 z fun σ' r' a' => hs.ev Hs H0s σ' H H0 ρ1 vs ds ρ' _ r' x2 e fun σ'' r'' a'' => q σ'' r'' ⟨a''.1.trans a'.1, fun j hj => (a''.2 j fun z => hj (List.mem_append_right _ z)).trans (a'.2 j fun z => hj (List.mem_append_left _ z))⟩⟩
    | stuck => rw [z] at e; cases e
    | err _ => rw [z] at e; cases e
    | pick _ => rw [z] at e; cases e
def gT (n : Nat) (gs : List D → En → R En) : D → En → R En := fun d ρ => match d with
  | .tuple ds => if ds.length = n then gs ds ρ else .stuck
  | .list ds => if ds.length = n then gs ds ρ else .stuck
  | _ => .stuck
def gTL (K : PySem.W.Frag) (n : Nat) (t : TGs) : TG := fun v σ H Q => gTup K n t v σ H Q ∨ gLst K n t v σ H Q
theorem bg_tup {es : List Expr} {k : Nat} {gs : TGs} {n : Nat} {mts : List D → En → R En} {sl : List Nat} (h : BGs X es gs sl mts) (hc : X.calm = true) (pe : PGs X es gs)
    (hn : (assignEach es X.env).length = n := by rfl) (hst : (assignEach es X.env).findIdx? (·.1) = none := by rfl) : BG X (.Tuple es k pos) (gTL X.K n gs) sl (gT n mts) := by
  refine ⟨⟨fun pins s σ H v u Q I r q => q.elim (fun q => (pg_tup hc pe hn hst).run pins s σ H v u Q I r q) fun q => (pg_lst hc pe hn hst).run pins s σ H v u Q I r q⟩, fun Hs H0s σ H H0 ρ v d ρ' Q rl x e q => ?_⟩
  cases x with
  | tup hs ha =>
    rename_i p xs ds
    have e : (if ds.length = n then mts ds ρ else .stuck) = .ok ρ' := e
    split at e
    · rename_i hl
      exact .inl ⟨p, xs, rfl, sqT_mono rl.sub hs, by rw [DpAll.length ha]; exact hl, h.ev Hs H0s σ H H0 ρ xs ds ρ' Q rl ha e q⟩
    · cases e
  | lst hs ha =>
    rename_i p xs ds
    have e : (if ds.length = n then mts ds ρ else .stuck) = .ok ρ' := e
    split at e
    · rename_i hl
      exact .inr ⟨p, xs, rfl, rl.sub.seq hs, by rw [DpAll.length ha]; exact hl, h.ev Hs H0s σ H H0 ρ xs ds ρ' Q rl ha e q⟩
    · cases e
  | _ => cases e
def sAsg (g : D → En → R En) (m : ME) : MS := fun ρ => O.of (m ρ) ρ fun d => O.of (g d ρ).sure ρ .nx
theorem bs_asg {tg : Expr} {g : TG} {mt : D → En → R En} {sl : List Nat} (hb : BE X W true e t m) (hg : BG X tg g sl mt) (pe : PS X (.Assign [tg] e pos) (tAsg t g)) : BS X W (.Assign [tg] e pos) (tAsg t g) (sAsg mt m) := by
  refine ⟨pe, fun Hs H0s σ H H0 ρ D rl p => hb.ev Hs H0s σ H H0 ρ _ rl ((PostS.of p rl).imp ?_)⟩
  rintro v H1 ⟨d, H01, _, f1, x1, p1⟩
  cases z : mt d ρ with
  | ok ρ1 =>
    rw [z] at p1
    exact hg.ev Hs H0s σ H1 H01 ρ v d ρ1 _ (rl.step f1) x1 z fun σ' r' _ => p1 σ' H1 H01 r'
  | stuck => rw [z] at p1; exact False.elim p1
  | err _ => rw [z] at p1; exact False.elim p1
  | pick k => rw [z] at p1; exact False.elim p1
theorem bs_aug {i : Nat} {x : Str} {op : Operator} {ti : TIp} {pos' : Pos} (f : D → D → R D) (pe : PS X (.AugAssign (.Name x pos') op e pos) (tAug i t ti)) (hf : Op2 X.K X.mg md (fun x y H Q => ti x y H Q) f) (hb : BE X W md e t m) (ha : ∀ (md : Bool), md = md) :
    BS X W (.AugAssign (.Name x pos') op e pos) (tAug i t ti) (sAsg (gN i) (m2 f (mVar i) m)) := by
  refine ⟨pe, fun Hs H0s σ H H0 ρ D rl p => ?_⟩
  have p : PostS X.K X.mg (excOf X) Hs H0s (O.of ((mVar i ρ).bind fun d => (m ρ).bind fun e => f d e) ρ fun d => O.of (gN i d ρ).sure ρ .nx) D W := p
  cases z : mVar i ρ with
  | stuck => rw [z] at p; exact False.elim p
  | err ee =>
    unfold mVar at z
    split at z <;> cases z
  | pick k =>
    unfold mVar at z
    split at z <;> cases z
  | ok d =>
    rw [z] at p
    unfold mVar at z
    split at z
    · rename_i d' e'
      cases z
      obtain ⟨v, h1, h2⟩ := rl.sh _ _ e'
      have p : PostS X.K X.mg (excOf X) Hs H0s (O.of ((m ρ).bind fun e => f d e) ρ fun d => O.of (gN i d ρ).sure ρ .nx) D W := p
      refine ⟨v, h1, hb.ev Hs H0s σ H H0 ρ _ rl ((Post.bind (rel' := Dp X.K) (md' := true) (PostS.of p rl)).imp ?_)⟩
      rintro u H1 ⟨e1, H01, _, f1, x1, p1⟩
      refine hf v u d e1 H1 H01 _ (WE W σ) f1.sb (keep_md f1 (by cases md; exact dp_mono rl.sub _ _ h2; exact h2)) x1 (p1.imp ?_)
      rintro w H2 ⟨d2, H02, _, f2, x2, p2⟩
      exact p2 _ H2 H02 ((rl.step f2).set i x2)
    · cases z

/-! ### new lists -/
/-- what is to be shown of a list that is new and nobody else's -/
def PostN (K : PySem.W.Frag) (mg : Str → Option Value) (H H0 : Hp) (r : R (List D)) (Q : VK) (E : XK) : Prop := R.rec (motive := fun _ => Prop) False
  (fun ds => ∀ p vs H' H0', Fr H H0 H' H0' → H p = none → H0' p = none → H' p = some (.lst vs) → DpAll K H0' vs ds → Q (.ref p) H')
  (fun e => ∀ H' H0', Fr H H0 H' H0' → ErrOk K mg E e H' H0') (fun _ ih => ∀ n, n < top1000 → ih n) r
structure BN (X : Cx) (W : WX) (e : Expr) (t : TE) (m : MA) : Prop where
  pe : PE X e t
  ev : ∀ Hs H0s σ H H0 ρ Q, Rel X.K (excOf X) Hs H0s σ H H0 ρ → PostN X.K X.mg H H0 (m ρ) Q (WE W σ) → t σ H Q
theorem Fr.freeze {H H0 H' H0' : Hp} {p : Addr} {vs : List V} (f : Fr H H0 H' H0') (h : H p = none) (h0 : H0' p = none) (hp : H' p = some (.lst vs)) : Fr H H0 H' (upd H0' p (.lst vs)) := by
  refine ⟨f.ex, f.ez.trans (Same.new h0), fun b x q => ?_, fun q z1 z2 => ?_⟩
  · by_cases hb : b = p
    · subst hb; rw [upd_same] at q; rw [← q]; exact hp
    · rw [upd_ne hb] at q; exact f.sb b x q
  · have : q ≠ p := fun z => z2 (by rw [z]; exact h)
    rw [upd_ne this]
    exact f.ow q z1 z2
def mN (m : MA) : ME := fun ρ => (m ρ).bind fun ds => .ok (.list ds)
theorem PostN.of {K : PySem.W.Frag} {mg : Str → Option Value} {H H0 : Hp} {r : R (List D)} {Q : VK} {E : XK} (h : Post (Dp K) K mg true H H0 (r.bind fun ds => .ok (.list ds)) Q E) : PostN K mg H H0 r Q E := by
  induction r with
  | stuck => exact h
  | ok ds => exact fun p vs H' H0' f n n0 hp x => h (.ref p) H' _ (f.freeze n n0 hp) (.lst (.inl (.inl upd_same)) (dpAll_mono (Same.new n0) _ _ x))
  | err e => exact h
  | pick k ih => exact fun n hn => ih n (h n hn)
theorem be_n {mm : MA} (h : BN X W e t mm) : BE X W true e t (mN mm) := ⟨h.pe, fun Hs H0s σ H H0 ρ Q rl p => h.ev Hs H0s σ H H0 ρ Q rl (PostN.of p)⟩
/-- x = a new list, the slot's own from then on -/
def sOwn (i : Nat) (m : MA) : MS := fun ρ => O.of (m ρ) ρ fun ds => .nx (ρ.set i (some (.own ds)))
theorem bs_own {i : Nat} {x : Str} {pos' : Pos} {mm : MA} (h : BN X W e t mm) (pe : PS X (.Assign [.Name x pos'] e pos) (tAsg t (gName i))) : BS X W (.Assign [.Name x pos'] e pos) (tAsg t (gName i)) (sOwn i mm) := by
  refine ⟨pe, fun Hs H0s σ H H0 ρ D rl p => h.ev Hs H0s σ H H0 ρ _ rl ?_⟩
  unfold sOwn at p
  generalize mm ρ = r at p
  induction r with
  | stuck => exact p
  | pick k ih => exact fun n hn => ih n (p n hn)
  | err z => exact fun H' H0' f => p σ H' H0' (rl.step f)
  | ok ds =>
    intro pp vs H' H0' f n n0 hp x
    refine p _ H' H0' ((rl.step f).setOwn i (rl.fr.ex.free n) n0 hp x fun j es hj e1 e2 => ?_)
    obtain ⟨p2, vs2, a1, a2, a3, a4, a5⟩ := rl.own j es e1
    rw [e2] at a1
    injection a1 with a1; injection a1 with a1; injection a1 with a1
    rw [← a1, n] at a4
    cases a4
def aLst (r : MA) : MA := fun ρ => (r ρ).bind fun ds => if ds.length ≤ sizeLine then .ok ds else .stuck
theorem bn_lst {es : List Expr} {tr : TA} {mr : MA} (h : BA X W true es tr mr) : BN X W (.List es pos) (tLst tr) (aLst mr) := by
  refine ⟨pe_lst h.pe, fun Hs H0s σ H H0 ρ Q rl p => h.ev Hs H0s σ H H0 ρ _ rl ?_⟩
  unfold aLst at p
  generalize mr ρ = r at p
  induction r with
  | stuck => exact p
  | pick k ih => exact fun n hn => ih n (p n hn)
  | err z => exact p
  | ok ds =>
    have p : PostN X.K X.mg H H0 (if ds.length ≤ sizeLine then .ok ds else .stuck) Q (WE W σ) := p
    intro vs H' H0' f x
    split at p
    · rename_i hl
      exact ⟨by rw [DpAll.length x]; exact hl, fun pp hp => p pp vs _ _ (f.trans (Fr.loose f.sb hp)) (f.ex.free hp) (f.sb.free hp) upd_same x⟩
    · exact False.elim p
/-- x.append(e) -/
def sApp (i : Nat) (m : ME) : MS := fun ρ => match ρ[i]? with
  | some (some (.own ds)) => O.of (m ρ) ρ fun d => if ds.length < sizeLine then .nx (ρ.set i (some (.own (ds ++ [d])))) else .stuck
  | _ => .stuck
theorem bs_app {i : Nat} {x : Str} {p0 p1 : Pos} (h : BE X W true e t m) (pe : PS X (.Expr (.Call (.Attribute (.Name x p0) "append" p1) [e] [] pos) pos) (tDrop (tBM X.K "list" rAppend (tVar i) (tCons t tNil)))) :
    BS X W (.Expr (.Call (.Attribute (.Name x p0) "append" p1) [e] [] pos) pos) (tDrop (tBM X.K "list" rAppend (tVar i) (tCons t tNil))) (sApp i m) := by
  refine ⟨pe, fun Hs H0s σ H H0 ρ D rl p => ?_⟩
  unfold sApp at p
  split at p
  · rename_i ds e1
    obtain ⟨q, vs, h1, h2, h3, h4, h5⟩ := rl.own _ _ e1
    refine ⟨.ref q, h1, .inl ⟨rfl, _, .inl (.inl h4)⟩, h.ev Hs H0s σ H H0 ρ _ rl ((PostS.of p rl).imp ?_)⟩
    rintro v H1 ⟨d, H01, _, f1, x1, p1⟩
    split at p1
    · rename_i hl
      have h4' := f1.ex _ _ h4
      refine ⟨q, vs, v, rfl, rfl, h4', by rw [DpAll.length h5]; exact hl, ?_⟩
      exact p1 σ _ H01 ((rl.step f1).write e1 h1 (DpAll.append (dpAll_mono f1.ez _ _ h5) (.cons x1 .nil)))
    · exact False.elim p1
  · exact False.elim p
theorem DpAll.dropLast {K : PySem.W.Frag} {H : Hp} : ∀ {vs : List V} {ds : List D}, DpAll K H vs ds → DpAll K H vs.dropLast ds.dropLast
  | _, _, .nil => .nil
  | _, _, .cons r .nil => .nil
  | _, _, .cons r (.cons r2 t) => .cons r (DpAll.dropLast (.cons r2 t))
/-- x.pop() -/
def sPop (i : Nat) : MS := fun ρ => match ρ[i]? with
  | some (some (.own ds)) => match ds[ds.length - 1]? with
    | some _ => .nx (ρ.set i (some (.own ds.dropLast)))
    | none => .stuck
  | _ => .stuck
theorem bs_pop {i : Nat} {x : Str} {p0 p1 : Pos} (pe : PS X (.Expr (.Call (.Attribute (.Name x p0) "pop" p1) [] [] pos) pos) (tDrop (tBM0 X.K "list" rPop (tVar i)))) :
    BS X W (.Expr (.Call (.Attribute (.Name x p0) "pop" p1) [] [] pos) pos) (tDrop (tBM0 X.K "list" rPop (tVar i))) (sPop i) := by
  refine ⟨pe, fun Hs H0s σ H H0 ρ D rl p => ?_⟩
  unfold sPop at p
  split at p
  · rename_i ds e1
    obtain ⟨q, vs, h1, h2, h3, h4, h5⟩ := rl.own _ _ e1
    split at p
    · rename_i d e2
      obtain ⟨y, hy, _⟩ := DpAll.get h5 e2
      refine ⟨.ref q, h1, .inl ⟨rfl, _, .inl (.inl h4)⟩, q, vs, y, rfl, rfl, h4, by rw [DpAll.length h5]; exact hy, ?_⟩
      exact p σ _ H0 (rl.write e1 h1 (DpAll.dropLast h5))
    · exact False.elim p
  · exact False.elim p
/-- y = x.pop() -/
def sPopTo (j i : Nat) : MS := fun ρ => match ρ[i]? with
  | some (some (.own ds)) => match ds[ds.length - 1]? with
    | some d => .nx ((ρ.set i (some (.own ds.dropLast))).set j (some (.sh d)))
    | none => .stuck
  | _ => .stuck
theorem bs_popTo {i j : Nat} {x y : Str} {p0 p1 p2 cp : Pos} (pe : PS X (.Assign [.Name y p2] (.Call (.Attribute (.Name x p0) "pop" p1) [] [] cp) pos) (tAsg (tBM0 X.K "list" rPop (tVar i)) (gName j))) :
    BS X W (.Assign [.Name y p2] (.Call (.Attribute (.Name x p0) "pop" p1) [] [] cp) pos) (tAsg (tBM0 X.K "list" rPop (tVar i)) (gName j)) (sPopTo j i) := by
  refine ⟨pe, fun Hs H0s σ H H0 ρ D rl p => ?_⟩
  unfold sPopTo at p
  split at p
  · rename_i ds e1
    obtain ⟨q, vs, h1, h2, h3, h4, h5⟩ := rl.own _ _ e1
    split at p
    · rename_i d e2
      obtain ⟨y, hy, hd⟩ := DpAll.get h5 e2
      refine ⟨.ref q, h1, .inl ⟨rfl, _, .inl (.inl h4)⟩, q, vs, y, rfl, rfl, h4, by rw [DpAll.length h5]; exact hy, ?_⟩
      exact p _ _ H0 ((rl.write e1 h1 (DpAll.dropLast h5)).set j hd)
    · exact False.elim p
  · exact False.elim p
/-- x[k] = v -/
def sSetIx (i : Nat) (mi mv : ME) : MS := fun ρ => O.of (mv ρ) ρ fun d => match ρ[i]? with
  | some (some (.own ds)) => O.of (mi ρ) ρ fun k => match k with
    | .int z => match ixN ds.length z with
      | some j => .nx (ρ.set i (some (.own (ds.set j d))))
      | none => .stuck
    | _ => .stuck
  | _ => .stuck
theorem bs_setIx {i : Nat} {x : Str} {k : Expr} {tk : TE} {mi : ME} {p0 p1 : Pos} (hv : BE X W true e t m) (hi : BE X W true k tk mi) (pe : PS X (.Assign [.Subscript (.Name x p0) k p1] e pos) (tAsg t (gSub (tVar i) tk rSetL))) :
    BS X W (.Assign [.Subscript (.Name x p0) k p1] e pos) (tAsg t (gSub (tVar i) tk rSetL)) (sSetIx i mi m) := by
  refine ⟨pe, fun Hs H0s σ H H0 ρ D rl p => hv.ev Hs H0s σ H H0 ρ _ rl ((PostS.of p rl).imp ?_)⟩
  rintro v H1 ⟨d, H01, _, f1, x1, p1⟩
  have rl1 := rl.step f1
  split at p1
  · rename_i ds e1
    obtain ⟨q, vs, h1, h2, h3, h4, h5⟩ := rl1.own _ _ e1
    refine ⟨.ref q, h1, hi.ev Hs H0s σ H1 H01 ρ _ rl1 ((PostS.of p1 rl1).imp ?_)⟩
    rintro kv H2 ⟨kd, H02, _, f2, x2, p2⟩
    cases kd with
    | int z =>
      cases x2
      have p2 : PostS X.K X.mg (excOf X) Hs H0s (match ixN ds.length z with | some j => .nx (ρ.set i (some (.own (ds.set j d)))) | none => .stuck) D W := p2
      split at p2
      · rename_i j e2
        refine ⟨q, vs, z, j, rfl, rfl, f2.ex _ _ h4, by rw [DpAll.length h5]; exact e2, ?_⟩
        exact p2 σ _ H02 ((rl1.step f2).write e1 h1 (DpAll.set (dp_mono f2.ez _ _ x1) j (dpAll_mono f2.ez _ _ h5)))
      · exact False.elim p2
    | _ => exact False.elim p2
  · exact False.elim p1

/-! ### raise -/
def sRaise (x : Str) : MS := fun ρ => .err (x, []) ρ
theorem bs_raise {x : Str} {C : Addr} {ex : Expr} (hg : X.mg x = some (.ref C)) (pe : PS X (.Raise (some ex) none pos) (fun _ σ H => W (.ref C) none σ H)) : BS X W (.Raise (some ex) none pos) (fun _ σ H => W (.ref C) none σ H) (sRaise x) := by
  refine ⟨pe, fun Hs H0s σ H H0 ρ D rl p => ?_⟩
  obtain ⟨C', h1, h2⟩ := p σ H H0 rl
  have h1 : X.mg x = some (.ref C') := h1
  rw [hg] at h1
  cases h1
  exact h2

/-! ### while -/
def mWhile (c : MT) (b : MS) : Nat → MS
  | 0 => fun _ => .stuck
  | n + 1 => fun ρ => O.of (c ρ) ρ fun k => if k then (b ρ).lp (mWhile c b n) else .nx ρ
theorem bs_while (n : Nat) {tA : TT} {mA : MT} {body : List Stmt} (hp : PassesOwn (model X.prog X.w) X.A X.env X.xe) (hc : BT X W c tA mA) (hb : BSs X W body s ms) : BS X W (.While c body [] pos) (tWhile tA s) (mWhile mA ms n) := by
  refine ⟨ps_while hp hc.pe hb.pe, fun Hs H0s σ H H0 ρ D rl p => ?_⟩
  refine ⟨fun k σ H => ∃ ρ H0, Rel X.K (excOf X) Hs H0s σ H H0 ρ ∧ PostS X.K X.mg (excOf X) Hs H0s (mWhile mA ms k ρ) D W, ⟨n, ρ, H0, rl, p⟩, ?_⟩
  rintro k σ1 H1 ⟨ρ1, H01, rl1, p1⟩
  cases k with
  | zero => exact False.elim p1
  | succ k =>
    refine hc.ev Hs H0s σ1 H1 H01 ρ1 _ rl1 ((PostS.of (show PostS X.K X.mg (excOf X) Hs H0s (O.of (mA ρ1) ρ1 _) D W from p1) rl1).imp ?_)
    rintro b H2 ⟨d, H02, _, f2, x2, p2⟩
    have x2 : b = d := x2
    subst x2
    cases b with
    | false => rw [if_neg (by decide)]; exact p2 σ1 H2 H02 (rl1.step f2)
    | true =>
      rw [if_pos rfl]
      refine ⟨fun σ' H' => ∃ ρ H0, Rel X.K (excOf X) Hs H0s σ' H' H0 ρ ∧ PostS X.K X.mg (excOf X) Hs H0s (mWhile mA ms k ρ) D W, fun σ' H' h => ⟨k, Nat.lt_succ_self k, h⟩, ?_⟩
      refine hb.ev Hs H0s σ1 H2 H02 ρ1 _ (rl1.step f2) ?_
      refine PostS.lf (f := O.lp1 (mWhile mA ms k)) p2 fun o np p2 => ?_
      cases o with
      | nx ρ' => exact fun σ H H0 r => ⟨ρ', H0, r, p2⟩
      | ct ρ' => exact fun σ H H0 r => ⟨ρ', H0, r, p2⟩
      | pick k => exact absurd rfl (np k)
      | _ => exact p2

/-! ### for -/
def Walks (K : PySem.W.Frag) (J : It) (ds : List D) (Hb : Hp) : Prop := ∀ (i : Nat) (H' H0' : Hp), Same Hb H0' → Same H0' H' →
  (ds.length ≤ i → J.stop i H') ∧ ∀ d, ds[i]? = some d → J.go i H' ∧ ∀ x H'', J.yld i H' x H'' → ∃ H0'', Fr H' H0' H'' H0'' ∧ Dp K H0'' x d
def PostI (K : PySem.W.Frag) (mg : Str → Option Value) (H H0 : Hp) (r : R (List D)) (Rk : It → Hp → Prop) (E : XK) : Prop := R.rec (motive := fun _ => Prop) False
  (fun ds => ∀ J H' H0', Fr H H0 H' H0' → Walks K J ds H0' → Rk J H')
  (fun e => ∀ H' H0', Fr H H0 H' H0' → ErrOk K mg E e H' H0') (fun _ ih => ∀ n, n < top1000 → ih n) r
structure BI (X : Cx) (W : WX) (tg e : Expr) (wi : TI) (m : MA) : Prop where
  pe : PI X tg e wi
  ev : ∀ Hs H0s σ H H0 ρ Rk, Rel X.K (excOf X) Hs H0s σ H H0 ρ → PostI X.K X.mg H H0 (m ρ) Rk (WE W σ) → wi σ H Rk
def mLoop (g : D → En → R En) (b : MS) : List D → MS
  | [] => fun ρ => .nx ρ
  | d :: ds => fun ρ => O.of (g d ρ).sure ρ fun ρ1 => (b ρ1).lp (mLoop g b ds)
def sFor (mi : MA) (g : D → En → R En) (b : MS) : MS := fun ρ => O.of (mi ρ) ρ fun ds => mLoop g b ds ρ
theorem bs_for {tg it : Expr} {wi : TI} {mi : MA} {g : TG} {mt : D → En → R En} {sl : List Nat} {body : List Stmt} (hp : PassesOwn (model X.prog X.w) X.A X.env X.xe) (hc : X.calm = true) (hi : BI X W tg it wi mi) (hg : BG X tg g sl mt) (hb : BSs X W body s ms)
    (hs : ∀ x, foldedSetIterable it X.env x = pure x := by intro _; rfl) : BS X W (.For tg it body [] pos) (tFor wi g s) (sFor mi mt ms) := by
  refine ⟨ps_for hp hc hi.pe hg.pe hb.pe hs, fun Hs H0s σ H H0 ρ D rl p => hi.ev Hs H0s σ H H0 ρ _ rl ?_⟩
  unfold sFor at p
  generalize mi ρ = r at p
  induction r with
  | stuck => exact p
  | pick k ih => exact fun n hn => ih n (p n hn)
  | err z => exact fun H' H0' f => p σ H' H0' (rl.step f)
  | ok ds =>
    have p : PostS X.K X.mg (excOf X) Hs H0s (mLoop mt ms ds ρ) D W := p
    intro J H1 H01 f1 w1
    refine ⟨fun i k σ' H' => i + k = ds.length ∧ ∃ ρ' H0', Rel X.K (excOf X) Hs H0s σ' H' H0' ρ' ∧ Same H01 H0' ∧ PostS X.K X.mg (excOf X) Hs H0s (mLoop mt ms (ds.drop i) ρ') D W, ⟨ds.length, by omega, ρ, H01, rl.step f1, Same.refl _, p⟩, ?_⟩
    rintro i k σ2 H2 ⟨ek, ρ2, H02, rl2, s2, p2⟩
    obtain ⟨wS, wG⟩ := w1 i H2 H02 s2 rl2.sub
    cases k with
    | zero =>
      have e1 : ds.drop i = [] := List.drop_eq_nil_of_le (by omega)
      rw [e1] at p2
      exact .inl ⟨wS (by omega), p2 σ2 H2 H02 rl2⟩
    | succ k =>
      have hi' : i < ds.length := by omega
      have e1 : ds.drop i = ds[i] :: ds.drop (i + 1) := List.drop_eq_getElem_cons hi'
      rw [e1] at p2
      obtain ⟨go, yl⟩ := wG ds[i] (List.getElem?_eq_getElem hi')
      refine .inr ⟨go, fun σ' H' => ∃ ρ' H0', Rel X.K (excOf X) Hs H0s σ' H' H0' ρ' ∧ Same H01 H0' ∧ PostS X.K X.mg (excOf X) Hs H0s (mLoop mt ms (ds.drop (i + 1)) ρ') D W, fun σ' H' h => ⟨k, Nat.lt_succ_self k, by omega, h⟩, fun x H3 y => ?_⟩
      obtain ⟨H03, f3, x3⟩ := yl x H3 y
      have p2 : PostS X.K X.mg (excOf X) Hs H0s (O.of (mt ds[i] ρ2).sure ρ2 fun ρ1 => (ms ρ1).lp (mLoop mt ms (ds.drop (i + 1)))) D W := p2
      cases z : mt ds[i] ρ2 with
      | stuck => rw [z] at p2; exact False.elim p2
      | err _ => rw [z] at p2; exact False.elim p2
      | pick _ => rw [z] at p2; exact False.elim p2
      | ok ρ3 =>
        rw [z] at p2
        have p2 : PostS X.K X.mg (excOf X) Hs H0s ((ms ρ3).lp (mLoop mt ms (ds.drop (i + 1)))) D W := p2
        refine hg.ev Hs H0s σ2 H3 H03 ρ2 x _ ρ3 _ (rl2.step f3) x3 z fun σ3 rl3 _ => ?_
        -- the base behind the body holds what the loop walks: the body is run over the base at the loop's start
        have fr1 := (rl.step f1).fr
        refine hb.ev Hs H01 σ3 H3 H03 ρ3 _ (rl3.rebase fr1.ez (s2.trans f3.ez)) ?_
        refine PostS.lf (f := O.lp1 (mLoop mt ms (ds.drop (i + 1)))) p2 fun o np p2 => ?_
        cases o with
        | nx ρ' => exact fun σ H H0 r => ⟨ρ', H0, r.unbase fr1, r.fr.ez, p2⟩
        | ct ρ' => exact fun σ H H0 r => ⟨ρ', H0, r.unbase fr1, r.fr.ez, p2⟩
        | bk ρ' => exact fun σ H H0 r => p2 σ H H0 (r.unbase fr1)
        | rt d => exact fun v H H0 f xx => p2 v H H0 (fr1.rebase f) xx
        | rto d => exact fun q vs H H0 f n1 n2 hq xx => p2 q vs H H0 (fr1.rebase f) n1 n2 hq xx
        | err e ρ' => exact fun σ H H0 r => p2 σ H H0 (r.unbase fr1)
        | stuck => exact p2
        | pick k => exact absurd rfl (np k)
end
end DW

end
end
section
set_option Elab.async false
set_option linter.all false
set_option maxRecDepth 100000
set_option maxHeartbeats 4000000
noncomputable section
namespace DW
open PySem PySem.Spec PyProof.Rows L2

/-! ### comprehensions -/
def wipeD (ρ : En) : List Nat → En
  | [] => ρ
  | v :: vs => (wipeD ρ vs).set v none
theorem Rel.wipe {K : PySem.W.Frag} {ea : EA} {Hs H0s H H0 : Hp} {σ : L2.St} {ρ : En} (r : Rel K ea Hs H0s σ H H0 ρ) : ∀ vs : List Nat, Rel K ea Hs H0s (L2.wipe σ vs) H H0 (wipeD ρ vs)
  | [] => r
  | v :: vs => (Rel.wipe r vs).forget v none
theorem wipe_at (σ : L2.St) (j : Nat) : ∀ vs : List Nat, (L2.wipe σ vs)[j]? = if j ∈ vs then (if j < σ.length then some none else none) else σ[j]?
  | [] => by simp [L2.wipe]
  | v :: vs => by
    show ((L2.wipe σ vs).set v none)[j]? = _
    have hl : (L2.wipe σ vs).length = σ.length := wipe_length σ vs
    by_cases h : v = j
    · subst h
      rw [List.getElem?_set, if_pos rfl, hl, if_pos List.mem_cons_self]
    · rw [List.getElem?_set_ne h, wipe_at σ j vs]
      have : (j ∈ v :: vs) ↔ j ∈ vs := by
        rw [List.mem_cons]
        exact ⟨fun z => z.elim (fun q => absurd q.symm h) id, .inr⟩
      by_cases hm : j ∈ vs
      · rw [if_pos hm, if_pos (this.mpr hm)]
      · rw [if_neg hm, if_neg fun z => hm (this.mp z)]
theorem wipe_ag {σ σ2 : L2.St} {sl vs : List Nat} (a : Ag sl (L2.wipe σ vs) σ2) (hs : ∀ j ∈ sl, j ∈ vs) : L2.wipe σ2 vs = L2.wipe σ vs := by
  have hl : σ2.length = σ.length := a.1.trans (wipe_length σ vs)
  refine List.ext_getElem? fun j => ?_
  rw [wipe_at, wipe_at]
  by_cases hm : j ∈ vs
  · rw [if_pos hm, if_pos hm, hl]
  · rw [if_neg hm, if_neg hm, a.2 j fun z => hm (hs j z), wipe_at, if_neg hm]
/-- an object of no slot, not in the base, is written -/
theorem Rel.loose {K : PySem.W.Frag} {ea : EA} {Hs H0s H H0 : Hp} {σ : L2.St} {ρ : En} {p : Addr} {o : HO} (h : Rel K ea Hs H0s σ H H0 ρ) (hs : Hs p = none) (h0 : H0 p = none)
    (hn : ∀ (j : Nat) (es : List D), ρ[j]? = some (some (.own es)) → σ[j]? = some (some (.ref p)) → False) : Rel K ea Hs H0s σ (upd H p o) H0 ρ := by
  refine ⟨⟨fun b x q => ?_, h.fr.ez, fun b x q => ?_, h.fr.ow⟩, h.len, h.sh, fun j es q => ?_, h.dis, h.exc, h.rnd⟩
  · have : b ≠ p := fun z => by rw [z, hs] at q; cases q
    rw [upd_ne this]; exact h.fr.ex b x q
  · have : b ≠ p := fun z => by rw [z, h0] at q; cases q
    rw [upd_ne this]; exact h.fr.sb b x q
  · obtain ⟨q', vs, a1, a2, a3, a4, a5⟩ := h.own j es q
    have : q' ≠ p := fun z => hn j es q (z ▸ a1)
    exact ⟨q', vs, a1, a2, a3, by rw [upd_ne this]; exact a4, a5⟩
/-- the items made of the items -/
def lcLoop (g : D → En → R En) (mt : MT) (m : ME) (ρ : En) : List D → R (List D)
  | [] => .ok []
  | d :: ds => (g d ρ).sure.bind fun ρ1 => (mt ρ1).sure.bind fun k => if k then (m ρ1).sure.bind fun y => (lcLoop g mt m ρ ds).bind fun ys => .ok (y :: ys) else lcLoop g mt m ρ ds
def mLc (vs : List Nat) (mi : MA) (g : D → En → R En) (mt : MT) (m : ME) : MA := fun ρ => (mi ρ).bind fun ds => if ds.length ≤ sizeLine then (lcLoop g mt m (wipeD (clean ρ) vs) ds).sure else .stuck
theorem lcLoop_len {g : D → En → R En} {mt : MT} {m : ME} {ρ : En} : ∀ {ds ys : List D}, lcLoop g mt m ρ ds = .ok ys → ys.length ≤ ds.length
  | [], ys, h => by cases h; exact Nat.le_refl _
  | d :: ds, ys, h => by
    unfold lcLoop at h
    cases e1 : (g d ρ).sure with
    | stuck => rw [e1] at h; cases h
    | err _ => rw [e1] at h; cases h
    | pick _ => rw [e1] at h; cases h
    | ok ρ1 =>
      rw [e1, R.bind_ok] at h
      cases e2 : (mt ρ1).sure with
      | stuck => rw [e2] at h; cases h
      | err _ => rw [e2] at h; cases h
      | pick _ => rw [e2] at h; cases h
      | ok k =>
        rw [e2, R.bind_ok] at h
        cases k with
        | false => exact Nat.le_succ_of_le (lcLoop_len h)
        | true =>
          rw [if_pos rfl] at h
          cases e3 : (m ρ1).sure with
          | stuck => rw [e3] at h; cases h
          | err _ => rw [e3] at h; cases h
          | pick _ => rw [e3] at h; cases h
          | ok y =>
            rw [e3, R.bind_ok] at h
            cases e4 : lcLoop g mt m ρ ds with
            | stuck => rw [e4] at h; cases h
            | err _ => rw [e4] at h; cases h
            | pick _ => rw [e4] at h; cases h
            | ok zs =>
              rw [e4] at h
              cases h
              exact Nat.succ_le_succ (lcLoop_len e4)

abbrev W0 : WX := fun _ _ _ _ => False
section
variable {X : Cx} {W : WX} {md : Bool} {e a b c : Expr} {t ta tb tc te : TE} {m ma mb mc : ME} {pos : Pos} {st : Stmt} {sts rest : List Stmt} {s u : TS} {ms mu : MS}
structure BTs (X : Cx) (W : WX) (ifs : List Expr) (t : TT) (m : MT) : Prop where
  pe : PTs X ifs t
  ev : ∀ Hs H0s σ H H0 ρ Q, Rel X.K (excOf X) Hs H0s σ H H0 ρ → Post beqr X.K X.mg true H H0 (m ρ) Q (WE W σ) → t σ H Q
def mYes : MT := fun _ => .ok true
theorem bts_nil : BTs X W [] tYes mYes := ⟨pts_nil, fun Hs H0s σ H H0 ρ Q rl p => p true H H0 (.refl rl.sub) rfl⟩
theorem bts_one {t : TT} {m : MT} (h : BT X W c t m) : BTs X W [c] t m := ⟨pts_one h.pe, h.ev⟩
/-! ### readings by the mirror alone -/
def TE0 (K : PySem.W.Frag) (mg : Str → Option Value) (ea : EA) (W : WX) (md : Bool) (m : ME) : TE := fun σ H Q => ∃ Hs H0s H0 ρ, Rel K ea Hs H0s σ H H0 ρ ∧ Post (Dp K) K mg md H H0 (m ρ) Q (WE W σ)
def TT0 (K : PySem.W.Frag) (mg : Str → Option Value) (ea : EA) (W : WX) (m : MT) : TT := fun σ H Q => ∃ Hs H0s H0 ρ, Rel K ea Hs H0s σ H H0 ρ ∧ Post beqr K mg true H H0 (m ρ) Q (WE W σ)
def TG0 (K : PySem.W.Frag) (ea : EA) (sl : List Nat) (mt : D → En → R En) : TG := fun v σ H Q => ∃ Hs H0s H0 ρ d ρ', Rel K ea Hs H0s σ H H0 ρ ∧ Dp K H0 v d ∧ mt d ρ = .ok ρ' ∧ ∀ σ', Rel K ea Hs H0s σ' H H0 ρ' → Ag sl σ σ' → Q σ' H
theorem BE.canon (h : BE X W md e t m) : BE X W md e (TE0 X.K X.mg (excOf X) W md m) m :=
  ⟨⟨fun pins s σ H Q I ⟨Hs, H0s, H0, ρ, rl, p⟩ => h.pe.run pins s σ H Q I (h.ev Hs H0s σ H H0 ρ Q rl p)⟩, fun Hs H0s σ H H0 ρ Q rl p => ⟨Hs, H0s, H0, ρ, rl, p⟩⟩
theorem BTs.canon {ifs : List Expr} {t : TT} {m : MT} (h : BTs X W ifs t m) : BTs X W ifs (TT0 X.K X.mg (excOf X) W m) m :=
  ⟨⟨fun pins s σ H Q I ⟨Hs, H0s, H0, ρ, rl, p⟩ => h.pe.run pins s σ H Q I (h.ev Hs H0s σ H H0 ρ Q rl p)⟩, fun Hs H0s σ H H0 ρ Q rl p => ⟨Hs, H0s, H0, ρ, rl, p⟩⟩
theorem BG.canon {tg : Expr} {g : TG} {sl : List Nat} {mt : D → En → R En} (h : BG X tg g sl mt) : BG X tg (TG0 X.K (excOf X) sl mt) sl mt :=
  ⟨⟨fun pins s σ H v u Q I r ⟨Hs, H0s, H0, ρ, d, ρ', rl, x, e, q⟩ => h.pe.run pins s σ H v u Q I r (h.ev Hs H0s σ H H0 ρ v d ρ' Q rl x e q)⟩, fun Hs H0s σ H H0 ρ v d ρ' Q rl x e q => ⟨Hs, H0s, H0, ρ, d, ρ', rl, x, e, q⟩⟩
theorem ev_lc {elt tg iter : Expr} {ifs : List Expr} {scope : Scope} {vs sl : List Nat} {wi : TI} {mi : MA} {g : TG} {mt : D → En → R En} {tt : TT} {mtt : MT} (hi : BI X W tg iter wi mi) (hvs : ∀ j ∈ sl, j ∈ vs)
    (hg : ∀ (s : Shared) (H : Hp) (C : Addr) (cl : List (Str × Addr)) (fp : List Addr), BG (X.blk s H scope (compEnvC scope cl C X.env) fp) tg g sl mt) (ht : ∀ (s : Shared) (H : Hp) (C : Addr) (cl : List (Str × Addr)) (fp : List Addr), BTs (X.blk s H scope (compEnvC scope cl C X.env) fp) W0 ifs tt mtt)
    (he : ∀ (s : Shared) (H : Hp) (C : Addr) (cl : List (Str × Addr)) (fp : List Addr), BE (X.blk s H scope (compEnvC scope cl C X.env) fp) W0 true elt te m) :
    ∀ Hs H0s σ H H0 ρ Q, Rel X.K (excOf X) Hs H0s σ H H0 ρ → PostN X.K X.mg H H0 (mLc vs mi mt mtt m ρ) Q (WE W σ) → tLc wi g tt te vs σ H Q := by
  intro Hs H0s σ H H0 ρ Q rl p
  have hg := hg X.s_0 X.H_0 0 [] []
  have ht := ht X.s_0 X.H_0 0 [] []
  have he := he X.s_0 X.H_0 0 [] []
  refine hi.ev Hs H0s σ H H0 ρ _ rl ?_
  unfold mLc at p
  generalize mi ρ = r at p
  induction r with
  | stuck => exact p
  | pick k ih => exact fun n hn => ih n (p n hn)
  | err z => exact p
  | ok ds =>
    have p : PostN X.K X.mg H H0 (if ds.length ≤ sizeLine then (lcLoop mt mtt m (wipeD (clean ρ) vs) ds).sure else .stuck) Q (WE W σ) := p
    split at p
    · rename_i hsz
      intro J H1 H01 f1 w1 LD hLD
      cases tot : lcLoop mt mtt m (wipeD (clean ρ) vs) ds with
      | stuck => rw [tot] at p; exact False.elim p
      | err _ => rw [tot] at p; exact False.elim p
      | pick _ => rw [tot] at p; exact False.elim p
      | ok total =>
        rw [tot] at p
        have p : ∀ p vs H' H0', Fr H H0 H' H0' → H p = none → H0' p = none → H' p = some (.lst vs) → DpAll X.K H0' vs total → Q (.ref p) H' := p
        have htl := lcLoop_len tot
        have nD : H LD = none := f1.ex.free hLD
        have nDs : Hs LD = none := rl.fr.ex.free nD
        have rlw : Rel X.K EA.none Hs H0s (L2.wipe σ vs) H1 H01 (wipeD (clean ρ) vs) := Rel.wipe (Rel.clean (rl.step f1)) vs
        have ownD : ∀ (j : Nat) (es : List D), (wipeD (clean ρ) vs)[j]? = some (some (.own es)) → (L2.wipe σ vs)[j]? = some (some (.ref LD)) → False := fun j es e1 e2 => by
          obtain ⟨q', ws, a1, a2, a3, a4, a5⟩ := rlw.own j es e1
          rw [e2] at a1
          injection a1 with a1; injection a1 with a1; injection a1 with a1
          rw [← a1, hLD] at a4
          cases a4
        refine ⟨fun i k H' => i + k = ds.length ∧ ∃ H0' ws ys zs, Rel X.K EA.none Hs H0s (L2.wipe σ vs) H' H0' (wipeD (clean ρ) vs) ∧ Same H01 H0' ∧ Fr H H0 H' H0' ∧ H0' LD = none ∧ H' LD = some (.lst ws) ∧ DpAll X.K H0' ws ys ∧ lcLoop mt mtt m (wipeD (clean ρ) vs) (ds.drop i) = .ok zs ∧ total = ys ++ zs,
          ⟨ds.length, by omega, H01, [], [], total, rlw.loose nDs (f1.sb.free hLD) ownD, Same.refl _, f1.trans (Fr.loose f1.sb hLD), f1.sb.free hLD, upd_same, .nil, tot, rfl⟩, ?_⟩
        rintro i k H2 ⟨ek, H02, ws, ys, zs, rl2, s2, f2, n2, hw, hys, hz, ht2⟩
        obtain ⟨wS, wG⟩ := w1 i H2 H02 s2 f2.sb
        cases k with
        | zero =>
          have e1 : ds.drop i = [] := List.drop_eq_nil_of_le (by omega)
          rw [e1] at hz
          cases hz
          rw [List.append_nil] at ht2
          subst ht2
          exact .inl ⟨wS (by omega), p LD ws H2 H02 f2 nD n2 hw hys⟩
        | succ k =>
          have hi' : i < ds.length := by omega
          have e1 : ds.drop i = ds[i] :: ds.drop (i + 1) := List.drop_eq_getElem_cons hi'
          rw [e1] at hz
          obtain ⟨go, yl⟩ := wG ds[i] (List.getElem?_eq_getElem hi')
          refine .inr ⟨go, fun H' => i + 1 + k = ds.length ∧ ∃ H0' ws ys zs, Rel X.K EA.none Hs H0s (L2.wipe σ vs) H' H0' (wipeD (clean ρ) vs) ∧ Same H01 H0' ∧ Fr H H0 H' H0' ∧ H0' LD = none ∧ H' LD = some (.lst ws) ∧ DpAll X.K H0' ws ys ∧ lcLoop mt mtt m (wipeD (clean ρ) vs) (ds.drop (i + 1)) = .ok zs ∧ total = ys ++ zs, fun H' h => ⟨k, Nat.lt_succ_self k, h⟩, fun x H3 y => ?_⟩
          obtain ⟨H03, f3, x3⟩ := yl x H3 y
          have hLL2 : H2 LD ≠ none := by rw [hw]; simp
          have n3 : H03 LD = none := f3.ow LD n2 hLL2
          have hw3 := f3.ex _ _ hw
          unfold lcLoop at hz
          cases z1 : (mt ds[i] (wipeD (clean ρ) vs)) with
          | stuck => rw [z1] at hz; cases hz
          | err _ => rw [z1] at hz; cases hz
          | pick _ => rw [z1] at hz; cases hz
          | ok ρ1 =>
            rw [z1, R.sure_ok, R.bind_ok] at hz
            refine hg.ev Hs H0s (L2.wipe σ vs) H3 H03 _ x _ ρ1 _ (rl2.step f3) x3 z1 fun σ3 rl3 ag => ⟨wipe_ag ag hvs, ?_⟩
            refine ht.ev Hs H0s σ3 H3 H03 ρ1 _ rl3 (Post.sure (E := fun _ _ _ => False) ?_)
            cases z2 : (mtt ρ1).sure with
            | stuck => rw [z2] at hz; cases hz
            | err _ => rw [z2] at hz; cases hz
            | pick _ => rw [z2] at hz; cases hz
            | ok kk =>
              rw [z2, R.bind_ok] at hz
              intro bb H4 H04 f4 xb
              have xb : bb = kk := xb
              subst xb
              have f34 := f3.trans f4
              have n4 : H04 LD = none := f34.ow LD n2 hLL2
              have hw4 := f34.ex _ _ hw
              cases bb with
              | false =>
                rw [if_neg (by decide)] at hz ⊢
                exact ⟨by omega, H04, ws, ys, zs, rl2.step f34, (s2.trans f3.ez).trans f4.ez, f2.trans f34, n4, hw4, dpAll_mono f34.ez _ _ hys, hz, ht2⟩
              | true =>
                rw [if_pos rfl] at hz ⊢
                refine he.ev Hs H0s σ3 H4 H04 ρ1 _ (rl3.step f4) (Post.sure (E := fun _ _ _ => False) ?_)
                cases z3 : (m ρ1).sure with
                | stuck => rw [z3] at hz; cases hz
                | err _ => rw [z3] at hz; cases hz
                | pick _ => rw [z3] at hz; cases hz
                | ok y1 =>
                  rw [z3, R.bind_ok] at hz
                  cases z4 : lcLoop mt mtt m (wipeD (clean ρ) vs) (ds.drop (i + 1)) with
                  | stuck => rw [z4] at hz; cases hz
                  | err _ => rw [z4] at hz; cases hz
                  | pick _ => rw [z4] at hz; cases hz
                  | ok zs' =>
                    rw [z4] at hz
                    cases hz
                    intro v5 H5 H05 f5 x5
                    have f35 := f34.trans f5
                    have n5 : H05 LD = none := f35.ow LD n2 hLL2
                    have hw5 := f35.ex _ _ hw
                    have hlen : ws.length < sizeLine := by
                      rw [DpAll.length hys]
                      have : total.length = ys.length + (zs'.length + 1) := by rw [ht2, List.length_append, List.length_cons]
                      omega
                    refine ⟨ws, hw5, hlen, by omega, H05, ws ++ [v5], ys ++ [y1], zs', (rl2.step f35).loose nDs n5 ownD, (s2.trans f3.ez).trans (f4.ez.trans f5.ez), ?_, n5, upd_same, DpAll.append (dpAll_mono f35.ez _ _ hys) (.cons x5 .nil), rfl, by rw [ht2, List.append_assoc]; rfl⟩
                    have ff := f2.trans f35
                    refine ⟨fun b x q => ?_, ff.ez, fun b x q => ?_, ff.ow⟩
                    · have : b ≠ LD := fun z => by rw [z, nD] at q; cases q
                      rw [upd_ne this]; exact ff.ex b x q
                    · have : b ≠ LD := fun z => by rw [z, n5] at q; cases q
                      rw [upd_ne this]; exact ff.sb b x q
    · exact False.elim p
theorem bn_lc {elt tg iter : Expr} {ifs : List Expr} {scope : Scope} {own : List (Str × Nat)} {sl : List Nat} {wi : TI} {mi : MA} {mt : D → En → R En} {mtt : MT} (hc : X.calm = true) (hN : X.N.Nodup) (hi : BI X W tg iter wi mi) (ok : BlkOk X.N X.env.scope scope own) (hvs : ∀ j ∈ sl, j ∈ own.map (·.2))
    (hg : ∀ (s : Shared) (H : Hp) (C : Addr) (cl : List (Str × Addr)) (fp : List Addr), ∃ g, BG (X.blk s H scope (compEnvC scope cl C X.env) fp) tg g sl mt) (ht : ∀ (s : Shared) (H : Hp) (C : Addr) (cl : List (Str × Addr)) (fp : List Addr), ∃ tt, BTs (X.blk s H scope (compEnvC scope cl C X.env) fp) W0 ifs tt mtt)
    (he : ∀ (s : Shared) (H : Hp) (C : Addr) (cl : List (Str × Addr)) (fp : List Addr), ∃ te, BE (X.blk s H scope (compEnvC scope cl C X.env) fp) W0 true elt te m) (hs : ∀ x, foldedSetIterable iter X.env x = pure x := by intro _; rfl) :
    BN X W (.ListComp elt [⟨tg, iter, ifs, 0⟩] scope pos) (tLc wi (TG0 X.K EA.none sl mt) (TT0 X.K X.mg EA.none W0 mtt) (TE0 X.K X.mg EA.none W0 true m) (own.map (·.2))) (mLc (own.map (·.2)) mi mt mtt m) :=
  have hg := fun s H C cl fp => (hg s H C cl fp).elim fun _ h => h.canon
  have ht := fun s H C cl fp => (ht s H C cl fp).elim fun _ h => h.canon
  have he := fun s H C cl fp => (he s H C cl fp).elim fun _ h => h.canon
  ⟨pe_lc hc hN hi.pe ok (fun s H C cl fp => (hg s H C cl fp).pe) (fun s H C cl fp => (ht s H C cl fp).pe) (fun s H C cl fp => (he s H C cl fp).pe) hs, ev_lc hi hvs hg ht he⟩
/-- name = [..]: on one line -/
structure BL (X : Cx) (W : WX) (st : Stmt) (i : Nat) (t : TE) (m : MA) : Prop where
  pe : PS X st (tAsg t (gName i))
  ev : ∀ Hs H0s σ H H0 ρ Q, Rel X.K (excOf X) Hs H0s σ H H0 ρ → PostN X.K X.mg H H0 (m ρ) Q (WE W σ) → t σ H Q
theorem bl_lc {i : Nat} {y : Str} {py spos : Pos} {elt tg iter : Expr} {ifs : List Expr} {scope : Scope} {own : List (Str × Nat)} {sl : List Nat} {wi : TI} {mi : MA} {mt : D → En → R En} {mtt : MT} (hc : X.calm = true) (hN : X.N.Nodup) (hy : X.N[i]? = some y) (hyl : X.env.scope.names.lookup y = some .local)
    (hsw : swapsWith (.ListComp elt [⟨tg, iter, ifs, 0⟩] scope pos) (some (.Name y py)) spos.line X.env = pure true) (hi : BI X W tg iter wi mi) (ok : BlkOk X.N X.env.scope scope own) (hvs : ∀ j ∈ sl, j ∈ own.map (·.2))
    (hg : ∀ (s : Shared) (H : Hp) (C : Addr) (cl : List (Str × Addr)) (fp : List Addr), ∃ g, BG (X.blk s H scope (compEnvC scope cl C X.env) fp) tg g sl mt) (ht : ∀ (s : Shared) (H : Hp) (C : Addr) (cl : List (Str × Addr)) (fp : List Addr), ∃ tt, BTs (X.blk s H scope (compEnvC scope cl C X.env) fp) W0 ifs tt mtt)
    (he : ∀ (s : Shared) (H : Hp) (C : Addr) (cl : List (Str × Addr)) (fp : List Addr), ∃ te, BE (X.blk s H scope (compEnvC scope cl C X.env) fp) W0 true elt te m) (hs : ∀ x, foldedSetIterable iter X.env x = pure x := by intro _; rfl) :
    BL X W (.Assign [.Name y py] (.ListComp elt [⟨tg, iter, ifs, 0⟩] scope pos) spos) i (tLc wi (TG0 X.K EA.none sl mt) (TT0 X.K X.mg EA.none W0 mtt) (TE0 X.K X.mg EA.none W0 true m) (own.map (·.2))) (mLc (own.map (·.2)) mi mt mtt m) :=
  have hg := fun s H C cl fp => (hg s H C cl fp).elim fun _ h => h.canon
  have ht := fun s H C cl fp => (ht s H C cl fp).elim fun _ h => h.canon
  have he := fun s H C cl fp => (he s H C cl fp).elim fun _ h => h.canon
  ⟨ps_setLc hc hN hy hyl hsw hi.pe ok (fun s H C cl fp => (hg s H C cl fp).pe) (fun s H C cl fp => (ht s H C cl fp).pe) (fun s H C cl fp => (he s H C cl fp).pe) hs, ev_lc hi hvs hg ht he⟩
theorem bs_ownL {i : Nat} {mm : MA} (h : BL X W st i t mm) : BS X W st (tAsg t (gName i)) (sOwn i mm) := by
  refine ⟨h.pe, fun Hs H0s σ H H0 ρ D rl p => h.ev Hs H0s σ H H0 ρ _ rl ?_⟩
  unfold sOwn at p
  generalize mm ρ = r at p
  induction r with
  | stuck => exact p
  | pick k ih => exact fun n hn => ih n (p n hn)
  | err z => exact fun H' H0' f => p σ H' H0' (rl.step f)
  | ok ds =>
    intro pp vs H' H0' f n n0 hp x
    refine p _ H' H0' ((rl.step f).setOwn i (rl.fr.ex.free n) n0 hp x fun j es hj e1 e2 => ?_)
    obtain ⟨p2, vs2, a1, a2, a3, a4, a5⟩ := rl.own j es e1
    rw [e2] at a1
    injection a1 with a1; injection a1 with a1; injection a1 with a1
    rw [← a1, n] at a4
    cases a4
theorem bs_asgL {i : Nat} {mm : MA} (h : BL X W st i t mm) : BS X W st (tAsg t (gName i)) (sAsg (gN i) (mN mm)) := by
  refine ⟨h.pe, fun Hs H0s σ H H0 ρ D rl p => h.ev Hs H0s σ H H0 ρ _ rl (PostN.of ((PostS.of p rl).imp ?_))⟩
  rintro v H1 ⟨d, H01, _, f1, x1, p1⟩
  exact p1 _ H1 H01 ((rl.step f1).set i x1)

/-! ### what is walked -/
/-- a list, a tuple, a text -/
def iAny (K : PySem.W.Frag) (tl : TE) : TI := fun σ H Rk => tl σ H fun x H1 => (∃ a, x = .ref a ∧ (∃ xs, SqL K H1 a xs) ∧ Rk (Itl K a) H1) ∨ (∃ a, x = .ref a ∧ (∃ xs, SqT K H1 a xs) ∧ Rk (Itt K a) H1) ∨ (∃ z, x = .str z ∧ Rk (Its z) H1)
theorem pi_any {tg l : Expr} {tl : TE} (hl : PE X l tl) : PI X tg l (iAny X.K tl) := by
  refine ⟨fun pins s σ H Rk I h => ?_⟩
  refine thn (hl.run pins s σ H _ I h) fun v s1 ⟨x, H1, I1, r1, q1⟩ => ?_
  rcases q1 with ⟨a, e, ⟨xs, hq⟩, q⟩ | ⟨a, e, ⟨xs, hq⟩, q⟩ | ⟨z, e, q⟩
  · subst e
    cases r1
    obtain ⟨its, rv, p, hz⟩ := I1.list hq
    refine wpAny_pyIter_list p.isList ?_
    refine ⟨s1.heap.objs.size, [s1.heap.objs.size], _, _, H1, rfl, I1.kept (t' := s1.toks) fun b o e => Heap.get?_push_of_some _ e, turn_list a _, ⟨_, Heap.get?_push_size _ rfl, rfl, rfl⟩, fun b hb => ?_, q⟩
    have e : b = s1.heap.objs.size := by simpa using hb
    subst e
    exact I1.fpOk (Nat.le_refl _) (I1.hok.fresh (Nat.le_refl _))
  · subst e
    cases r1
    obtain ⟨its, rv, p, hz⟩ := I1.tuple hq
    refine wpAny_pyIter_tuple (show s1.heap.IsTuple a its.toArray from p) ?_
    refine ⟨s1.heap.objs.size, [s1.heap.objs.size], _, _, H1, rfl, I1.kept (t' := s1.toks) fun b o e => Heap.get?_push_of_some _ e, turn_tuple a _, ⟨_, Heap.get?_push_size _ rfl, rfl, rfl⟩, fun b hb => ?_, q⟩
    have e : b = s1.heap.objs.size := by simpa using hb
    subst e
    exact I1.fpOk (Nat.le_refl _) (I1.hok.fresh (Nat.le_refl _))
  · subst e
    obtain ⟨t, rfl⟩ := r1
    cases ha : z.cps.all (· < 128)
    · exact wpAny_pyIter_wide ha (pi_one (tk := s1.toks) I1 _ (turn_str _ z t "str_iterator" (.inr rfl)) ⟨_, Heap.get?_push_size _ rfl, rfl, rfl⟩ q)
    · exact wpAny_pyIter_ascii ha (pi_one (tk := s1.toks) I1 _ (turn_str _ z t "str_ascii_iterator" (.inl rfl)) ⟨_, Heap.get?_push_size _ rfl, rfl, rfl⟩ q)
/-- the signs of a text -/
def signs (z : Str) : List D := z.cps.toList.map fun c => .str ⟨#[c]⟩
def dItems : D → R (List D)
  | .list ds => .ok ds
  | .tuple ds => .ok ds
  | .str z => .ok (signs z)
  | _ => .stuck
def iSeq (m : ME) : MA := fun ρ => (m ρ).bind dItems
theorem walks_list {K : PySem.W.Frag} {Hb : Hp} {a : Addr} {xs : List V} {ds : List D} (h : SqL K Hb a xs) (x : DpAll K Hb xs ds) : Walks K (Itl K a) ds Hb := by
  intro i H' H0' s1 s2
  have h' : SqL K H' a xs := (s1.trans s2).seq h
  refine ⟨fun hi => ⟨xs, h', by rw [DpAll.length x]; exact hi⟩, fun d hd => ?_⟩
  obtain ⟨v, hv, xv⟩ := DpAll.get x hd
  refine ⟨⟨xs, v, h', hv⟩, fun y H'' hy => ?_⟩
  obtain ⟨rfl, q⟩ := hy
  have e : some y = some v := (q xs h').symm.trans hv
  cases e
  exact ⟨H0', .refl s2, dp_mono s1 _ _ xv⟩
theorem walks_tup {K : PySem.W.Frag} {Hb : Hp} {a : Addr} {xs : List V} {ds : List D} (h : SqT K Hb a xs) (x : DpAll K Hb xs ds) : Walks K (Itt K a) ds Hb := by
  intro i H' H0' s1 s2
  have h' : SqT K H' a xs := sqT_mono (s1.trans s2) h
  refine ⟨fun hi => ⟨xs, h', by rw [DpAll.length x]; exact hi⟩, fun d hd => ?_⟩
  obtain ⟨v, hv, xv⟩ := DpAll.get x hd
  refine ⟨⟨xs, v, h', hv⟩, fun y H'' hy => ?_⟩
  obtain ⟨rfl, q⟩ := hy
  have e : some y = some v := (q xs h').symm.trans hv
  cases e
  exact ⟨H0', .refl s2, dp_mono s1 _ _ xv⟩
theorem walks_str {K : PySem.W.Frag} {Hb : Hp} (z : Str) : Walks K (Its z) (signs z) Hb := by
  intro i H' H0' s1 s2
  have hl : (signs z).length = z.cps.size := by unfold signs; rw [List.length_map, Array.length_toList]
  refine ⟨fun hi => by show z.cps.size ≤ i; omega, fun d hd => ?_⟩
  have hi : i < z.cps.size := by rw [← hl]; exact (List.getElem?_eq_some_iff.mp hd).1
  refine ⟨hi, fun y H'' hy => ?_⟩
  obtain ⟨rfl, c, hc, rfl⟩ := hy
  unfold signs at hd
  rw [List.getElem?_map, Array.getElem?_toList, hc] at hd
  cases hd
  exact ⟨H0', .refl s2, .str _⟩
theorem PostI.of {K : PySem.W.Frag} {mg : Str → Option Value} {H H0 : Hp} {r : R D} {f : D → R (List D)} {Rk : It → Hp → Prop} {E : XK} (h : PostI K mg H H0 (r.bind f) Rk E) :
    Post (Dp K) K mg true H H0 r (fun v H' => ∃ d H0', True ∧ Fr H H0 H' H0' ∧ Dp K H0' v d ∧ PostI K mg H' H0' (f d) Rk E) E := by
  induction r with
  | stuck => exact h
  | err e => exact h
  | pick k ih => exact fun n hn => ih n (h n hn)
  | ok d =>
    intro v H' H0' f1 x
    refine ⟨d, H0', trivial, f1, x, ?_⟩
    have h : PostI K mg H H0 (f d) Rk E := h
    generalize f d = r at h
    induction r with
    | stuck => exact h
    | pick k ih => exact fun n hn => ih n (h n hn)
    | err e => exact fun H2 H02 g => h H2 H02 (f1.trans g)
    | ok ds => exact fun J H2 H02 g w => h J H2 H02 (f1.trans g) w
theorem bi_seq {tg : Expr} (h : BE X W true e t m) : BI X W tg e (iAny X.K t) (iSeq m) := by
  refine ⟨pi_any h.pe, fun Hs H0s σ H H0 ρ Rk rl p => h.ev Hs H0s σ H H0 ρ _ rl ((PostI.of p).imp ?_)⟩
  rintro v H1 ⟨d, H01, _, f1, x1, p1⟩
  cases x1 with
  | lst hs ha => exact .inl ⟨_, rfl, ⟨_, f1.sb.seq hs⟩, p1 _ H1 H01 (.refl f1.sb) (walks_list hs ha)⟩
  | tup hs ha => exact .inr (.inl ⟨_, rfl, ⟨_, sqT_mono f1.sb hs⟩, p1 _ H1 H01 (.refl f1.sb) (walks_tup hs ha)⟩)
  | str z => exact .inr (.inr ⟨z, rfl, p1 _ H1 H01 (.refl f1.sb) (walks_str z)⟩)
  | _ => exact False.elim p1
/-- range -/
def rangeL (lo hi : Int) : List D := (List.range (hi - lo).toNat).map fun (k : Nat) => PyData.int (lo + (k : Int))
def small (i : Int) : Bool := decide (-(2 ^ 62) ≤ i ∧ i < 2 ^ 62)
def dRange1 : List D → R (List D)
  | [.int j] => if small j then .ok (rangeL 0 j) else .stuck
  | _ => .stuck
def dRange2 : List D → R (List D)
  | [.int i, .int j] => if small i && small j then .ok (rangeL i j) else .stuck
  | _ => .stuck
def iRange1 (r : MA) : MA := fun ρ => (r ρ).bind dRange1
def iRange2 (r : MA) : MA := fun ρ => (r ρ).bind dRange2
theorem walks_range {K : PySem.W.Frag} {Hb : Hp} (lo hi : Int) : Walks K (Itr lo (hi - lo).toNat) (rangeL lo hi) Hb := by
  intro i H' H0' s1 s2
  have hl : (rangeL lo hi).length = (hi - lo).toNat := by unfold rangeL; rw [List.length_map, List.length_range]
  refine ⟨fun hi => by show _ ≤ i; omega, fun d hd => ?_⟩
  have hi' : i < (hi - lo).toNat := by rw [← hl]; exact (List.getElem?_eq_some_iff.mp hd).1
  refine ⟨hi', fun y H'' hy => ?_⟩
  obtain ⟨rfl, rfl⟩ := hy
  unfold rangeL at hd
  rw [List.getElem?_map, List.getElem?_range hi'] at hd
  cases hd
  exact ⟨H0', .refl s2, .int _⟩
theorem PostI.ofL {K : PySem.W.Frag} {mg : Str → Option Value} {md : Bool} {H H0 : Hp} {r : R (List D)} {f : List D → R (List D)} {Rk : It → Hp → Prop} {E : XK} (h : PostI K mg H H0 (r.bind f) Rk E) :
    Post (DpAll K) K mg md H H0 r (fun v H' => ∃ d H0', True ∧ Fr H H0 H' H0' ∧ DpAll K (bif md then H0' else H') v d ∧ PostI K mg H' H0' (f d) Rk E) E := by
  induction r with
  | stuck => exact h
  | err e => exact h
  | pick k ih => exact fun n hn => ih n (h n hn)
  | ok d =>
    intro v H' H0' f1 x
    refine ⟨d, H0', trivial, f1, x, ?_⟩
    have h : PostI K mg H H0 (f d) Rk E := h
    generalize f d = r at h
    induction r with
    | stuck => exact h
    | pick k ih => exact fun n hn => ih n (h n hn)
    | err e => exact fun H2 H02 g => h H2 H02 (f1.trans g)
    | ok ds => exact fun J H2 H02 g w => h J H2 H02 (f1.trans g) w
theorem small_of {i : Int} (h : small i = true) : -(2 ^ 62) ≤ i ∧ i < 2 ^ 62 := of_decide_eq_true h
theorem bi_range1 {tg : Expr} {p : Pos} {tr : TA} {mr : MA} (hg : Gl X "range") (hm : X.mg "range" = none) (ha : BA X W false [a] tr mr) (hs : starEach [a] X.env = [(false, eval a X.env)] := by rfl) : BI X W tg (.Call (.Name "range" p) [a] [] pos) (iRng1 tr) (iRange1 mr) := by
  refine ⟨pi_range1 hg hm ha.pe hs, fun Hs H0s σ H H0 ρ Rk rl p => ha.ev Hs H0s σ H H0 ρ _ rl ((PostI.ofL p).imp ?_)⟩
  rintro v H1 ⟨ds, H01, _, f1, x1, p1⟩
  unfold dRange1 at p1
  split at p1
  · cases x1 with
    | cons y1 y2 =>
      cases y2
      cases y1
      rename_i j
      split at p1
      · rename_i hh
        have := small_of hh
        refine ⟨j, rfl, this.1, this.2, ?_⟩
        have q := p1 _ H1 H01 (.refl f1.sb) (walks_range 0 j)
        rwa [Int.sub_zero] at q
      · exact False.elim p1
  · exact False.elim p1
theorem bi_range2 {tg : Expr} {p : Pos} {tr : TA} {mr : MA} (hg : Gl X "range") (hm : X.mg "range" = none) (ha : BA X W false [a, b] tr mr) (hs : starEach [a, b] X.env = [(false, eval a X.env), (false, eval b X.env)] := by rfl) (hs2 : starEach [b] X.env = [(false, eval b X.env)] := by rfl) :
    BI X W tg (.Call (.Name "range" p) [a, b] [] pos) (iRng2 tr) (iRange2 mr) := by
  refine ⟨pi_range2 hg hm ha.pe hs hs2, fun Hs H0s σ H H0 ρ Rk rl p => ha.ev Hs H0s σ H H0 ρ _ rl ((PostI.ofL p).imp ?_)⟩
  rintro v H1 ⟨ds, H01, _, f1, x1, p1⟩
  unfold dRange2 at p1
  split at p1
  · cases x1 with
    | cons y1 y2 =>
      cases y2 with
      | cons y3 y4 =>
        cases y4
        cases y1
        cases y3
        rename_i i j
        split at p1
        · rename_i hh
          have hh := (Bool.and_eq_true_iff.mp hh)
          have h1 := small_of hh.1
          have h2 := small_of hh.2
          exact ⟨i, j, rfl, ⟨h1.1, h1.2, h2.1, h2.2⟩, p1 _ H1 H01 (.refl f1.sb) (walks_range i j)⟩
        · exact False.elim p1
  · exact False.elim p1

/-! ### try -/
/-- what catches what: of an error by its name, whether the clause catches it -/
structure Catch (K : PySem.W.Frag) (mg : Str → Option Value) (x : Str) (C : Addr) (sub : Str → Option Bool) : Prop where
  g : mg x = some (.ref C)
  h : ∀ n b C', sub n = some b → mg n = some (.ref C') → PySem.W.exmOne K (.ref C') (.ref C) = some b
  k : ∀ n b, sub n = some b → ∃ C', mg n = some (.ref C')
/-- behind a try's body -/
def tryE (hd : Exn → En → O) : O → O
  | .nx ρ => .nx (clean ρ)
  | .bk ρ => .bk (clean ρ)
  | .ct ρ => .ct (clean ρ)
  | .rt d => .rt d
  | .rto d => .rto d
  | .err e ρ => hd e ρ
  | _ => .stuck
/-- behind a suite: nothing may leave it -/
def endS1 : O → O
  | .err _ _ => .stuck
  | .nx ρ => .nx (clean ρ)
  | .bk ρ => .bk (clean ρ)
  | .ct ρ => .ct (clean ρ)
  | o => o
def endS (o : O) : O := O.lf endS1 o
def endI1 (i : Nat) : O → O
  | .err _ _ => .stuck
  | .nx ρ => .nx (clean (ρ.set i none))
  | .bk ρ => .bk (clean (ρ.set i none))
  | .ct ρ => .ct (clean (ρ.set i none))
  | o => o
def endI (i : Nat) (o : O) : O := O.lf (endI1 i) o
abbrev Clause := Str × (Str → Option Bool) × MS
def hdl : List Clause → Exn → En → O
  | [], e, ρ => .err e (clean ρ)
  | (_, sub, su) :: r, e, ρ => match sub e.1 with
    | some true => endS (su (clean ρ))
    | some false => hdl r e ρ
    | none => .stuck
def sTryN (cs : List Clause) (body : MS) : MS := fun ρ => O.lf (tryE (hdl cs)) (body (clean ρ))
def hdlAs (i : Nat) (sub : Str → Option Bool) (su : MS) : Exn → En → O := fun e ρ => match sub e.1 with
    | some true => endI i (su ((clean ρ).set i (some (.exc e.1 e.2))))
    | some false => .err e (clean ρ)
    | none => .stuck
def sTryAs (_x : Str) (i : Nat) (sub : Str → Option Bool) (body suite : MS) : MS := fun ρ => O.lf (tryE (hdlAs i sub suite)) (body (clean ρ))
theorem clean_clean (ρ : En) : clean (clean ρ) = clean ρ := by
  unfold clean
  rw [List.map_map]
  congr 1
  funext y
  cases y with
  | none => rfl
  | some y => cases y <;> rfl
theorem PostS.su {K : PySem.W.Frag} {mg : Str → Option Value} {ea ea' : EA} {Hs H0s : Hp} {o : O} {D : Ends} {W W' : WX}
    (h : PostS K mg ea Hs H0s (endS o) D W) : PostS K mg ea' Hs H0s o D W' := PostS.lf h fun o np h => by
  cases o with
  | stuck => exact h
  | nx ρ => exact fun σ H H0 r => h σ H H0 r.clean
  | bk ρ => exact fun σ H H0 r => h σ H H0 r.clean
  | ct ρ => exact fun σ H H0 r => h σ H H0 r.clean
  | rt d => exact h
  | rto d => exact h
  | err e ρ => exact False.elim h
  | pick k => exact absurd rfl (np k)
theorem PostS.suI {K : PySem.W.Frag} {mg : Str → Option Value} {ea ea' : EA} {Hs H0s : Hp} {o : O} {D : Ends} {W W' : WX} {i : Nat}
    (h : PostS K mg ea Hs H0s (endI i o) D W) :
    PostS K mg ea' Hs H0s o { nx := fun σ' H' => D.nx (σ'.set i none) H', rt := D.rt, bk := fun σ' H' => D.bk (σ'.set i none) H', ct := fun σ' H' => D.ct (σ'.set i none) H' } W' := PostS.lf h fun o np h => by
  cases o with
  | stuck => exact h
  | nx ρ => exact fun σ H H0 r => h _ H H0 (r.forget i none).clean
  | bk ρ => exact fun σ H H0 r => h _ H H0 (r.forget i none).clean
  | ct ρ => exact fun σ H H0 r => h _ H H0 (r.forget i none).clean
  | rt d => exact h
  | rto d => exact h
  | err e ρ => exact False.elim h
  | pick k => exact absurd rfl (np k)
def TSu (K : PySem.W.Frag) (mg : Str → Option Value) (ea : EA) (W : WX) (m : MS) : TS := fun D σ H => ∃ Hs H0s H0 ρ, Rel K ea Hs H0s σ H H0 ρ ∧ PostS K mg ea Hs H0s (m ρ) D W
def TTr (K : PySem.W.Frag) (mg : Str → Option Value) (m : MS) (W : WX) : TS := fun D σ H => ∃ Hs H0s H0 ρ, (∀ ea, Rel K ea Hs H0s σ H H0 ρ) ∧ ∀ ea, PostS K mg ea Hs H0s (m ρ) D W
def lookXe (X : Cx) : Value → Shared → Prop := fun e s₁ => wpAny (model X.prog X.w) X.A (noteFrame e X.env) (fun _ s₂ => wpAny (model X.prog X.w) X.A (setFlight e none) (fun _ _ => True) X.xe s₂) X.xe s₁
theorem take_any (hs : X.stack = X.env :: X.outer) (hf : X.env.frame = some X.env.locals) (W : WX) : Takes (X.tr [] (lookXe X)) W := by
  rintro u s' ⟨a, B, sI, pins, σ, H, cls, d, rfl, I, nb, up, sky, na, os, ag, w⟩
  have hfr : X.A.frames = some (X.env :: X.outer) := by have := I.ok.frames; rw [← hs]; exact this
  have sky' : Sky B (X.env :: X.outer) a (Zc cls d) X.env.locals s'.heap := by rw [← hs]; exact sky
  show wpAny _ X.A (noteFrame (.ref a) X.env) _ _ _
  exact Sky.land Zc.steady hfr hf sky' fun h3 fl3 up3 => trivial
theorem own_any : PassesOwn (model X.prog X.w) X.A X.env (lookXe X) := PassesOwn.looking
section
variable {X : Cx} {W : WX}
/-- the suite's reading, of whatever error -/
def tSuite (K : PySem.W.Frag) (mg : Str → Option Value) (msu : MS) : Addr → Value → Option Addr → TS := fun a cls d => TSu K mg (eaOf K mg a cls d) W0 msu
theorem suite_pss {body : List Stmt} {msu : MS} (hsu : ∀ (a : Addr) (oe : Obj) (pn : List (Addr × Obj)), (∃ vs, oe.data = .fields vs) → ∃ t, BSs (X.suite a ((a, oe) :: pn)) W0 body t msu) (a : Addr) (oe : Obj) (cls : Value) (d : Option Addr) (pn : List (Addr × Obj))
    (hz : Zc cls d oe) (hd : ∃ vs, oe.data = .fields vs) : PSs (X.suite a ((a, oe) :: pn)) body (tSuite X.K X.mg msu a cls d) := by
  obtain ⟨t, h⟩ := hsu a oe pn hd
  obtain ⟨rfl, rfl⟩ := hz
  exact ⟨fun pins s σ H D I ⟨Hs, H0s, H0, ρ, rl, p⟩ => h.pe.run pins s σ H D I (h.ev Hs H0s σ H H0 ρ D rl p)⟩
/-- an error as it lies behind the body -/
theorem err_ok {K : PySem.W.Frag} {mg : Str → Option Value} {E : XK} {e : Exn} {H H0 Hs H0s : Hp} {ea : EA} {σ : L2.St} {ρ : En} (r : Rel K ea Hs H0s σ H H0 ρ)
    (h : ∀ (C : Addr) (d : Option Addr) (H' H0' : Hp), mg e.1 = some (.ref C) → Fr H H0 H' H0' → (∀ a, (eaOf K mg a (.ref C) d).ok e.1 e.2 H0') → E (.ref C) d H') (hm : ∃ C, mg e.1 = some (.ref C)) : ErrOk K mg E e H H0 := by
  obtain ⟨C, hC⟩ := hm
  refine ⟨C, hC, ?_⟩
  obtain ⟨n, fs⟩ := e
  cases fs with
  | nil => exact h C none H H0 hC (.refl r.sub) fun a => ⟨C, hC, rfl, rfl⟩
  | cons f fs =>
    obtain ⟨fn, fd⟩ := f
    intro v dx xv hn
    have n0 : H0 dx = none := r.sub.free hn
    exact h C (some dx) _ (upd H0 dx (.xd [(fn, v)])) hC (Fr.new r.sub hn) fun a => ⟨C, hC, rfl, dx, v, rfl, upd_same, dp_mono (Same.new n0) _ _ xv⟩
inductive HdsM (X : Cx) : List ExceptHandler → List Clause → List (Value × (Addr → Value → Option Addr → TS)) → Prop
  | nil : HdsM X [] [] []
  | cons {x : Str} {C : Addr} {sub : Str → Option Bool} {suite : List Stmt} {b₀ : Stmt} {np pos' : Pos} {msu : MS} {hds : List ExceptHandler} {cs : List Clause} {l : List (Value × (Addr → Value → Option Addr → TS))} (cc : Catch X.K X.mg x C sub) (hc : Names X x (.ref C))
      (hsu : ∀ (a : Addr) (oe : Obj) (pn : List (Addr × Obj)), (∃ vs, oe.data = .fields vs) → ∃ t, BSs (X.suite a ((a, oe) :: pn)) W0 (b₀ :: suite) t msu) (r : HdsM X hds cs l) :
      HdsM X (.ExceptHandler (some (.Name x np)) none (b₀ :: suite) pos' :: hds) ((x, sub, msu) :: cs) ((.ref C, tSuite X.K X.mg msu) :: l)
theorem HdsM.ok : ∀ {hds : List ExceptHandler} {cs : List Clause} {l : List (Value × (Addr → Value → Option Addr → TS))}, HdsM X hds cs l → HdsOk X hds l
  | _, _, _, .nil => .nil
  | _, _, _, .cons cc hc hsu r => .cons hc (suite_pss hsu) (HdsM.ok r)
theorem HdsM.want {D : Ends} {Hs H0s : Hp} : ∀ {hds : List ExceptHandler} {cs : List Clause} {l : List (Value × (Addr → Value → Option Addr → TS))}, HdsM X hds cs l →
    ∀ {e : Exn} {ρ : En}, PostS X.K X.mg (excOf X) Hs H0s (hdl cs e ρ) D W → ∀ σ H H0, Rel X.K (excOf X) Hs H0s σ H H0 (clean ρ) → ErrOk X.K X.mg (WE (wMany X.K W D l) σ) e H H0
  | _, _, _, .nil, e, ρ, p, σ, H, H0, r => p σ H H0 r
  | _, _, _, .cons (C := C) (sub := sub) (msu := msu) (cs := cs) (l := l) cc hc hsu rr, e, ρ, p, σ, H, H0, r => by
    unfold hdl at p
    cases z : sub e.1 with
    | none => rw [z] at p; exact False.elim p
    | some b =>
      rw [z] at p
      cases b with
      | true =>
        refine err_ok r (fun C' d H' H0' hC f ok => ?_) (cc.k _ _ z)
        refine ⟨true, cc.h _ true C' z hC, fun _ a na => ?_, fun h => nomatch h⟩
        have r2 := (Rel.clean r (ea' := eaOf X.K X.mg a (.ref C') d)).step f
        rw [clean_clean] at r2
        exact ⟨Hs, H0s, H0', _, r2, PostS.su (ea := excOf X) p⟩
      | false =>
        obtain ⟨C', h1, h2⟩ := HdsM.want rr (show PostS X.K X.mg (excOf X) Hs H0s (hdl cs e ρ) D W from p) σ H H0 r
        refine ⟨C', h1, ?_⟩
        obtain ⟨en, fs⟩ := e
        cases fs with
        | nil => exact ⟨false, cc.h en false C' z h1, (fun h => nomatch h), fun _ => h2⟩
        | cons f fs =>
          obtain ⟨fn, fd⟩ := f
          exact fun v dx xv hn => ⟨false, cc.h en false C' z h1, (fun h => nomatch h), fun _ => h2 v dx xv hn⟩
/-- behind the body, by its reading -/
theorem try_tr {Hs H0s : Hp} {hd : Exn → En → O} {o : O} {D : Ends} {W' : WX} (p : PostS X.K X.mg (excOf X) Hs H0s (O.lf (tryE hd) o) D W)
    (h : ∀ e ρ, PostS X.K X.mg (excOf X) Hs H0s (hd e ρ) D W → ∀ σ H H0, Rel X.K (excOf X) Hs H0s σ H H0 (clean ρ) → ErrOk X.K X.mg (WE W' σ) e H H0) (ea : EA) : PostS X.K X.mg ea Hs H0s o D W' := PostS.lf p fun o np p => by
  cases o with
  | stuck => exact p
  | nx ρ => exact fun σ H H0 r => p σ H H0 r.clean
  | bk ρ => exact fun σ H H0 r => p σ H H0 r.clean
  | ct ρ => exact fun σ H H0 r => p σ H H0 r.clean
  | rt d => exact p
  | rto d => exact p
  | err e ρ => exact fun σ H H0 r => h e ρ p σ H H0 r.clean
  | pick k => exact absurd rfl (np k)
theorem bs_tryN {body : List Stmt} {h₀ : ExceptHandler} {hds : List ExceptHandler} {c₀ : Clause} {cs : List Clause} {l : List (Value × (Addr → Value → Option Addr → TS))} {pos : Pos} {mb : MS} (hs : X.stack = X.env :: X.outer) (hf : X.env.frame = some X.env.locals) (tk : Takes X W)
    (hb : ∀ (W : WX) (pn : List (Addr × Obj)) (xe : Value → Shared → Prop), Takes (X.tr pn xe) W → PassesOwn (model X.prog X.w) X.A X.env xe → ∃ t, BSs (X.tr pn xe) W body t mb)
    (hh : HdsM X (h₀ :: hds) (c₀ :: cs) l) :
    BS X W (.Try body (h₀ :: hds) [] [] pos) (fun D σ H => TTr X.K X.mg mb (wMany X.K W D l) D σ H) (sTryN (c₀ :: cs) mb) := by
  refine ⟨ps_try_many hs hf tk (fun W pn xe tk ho => (hb W pn xe tk ho).elim fun _ h => ⟨fun pins s σ H D I ⟨Hs, H0s, H0, ρ, rl, p⟩ => h.pe.run pins s σ H D I (h.ev Hs H0s σ H H0 ρ D (rl _) (p _))⟩) hh.ok, fun Hs H0s σ H H0 ρ D rl p => ?_⟩
  exact ⟨Hs, H0s, H0, clean ρ, fun _ => rl.clean, try_tr p fun e ρ1 p => hh.want p⟩
theorem bs_tryAs {x n : Str} {i : Nat} {C : Addr} {sub : Str → Option Bool} {body suite : List Stmt} {b₀ : Stmt} {np pos pos' : Pos} {mb msu : MS} (hs : X.stack = X.env :: X.outer) (hf : X.env.frame = some X.env.locals) (hN : X.N.Nodup) (hi : X.N[i]? = some n) (hk : X.env.kindOf n = some NameKind.local)
    (cc : Catch X.K X.mg x C sub) (hc : Names X x (.ref C)) (tk : Takes X W)
    (hb : ∀ (W : WX) (pn : List (Addr × Obj)) (xe : Value → Shared → Prop), Takes (X.tr pn xe) W → PassesOwn (model X.prog X.w) X.A X.env xe → ∃ t, BSs (X.tr pn xe) W body t mb)
    (hsu : ∀ (a : Addr) (oe : Obj) (pn : List (Addr × Obj)), (∃ vs, oe.data = .fields vs) → ∃ t, BSs (X.suite a ((a, oe) :: pn)) W0 (b₀ :: suite) t msu) :
    BS X W (.Try body [.ExceptHandler (some (.Name x np)) (some n) (b₀ :: suite) pos'] [] [] pos) (fun D σ H => TTr X.K X.mg mb (wAs X.K (.ref C) i (tSuite X.K X.mg msu) W D) D σ H) (sTryAs x i sub mb msu) := by
  refine ⟨ps_try_as hs hf hN hi hk hc tk (fun W pn xe tk ho => (hb W pn xe tk ho).elim fun _ h => ⟨fun pins s σ H D I ⟨Hs, H0s, H0, ρ, rl, p⟩ => h.pe.run pins s σ H D I (h.ev Hs H0s σ H H0 ρ D (rl _) (p _))⟩) (suite_pss hsu), fun Hs H0s σ H H0 ρ D rl p => ?_⟩
  refine ⟨Hs, H0s, H0, clean ρ, fun _ => rl.clean, try_tr p fun e ρ1 p σ H H0 r => ?_⟩
  unfold hdlAs at p
  cases z : sub e.1 with
  | none => rw [z] at p; exact False.elim p
  | some b =>
    rw [z] at p
    cases b with
    | true =>
      refine err_ok r (fun C' d H' H0' hC f ok => ?_) (cc.k _ _ z)
      refine ⟨true, cc.h _ true C' z hC, fun _ a na => ?_, fun h => nomatch h⟩
      have r2 := (Rel.clean r (ea' := eaOf X.K X.mg a (.ref C') d)).step f
      rw [clean_clean] at r2
      exact ⟨Hs, H0s, H0', _, r2.setExc i (ok a), PostS.suI p⟩
    | false =>
      obtain ⟨C', h1, h2⟩ := (show PostS X.K X.mg (excOf X) Hs H0s (.err e (clean ρ1)) D W from p) σ H H0 r
      refine ⟨C', h1, ?_⟩
      obtain ⟨en, fs⟩ := e
      cases fs with
      | nil => exact ⟨false, cc.h en false C' z h1, (fun h => nomatch h), fun _ => h2⟩
      | cons f fs =>
        obtain ⟨fn, fd⟩ := f
        exact fun v dx xv hn => ⟨false, cc.h en false C' z h1, (fun h => nomatch h), fun _ => h2 v dx xv hn⟩
end
end
end DW

end
end
section
set_option Elab.async false
set_option linter.all false
set_option maxRecDepth 100000
set_option maxHeartbeats 4000000
noncomputable section
namespace DW
open PySem PySem.Spec PyProof.Rows L2
open SX (S S_tl S_len S_cat)

theorem sz_str (x : Str) : x.length = x.cps.toList.length := by simp [Str.length]
section
variable {K : PySem.W.Frag} {mg : Str → Option Value} {md : Bool}
/-- a value of no object may be handed on at once -/
theorem post_here {H H0 : Hp} {d : D} {v : V} {Q : VK} {E : XK} (p : Post (Dp K) K mg true H H0 (.ok d) Q E) (s : Same H0 H) (x : ∀ H, Dp K H v d) : Q v H := p v H H0 (.refl s) (x H0)

/-! ### int operations -/
def dSub : D → D → R D
  | .int i, .int j => .ok (.int (i - j))
  | _, _ => .stuck
theorem op2_sub : Op2 K mg md (rI0 fun i j => .int (i - j)) dSub := by
  intro x y d e H H0 Q E s hx hy p
  unfold dSub at p
  split at p
  · cases dp_md s hx; cases dp_md s hy; exact ⟨_, _, rfl, rfl, post_here p s fun _ => .int _⟩
  · exact False.elim p
def dFdiv : D → D → R D
  | .int i, .int j => if 0 < j ∧ j.natAbs.log2 < 9000 then .ok (.int (i / j)) else .stuck
  | _, _ => .stuck
theorem op2_fdiv : Op2 K mg md (rI CDivW fun i j => .int (i / j)) dFdiv := by
  intro x y d e H H0 Q E s hx hy p
  unfold dFdiv at p
  split at p
  · split at p
    · rename_i h
      cases dp_md s hx; cases dp_md s hy; exact ⟨_, _, rfl, rfl, h, post_here p s fun _ => .int _⟩
    · exact False.elim p
  · exact False.elim p
def dMod : D → D → R D
  | .int i, .int j => if 0 < j then .ok (.int (i % j)) else .stuck
  | _, _ => .stuck
theorem op2_mod : Op2 K mg md (rI (fun _ j => 0 < j) fun i j => .int (i % j)) dMod := by
  intro x y d e H H0 Q E s hx hy p
  unfold dMod at p
  split at p
  · split at p
    · rename_i h
      cases dp_md s hx; cases dp_md s hy; exact ⟨_, _, rfl, rfl, h, post_here p s fun _ => .int _⟩
    · exact False.elim p
  · exact False.elim p
def dPow : D → D → R D
  | .int i, .int j => if 0 ≤ j ∧ j ≤ 1000000 ∧ i.natAbs < 2 ^ 64 then .ok (.int (i ^ j.toNat)) else .stuck
  | _, _ => .stuck
theorem op2_pow : Op2 K mg md (rI CPow fun i j => .int (i ^ j.toNat)) dPow := by
  intro x y d e H H0 Q E s hx hy p
  unfold dPow at p
  split at p
  · split at p
    · rename_i h
      cases dp_md s hx; cases dp_md s hy; exact ⟨_, _, rfl, rfl, h, post_here p s fun _ => .int _⟩
    · exact False.elim p
  · exact False.elim p

/-! ### + -/
def rCatLL (K : PySem.W.Frag) : R2 := fun x y H Q => ∃ l b xs zs, x = .ref l ∧ y = .ref b ∧ SqL K H l xs ∧ SqL K H b zs ∧ xs.length + zs.length ≤ sizeLine ∧ ∀ p, H p = none → Q (.ref p) (upd H p (.lst (xs ++ zs)))
theorem op_catLL {X : Cx} : OpR X (binaryOp .Add) (rCatLL X.K) := by
  intro pins s σ H x y v u Q I rx ry h
  obtain ⟨l, b, xs, zs, rfl, rfl, hH, hB, hz, q⟩ := h
  cases rx
  cases ry
  obtain ⟨its, r, pl, hs⟩ := I.list hH
  obtain ⟨its2, r2, pl2, hs2⟩ := I.list hB
  have hl := r.length
  have hl2 := r2.length
  obtain ⟨⟨c1, d1, dt1, sl1⟩, ho, hc, n, hd⟩ := pl.isList
  obtain ⟨⟨c2, d2, dt2, sl2⟩, ho2, hc2, n2, hd2⟩ := pl2.isList
  simp only at hc hd hc2 hd2
  subst hc hd hc2 hd2
  refine concat_meets ⟨_, ho, rfl⟩ ⟨_, ho2, rfl⟩ noFill_list_add seq_list_add PySem.F.slot_list_add PySem.F.entry_list_add (PySem.F.args_list_add_2 _ _)
    (list_addW l b its.toArray its2.toArray n n2 d1 d2 sl1 sl2 (by rw [List.size_toArray, List.size_toArray]; omega)) ⟨ho, ho2, ?_⟩
  have ea : its.toArray ++ its2.toArray = (its ++ its2).toArray := by simp
  rw [ea]
  exact ⟨.ref _, _, I.lnew (t' := s.toks) (r.append r2) (by rw [List.length_append]; omega), rfl, q _ I.fresh⟩
def rAddA (K : PySem.W.Frag) : R2 := fun x y H Q => (rI0 (fun i j => .int (i + j)) x y H Q ∨ (fun x y H Q => ∃ i j, x = .str i ∧ y = .str j ∧ i.length + j.length ≤ sizeLine ∧ Q (.str (i ++ j)) H) x y H Q) ∨ (rCatLL K x y H Q ∨ rCatA K x y H Q)
theorem op_addA {X : Cx} : OpR X (binaryOp .Add) (rAddA X.K) := OpR.or (OpR.or op_add op_add_str) (OpR.or op_catLL op_catA)
def dAdd : D → D → R D
  | .int i, .int j => .ok (.int (i + j))
  | .str a, .str b => if a.cps.toList.length + b.cps.toList.length ≤ sizeLine then .ok (.str (S (a.cps.toList ++ b.cps.toList))) else .stuck
  | .list a, .list b => if a.length + b.length ≤ sizeLine then .ok (.list (a ++ b)) else .stuck
  | .tuple a, .tuple b => if a.length + b.length ≤ sizeLine then .ok (.tuple (a ++ b)) else .stuck
  | _, _ => .stuck
theorem op2_add : Op2 K mg true (rAddA K) dAdd := by
  intro x y d e H H0 Q E s hx hy p
  replace hx : Dp K H0 x d := hx
  replace hy : Dp K H0 y e := hy
  unfold dAdd at p
  split at p
  · cases hx; cases hy; exact .inl (.inl ⟨_, _, rfl, rfl, post_here p s fun _ => .int _⟩)
  · split at p
    · rename_i a b h
      cases hx; cases hy
      refine .inl (.inr ⟨_, _, rfl, rfl, by rw [sz_str, sz_str]; exact h, ?_⟩)
      have e : S (a.cps.toList ++ b.cps.toList) = a ++ b := by rw [← S_cat, S_tl, S_tl]
      rw [e] at p
      exact post_here p s fun _ => .str _
    · exact False.elim p
  · split at p
    · rename_i h
      cases hx with
      | lst h1 a1 =>
        cases hy with
        | lst h2 a2 =>
          refine .inr (.inl ⟨_, _, _, _, rfl, rfl, s.seq h1, s.seq h2, by rw [DpAll.length a1, DpAll.length a2]; exact h, fun q hq => ?_⟩)
          exact p _ _ _ (Fr.new s hq) (.lst (.inl (.inl upd_same)) (dpAll_mono (Same.new (s.free hq)) _ _ (DpAll.append a1 a2)))
    · exact False.elim p
  · split at p
    · rename_i da db h
      cases hx with
      | @tup a0 _ xs h1 a1 =>
        cases hy with
        | @tup b0 _ ys h2 a2 =>
          refine .inr (.inr ⟨_, _, _, _, rfl, rfl, sqT_mono s h1, sqT_mono s h2, by rw [DpAll.length a1, DpAll.length a2]; exact h, fun e => ?_, fun ne e => ?_, fun ne ne2 q hq => ?_⟩)
          · subst e
            cases a1
            exact p _ _ _ (.refl s) (.tup h2 a2)
          · subst e
            cases a2
            rw [List.append_nil] at p
            exact p _ _ _ (.refl s) (.tup h1 a1)
          · exact p _ _ _ (Fr.new s hq) (.tup (.inl (.inl upd_same)) (dpAll_mono (Same.new (s.free hq)) _ _ (DpAll.append a1 a2)))
    · exact False.elim p
  · exact False.elim p

/-! ### * -/
theorem foldl_cat : ∀ (n : Nat) (x acc : Array Nat), ((List.replicate n x).foldl (· ++ ·) acc).toList = acc.toList ++ (List.replicate n x.toList).flatten
  | 0, x, acc => by simp
  | n + 1, x, acc => by
    rw [List.replicate_succ, List.foldl_cons, foldl_cat n x (acc ++ x), List.replicate_succ, List.flatten_cons, Array.toList_append, List.append_assoc]
def repL (n : Nat) (x : List Nat) : List Nat := (List.replicate n x).flatten
theorem mul_rep (x : Str) (n : Int) : Txt.mul x n = S (repL n.toNat x.cps.toList) := by
  unfold Txt.mul repL
  by_cases h : n < 1
  · rw [if_pos h]
    have : n.toNat = 0 := by omega
    rw [this]
    rfl
  · rw [if_neg h]
    by_cases h2 : (n == 1 || x.length == 0) = true
    · rw [if_pos h2]
      rcases Bool.or_eq_true_iff.mp h2 with h3 | h3
      · have : n = 1 := by simpa using h3
        subst this
        show x = S ([x.cps.toList].flatten)
        rw [List.flatten_cons, List.flatten_nil, List.append_nil, S_tl]
      · have h4 : x.cps.toList = [] := by
          have : x.length = 0 := by simpa using h3
          rw [sz_str] at this
          exact List.eq_nil_of_length_eq_zero this
        rw [h4]
        have e : (List.replicate n.toNat ([] : List Nat)).flatten = [] := by simp
        rw [e, ← h4, S_tl]
    · rw [if_neg h2]
      have e := foldl_cat n.toNat x.cps #[]
      show (⟨_⟩ : Str) = ⟨_⟩
      congr 1
      apply Array.ext'
      rw [e]
      simp
def rMulS : R2 := fun x y H Q => ∃ z n, x = .str z ∧ y = .int n ∧ n < 1000000 ∧ -1000000 < n ∧ z.cps.toList.length * n.toNat ≤ 1000000 ∧ Q (.str (S (repL n.toNat z.cps.toList))) H
theorem op_mulS {X : Cx} : OpR X (binaryOp .Mult) rMulS := by
  intro pins s σ H x y v u Q I rx ry h
  obtain ⟨z, n, rfl, rfl, h1, h2, h3, q⟩ := h
  obtain ⟨t, rfl⟩ := rx
  obtain ⟨t', rfl⟩ := ry
  refine PySem.SB.mul ⟨?_, fun g1 g2 => ?_, fun g1 g2 => ?_⟩ fun t' k => ⟨.str _, H, I.tok _, ⟨_, rfl⟩, by rw [mul_rep]; exact q⟩
  · rw [Bool.or_eq_false_iff]
    exact ⟨decide_eq_false (by omega), decide_eq_false (by omega)⟩
  · intro g3
    have hz : z.length = z.cps.toList.length := sz_str z
    have hn : 0 < n := by omega
    have hz2 : (z.length : Int) ≤ 1000000 := by
      rcases Nat.eq_zero_or_pos n.toNat with q0 | q0
      · omega
      · have := Nat.le_mul_of_pos_right z.cps.toList.length q0
        omega
    have : (1000000 : Int) ≤ (2 ^ 63 - 1) / n := by
      refine Int.le_ediv_of_mul_le hn ?_
      have : (1000000 : Int) * n ≤ 1000000 * 1000000 := by omega
      omega
    omega
  · have hz : z.length = z.cps.toList.length := sz_str z
    rw [hz]
    show decide (_ > sizeLine) = false
    have := sizeLine_eq
    exact decide_eq_false (by omega)

def dMul : D → D → R D
  | .int i, .int j => if i.natAbs.log2 + j.natAbs.log2 < 1000000 then .ok (.int (i * j)) else .stuck
  | .str z, .int n => if n < 1000000 ∧ -1000000 < n ∧ z.cps.toList.length * n.toNat ≤ 1000000 then .ok (.str (S (repL n.toNat z.cps.toList))) else .stuck
  | _, _ => .stuck
def rMulA : R2 := fun x y H Q => rI CMulW (fun i j => .int (i * j)) x y H Q ∨ rMulS x y H Q
theorem op_mulA {X : Cx} : OpR X (binaryOp .Mult) rMulA := OpR.or op_mulW op_mulS
theorem op2_mul : Op2 K mg md rMulA dMul := by
  intro x y d e H H0 Q E s hx hy p
  unfold dMul at p
  split at p
  · split at p
    · rename_i h
      cases dp_md s hx; cases dp_md s hy; exact .inl ⟨_, _, rfl, rfl, h, post_here p s fun _ => .int _⟩
    · exact False.elim p
  · split at p
    · rename_i h
      cases dp_md s hx; cases dp_md s hy; exact .inr ⟨_, _, rfl, rfl, h.1, h.2.1, h.2.2, post_here p s fun _ => .str _⟩
    · exact False.elim p
  · exact False.elim p

/-! ### comparisons -/
def dLt : D → D → R D
  | .int i, .int j => .ok (.bool (decide (i < j)))
  | .str a, .str b => .ok (.bool (decide (a.cps.toList < b.cps.toList)))
  | _, _ => .stuck
def dLe : D → D → R D
  | .int i, .int j => .ok (.bool (decide (i ≤ j)))
  | .str a, .str b => .ok (.bool (!decide (b.cps.toList < a.cps.toList)))
  | _, _ => .stuck
def dGt : D → D → R D
  | .int i, .int j => .ok (.bool (decide (j < i)))
  | .str a, .str b => .ok (.bool (decide (b.cps.toList < a.cps.toList)))
  | _, _ => .stuck
def dGe : D → D → R D
  | .int i, .int j => .ok (.bool (decide (j ≤ i)))
  | .str a, .str b => .ok (.bool (!decide (a.cps.toList < b.cps.toList)))
  | _, _ => .stuck
def rCmpA (f : Int → Int → Bool) (g : List Nat → List Nat → Bool) : R2 := fun x y H Q => rI0 (fun i j => .bl (f i j)) x y H Q ∨ (fun x y H Q => ∃ i j, x = .str i ∧ y = .str j ∧ Q (.bl (g i.cps.toList j.cps.toList)) H) x y H Q
theorem op_ltA {X : Cx} : OpR X (compareOp .Lt) (rCmpA (fun i j => decide (i < j)) fun a b => decide (a < b)) := OpR.or op_lt op_lt_str
theorem op_leA {X : Cx} : OpR X (compareOp .LtE) (rCmpA (fun i j => decide (i ≤ j)) fun a b => !decide (b < a)) := OpR.or op_le op_le_str
theorem op_gtA {X : Cx} : OpR X (compareOp .Gt) (rCmpA (fun i j => decide (j < i)) fun a b => decide (b < a)) := OpR.or op_gt op_gt_str
theorem op_geA {X : Cx} : OpR X (compareOp .GtE) (rCmpA (fun i j => decide (j ≤ i)) fun a b => !decide (a < b)) := OpR.or op_ge op_ge_str
theorem op2_lt : Op2 K mg md (rCmpA (fun i j => decide (i < j)) fun a b => decide (a < b)) dLt := by
  intro x y d e H H0 Q E s hx hy p
  unfold dLt at p
  split at p
  · cases dp_md s hx; cases dp_md s hy; exact .inl ⟨_, _, rfl, rfl, post_here p s fun _ => .bl _⟩
  · cases dp_md s hx; cases dp_md s hy; exact .inr ⟨_, _, rfl, rfl, post_here p s fun _ => .bl _⟩
  · exact False.elim p
theorem op2_le : Op2 K mg md (rCmpA (fun i j => decide (i ≤ j)) fun a b => !decide (b < a)) dLe := by
  intro x y d e H H0 Q E s hx hy p
  unfold dLe at p
  split at p
  · cases dp_md s hx; cases dp_md s hy; exact .inl ⟨_, _, rfl, rfl, post_here p s fun _ => .bl _⟩
  · cases dp_md s hx; cases dp_md s hy; exact .inr ⟨_, _, rfl, rfl, post_here p s fun _ => .bl _⟩
  · exact False.elim p
theorem op2_gt : Op2 K mg md (rCmpA (fun i j => decide (j < i)) fun a b => decide (b < a)) dGt := by
  intro x y d e H H0 Q E s hx hy p
  unfold dGt at p
  split at p
  · cases dp_md s hx; cases dp_md s hy; exact .inl ⟨_, _, rfl, rfl, post_here p s fun _ => .bl _⟩
  · cases dp_md s hx; cases dp_md s hy; exact .inr ⟨_, _, rfl, rfl, post_here p s fun _ => .bl _⟩
  · exact False.elim p
theorem op2_ge : Op2 K mg md (rCmpA (fun i j => decide (j ≤ i)) fun a b => !decide (a < b)) dGe := by
  intro x y d e H H0 Q E s hx hy p
  unfold dGe at p
  split at p
  · cases dp_md s hx; cases dp_md s hy; exact .inl ⟨_, _, rfl, rfl, post_here p s fun _ => .bl _⟩
  · cases dp_md s hx; cases dp_md s hy; exact .inr ⟨_, _, rfl, rfl, post_here p s fun _ => .bl _⟩
  · exact False.elim p
/-- equal: scalars of any kinds, else data of any depth -/
def deepEq (d e : D) : R Bool := if SeqAt.shaped d && SeqAt.shaped e then .ok (PyData.eqv d e) else .stuck
def dEqB : D → D → R Bool
  | .int i, .int j => .ok (decide (i = j))
  | .str a, .str b => .ok (decide (a.cps.toList = b.cps.toList))
  | .bool a, .bool b => .ok (decide (a = b))
  | .none, .none => .ok true
  | .none, .int _ => .ok false
  | .none, .str _ => .ok false
  | .none, .bool _ => .ok false
  | .int _, .none => .ok false
  | .str _, .none => .ok false
  | .bool _, .none => .ok false
  | .int _, .str _ => .ok false
  | .str _, .int _ => .ok false
  | .bool _, .str _ => .ok false
  | .str _, .bool _ => .ok false
  | d, e => deepEq d e
def dEq (d e : D) : R D := (dEqB d e).bind fun k => .ok (.bool k)
def dNe (d e : D) : R D := (dEqB d e).bind fun k => .ok (.bool (!k))
def rEqA (K : PySem.W.Frag) : R2 := fun x y H Q => rEq x y H Q ∨ rEqD K x y H Q
def rNeA (K : PySem.W.Frag) : R2 := fun x y H Q => rNe x y H Q ∨ rNeD K x y H Q
theorem op_eqA {X : Cx} (hu : X.A.units + 64 < cLine) : OpR X (compareOp .Eq) (rEqA X.K) := OpR.or op_eq (op_eqD hu)
theorem op_neA {X : Cx} (hu : X.A.units + 64 < cLine) : OpR X (compareOp .NotEq) (rNeA X.K) := OpR.or op_ne (op_neD hu)
theorem tl_eq {a b : Str} : a.cps.toList = b.cps.toList ↔ a = b := ⟨fun h => by rw [← S_tl a, ← S_tl b, h], fun h => by rw [h]⟩
/-- what a scalar test says -/
theorem eqB_cases {H : Hp} {x y : V} {d e : D} {k : Bool} (hx : Dp K H x d) (hy : Dp K H y e) (h : dEqB d e = .ok k) : (scal x y = true ∧ decide (x = y) = k) ∨ (SeqAt.shaped d = true ∧ SeqAt.shaped e = true ∧ PyData.eqv d e = k) := by
  have deep : ∀ {d e : D}, deepEq d e = .ok k → SeqAt.shaped d = true ∧ SeqAt.shaped e = true ∧ PyData.eqv d e = k := fun {d e} h => by
    unfold deepEq at h
    split at h
    · rename_i q
      have q := Bool.and_eq_true_iff.mp q
      exact ⟨q.1, q.2, R.ok.inj h⟩
    · cases h
  cases hx <;> cases hy <;> first
    | (right; exact deep h)
    | (left; have h := R.ok.inj h; subst h; exact ⟨rfl, decide_eq_decide.mpr ⟨fun z => by cases z; rfl, fun z => by rw [tl_eq.mp z]⟩⟩)
    | (left; have h := R.ok.inj h; subst h; refine ⟨rfl, ?_⟩; simp [tl_eq])
theorem dEqB_ne {d e : D} {z : Exn} : dEqB d e ≠ .err z := by
  have deep : ∀ {d e : D}, deepEq d e ≠ .err z := fun {d e} => by
    unfold deepEq
    split <;> simp
  unfold dEqB
  split <;> first | exact deep | simp
theorem dEqB_np {d e : D} {z : Nat → R Bool} : dEqB d e ≠ .pick z := by
  have deep : ∀ {d e : D}, deepEq d e ≠ .pick z := fun {d e} => by
    unfold deepEq
    split <;> simp
  unfold dEqB
  split <;> first | exact deep | simp
theorem op2_eq : Op2 K mg md (rEqA K) dEq := by
  intro x y d e H H0 Q E s hx hy p
  unfold dEq at p
  cases q : dEqB d e with
  | stuck => rw [q] at p; exact False.elim p
  | err z => exact absurd q dEqB_ne
  | pick z => exact absurd q dEqB_np
  | ok k =>
    rw [q] at p
    rcases eqB_cases (dp_md s hx) (dp_md s hy) q with ⟨h1, h2⟩ | ⟨h1, h2, h3⟩
    · exact .inl ⟨h1, by rw [h2]; exact post_here p s fun _ => .bl _⟩
    · exact .inr ⟨d, e, dp_md s hx, dp_md s hy, h1, h2, by rw [h3]; exact post_here p s fun _ => .bl _⟩
theorem op2_ne : Op2 K mg md (rNeA K) dNe := by
  intro x y d e H H0 Q E s hx hy p
  unfold dNe at p
  cases q : dEqB d e with
  | stuck => rw [q] at p; exact False.elim p
  | err z => exact absurd q dEqB_ne
  | pick z => exact absurd q dEqB_np
  | ok k =>
    rw [q] at p
    rcases eqB_cases (dp_md s hx) (dp_md s hy) q with ⟨h1, h2⟩ | ⟨h1, h2, h3⟩
    · exact .inl ⟨h1, by rw [h2]; exact post_here p s fun _ => .bl _⟩
    · exact .inr ⟨d, e, dp_md s hx, dp_md s hy, h1, h2, by rw [h3]; exact post_here p s fun _ => .bl _⟩
/-- is None, is not None -/
def isNone : D → Bool
  | .none => true
  | _ => false
def dIsN : D → D → R D
  | d, .none => .ok (.bool (isNone d))
  | _, _ => .stuck
def dNotN : D → D → R D
  | d, .none => .ok (.bool (!isNone d))
  | _, _ => .stuck
theorem isN_of {H : Hp} {v : V} {d : D} (x : Dp K H v d) : decide (v = .non) = isNone d := by
  cases x <;> simp [isNone]
theorem op2_isN : Op2 K mg md (fun x y H Q => y = .non ∧ Q (.bl (decide (x = .non))) H) dIsN := by
  intro x y d e H H0 Q E s hx hy p
  unfold dIsN at p
  split at p
  · cases dp_md s hy; exact ⟨rfl, by rw [isN_of (dp_md s hx)]; exact post_here p s fun _ => .bl _⟩
  · exact False.elim p
theorem op2_notN : Op2 K mg md (fun x y H Q => y = .non ∧ Q (.bl (!decide (x = .non))) H) dNotN := by
  intro x y d e H H0 Q E s hx hy p
  unfold dNotN at p
  split at p
  · cases dp_md s hy; exact ⟨rfl, by rw [isN_of (dp_md s hx)]; exact post_here p s fun _ => .bl _⟩
  · exact False.elim p
/-- a sign in a text; something in a list or a tuple of scalars -/
def flat : D → Bool
  | .list _ | .tuple _ | .dict _ => false
  | _ => true
def rInA : R2 := fun x y H Q => ∃ (c : Nat) (z : Str), x = .str ⟨#[c]⟩ ∧ y = .str z ∧ Q (.bl (decide (c ∈ z.cps.toList))) H
def dInB : D → D → R Bool
  | .str x, .str z => match x.cps.toList with
    | [c] => .ok (decide (c ∈ z.cps.toList))
    | _ => .stuck
  | _, _ => .stuck
def dIn (d e : D) : R D := (dInB d e).bind fun k => .ok (.bool k)
def dNotIn (d e : D) : R D := (dInB d e).bind fun k => .ok (.bool (!k))
theorem one_sign {x : Str} {c : Nat} (h : x.cps.toList = [c]) : x = ⟨#[c]⟩ := by rw [← S_tl x, h]
theorem op2_in : Op2 K mg md rInA dIn := by
  intro x y d e H H0 Q E s hx hy p
  unfold dIn dInB at p
  split at p
  · split at p
    · rename_i c h
      cases dp_md s hx; cases dp_md s hy
      rw [one_sign h]
      exact ⟨c, _, rfl, rfl, post_here p s fun _ => .bl _⟩
    · exact False.elim p
  · exact False.elim p
end
end DW

end
end
section
set_option Elab.async false
set_option linter.all false
set_option maxRecDepth 100000
set_option maxHeartbeats 4000000
noncomputable section
namespace DW
open PySem PySem.Spec PyProof.Rows L2
open SX (S S_tl S_len S_cat)

section
variable {K : PySem.W.Frag} {mg : Str → Option Value} {md : Bool}
theorem CallR.or {X : Cx} {f : Value} {r r' : List V → Hp → VK → Prop} (h : CallR X f r) (h' : CallR X f r') : CallR X f (fun xs H Q => r xs H Q ∨ r' xs H Q) := by
  intro pins s σ H xs us Q I rx q
  rcases q with q | q
  · exact h pins s σ H xs us Q I rx q
  · exact h' pins s σ H xs us Q I rx q
/-! ### len -/
def rLenA (K : PySem.W.Frag) : List V → Hp → VK → Prop := fun xs H Q => (fun xs H Q => ∃ p ys, xs = [.ref p] ∧ (SqL K H p ys ∨ SqT K H p ys) ∧ Q (.int ys.length) H) xs H Q ∨ (fun xs H Q => ∃ z, xs = [.str z] ∧ z.length ≤ sizeLine ∧ Q (.int z.length) H) xs H Q
theorem call_lenA {X : Cx} : CallR X (.builtin "len") (rLenA X.K) := CallR.or call_len_seq call_len_str
def dLen : List D → R D
  | [.str z] => if z.cps.toList.length ≤ sizeLine then .ok (.int z.cps.toList.length) else .stuck
  | [.list ds] => .ok (.int ds.length)
  | [.tuple ds] => .ok (.int ds.length)
  | _ => .stuck
theorem fn_len : Fn K mg md (rLenA K) dLen := by
  intro xs ds H H0 Q E s hx p
  replace hx := dpAll_md s hx
  unfold dLen at p
  split at p
  · split at p
    · rename_i h
      cases hx with
      | cons h1 h2 => cases h2; cases h1; exact .inr ⟨_, rfl, by rw [sz_str]; exact h, by rw [sz_str]; exact post_here p s fun _ => .int _⟩
    · exact False.elim p
  · cases hx with
    | cons h1 h2 =>
      cases h2
      cases h1 with
      | lst a b => exact .inl ⟨_, _, rfl, .inl a, by rw [DpAll.length b]; exact post_here p s fun _ => .int _⟩
  · cases hx with
    | cons h1 h2 =>
      cases h2
      cases h1 with
      | tup a b => exact .inl ⟨_, _, rfl, .inr a, by rw [DpAll.length b]; exact post_here p s fun _ => .int _⟩
  · exact False.elim p
/-! ### all, any -/
def bools : List D → R (List Bool)
  | [] => .ok []
  | .bool b :: ds => (bools ds).bind fun bs => .ok (b :: bs)
  | _ => .stuck
theorem bools_eq : ∀ {ds : List D} {bs : List Bool}, bools ds = .ok bs → ds = bs.map PyData.bool
  | [], bs, h => by cases h; rfl
  | d :: ds, bs, h => by
    cases d with
    | bool b =>
      have h : (bools ds).bind (fun bs => .ok (b :: bs)) = R.ok bs := h
      cases q : bools ds with
      | ok cs => rw [q] at h; cases h; rw [bools_eq q]; rfl
      | stuck => rw [q] at h; cases h
      | err _ => rw [q] at h; cases h
      | pick _ => rw [q] at h; cases h
    | _ => cases h
theorem bools_map : ∀ bs : List Bool, bools (bs.map PyData.bool) = .ok bs
  | [] => rfl
  | b :: bs => by show (bools (bs.map PyData.bool)).bind _ = _; rw [bools_map bs]; rfl
theorem bools_ne {e : Exn} : ∀ ds : List D, bools ds ≠ .err e
  | [] => by simp [bools]
  | d :: ds => by
    cases d with
    | bool b =>
      show (bools ds).bind (fun bs => .ok (b :: bs)) ≠ _
      cases q : bools ds with
      | err z => exact absurd (q.trans rfl) (bools_ne (e := z) ds)
      | pick k => intro z; cases z
      | _ => simp
    | _ => simp [bools]
theorem bools_np {e : Nat → R (List Bool)} : ∀ ds : List D, bools ds ≠ .pick e
  | [] => by simp [bools]
  | d :: ds => by
    cases d with
    | bool b =>
      show (bools ds).bind (fun bs => .ok (b :: bs)) ≠ _
      cases q : bools ds with
      | pick z => exact absurd (q.trans rfl) (bools_np (e := z) ds)
      | err k => intro z; cases z
      | _ => simp
    | _ => simp [bools]
def dAll : List D → R D
  | [.list ds] => (bools ds).bind fun bs => .ok (.bool (bs.all id))
  | _ => .stuck
def dAny : List D → R D
  | [.list ds] => (bools ds).bind fun bs => .ok (.bool (bs.any id))
  | _ => .stuck
theorem fn_all : Fn K mg md (rAll K) dAll := by
  intro xs ds H H0 Q E s hx p
  replace hx := dpAll_md s hx
  unfold dAll at p
  split at p
  · rename_i es
    cases q : bools es with
    | ok bs =>
      rw [q] at p
      have e := bools_eq q
      subst e
      cases hx with
      | cons h1 h2 =>
        cases h2
        cases h1 with
        | lst a b =>
          have e2 := DpAll.bools b
          subst e2
          exact ⟨_, bs, rfl, a, post_here p s fun _ => .bl _⟩
    | stuck => rw [q] at p; exact False.elim p
    | err _ => exact absurd q (bools_ne _)
    | pick _ => exact absurd q (bools_np _)
  · exact False.elim p
theorem fn_any : Fn K mg md (rAny K) dAny := by
  intro xs ds H H0 Q E s hx p
  replace hx := dpAll_md s hx
  unfold dAny at p
  split at p
  · rename_i es
    cases q : bools es with
    | ok bs =>
      rw [q] at p
      have e := bools_eq q
      subst e
      cases hx with
      | cons h1 h2 =>
        cases h2
        cases h1 with
        | lst a b =>
          have e2 := DpAll.bools b
          subst e2
          exact ⟨_, bs, rfl, a, post_here p s fun _ => .bl _⟩
    | stuck => rw [q] at p; exact False.elim p
    | err _ => exact absurd q (bools_ne _)
    | pick _ => exact absurd q (bools_np _)
  · exact False.elim p
/-! ### int(int) -/
def dInt1 : List D → R D
  | [.int i] => .ok (.int i)
  | _ => .stuck
theorem fn_int1 : Fn K mg md (fun xs H Q => (∃ i, xs = [.int i] ∧ Q (.int i) H) ∨ ∃ k, xs = [.bl k] ∧ Q (.int (if k then 1 else 0)) H) dInt1 := by
  intro xs ds H H0 Q E s hx p
  replace hx := dpAll_md s hx
  unfold dInt1 at p
  split at p
  · cases hx with
    | cons h1 h2 => cases h2; cases h1; exact .inl ⟨_, rfl, post_here p s fun _ => .int _⟩
  · exact False.elim p
/-! ### repr of scalars -/
def rReprS : List V → Hp → VK → Prop := fun xs H Q => (∃ z, xs = [.str z] ∧ (reprText z).length ≤ sizeLine ∧ Q (.str (reprText z)) H) ∨ (∃ i, xs = [.int i] ∧ i.natAbs.log2 < 1920 ∧ Q (.str (toString i)) H) ∨ (∃ b, xs = [.bl b] ∧ Q (.str (if b = true then "True" else "False")) H) ∨ (xs = [.non] ∧ Q (.str "None") H)
theorem call_reprS {X : Cx} : CallR X (.builtin "repr") rReprS := by
  intro pins s σ H xs us Q I rx h
  rcases h with ⟨z, rfl, hz, q⟩ | ⟨i, rfl, hz, q⟩ | ⟨b, rfl, q⟩ | ⟨rfl, q⟩
  · cases rx with
    | cons r1 r2 =>
      cases r2
      obtain ⟨t, rfl⟩ := r1
      exact PySem.P.repr_of_str ⟨.str _, H, I.tok _, ⟨_, rfl⟩, q⟩ hz
  · cases rx with
    | cons r1 r2 =>
      cases r2
      obtain ⟨t, rfl⟩ := r1
      exact PySem.P.repr_of_int hz ⟨.str _, H, I.tok _, ⟨_, rfl⟩, q⟩
  · cases rx with
    | cons r1 r2 =>
      cases r2
      cases r1
      refine PySem.P.repr_of_bool ⟨.str _, H, I.tok _, ⟨_, rfl⟩, ?_⟩
      cases b <;> exact q
  · cases rx with
    | cons r1 r2 =>
      cases r2
      cases r1
      exact PySem.P.repr_of_none ⟨.str _, H, I.tok _, ⟨_, rfl⟩, q⟩
def dRepr : List D → R D
  | [.str z] => if (reprText z).length ≤ sizeLine then .ok (.str (PyData.shown (.str z))) else .stuck
  | [.int i] => if i.natAbs.log2 < 1920 then .ok (.str (PyData.shown (.int i))) else .stuck
  | [.bool b] => .ok (.str (PyData.shown (.bool b)))
  | [.none] => .ok (.str (PyData.shown .none))
  | _ => .stuck
theorem fn_reprS : Fn K mg md rReprS dRepr := by
  intro xs ds H H0 Q E s hx p
  replace hx := dpAll_md s hx
  unfold dRepr at p
  split at p
  · split at p
    · rename_i h
      cases hx with
      | cons h1 h2 =>
        cases h2; cases h1
        have e : ∀ z, PyData.shown (.str z) = reprText z := fun z => by simp only [PyData.shown]
        rw [e] at p
        exact .inl ⟨_, rfl, h, post_here p s fun _ => .str _⟩
    · exact False.elim p
  · split at p
    · rename_i h
      cases hx with
      | cons h1 h2 =>
        cases h2; cases h1
        have e : ∀ z, PyData.shown (.int z) = toString z := fun z => by simp only [PyData.shown]
        rw [e] at p
        exact .inr (.inl ⟨_, rfl, h, post_here p s fun _ => .str _⟩)
    · exact False.elim p
  · rename_i bb
    cases hx with
    | cons h1 h2 =>
      cases h2; cases h1
      have e : PyData.shown (.bool bb) = (if bb = true then ("True" : Str) else "False") := by cases bb <;> simp only [PyData.shown]
      rw [e] at p
      exact .inr (.inr (.inl ⟨bb, rfl, by cases bb <;> exact post_here p s fun _ => .str _⟩))
  · cases hx with
    | cons h1 h2 =>
      cases h2; cases h1
      have e : PyData.shown .none = "None" := by simp only [PyData.shown]
      rw [e] at p
      exact .inr (.inr (.inr ⟨rfl, post_here p s fun _ => .str _⟩))
  · exact False.elim p
end

section
variable {X : Cx} {W : WX} {md : Bool} {e a b c : Expr} {t ta tb tc te : TE} {m ma mb mc : ME} {pos : Pos}
/-! ### isinstance(e, T), T a built-in class -/
def tyName : D → String
  | .none => "NoneType"
  | .bool _ => "bool"
  | .int _ => "int"
  | .str _ => "str"
  | .list _ => "list"
  | .tuple _ => "tuple"
  | .dict _ => "dict"
def isTy (T : String) (d : D) : Bool := (tyName d == T) || (T == "int" && tyName d == "bool")
def dIsT (T : String) (d : D) : R D := .ok (.bool (isTy T d))
theorem tyx_of {K : PySem.W.Frag} {H : Hp} {v : V} {d : D} (x : Dp K H v d) : TyX K H v (.type (tyName d)) := by
  cases x with
  | non => exact .base .non
  | bl b => exact .base (.bl b)
  | int i => exact .base (.int i)
  | str z => exact .base (.str z)
  | lst h _ =>
    rcases h with (h | ⟨o, h⟩) | ⟨o, its, n, h, hc, _⟩
    · exact .base (.lst h)
    · exact .base (.frz h)
    · exact .kList h hc
  | tup h _ =>
    rcases h with (h | ⟨o, h⟩) | ⟨o, its, n, h, hc, _⟩
    · exact .base (.tup h)
    · exact .fTuple h
    · exact .kTuple h hc
def IsiOk (T : String) : Prop := ∀ a ∈ ["NoneType", "bool", "int", "str", "list", "tuple"], L2.kitB a T = some ((a == T) || (T == "int" && a == "bool"))
theorem tyName_mem {K : PySem.W.Frag} {H : Hp} {v : V} {d : D} (x : Dp K H v d) : tyName d ∈ ["NoneType", "bool", "int", "str", "list", "tuple"] := by
  cases x <;> simp [tyName]
theorem be_isi {p0 p1 : Pos} {T : String} {Tx : Str} (hT : IsiOk T) (hg : Gl X "isinstance") (hm : X.mg "isinstance" = none) (hb : bootBuiltins "isinstance" = some (.builtin "isinstance")) (ht : PE X (.Name Tx p1) (tC (.ty T))) (h : BE X W false e te m)
    (he : starEach [e, .Name Tx p1] X.env = (false, eval e X.env) :: starEach [.Name Tx p1] X.env := by rfl) (hpl : (backTo pos (starEach [.Name Tx p1] X.env)).any (·.1) = false := by rfl) (hs : starEach [.Name Tx p1] X.env = (false, eval (.Name Tx p1) X.env) :: starEach [] X.env := by rfl) :
    BE X W true (.Call (.Name "isinstance" p0) [e, .Name Tx p1] [] pos) (tCB (rIsi X.K) (tCons te (tCons (tC (.ty T)) tNil))) (m1 (dIsT T) m) := by
  refine ⟨pe_callB call_isi hg hm hb (pa_cons h.pe (pa_cons ht pa_nil hs) he) (by decide) (by decide) he hpl, fun Hs H0s σ H H0 ρ Q rl p => h.ev Hs H0s σ H H0 ρ _ rl ((Post.bind p).imp ?_)⟩
  rintro v H1 ⟨d, H01, _, f1, x1, p1⟩
  exact ⟨v, .ty T, _, _, isTy T d, rfl, .ty T, tyx_of x1, kit_ty (hT _ (tyName_mem x1)), p1 _ H1 H01 (.refl f1.sb) (.bl _)⟩
/-- isinstance(e, C), e the caught error -/
def mIsX (i : Nat) (isx : Str → Option Bool) : ME := fun ρ => match ρ[i]? with
  | some (some (.exc n _)) => match isx n with
    | some b => .ok (.bool b)
    | none => .stuck
  | _ => .stuck
/-! ### texts: join, index -/
def strsD : List D → R (List Str)
  | [] => .ok []
  | .str z :: ds => (strsD ds).bind fun zs => .ok (z :: zs)
  | _ => .stuck
theorem strs_eq : ∀ {ds : List D} {zs : List Str}, strsD ds = .ok zs → ds = zs.map PyData.str
  | [], zs, h => by cases h; rfl
  | d :: ds, zs, h => by
    cases d with
    | str b =>
      have h : (strsD ds).bind (fun bs => .ok (b :: bs)) = R.ok zs := h
      cases q : strsD ds with
      | ok cs => rw [q] at h; cases h; rw [strs_eq q]; rfl
      | stuck => rw [q] at h; cases h
      | err _ => rw [q] at h; cases h
      | pick _ => rw [q] at h; cases h
    | _ => cases h
theorem strs_map : ∀ zs : List Str, strsD (zs.map PyData.str) = .ok zs
  | [] => rfl
  | b :: bs => by show (strsD (bs.map PyData.str)).bind _ = _; rw [strs_map bs]; rfl
theorem strs_ne {e : Exn} : ∀ ds : List D, strsD ds ≠ .err e
  | [] => by simp [strsD]
  | d :: ds => by
    cases d with
    | str b =>
      show (strsD ds).bind (fun bs => .ok (b :: bs)) ≠ _
      cases q : strsD ds with
      | err z => exact absurd (q.trans rfl) (strs_ne (e := z) ds)
      | pick k => intro z; cases z
      | _ => simp
    | _ => simp [strsD]
theorem strs_np {e : Nat → R (List Str)} : ∀ ds : List D, strsD ds ≠ .pick e
  | [] => by simp [strsD]
  | d :: ds => by
    cases d with
    | str b =>
      show (strsD ds).bind (fun bs => .ok (b :: bs)) ≠ _
      cases q : strsD ds with
      | pick z => exact absurd (q.trans rfl) (strs_np (e := z) ds)
      | err k => intro z; cases z
      | _ => simp
    | _ => simp [strsD]
def joinN (ys : List Str) : List Nat := (ys.map fun y => y.cps.toList).flatten
def dItemsL : D → R (List D)
  | .list ds => .ok ds
  | .tuple ds => .ok ds
  | _ => .stuck
/-- ''.join(..) -/
def dJoin0 : D → R D := fun d => (dItemsL d).bind fun ds => (strsD ds).bind fun ys => if (ys.map (·.length)).sum ≤ 16777216 then .ok (.str (S (joinN ys))) else .stuck
theorem join0 : ∀ ys : List Str, Str.join Str.empty ys = S (joinN ys)
  | [] => rfl
  | [y] => by
    show y = S (y.cps.toList ++ [])
    rw [List.append_nil, S_tl]
  | y :: z :: r => by
    have ih := join0 (z :: r)
    have e1 : Str.join Str.empty (y :: z :: r) = y ++ Str.empty ++ Str.join Str.empty (z :: r) := rfl
    rw [e1, ih]
    have e2 : y ++ Str.empty = y := by
      have : y = S y.cps.toList := (S_tl y).symm
      have e3 : Str.empty = S [] := rfl
      rw [e3]
      conv => lhs; rw [this]
      rw [S_cat, List.append_nil, S_tl]
    rw [e2]
    conv => lhs; rw [← S_tl y]
    rw [S_cat]
    rfl
theorem be_join0 {p0 p1 : Pos} {k : Nat} {apos : Pos} (h : BE X W md e te m) (pe : PE X (.Call (.Attribute (.Constant (.str "") k p0) "join" apos) [e] [] pos) (tM1
      (fun x xs H Q => ∃ a p, ∃ ys : List Str, x = .str a ∧ xs = [.ref p] ∧ (SqL X.K H p (ys.map V.str) ∨ SqT X.K H p (ys.map V.str)) ∧ (ys.map (·.length)).sum + ys.length * a.length ≤ 16777216 ∧ Q (.str (Txt.join a ys)) H) (tC (.str "")) te)) :
    BE X W true (.Call (.Attribute (.Constant (.str "") k p0) "join" apos) [e] [] pos) (tM1
      (fun x xs H Q => ∃ a p, ∃ ys : List Str, x = .str a ∧ xs = [.ref p] ∧ (SqL X.K H p (ys.map V.str) ∨ SqT X.K H p (ys.map V.str)) ∧ (ys.map (·.length)).sum + ys.length * a.length ≤ 16777216 ∧ Q (.str (Txt.join a ys)) H) (tC (.str "")) te) (m1 dJoin0 m) := by
  refine ⟨pe, fun Hs H0s σ H H0 ρ Q rl p => ⟨⟨_, rfl⟩, h.ev Hs H0s σ H H0 ρ _ rl ((Post.bind p).imp ?_)⟩⟩
  rintro v H1 ⟨d, H01, _, f1, x1, p1⟩
  replace x1 := dp_md f1.sb x1
  have fin : ∀ (ys : List Str) (pp : Addr), (SqL X.K H1 pp (ys.map V.str) ∨ SqT X.K H1 pp (ys.map V.str)) → v = .ref pp → Post (Dp X.K) X.K X.mg true H1 H01 (if (ys.map (·.length)).sum ≤ 16777216 then .ok (.str (S (joinN ys))) else .stuck) Q (WE W σ) →
      ∃ a p, ∃ ys : List Str, V.str "" = .str a ∧ [v] = [.ref p] ∧ (SqL X.K H1 p (ys.map V.str) ∨ SqT X.K H1 p (ys.map V.str)) ∧ (ys.map (·.length)).sum + ys.length * a.length ≤ 16777216 ∧ Q (.str (Txt.join a ys)) H1 := fun ys pp hs hv q => by
    split at q
    · rename_i hl
      refine ⟨_, pp, ys, rfl, by rw [hv], hs, ?_, ?_⟩
      · have : (Str.ofString "").length = 0 := by decide +kernel
        rw [this]
        omega
      · have e1 : Txt.join (Str.ofString "") ys = S (joinN ys) := by
          rw [TL.join_eq, show Str.ofString "" = Str.empty by decide +kernel, join0]
        rw [e1]
        exact q _ H1 H01 (.refl f1.sb) (.str _)
    · exact False.elim q
  cases x1 with
  | lst hs ha =>
    rename_i pp xs ds
    have p2 : Post (Dp X.K) X.K X.mg true H1 H01 ((strsD ds).bind fun ys => if (ys.map (·.length)).sum ≤ 16777216 then .ok (.str (S (joinN ys))) else .stuck) Q (WE W σ) := p1
    cases q : strsD ds with
    | stuck => rw [q] at p2; exact False.elim p2
    | err _ => exact absurd q (strs_ne _)
    | pick _ => exact absurd q (strs_np _)
    | ok ys =>
      rw [q] at p2
      have e := strs_eq q
      subst e
      have e2 := DpAll.strs ha
      subst e2
      exact fin ys pp (.inl hs) rfl p2
  | tup hs ha =>
    rename_i pp xs ds
    have p2 : Post (Dp X.K) X.K X.mg true H1 H01 ((strsD ds).bind fun ys => if (ys.map (·.length)).sum ≤ 16777216 then .ok (.str (S (joinN ys))) else .stuck) Q (WE W σ) := p1
    cases q : strsD ds with
    | stuck => rw [q] at p2; exact False.elim p2
    | err _ => exact absurd q (strs_ne _)
    | pick _ => exact absurd q (strs_np _)
    | ok ys =>
      rw [q] at p2
      have e := strs_eq q
      subst e
      have e2 := DpAll.strs ha
      subst e2
      exact fin ys pp (.inr hs) rfl p2
  | _ => exact False.elim p1
/-- a text's method of one argument -/
def mM1 (f : Str → D → R D) (mo m : ME) : ME := fun ρ => (mo ρ).bind fun d => match d with
  | .str a => (m ρ).bind fun e => f a e
  | _ => .stuck
def dIndexS (a : Str) : D → R D
  | .str b => match Builtin.Str.occurrences a b 0 a.length 1 with
    | i :: _ => .ok (.int (i : Nat))
    | [] => .stuck
  | _ => .stuck
abbrev rIndexS : V → List V → Hp → VK → Prop := fun x xs H Q => ∃ a b i rest, x = .str a ∧ xs = [.str b] ∧ Builtin.Str.occurrences a b 0 a.length 1 = i :: rest ∧ Q (.int (i : Nat)) H
def Mt1 (K : PySem.W.Frag) (mg : Str → Option Value) (r : V → List V → Hp → VK → Prop) (f : Str → D → R D) : Prop :=
  ∀ (a : Str) (y : V) (e : D) (H H0 : Hp) (Q : VK) (E : XK), Same H0 H → Dp K H y e → Post (Dp K) K mg true H H0 (f a e) Q E → r (.str a) [y] H Q
theorem ev_m1 {o : Expr} {to : TE} {mo : ME} {r : V → List V → Hp → VK → Prop} {f : Str → D → R D} (hf : Mt1 X.K X.mg r f) (ho : BE X W false o to mo) (h : BE X W false e te m) :
    ∀ Hs H0s σ H H0 ρ Q, Rel X.K (excOf X) Hs H0s σ H H0 ρ → Post (Dp X.K) X.K X.mg true H H0 (mM1 f mo m ρ) Q (WE W σ) → tM1 r to te σ H Q := fun Hs H0s σ H H0 ρ Q rl p => by
  refine ho.ev Hs H0s σ H H0 ρ _ rl ((Post.bind p).imp ?_)
  rintro v H1 ⟨d, H01, _, f1, x1, p1⟩
  cases d with
  | str a =>
    cases x1
    refine ⟨⟨a, rfl⟩, h.ev Hs H0s σ H1 H01 ρ _ (rl.step f1) ((Post.bind p1).imp ?_)⟩
    rintro u H2 ⟨d2, H02, _, f2, x2, p2⟩
    exact hf a u d2 H2 H02 Q _ f2.sb x2 p2
  | _ => exact False.elim p1
theorem mt1_index {K : PySem.W.Frag} {mg : Str → Option Value} : Mt1 K mg rIndexS dIndexS := by
  intro a y e H H0 Q E s hy p
  unfold dIndexS at p
  split at p
  · split at p
    · rename_i h
      cases hy
      exact ⟨a, _, _, _, rfl, rfl, h, post_here p s fun _ => .int _⟩
    · exact False.elim p
  · exact False.elim p
theorem be_m1 {o : Expr} {to : TE} {mo : ME} {name id : String} {apos : Pos} {r : V → List V → Hp → VK → Prop} (f : Str → D → R D) (slot : Slot "str" name id) (hty : typeOf (.builtin id) = pure (.type "method_descriptor")) (hm : MtR X id r) (hf : Mt1 X.K X.mg r f) (ho : BE X W false o to mo) (h : BE X W false e te m)
    (hs : starEach [e] X.env = [(false, eval e X.env)] := by rfl) (hbase : attributeBase o name X.env (eval o X.env) = eval o X.env := by rfl) (hline : (apos.endLine == pos.line) = true := by rfl) :
    BE X W true (.Call (.Attribute o name apos) [e] [] pos) (tM1 r to te) (mM1 f mo m) := ⟨pe_m1 slot hty hm ho.pe h.pe hs hbase hline, ev_m1 hf ho h⟩

/-! ### items -/
def dIdx : D → D → R D
  | .list ds, .int i => match atI ds i with | some d => .ok d | none => .stuck
  | .tuple ds, .int i => match atI ds i with | some d => .ok d | none => .stuck
  | .str z, .int i => if z.cps.toList.length ≤ sizeLine then (match atI z.cps.toList i with | some c => .ok (.str (S [c])) | none => .stuck) else .stuck
  | _, _ => .stuck
theorem atI_get {K : PySem.W.Frag} {H : Hp} {xs : List V} {ds : List D} {i : Int} {d : D} (h : DpAll K H xs ds) (e : atI ds i = some d) : ∃ v, atI xs i = some v ∧ Dp K H v d := by
  unfold atI at e ⊢
  rw [DpAll.length h]
  cases q : ixN ds.length i with
  | none => rw [q] at e; cases e
  | some j =>
    rw [q] at e
    exact DpAll.get h e
theorem be_ix {o i : Expr} {to ti : TE} {mo mi : ME} (ho : BE X W true o to mo) (hi : BE X W false i ti mi) (hs : PlainIx i) : BE X W true (.Subscript o i pos) (tOp (rIx X.K) to ti) (m2 dIdx mo mi) := by
  refine ⟨pe_ix ix_seq ho.pe hi.pe hs, fun Hs H0s σ H H0 ρ Q rl p => ho.ev Hs H0s σ H H0 ρ _ rl ((Post.bind p).imp ?_)⟩
  rintro v H1 ⟨d, H01, _, f1, x1, p1⟩
  refine hi.ev Hs H0s σ H1 H01 ρ _ (rl.step f1) ((Post.bind p1).imp ?_)
  rintro u H2 ⟨d2, H02, _, f2, x2, p2⟩
  replace x1 : Dp X.K H02 v d := dp_mono f2.ez _ _ x1
  unfold dIdx at p2
  split at p2
  · split at p2
    · rename_i h
      cases x2
      cases x1 with
      | lst hl ha =>
        obtain ⟨w, hw, xw⟩ := atI_get ha h
        exact .inl ⟨_, _, _, w, rfl, rfl, f2.sb.seq hl, hw, p2 w H2 H02 (.refl f2.sb) xw⟩
    · exact False.elim p2
  · split at p2
    · rename_i h
      cases x2
      cases x1 with
      | tup hl ha =>
        obtain ⟨w, hw, xw⟩ := atI_get ha h
        exact .inr (.inl ⟨_, _, _, w, rfl, rfl, sqT_mono f2.sb hl, hw, p2 w H2 H02 (.refl f2.sb) xw⟩)
    · exact False.elim p2
  · split at p2
    · rename_i hz
      split at p2
      · rename_i h
        cases x2
        cases x1
        exact .inr (.inr ⟨_, _, _, rfl, rfl, by rw [sz_str]; exact hz, h, p2 _ H2 H02 (.refl f2.sb) (.str _)⟩)
      · exact False.elim p2
    · exact False.elim p2
  · exact False.elim p2
/-- x[i], x a name: of a list of the slot's own too -/
theorem be_ixV {x : Str} {p0 : Pos} {i : Nat} {k : Expr} {ti : TE} {mi : ME} (hx : PE X (.Name x p0) (tVar i)) (hi : BE X W false k ti mi) (hs : PlainIx k) : BE X W true (.Subscript (.Name x p0) k pos) (tOp (rIx X.K) (tVar i) ti) (m2 dIdx (mVarP i) mi) := by
  refine ⟨pe_ix ix_seq hx hi.pe hs, fun Hs H0s σ H H0 ρ Q rl p => ?_⟩
  cases e : ρ[i]? with
  | none =>
    have : mVarP i ρ = .stuck := by unfold mVarP; rw [e]
    unfold m2 at p
    rw [this] at p
    exact False.elim p
  | some s =>
    cases s with
    | none =>
      have : mVarP i ρ = .stuck := by unfold mVarP; rw [e]
      unfold m2 at p
      rw [this] at p
      exact False.elim p
    | some s =>
      cases s with
      | exc =>
        have : mVarP i ρ = .stuck := by unfold mVarP; rw [e]
        unfold m2 at p
        rw [this] at p
        exact False.elim p
      | rnd =>
        have : mVarP i ρ = .stuck := by unfold mVarP; rw [e]
        unfold m2 at p
        rw [this] at p
        exact False.elim p
      | sh d =>
        have e1 : mVarP i ρ = mVar i ρ := by unfold mVarP mVar; rw [e]
        have p : Post (Dp X.K) X.K X.mg true H H0 (m2 dIdx (mVar i) mi ρ) Q (WE W σ) := by
          unfold m2 at p ⊢
          rw [← e1]
          exact p
        exact (be_ix (be_var i hx) hi hs (pos := pos)).ev Hs H0s σ H H0 ρ Q rl p
      | own ds =>
        have e1 : mVarP i ρ = .ok (.list ds) := by unfold mVarP; rw [e]
        unfold m2 at p
        rw [e1] at p
        obtain ⟨q, vs, h1, h2, h3, h4, h5⟩ := rl.own _ _ e
        refine ⟨.ref q, h1, hi.ev Hs H0s σ H H0 ρ _ rl ((Post.bind (rel' := Dp X.K) (md' := true) (show Post (Dp X.K) X.K X.mg true H H0 ((mi ρ).bind fun e => dIdx (.list ds) e) Q (WE W σ) from p)).imp ?_)⟩
        rintro u H2 ⟨d2, H02, _, f2, x2, p2⟩
        have h4' := f2.ex _ _ h4
        have h5' := dpAll_mono f2.ez _ _ h5
        unfold dIdx at p2
        split at p2
        · rename_i eb
          cases eb
          split at p2
          · rename_i h
            cases x2
            obtain ⟨w, hw, xw⟩ := atI_get h5' h
            exact .inl ⟨_, _, _, w, rfl, rfl, .inl (.inl h4'), hw, p2 w H2 H02 (.refl f2.sb) xw⟩
          · exact False.elim p2
        · rename_i eb; cases eb
        · rename_i eb; cases eb
        · exact False.elim p2
/-! ### slices -/
def cutG {α : Type} (xs : List α) (lo hi : Option Int) : List α := (xs.drop (HT.sIx xs.length 0 lo)).take (HT.sIx xs.length xs.length hi - HT.sIx xs.length 0 lo)
theorem cut_all {K : PySem.W.Frag} {H : Hp} {xs : List V} {ds : List D} (lo hi : Option Int) (h : DpAll K H xs ds) : DpAll K H (cutV xs lo hi) (cutG ds lo hi) := by
  unfold cutV cutG
  rw [DpAll.length h]
  exact DpAll.take _ (DpAll.drop _ h)
theorem SlR.or {r r' : V → Option Int → Option Int → Hp → VK → Prop} (h : SlR X r) (h' : SlR X r') : SlR X (fun x lo hi H Q => r x lo hi H Q ∨ r' x lo hi H Q) := by
  intro pins s σ H x v vl vu lo hi sl Q I rx hs pl pu q
  rcases q with q | q
  · exact h pins s σ H x v vl vu lo hi sl Q I rx hs pl pu q
  · exact h' pins s σ H x v vl vu lo hi sl Q I rx hs pl pu q
def rSlA (K : PySem.W.Frag) : V → Option Int → Option Int → Hp → VK → Prop := fun x lo hi H Q => rSlL K x lo hi H Q ∨ (rSlT K x lo hi H Q ∨ rSlS x lo hi H Q)
theorem sl_A : SlR X (rSlA X.K) := SlR.or sl_list (SlR.or sl_tup sl_str)
def dSl (d : D) (lo hi : Option Int) : R D := match d with
  | .list ds => .ok (.list (cutG ds lo hi))
  | .tuple ds => if ¬ (HT.sIx ds.length 0 lo = 0 ∧ HT.sIx ds.length ds.length hi = ds.length) then .ok (.tuple (cutG ds lo hi)) else .stuck
  | .str z => if z.cps.toList.length ≤ sizeLine then .ok (.str (S (cutG z.cps.toList lo hi))) else .stuck
  | _ => .stuck
def mSl (mo : ME) (l h : MO) : ME := fun ρ => (mo ρ).bind fun d => (l ρ).bind fun lo => (h ρ).bind fun hi => dSl d lo hi
theorem cutS_eq (z : Str) (lo hi : Option Int) : cutS z lo hi = S (cutG z.cps.toList lo hi) := by
  unfold cutS cutG
  rw [sz_str]
theorem sl_val {v : V} {d : D} {lo hi : Option Int} {H H0 : Hp} {Q : VK} {E : XK} (s : Same H0 H) (x : Dp X.K H0 v d) (p : Post (Dp X.K) X.K X.mg true H H0 (dSl d lo hi) Q E) : rSlA X.K v lo hi H Q := by
  unfold dSl at p
  split at p
  · cases x with
    | lst hl ha => exact .inl ⟨_, _, rfl, s.seq hl, fun q hq => p _ _ _ (Fr.new s hq) (.lst (.inl (.inl upd_same)) (dpAll_mono (Same.new (s.free hq)) _ _ (cut_all lo hi ha)))⟩
  · split at p
    · rename_i h
      cases x with
      | tup hl ha => exact .inr (.inl ⟨_, _, rfl, sqT_mono s hl, by rw [DpAll.length ha]; exact h, fun q hq => p _ _ _ (Fr.new s hq) (.tup (.inl (.inl upd_same)) (dpAll_mono (Same.new (s.free hq)) _ _ (cut_all lo hi ha)))⟩)
    · exact False.elim p
  · split at p
    · rename_i h
      cases x
      exact .inr (.inr ⟨_, rfl, by rw [sz_str]; exact h, by rw [cutS_eq]; exact post_here p s fun _ => .str _⟩)
    · exact False.elim p
  · exact False.elim p
theorem be_sl {o : Expr} {lo hi : Option Expr} {to : TE} {tl th : TO} {mo : ME} {ml mh : MO} {p2 : Pos} (ho : BE X W true o to mo) (hl : BO X W lo tl ml) (hh : BO X W hi th mh) : BE X W true (.Subscript o (.Slice lo hi none p2) pos) (tSl (rSlA X.K) to tl th) (mSl mo ml mh) := by
  refine ⟨pe_slice sl_A ho.pe hl.pe hh.pe, fun Hs H0s σ H H0 ρ Q rl p => ho.ev Hs H0s σ H H0 ρ _ rl ((Post.bind p).imp ?_)⟩
  rintro v H1 ⟨d, H01, _, f1, x1, p1⟩
  refine hl.ev Hs H0s σ H1 H01 ρ _ (rl.step f1) ((Post.bind p1).imp ?_)
  rintro l H2 ⟨l2, H02, _, f2, x2, p2⟩
  replace x2 : l = l2 := x2
  subst x2
  refine hh.ev Hs H0s σ H2 H02 ρ _ ((rl.step f1).step f2) ((Post.bind p2).imp ?_)
  rintro u H3 ⟨u2, H03, _, f3, x3, p3⟩
  replace x3 : u = u2 := x3
  subst x3
  exact sl_val f3.sb (dp_mono (f2.ez.trans f3.ez) _ _ x1) p3
/-- x[..:..], x a name -/
theorem be_slV {x : Str} {p0 : Pos} {i : Nat} {lo hi : Option Expr} {tl th : TO} {ml mh : MO} {p2 : Pos} (hx : PE X (.Name x p0) (tVar i)) (hl : BO X W lo tl ml) (hh : BO X W hi th mh) : BE X W true (.Subscript (.Name x p0) (.Slice lo hi none p2) pos) (tSl (rSlA X.K) (tVar i) tl th) (mSl (mVarP i) ml mh) := by
  refine ⟨pe_slice sl_A hx hl.pe hh.pe, fun Hs H0s σ H H0 ρ Q rl p => ?_⟩
  cases e : ρ[i]? with
  | none =>
    have : mVarP i ρ = .stuck := by unfold mVarP; rw [e]
    unfold mSl at p
    rw [this] at p
    exact False.elim p
  | some s =>
    cases s with
    | none =>
      have : mVarP i ρ = .stuck := by unfold mVarP; rw [e]
      unfold mSl at p
      rw [this] at p
      exact False.elim p
    | some s =>
      cases s with
      | exc =>
        have : mVarP i ρ = .stuck := by unfold mVarP; rw [e]
        unfold mSl at p
        rw [this] at p
        exact False.elim p
      | rnd =>
        have : mVarP i ρ = .stuck := by unfold mVarP; rw [e]
        unfold mSl at p
        rw [this] at p
        exact False.elim p
      | sh d =>
        have e1 : mVarP i ρ = mVar i ρ := by unfold mVarP mVar; rw [e]
        have p : Post (Dp X.K) X.K X.mg true H H0 (mSl (mVar i) ml mh ρ) Q (WE W σ) := by
          unfold mSl at p ⊢
          rw [← e1]
          exact p
        exact (be_sl (be_var i hx) hl hh (pos := pos) (p2 := p2)).ev Hs H0s σ H H0 ρ Q rl p
      | own ds =>
        have e1 : mVarP i ρ = .ok (.list ds) := by unfold mVarP; rw [e]
        unfold mSl at p
        rw [e1] at p
        obtain ⟨q, vs, h1, h2, h3, h4, h5⟩ := rl.own _ _ e
        refine ⟨.ref q, h1, hl.ev Hs H0s σ H H0 ρ _ rl ((Post.bind (rel' := Dp X.K) (md' := true) (show Post (Dp X.K) X.K X.mg true H H0 ((ml ρ).bind fun lo => (mh ρ).bind fun hi => dSl (.list ds) lo hi) Q (WE W σ) from p)).imp ?_)⟩
        rintro l H2 ⟨l2, H02, _, f2, x2, p2⟩
        replace x2 : l = l2 := x2
        subst x2
        refine hh.ev Hs H0s σ H2 H02 ρ _ (rl.step f2) ((Post.bind p2).imp ?_)
        rintro u H3 ⟨u2, H03, _, f3, x3, p3⟩
        replace x3 : u = u2 := x3
        subst x3
        have f23 := f2.trans f3
        exact .inl ⟨_, _, rfl, .inl (.inl (f23.ex _ _ h4)), fun q hq => p3 _ _ _ (Fr.new f3.sb hq) (.lst (.inl (.inl upd_same)) (dpAll_mono (f23.ez.trans (Same.new (f3.sb.free hq))) _ _ (cut_all _ _ h5)))⟩
end
end DW

end
end
section
set_option Elab.async false
set_option linter.all false
set_option maxRecDepth 100000
set_option maxHeartbeats 4000000
noncomputable section
namespace DW
open PySem PySem.Spec PyProof.Rows L2
open SX (S S_tl S_len S_cat)
section
variable {X : Cx} {W : WX} {md : Bool} {e a b c : Expr} {t ta tb tc te : TE} {m ma mb mc : ME} {pos : Pos}
/-! ### t[::-1] -/
theorem back_ix (n : Nat) : Builtin.Str.strSliceIndices none none (-1) n = (List.range n).map fun k => n - 1 - k := by
  show PySem.sliceRange (if (-1 : Int) > 0 then 0 else (n : Int) - 1) (if (-1 : Int) > 0 then (n : Int) else -1) (-1) = _
  rw [if_neg (by decide), if_neg (by decide)]
  unfold PySem.sliceRange
  dsimp only
  have e1 : (if (-1 : Int) > 0 then (if (n : Int) - 1 < -1 then (-1 - ((n : Int) - 1) + -1 - 1) / -1 else 0) else (if (n : Int) - 1 > -1 then ((n : Int) - 1 - -1 - -1 - 1) / (- -1) else 0)) = n := by
    rw [if_neg (by decide)]
    by_cases h : (n : Int) - 1 > -1
    · rw [if_pos h, show (- -1 : Int) = 1 by decide, Int.ediv_one]; omega
    · rw [if_neg h]; omega
  rw [e1, Int.toNat_natCast]
  refine List.map_congr_left fun k hk => ?_
  have := List.mem_range.mp hk
  omega
theorem fm_map {α β : Type} {f : α → Option β} {g : α → β} : ∀ l : List α, (∀ x ∈ l, f x = some (g x)) → l.filterMap f = l.map g
  | [], _ => rfl
  | x :: l, h => by
    rw [List.filterMap_cons_some (h x List.mem_cons_self), List.map_cons, fm_map l fun y hy => h y (List.mem_cons_of_mem _ hy)]
theorem back_pick (z : Str) : ((List.range z.length).map fun k => z.length - 1 - k).filterMap (z.cps[·]?) = z.cps.toList.reverse := by
  have hl : z.length = z.cps.toList.length := sz_str z
  rw [List.filterMap_map]
  refine List.ext_getElem? fun i => ?_
  have key : (List.range z.length).filterMap ((fun x => z.cps[x]?) ∘ fun k => z.length - 1 - k) = (List.range z.length).map fun k => z.cps.toList.getD (z.length - 1 - k) 0 := by
    refine fm_map _ fun k hk => ?_
    have hk := List.mem_range.mp hk
    show z.cps[z.length - 1 - k]? = some _
    rw [← Array.getElem?_toList, List.getD_eq_getElem?_getD]
    rw [List.getElem?_eq_getElem (show z.length - 1 - k < z.cps.toList.length by omega)]
    rfl
  rw [key, List.getElem?_map]
  by_cases hi : i < z.length
  · rw [List.getElem?_range hi, List.getElem?_reverse (by omega)]
    show some (z.cps.toList.getD (z.length - 1 - i) 0) = _
    rw [List.getD_eq_getElem?_getD, hl, List.getElem?_eq_getElem (show z.cps.toList.length - 1 - i < z.cps.toList.length by omega)]
    rfl
  · rw [List.getElem?_eq_none (by rw [List.length_range]; omega), List.getElem?_eq_none (by rw [List.length_reverse]; omega)]
    rfl
def tRevA (K : PySem.W.Frag) (te : TE) : TE := fun σ H Q => te σ H fun x H1 => (∃ a xs, x = .ref a ∧ SqL K H1 a xs ∧ ∀ p, H1 p = none → Q (.ref p) (upd H1 p (.lst xs.reverse))) ∨ (∃ z, x = .str z ∧ z.length ≤ sizeLine ∧ Q (.str (S z.cps.toList.reverse)) H1)
theorem pe_revA {k : Nat} {p1 p2 p3 : Pos} (he : PE X e te) : PE X (.Subscript e (.Slice none none (some (.UnaryOp .USub (.Constant (.int 1) k p1) p2)) p3) pos) (tRevA X.K te) := by
  refine ⟨fun pins s σ H Q I h => ?_⟩
  refine Subscript_ (thn (he.run pins s σ H _ I h) fun v s1 ⟨x, H1, I1, r1, q1⟩ => ?_)
  have hst : PO X (some (.UnaryOp .USub (.Constant (.int 1) k p1) p2)) (tPart (tUn (rU fun i => .int (-i)) (tC (.int 1)))) := po_some (pe_un un_neg pe_int)
  refine wpAny_Slice (thn (po_none.run pins s1 σ H1 (fun o H2 => o = none ∧ H2 = H1) I1 ⟨rfl, rfl⟩) fun vl s2 ⟨l, H2, I2, pl, el, e2⟩ => ?_)
  subst el e2
  refine thn (po_none.run pins s2 σ H2 (fun o H3 => o = none ∧ H3 = H2) I2 ⟨rfl, rfl⟩) fun vu s3 ⟨u, H3, I3, pu, eu, e3⟩ => ?_
  subst eu e3
  refine thn (hst.run pins s3 σ H3 (fun o H4 => o = some (-1) ∧ H4 = H3) I3 ⟨1, rfl, -1, rfl, rfl, rfl⟩) fun vs s4 ⟨o, H4, I4, ps, eo, e4⟩ => ?_
  subst eo e4
  have I5 : Inv X pins σ H4 { s4 with heap := s4.heap.push { cls := .type "slice", data := .fields #[vl, vu, vs] } } := I4.kept (t' := s4.toks) fun b ob q => Heap.get?_push_of_some _ q
  rcases q1 with ⟨a, xs, rfl, hx, q⟩ | ⟨z, rfl, hz, q⟩
  · cases r1
    obtain ⟨its, r, ht, hzz⟩ := I5.list hx
    have hlen := r.length
    refine tail_any (ops := [.ref a, .ref s4.heap.objs.size]) ht.isList.typeIs (PySem.slot_list_getitem.lookup) ?_ (by with_unfolding_all rfl)
    refine wpAny_getItem_list_slice ht.isList (Heap.IsSliceOf.new _ vl vu vs) pl pu ps (by decide) ?_ (by rw [List.size_toArray]; omega)
    rw [PySem.W.krv_pick]
    refine ⟨.ref _, _, I5.laid (t' := s4.toks) (o := .lst xs.reverse) (fun b ob q => Heap.get?_push_of_some _ q) (Nat.le_refl _) ?_, rfl, q _ (I5.hok.fresh (Nat.le_refl _))⟩
    exact ⟨by rw [List.length_reverse]; exact hzz, _, 0, r.reverse, Heap.get?_push_size _ rfl⟩
  · obtain ⟨tz, rfl⟩ := r1
    refine tail_any (ops := [.str z tz, .ref s4.heap.objs.size]) (typeIs_str _ _ _) F.slot_str_getitem.lookup ?_ (by with_unfolding_all rfl)
    obtain ⟨l', rfl, hl'⟩ := IsPart.raw pl
    obtain ⟨u', rfl, hu'⟩ := IsPart.raw pu
    obtain ⟨s', rfl, hs'⟩ := IsPart.raw ps
    refine wpAny_getItem_str_slice (l := l') (u := u') (st := s') ⟨_, Heap.get?_push_size _ rfl, rfl, rfl⟩ (by rw [hs']; decide) ?_
    unfold sliceMade slicePicked
    rw [hl', hu', hs']
    show Made.post (if ((-1 : Int) == 1 && _) = true then _ else _) _ _
    rw [show ((-1 : Int) == 1) = false from rfl, Bool.false_and, if_neg (by decide)]
    show Made.post (Made.str ⟨((Builtin.Str.strSliceIndices none none (-1) z.length).filterMap (z.cps[·]?)).toArray⟩) _ _
    rw [back_ix, back_pick]
    exact ⟨by show (S z.cps.toList.reverse).length ≤ sizeLine; rw [S_len, List.length_reverse, ← sz_str]; exact hz, .str _, H4, I5.tok _, ⟨_, rfl⟩, q⟩
def dRev : D → R D
  | .list ds => .ok (.list ds.reverse)
  | .str z => if z.cps.toList.length ≤ sizeLine then .ok (.str (S z.cps.toList.reverse)) else .stuck
  | _ => .stuck
theorem be_rev {k : Nat} {p1 p2 p3 : Pos} (h : BE X W true e te m) : BE X W true (.Subscript e (.Slice none none (some (.UnaryOp .USub (.Constant (.int 1) k p1) p2)) p3) pos) (tRevA X.K te) (m1 dRev m) := by
  refine ⟨pe_revA h.pe, fun Hs H0s σ H H0 ρ Q rl p => h.ev Hs H0s σ H H0 ρ _ rl ((Post.bind p).imp ?_)⟩
  rintro v H1 ⟨d, H01, _, f1, x1, p1⟩
  unfold dRev at p1
  split at p1
  · cases x1 with
    | lst hl ha => exact .inl ⟨_, _, rfl, f1.sb.seq hl, fun q hq => p1 _ _ _ (Fr.new f1.sb hq) (.lst (.inl (.inl upd_same)) (dpAll_mono (Same.new (f1.sb.free hq)) _ _ (DpAll.reverse ha)))⟩
  · split at p1
    · rename_i hz
      cases x1
      exact .inr ⟨_, rfl, by rw [sz_str]; exact hz, p1 _ H1 H01 (.refl f1.sb) (.str _)⟩
    · exact False.elim p1
  · exact False.elim p1

/-! ### a written dict with text keys -/
/-- the table: its keys and what they hold -/
structure Tab (K : PySem.W.Frag) (w : World) (d : Addr) (tb : List (Str × D)) : Prop where
  kd : ∃ es n, KDict K w d es n
  no : ∀ z, tb.lookup z = none → PySem.W.nsIn K d z = some none
  yes : ∀ z v, tb.lookup z = some v → ∃ (u : Value) (x : V), PySem.W.nsIn K d z = some (some u) ∧ RelV x u ∧ ∀ H, Dp K H x v
def dTabIn (tb : List (Str × D)) : D → R D
  | .str z => .ok (.bool (tb.lookup z).isSome)
  | _ => .stuck
def dTabNi (tb : List (Str × D)) : D → R D
  | .str z => .ok (.bool (!(tb.lookup z).isSome))
  | _ => .stuck
def dTabAt (tb : List (Str × D)) : D → R D
  | .str z => match tb.lookup z with
    | some v => .ok v
    | none => .stuck
  | _ => .stuck
abbrev rTabIn (K : PySem.W.Frag) (d : Addr) : R2 := fun x y H Q => ∃ (z : Str) (r : Option Value), x = .str z ∧ y = .ref d ∧ PySem.W.nsIn K d z = some r ∧ Q (.bl r.isSome) H
abbrev rTabNi (K : PySem.W.Frag) (d : Addr) : R2 := fun x y H Q => ∃ (z : Str) (r : Option Value), x = .str z ∧ y = .ref d ∧ PySem.W.nsIn K d z = some r ∧ Q (.bl (!r.isSome)) H
variable {tb : List (Str × D)} {d : Addr} {x : Str} {p0 : Pos}
theorem Tab.ns {K : PySem.W.Frag} {w : World} (T : Tab K w d tb) (z : Str) : ∃ r, PySem.W.nsIn K d z = some r ∧ r.isSome = (tb.lookup z).isSome := by
  cases q : tb.lookup z with
  | none => exact ⟨none, T.no z q, rfl⟩
  | some v =>
    obtain ⟨u, y, h, _⟩ := T.yes z v q
    exact ⟨some u, h, rfl⟩
theorem bt_tabIn (T : Tab X.K X.w d tb) (h : BE X W false e te m) (hd : PE X (.Name x p0) (tC (.ref d))) (hm : behindInMarks .In (.Name x p0) = false := by rfl) : BT X W (.Compare e [.In] [.Name x p0] pos) (tTest (tOp (rTabIn X.K d) te (tC (.ref d)))) (mT (m1 (dTabIn tb) m)) := by
  obtain ⟨es, n, kd⟩ := T.kd
  refine ⟨pt_cmpR (op_in_kd kd) h.pe hd hm, fun Hs H0s σ H H0 ρ Q rl p => h.ev Hs H0s σ H H0 ρ _ rl ((Post.bind (rel := Dp X.K) (md := false) (post_asB p)).imp ?_)⟩
  rintro v H1 ⟨dd, H01, _, f1, x1, p1⟩
  cases dd with
  | str z =>
    cases x1
    obtain ⟨r, h1, h2⟩ := T.ns z
    refine ⟨z, r, rfl, rfl, h1, ?_⟩
    rw [h2]
    exact p1 _ H1 H01 (.refl f1.sb) (.bl _)
  | _ => exact False.elim p1
theorem bt_tabNi (T : Tab X.K X.w d tb) (h : BE X W false e te m) (hd : PE X (.Name x p0) (tC (.ref d))) (hm : behindInMarks .NotIn (.Name x p0) = false := by rfl) : BT X W (.Compare e [.NotIn] [.Name x p0] pos) (tTest (tOp (rTabNi X.K d) te (tC (.ref d)))) (mT (m1 (dTabNi tb) m)) := by
  obtain ⟨es, n, kd⟩ := T.kd
  refine ⟨pt_cmpR (op_notIn_kd kd) h.pe hd hm, fun Hs H0s σ H H0 ρ Q rl p => h.ev Hs H0s σ H H0 ρ _ rl ((Post.bind (rel := Dp X.K) (md := false) (post_asB p)).imp ?_)⟩
  rintro v H1 ⟨dd, H01, _, f1, x1, p1⟩
  cases dd with
  | str z =>
    cases x1
    obtain ⟨r, h1, h2⟩ := T.ns z
    refine ⟨z, r, rfl, rfl, h1, ?_⟩
    rw [h2]
    exact p1 _ H1 H01 (.refl f1.sb) (.bl _)
  | _ => exact False.elim p1
/-- T[e] -/
theorem be_tab (T : Tab X.K X.w d tb) (hd : PE X (.Name x p0) (tC (.ref d))) (h : BE X W false e te m) (hs : PlainIx e) : BE X W true (.Subscript (.Name x p0) e pos) (tOp (rIxD X.K X.w) (tC (.ref d)) te) (m1 (dTabAt tb) m) := by
  refine ⟨pe_ix ix_kdict hd h.pe hs, fun Hs H0s σ H H0 ρ Q rl p => h.ev Hs H0s σ H H0 ρ _ rl ((Post.bind p).imp ?_)⟩
  rintro v H1 ⟨dd, H01, _, f1, x1, p1⟩
  cases dd with
  | str z =>
    cases x1
    have p1 : Post (Dp X.K) X.K X.mg true H1 H01 (match tb.lookup z with | some v => .ok v | none => .stuck) Q (WE W σ) := p1
    cases q : tb.lookup z with
    | none => rw [q] at p1; exact False.elim p1
    | some w =>
      rw [q] at p1
      obtain ⟨u, y, h1, h2, h3⟩ := T.yes z w q
      obtain ⟨es, n, kd⟩ := T.kd
      exact ⟨d, z, y, rfl, rfl, ⟨es, n, u, kd.at_, kd.lit, h1, h2⟩, p1 _ H1 H01 (.refl f1.sb) (h3 _)⟩
  | _ => exact False.elim p1
end
end DW

end
end
section
set_option Elab.async false
set_option linter.all false
set_option maxRecDepth 100000
set_option maxHeartbeats 4000000
noncomputable section
namespace DW
open PySem PySem.Spec PyProof.Rows L2
open SX (S S_tl S_len S_cat)
section
variable {X : Cx} {W : WX} {md : Bool} {e a b c : Expr} {t ta tb tc te : TE} {m ma mb mc : ME} {pos : Pos} {x : Str} {pos' : Pos}
theorem bs_set (i : Nat) (h : BE X W true e t m) (hN : X.N.Nodup) (hi : X.N[i]? = some x) (hx : L2.Loc X.env.scope x) (hs : swapsWith e (some (.Name x pos')) pos.line X.env = pure false := by rfl) (hf : X.fn x = true ∨ X.env.scope.names.lookup x = some .local := by first | exact .inl rfl | exact .inr rfl) :
    BS X W (.Assign [.Name x pos'] e pos) (tAsg t (gName i)) (sAsg (gN i) m) :=
  bs_asg h (bg_name i (pg_name hN hi hx hf)) (ps_set hN hi hx h.pe hs hf)
theorem bs_setOwn (i : Nat) {mm : MA} (h : BN X W e t mm) (hN : X.N.Nodup) (hi : X.N[i]? = some x) (hx : L2.Loc X.env.scope x) (hs : swapsWith e (some (.Name x pos')) pos.line X.env = pure false := by rfl) (hf : X.fn x = true ∨ X.env.scope.names.lookup x = some .local := by first | exact .inl rfl | exact .inr rfl) :
    BS X W (.Assign [.Name x pos'] e pos) (tAsg t (gName i)) (sOwn i mm) :=
  bs_own h (ps_set hN hi hx h.pe hs hf)
theorem bs_setT {tg : Expr} {g : TG} {mt : D → En → R En} {sl : List Nat} (h : BE X W true e t m) (hg : BG X tg g sl mt) (hs : swapsWithSole [tg] e pos.line X.env = pure false := by rfl) (hw : swappedStores [tg] e X.env = pure none := by rfl)
    (h3 : (assignEach [tg] X.env).map (·.2) = [assign tg X.env] := by rfl) : BS X W (.Assign [tg] e pos) (tAsg t g) (sAsg mt m) := bs_asg h hg (ps_asg h.pe hg.pe hs hw h3)
def dAddI : D → D → R D
  | .int i, .int j => .ok (.int (i + j))
  | _, _ => .stuck
theorem bs_addI (i : Nat) (h : BE X W true e t m) (hN : X.N.Nodup) (hi : X.N[i]? = some x) (hx : L2.Loc X.env.scope x) (hf : X.fn x = true ∨ X.env.scope.names.lookup x = some .local := by first | exact .inl rfl | exact .inr rfl) :
    BS X W (.AugAssign (.Name x pos') .Add e pos) (tAug i t (ipI fun i j => i + j)) (sAsg (gN i) (m2 dAddI (mVar i) m)) := by
  refine bs_aug (md := true) dAddI (ps_aug hN hi hx h.pe ip_add hf) ?_ h (fun _ => rfl)
  intro x y d e H H0 Q E s hx hy p
  unfold dAddI at p
  split at p
  · cases dp_md s hx; cases dp_md s hy; exact ⟨_, _, rfl, rfl, post_here p s fun _ => .int _⟩
  · exact False.elim p
theorem bs_appN {i : Nat} {p0 p1 : Pos} (h : BE X W true e t m) (hx : PE X (.Name x p0) (tVar i)) (hb1 : attributeBase (.Name x p0) "append" X.env (eval (.Name x p0) X.env) = eval (.Name x p0) X.env := by rfl)
    (pe : PE X (.Call (.Attribute (.Name x p0) "append" p1) [e] [] pos) (tBM X.K "list" rAppend (tVar i) (tCons t tNil))) (hs : swapsWith (.Call (.Attribute (.Name x p0) "append" p1) [e] [] pos) none pos.line X.env = pure false := by rfl) :
    BS X W (.Expr (.Call (.Attribute (.Name x p0) "append" p1) [e] [] pos) pos) (tDrop (tBM X.K "list" rAppend (tVar i) (tCons t tNil))) (sApp i m) :=
  bs_app h (ps_expr pe hs)
/-- an own error class -/
structure ExcF (K : PySem.W.Frag) (mg : Str → Option Value) (x : Str) (C : Addr) : Prop where
  g : mg x = some (.ref C)
  xi : PySem.W.excIn K C [.type "ValueError", .type "Exception", .type "BaseException", .type "object"] "ValueError.__new__" = true
  kp : PySem.W.keepIn K (.ref C) = true
  sb : PySem.W.subIn K (.ref C) (.type "BaseException") = some true
  ty : PySem.W.typeIn K (.ref C) = some (.type "type")
theorem bs_raiseS {C : Addr} {ms : Str} {j : Nat} {p p2 p3 : Pos} (F : ExcF X.K X.mg x C) (hc : X.calm = true) (tk : Takes X W) (hg : Gl X x) (hdb : (x == ("__debug__" : Str)) = false := by decide) :
    BS X W (.Raise (some (.Call (.Name x p) [.Constant (.str ms) j p2] [] p3)) none pos) (fun _ σ H => W (.ref C) none σ H) (sRaise x) :=
  bs_raise F.g (ps_raise hc tk (pmk_own PySem.F.excBase_ValueError F.xi F.g F.kp (raises_own F.sb F.ty) hg hdb))
end

/-! ### a def by its mirror -/
def startS (n : Nat) (ss : List SD) : En := ss.map some ++ List.replicate (n - ss.length) none
def startD (n : Nat) (ds : List D) : En := ds.map (fun d => some (.sh d)) ++ List.replicate (n - ds.length) none
theorem startD_eq (n : Nat) (ds : List D) : startD n ds = startS n (ds.map SD.sh) := by
  unfold startD startS
  rw [List.map_map, List.length_map]
  rfl
def fin (o : O) : R D := O.rec (motive := fun _ => R D) (fun _ => .ok .none) (fun d => .ok d) (fun _ => .stuck) (fun _ => .stuck) (fun _ => .stuck) (fun e _ => .err e) .stuck (fun _ ih => .pick ih) o
/-- of a def that hands over a new list -/
def finN (o : O) : R (List D) := O.rec (motive := fun _ => R (List D)) (fun _ => .stuck) (fun _ => .stuck) (fun ds => .ok ds) (fun _ => .stuck) (fun _ => .stuck) (fun e _ => .err e) .stuck (fun _ ih => .pick ih) o
def runDef (n : Nat) (m : MS) : List D → R D := fun ds => fin (m (startD n ds))
structure FD (K : PySem.W.Frag) (mg : Str → Option Value) (x : Str) (st : Stmt) : Prop where
  ex : ∃ f fd, Fun K x x st f fd ∧ mg x = some (.ref f)
inductive ArgOk (K : PySem.W.Frag) (ea : EA) (H0 : Hp) : V → SD → Prop
  | sh {v : V} {d : D} (h : Dp K H0 v d) : ArgOk K ea H0 v (.sh d)
  | rnd {p : Addr} (h : H0 p = some (RndO p)) : ArgOk K ea H0 (.ref p) .rnd
  | exc {n : Str} {fs : List (Str × D)} (h : ea.ok n fs H0) : ArgOk K ea H0 (.ref ea.a) (.exc n fs)
inductive ArgsOk (K : PySem.W.Frag) (ea : EA) (H0 : Hp) : List V → List SD → Prop
  | nil : ArgsOk K ea H0 [] []
  | cons {v : V} {s : SD} {vs : List V} {ss : List SD} (h : ArgOk K ea H0 v s) (r : ArgsOk K ea H0 vs ss) : ArgsOk K ea H0 (v :: vs) (s :: ss)
section
variable {P : Program} {w : World} {K : PySem.W.Frag} {mg : Str → Option Value} {base : Heap}
theorem ArgsOk.length {ea : EA} {H0 : Hp} : ∀ {vs : List V} {ss : List SD}, ArgsOk K ea H0 vs ss → vs.length = ss.length
  | _, _, .nil => rfl
  | _, _, .cons _ r => by rw [List.length_cons, List.length_cons, ArgsOk.length r]
theorem ArgsOk.get {ea : EA} {H0 : Hp} : ∀ {vs : List V} {ss : List SD}, ArgsOk K ea H0 vs ss → ∀ {i : Nat} {s : SD}, ss[i]? = some s → ∃ v, vs[i]? = some v ∧ ArgOk K ea H0 v s
  | _, _, .nil, _, _, e => by simp at e
  | _, _, .cons h r, 0, _, e => by simp at e; subst e; exact ⟨_, rfl, h⟩
  | _, _, .cons h r, i + 1, _, e => by
    obtain ⟨v, h1, h2⟩ := ArgsOk.get r (i := i) (by simpa using e)
    exact ⟨v, by simpa using h1, h2⟩
theorem ArgsOk.dp {ea : EA} {H0 : Hp} : ∀ {vs : List V} {ds : List D}, DpAll K H0 vs ds → ArgsOk K ea H0 vs (ds.map SD.sh)
  | _, _, .nil => .nil
  | _, _, .cons h r => .cons (.sh h) (ArgsOk.dp r)
theorem start_relS {ea : EA} {H H0 : Hp} {N : List Str} {vs : List V} {ss : List SD} (s : Same H0 H) (h : ArgsOk K ea H0 vs ss) (hn : ss.length ≤ N.length) : Rel K ea H H0 (L2.start N vs) H H0 (startS N.length ss) := by
  have hl := h.length
  have at_ : ∀ (i : Nat) (y : SD), (startS N.length ss)[i]? = some (some y) → ∃ v, (L2.start N vs)[i]? = some (some v) ∧ ArgOk K ea H0 v y := fun i y e => by
    unfold startS at e
    by_cases hi : i < ss.length
    · rw [List.getElem?_append_left (by rw [List.length_map]; exact hi), List.getElem?_map] at e
      cases q : ss[i]? with
      | none => rw [q] at e; cases e
      | some y' =>
        rw [q] at e
        cases e
        obtain ⟨v, hv, x⟩ := h.get q
        refine ⟨v, ?_, x⟩
        unfold L2.start
        have hi : i < vs.length := (List.getElem?_eq_some_iff.mp hv).1
        rw [List.getElem?_append_left (by rw [List.length_map]; exact hi), List.getElem?_map, hv]
        rfl
    · rw [List.getElem?_append_right (by rw [List.length_map]; omega), List.getElem?_replicate] at e
      split at e <;> cases e
  refine ⟨.refl s, ?_, fun i d e => ?_, fun i es e => ?_, fun i j es fs p _ e _ _ _ => ?_, fun i n fs e => ?_, fun i e => ?_⟩
  · unfold L2.start startS
    rw [List.length_append, List.length_append, List.length_map, List.length_map, List.length_replicate, List.length_replicate, hl]
  · obtain ⟨v, h1, h2⟩ := at_ i _ e
    cases h2 with
    | sh x => exact ⟨v, h1, x⟩
  · obtain ⟨v, h1, h2⟩ := at_ i _ e
    cases h2
  · obtain ⟨v, h1, h2⟩ := at_ i _ e
    cases h2
  · obtain ⟨v, h1, h2⟩ := at_ i _ e
    cases h2 with
    | exc x => exact ⟨h1, x⟩
  · obtain ⟨v, h1, h2⟩ := at_ i _ e
    cases h2 with
    | rnd x => exact ⟨_, h1, x⟩
theorem start_rel {ea : EA} {H H0 : Hp} {N : List Str} {vs : List V} {ds : List D} (s : Same H0 H) (h : DpAll K H0 vs ds) (hn : ds.length ≤ N.length) : Rel K ea H H0 (L2.start N vs) H H0 (startD N.length ds) := by
  rw [startD_eq]
  exact start_relS s (ArgsOk.dp h) (by rw [List.length_map]; exact hn)
theorem post_fin {ea : EA} {H H0 : Hp} {o : O} {Q : VK} {E : XK} (p : Post (Dp K) K mg true H H0 (fin o) Q E) : PostS K mg ea H H0 o { nx := fun _ H' => Q .non H', rt := Q } (fun cls d _ H => E cls d H) := by
  induction o with
  | nx ρ => exact fun σ H' H0' r => p .non H' H0' r.fr .non
  | rt d => exact fun v H' H0' f x => p v H' H0' f x
  | err e ρ => exact fun σ H' H0' r => p H' H0' r.fr
  | pick k ih => exact fun n hn => ih n (p n hn)
  | rto d => exact False.elim p
  | bk ρ => exact False.elim p
  | ct ρ => exact False.elim p
  | stuck => exact False.elim p
theorem post_finN {ea : EA} {H H0 : Hp} {o : O} {Q : VK} {E : XK} (p : PostN K mg H H0 (finN o) Q E) : PostS K mg ea H H0 o { nx := fun _ H' => Q .non H', rt := Q } (fun cls d _ H => E cls d H) := by
  induction o with
  | rto ds => exact fun a vs H' H0' f h1 h2 h3 x => p a vs H' H0' f h1 h2 h3 x
  | err e ρ => exact fun σ H' H0' r => p H' H0' r.fr
  | pick k ih => exact fun n hn => ih n (p n hn)
  | nx ρ => exact False.elim p
  | rt d => exact False.elim p
  | bk ρ => exact False.elim p
  | ct ρ => exact False.elim p
  | stuck => exact False.elim p
theorem mk_def {x : Str} {st : Stmt} {N ps : List Str} {k : Nat} {mb : MS} (F : FD K mg x st) (S : FnScope N ps (defScope st)) (hn : ps.length ≤ N.length)
    (hb : ∀ (kV doc pm : Value) (an : Option Addr) (cdv ct : Value) (us : List Value), us.length = ps.length → bindArgs (PySem.W.fnOf x x (defArgs st) (defBody st) (defScope st) .none kV doc pm an cdv ct) ⟨us, []⟩ = pure (ps.zip us))
    (hbody : ∀ (f : Addr) (cdv : Value) (A : Around) (outer : List Env) (s : Shared) (H : Hp) (E : XK), Room k (A.deeper (envOfC x (defScope st) s.heap.objs.size f cdv)) →
      ∃ t, BSs (cxOf (L2.CX P w) P w K mg base N x (defScope st) f cdv A outer s H E) (fun cls d _ H => E cls d H) (defBody st) t mb) : Def P w K mg base x ps (k + 1) (runDef N.length mb) := by
  obtain ⟨f, fd, F, g⟩ := F.ex
  refine ⟨f, fd, F.okX S (fun vs H Q E h => ?_) (fun cdv A outer s H vs Q E hr h => ?_), g, F.kp, F.binds hb⟩
  · obtain ⟨H0, ds, _, h1, h2, _⟩ := h
    rw [DpAll.length h1, h2]
  · obtain ⟨H0, ds, sm, h1, h2, p⟩ := h
    obtain ⟨t, ht⟩ := hbody f cdv A outer s H E hr
    exact ⟨t, ht.pe, ht.ev H H0 (L2.start N vs) H H0 (startD N.length ds) _ (start_rel sm h1 (by omega)) (post_fin p)⟩
end
end DW

end
end
section
set_option Elab.async false
set_option linter.all false
set_option maxRecDepth 100000
set_option maxHeartbeats 4000000
noncomputable section
namespace DW
open PySem PySem.Spec PyProof.Rows L2
open SX (S S_tl S_len S_cat)
section
variable {X : Cx} {W : WX} {md : Bool} {e a b c : Expr} {t ta tb tc te : TE} {m ma mb mc : ME} {pos : Pos} {x : Str} {pos' : Pos}
theorem bs_appS {i : Nat} {p0 p1 cpos : Pos} (h : BE X W true e t m) (hx : PE X (.Name x p0) (tVar i)) (hbase : attributeBase (.Name x p0) "append" X.env (eval (.Name x p0) X.env) = eval (.Name x p0) X.env := by rfl)
    (hall : ((((backTo cpos (starEach (e :: []) X.env)).all fun x => !x.fst) && (backToKw cpos (keywordEach [] X.env)).all fun x => x.fst.isSome) && decide (((e :: []).length + ([] : List Keyword).length + if ([] : List Keyword).isEmpty = true then 0 else 1) < 30)) = true := by rfl)
    (hline : (p1.endLine == cpos.line) = true := by rfl) (he : starEach (e :: []) X.env = (false, eval e X.env) :: starEach [] X.env := by rfl) (hpl : ((backTo cpos (starEach [] X.env)).any fun x => x.fst) = false := by rfl)
    (hs : swapsWith (.Call (.Attribute (.Name x p0) "append" p1) [e] [] cpos) none pos.line X.env = pure false := by rfl) :
    BS X W (.Expr (.Call (.Attribute (.Name x p0) "append" p1) [e] [] cpos) pos) (tDrop (tBM X.K "list" rAppend (tVar i) (tCons t tNil))) (sApp i m) := by
  refine ⟨ps_expr (pe_bm PySem.F.plainAttrs_list PySem.F.slot_list_append PySem.F.type_list_append mt_append hx (pa_cons h.pe pa_nil he) hbase hall hline he hpl) hs, fun Hs H0s σ H H0 ρ D rl p => ?_⟩
  unfold sApp at p
  split at p
  · rename_i ds e1
    obtain ⟨q, vs, h1, h2, h3, h4, h5⟩ := rl.own _ _ e1
    refine ⟨.ref q, h1, .inl ⟨rfl, _, .inl (.inl h4)⟩, h.ev Hs H0s σ H H0 ρ _ rl ((PostS.of p rl).imp ?_)⟩
    rintro v H1 ⟨d, H01, _, f1, x1, p1⟩
    split at p1
    · rename_i hl
      have h4' := f1.ex _ _ h4
      refine ⟨q, vs, v, rfl, rfl, h4', by rw [DpAll.length h5]; exact hl, ?_⟩
      exact p1 σ _ H01 ((rl.step f1).write e1 h1 (DpAll.append (dpAll_mono f1.ez _ _ h5) (.cons x1 .nil)))
    · exact False.elim p1
  · exact False.elim p
theorem bs_popS {i : Nat} {p0 p1 cpos : Pos} (hx : PE X (.Name x p0) (tVar i)) (hbase : attributeBase (.Name x p0) "pop" X.env (eval (.Name x p0) X.env) = eval (.Name x p0) X.env := by rfl) (hline : (p1.endLine == cpos.line) = true := by rfl)
    (hs : swapsWith (.Call (.Attribute (.Name x p0) "pop" p1) [] [] cpos) none pos.line X.env = pure false := by rfl) :
    BS X W (.Expr (.Call (.Attribute (.Name x p0) "pop" p1) [] [] cpos) pos) (tDrop (tBM0 X.K "list" rPop (tVar i))) (sPop i) := by
  refine ⟨ps_expr (pe_bm0 PySem.F.plainAttrs_list PySem.F.slot_list_pop PySem.F.type_list_pop mt_pop hx hbase hline) hs, fun Hs H0s σ H H0 ρ D rl p => ?_⟩
  unfold sPop at p
  split at p
  · rename_i ds e1
    obtain ⟨q, vs, h1, h2, h3, h4, h5⟩ := rl.own _ _ e1
    split at p
    · rename_i d e2
      obtain ⟨y, hy, _⟩ := DpAll.get h5 e2
      refine ⟨.ref q, h1, .inl ⟨rfl, _, .inl (.inl h4)⟩, q, vs, y, rfl, rfl, h4, by rw [DpAll.length h5]; exact hy, ?_⟩
      exact p σ _ H0 (rl.write e1 h1 (DpAll.dropLast h5))
    · exact False.elim p
  · exact False.elim p
theorem bs_popToS (i j : Nat) {y : Str} {p0 p1 cpos : Pos} (hx : PE X (.Name y p0) (tVar i)) (hN : X.N.Nodup) (hi : X.N[j]? = some x) (hlx : L2.Loc X.env.scope x) (hbase : attributeBase (.Name y p0) "pop" X.env (eval (.Name y p0) X.env) = eval (.Name y p0) X.env := by rfl) (hline : (p1.endLine == cpos.line) = true := by rfl)
    (hs : swapsWith (.Call (.Attribute (.Name y p0) "pop" p1) [] [] cpos) (some (.Name x pos')) pos.line X.env = pure false := by rfl) (hf : X.fn x = true ∨ X.env.scope.names.lookup x = some .local := by first | exact .inl rfl | exact .inr rfl) :
    BS X W (.Assign [.Name x pos'] (.Call (.Attribute (.Name y p0) "pop" p1) [] [] cpos) pos) (tAsg (tBM0 X.K "list" rPop (tVar i)) (gName j)) (sPopTo j i) :=
  bs_popTo (ps_set hN hi hlx (pe_bm0 PySem.F.plainAttrs_list PySem.F.slot_list_pop PySem.F.type_list_pop mt_pop hx hbase hline) hs hf)
theorem bs_setIxS {i : Nat} {k : Expr} {tk : TE} {mi : ME} {p0 p1 : Pos} (hv : BE X W true e t m) (hi : BE X W true k tk mi) (hx : PE X (.Name x p0) (tVar i)) 
    (ha : ∀ v, assign (.Subscript (.Name x p0) k p1) X.env v = (do
      let ov ← holding [v] (eval (.Name x p0) X.env)
      let iv ← holding [v, ov] (eval k X.env)
      standAt p1
      holding [v, ov, iv] (setItem ov iv v)
      release [v, ov, iv] []) := by intro _; rfl)
    (hs : swapsWithSole [.Subscript (.Name x p0) k p1] e pos.line X.env = pure false := by rfl) (hw : swappedStores [.Subscript (.Name x p0) k p1] e X.env = pure none := by rfl)
    (h3 : (assignEach [.Subscript (.Name x p0) k p1] X.env).map (·.2) = [assign (.Subscript (.Name x p0) k p1) X.env] := by rfl) :
    BS X W (.Assign [.Subscript (.Name x p0) k p1] e pos) (tAsg t (gSub (tVar i) tk rSetL)) (sSetIx i mi m) :=
  bs_setIx hv hi (ps_asg hv.pe (pg_sub hx hi.pe set_list ha) hs hw h3)
theorem be_join0S {p0 : Pos} {k : Nat} {apos : Pos} (h : BE X W md e te m) (hs : starEach [e] X.env = [(false, eval e X.env)] := by rfl) (hbase : attributeBase (.Constant (.str "") k p0) "join" X.env (eval (.Constant (.str "") k p0) X.env) = eval (.Constant (.str "") k p0) X.env := by rfl) (hline : (apos.endLine == pos.line) = true := by rfl) :
    BE X W true (.Call (.Attribute (.Constant (.str "") k p0) "join" apos) [e] [] pos) (tM1
      (fun x xs H Q => ∃ a p, ∃ ys : List Str, x = .str a ∧ xs = [.ref p] ∧ (SqL X.K H p (ys.map V.str) ∨ SqT X.K H p (ys.map V.str)) ∧ (ys.map (·.length)).sum + ys.length * a.length ≤ 16777216 ∧ Q (.str (Txt.join a ys)) H) (tC (.str "")) te) (m1 dJoin0 m) :=
  be_join0 (p1 := p0) h (pe_join pe_str h.pe hs hbase hline)
end
/-- isinstance of an error, asked of u: by the error's name -/
structure IsX (K : PySem.W.Frag) (mg : Str → Option Value) (u : Value) (isx : Str → Option Bool) : Prop where
  h : ∀ n b, isx n = some b → ∀ C, mg n = some (.ref C) → ExcC K C ∧ PySem.W.kitOne K (.ref C) u = some b
/-- isinstance of a pinned error -/
theorem call_isP {X : Cx} {a D : Addr} {oe : Obj} (hp : (a, oe) ∈ X.pn) (C : ExcC X.K D) (hcl : oe.cls = .ref D) (hf : ∃ vs, oe.data = .fields vs) {H : Hp} (hx : oe.dict = none ∨ ∃ dx fs, oe.dict = some dx ∧ H dx = some (.xd fs)) {pins : List (Addr × Obj)} {s : Shared} {σ : L2.St} {c : V} {cv : Value} {b : Bool} {us : List Value} {Q : VK}
    (I : Inv X pins σ H s) (r : Vals [.ref a, c] us) (hc : ∀ u, RelV c u → u = cv) (hk : PySem.W.kitOne X.K (.ref D) cv = some b) (q : Q (.bl b) H) :
    wpAny (model X.prog X.w) X.A (call (.builtin "isinstance") us) (EP X pins σ Q) X.xe s := by
  obtain ⟨u, w', rfl, ru, rw'⟩ := vals2 r
  obtain rfl : u = Value.ref a := ru
  have ec := hc _ rw'
  subst ec
  obtain ⟨at_, _⟩ := I.pin (a, oe) (List.mem_append_left _ hp)
  obtain ⟨fl, hfl⟩ := hf
  have nc : PySem.W.notCls oe = true := by unfold PySem.W.notCls; rw [hfl] <;> rfl
  have cl : (PySem.W.clsIn X.K D).isSome = true := by obtain ⟨cd, e, _⟩ := PySem.W.any_some C.hd; rw [e]; rfl
  have inst : ∃ od, PySem.W.InstAt s.heap a oe D od := by
    rcases hx with hn | ⟨dx, fs, hd, hx⟩
    · exact ⟨none, at_, hcl, nc, by rw [hn]; trivial⟩
    · have okd : ObjOk X.prog X.w H s.heap dx (.xd fs) := I.hok dx _ hx
      obtain ⟨mA, hns, _⟩ := okd
      obtain ⟨od, ho, _⟩ := lookIn_ns hns
      exact ⟨some od, at_, hcl, nc, by rw [hd]; exact ho⟩
  obtain ⟨od, inst⟩ := inst
  exact PySem.W.kia_one (PySem.W.kitx_exc cl C.hg C.hk C.hs C.ha C.hn C.ht C.hm) I.kIn inst hk (fun z => nomatch z) fun tk => ⟨.bl b, H, I.kept (t' := tk) fun _ _ z => z, rfl, q⟩
structure CatchF (K : PySem.W.Frag) (mg : Str → Option Value) (x : Str) (C : Addr) (sub : Str → Str → Option Bool) : Prop where
  c : Catch K mg x C (sub x)
section
variable {P : Program} {w : World} {K : PySem.W.Frag} {mg : Str → Option Value} {base : Heap}
theorem ints_all {H : Hp} : ∀ ns : List Int, DpAll K H (ns.map V.int) (ns.map PyData.int)
  | [] => .nil
  | n :: ns => .cons (.int n) (ints_all ns)
theorem cx_never {H : Hp} {s s' : Shared} {e : Value} (h : L2.CX P w [] H s (fun _ _ _ => False) e s') : False := by
  obtain ⟨_, _, _, _, _, _, _, _, _, _, _, _, z⟩ := h
  exact z
end
end DW
namespace DW
open PySem PySem.Spec PyProof.Rows L2
/-- the entries of a written dict, by a table -/
inductive TabIs : List DictEntry → List (Str × D) → Prop
  | nil : TabIs [] []
  | cons {e : DictEntry} {k : Str} {t : Tok} {x : V} {v : D} {es : List DictEntry} {tb : List (Str × D)} (hk : e.key = .str k t) (hv : RelV x e.val) (hd : ∀ K H, Dp K H x v) (r : TabIs es tb) : TabIs (e :: es) ((k, v) :: tb)
theorem isStr_str (k z : Str) (t : Tok) : (Value.str k t).isStr z = (k == z) := rfl
theorem TabIs.find {K : PySem.W.Frag} : ∀ {es : List DictEntry} {tb : List (Str × D)}, TabIs es tb → ∀ z : Str,
    (tb.lookup z = none → es.find? (fun x => x.key.isStr z) = none) ∧ ∀ v, tb.lookup z = some v → ∃ e x, es.find? (fun x => x.key.isStr z) = some e ∧ RelV x e.val ∧ ∀ H, Dp K H x v
  | _, _, .nil, z => ⟨fun _ => rfl, fun v h => nomatch h⟩
  | _, _, .cons (e := e) (k := k) (t := t) (x := x) (v := v) (es := es) (tb := tb) hk hv hd r, z => by
    obtain ⟨i1, i2⟩ := TabIs.find (K := K) r z
    have e1 : e.key.isStr z = (k == z) := by rw [hk, isStr_str]
    by_cases hz : k = z
    · subst hz
      refine ⟨fun h => ?_, fun v' h => ?_⟩
      · rw [List.lookup_cons, beq_self_eq_true] at h; cases h
      · rw [List.lookup_cons, beq_self_eq_true] at h
        cases h
        refine ⟨e, x, ?_, hv, hd K⟩
        rw [List.find?_cons_of_pos (by rw [e1]; exact beq_self_eq_true _)]
    · have n1 : (k == z) = false := beq_false_of_ne hz
      have n2 : (z == k) = false := beq_false_of_ne fun q => hz q.symm
      have e2 : (e :: es).find? (fun x => x.key.isStr z) = es.find? (fun x => x.key.isStr z) := List.find?_cons_of_neg (by rw [e1, n1]; exact Bool.false_ne_true)
      have e3 : ((k, v) :: tb).lookup z = tb.lookup z := by rw [List.lookup_cons, n2]
      rw [e2, e3]
      exact ⟨i1, i2⟩
theorem TabIs.noref : ∀ {es : List DictEntry} {tb : List (Str × D)}, TabIs es tb → (es.any fun x => x.refKey) = false
  | _, _, .nil => rfl
  | _, _, .cons (e := e) (k := k) (t := t) (es := es) hk _ _ r => by
    rw [List.any_cons, TabIs.noref r, Bool.or_false]
    unfold DictEntry.refKey
    rw [hk]
theorem tab_of {K : PySem.W.Frag} {w : World} {d : Addr} {es : Array DictEntry} {n : Nat} {tb : List (Str × D)} (hl : K.lookup d = some ⟨.type "dict", none, .dict es n, #[]⟩) (hk : PySem.W.KeysLit w.params es.toList) (hw : (d == sysModules) = false) (ht : TabIs es.toList tb) : Tab K w d tb := by
  refine ⟨⟨es, n, hl, hk, hw⟩, fun z h => ?_, fun z v h => ?_⟩
  · unfold PySem.W.nsIn
    rw [show List.lookup d K = _ from hl]
    dsimp only
    rw [(ht.find (K := K) z).1 h, ht.noref]
    rfl
  · obtain ⟨e, x, h1, h2, h3⟩ := (ht.find (K := K) z).2 v h
    refine ⟨e.val, x, ?_, h2, h3⟩
    unfold PySem.W.nsIn
    rw [show List.lookup d K = _ from hl]
    dsimp only
    rw [h1]
end DW
namespace DW
open PySem PySem.Spec PyProof.Rows L2
theorem kit_excT {K : PySem.W.Frag} {C : Addr} {T : String} {b : Bool} (hm : PySem.W.kitMeta T = true) (hs : PySem.W.subIn K (.ref C) (.type T) = some b) : PySem.W.kitOne K (.ref C) (.type T) = some b := by
  unfold PySem.W.kitOne
  rw [if_neg (by simp)]
  show (if PySem.W.kitMeta T = true then PySem.W.subIn K (.ref C) (.type T) else none) = some b
  rw [if_pos hm]
  exact hs
theorem kit_excS {K : PySem.W.Frag} {C : Addr} : PySem.W.kitOne K (.ref C) (.ref C) = some true := by
  unfold PySem.W.kitOne
  rw [if_pos (by simp)]
theorem kit_excR {K : PySem.W.Frag} {C E : Addr} {b : Bool} (hne : (C == E) = false) (hc : (PySem.W.clsIn K E).isSome = true) (ht : PySem.W.typeIn K (.ref E) = some (.type "type")) (hs : PySem.W.subIn K (.ref C) (.ref E) = some b) : PySem.W.kitOne K (.ref C) (.ref E) = some b := by
  unfold PySem.W.kitOne
  have h1 : (Value.ref C == Value.ref E) = false := by
    have : C ≠ E := fun h => by rw [h, beq_self_eq_true] at hne; cases hne
    simp [this]
  rw [h1, if_neg Bool.false_ne_true]
  show (if ((PySem.W.clsIn K E).isSome && PySem.W.typeIn K (.ref E) == some (.type "type")) = true then PySem.W.subIn K (.ref C) (.ref E) else none) = some b
  rw [hc, ht, if_pos (by decide)]
  exact hs
/-- what a clause catches, name by name -/
theorem catch_of {K : PySem.W.Frag} {mg : Str → Option Value} {x : Str} {C : Addr} {l : List (Str × Bool)} {sub : Str → Option Bool} (g : mg x = some (.ref C)) (hs : ∀ n, sub n = l.lookup n) (h : ∀ n b, l.lookup n = some b → ∃ D, mg n = some (.ref D) ∧ PySem.W.exmOne K (.ref D) (.ref C) = some b) : Catch K mg x C sub :=
  ⟨g, fun n b C' e hm => by
    rw [hs n] at e
    obtain ⟨D, h1, h2⟩ := h n b e
    rw [hm] at h1
    cases h1
    exact h2, fun n b e => by
    rw [hs n] at e
    obtain ⟨D, h1, _⟩ := h n b e
    exact ⟨D, h1⟩⟩
/-- the answers of isinstance, name by name -/
theorem isx_of {K : PySem.W.Frag} {mg : Str → Option Value} {u : Value} {l : List (Str × Bool)} {isx : Str → Option Bool} (hs : ∀ n, isx n = l.lookup n) (h : ∀ n b, l.lookup n = some b → ∃ D, mg n = some (.ref D) ∧ ExcC K D ∧ PySem.W.kitOne K (.ref D) u = some b) : IsX K mg u isx :=
  ⟨fun n b e C hm => by
    rw [hs n] at e
    obtain ⟨D, h1, h2⟩ := h n b e
    rw [hm] at h1
    cases h1
    exact h2⟩
theorem look_nil {α : Type} {P : Str → α → Prop} : ∀ (n : Str) (b : α), ([] : List (Str × α)).lookup n = some b → P n b := fun _ _ h => nomatch h
theorem look_cons {α : Type} {P : Str → α → Prop} {k : Str} {v : α} {l : List (Str × α)} (h : P k v) (r : ∀ n b, l.lookup n = some b → P n b) : ∀ n b, ((k, v) :: l).lookup n = some b → P n b := fun n b e => by
  by_cases hn : n = k
  · subst hn
    rw [List.lookup_cons, beq_self_eq_true] at e
    cases e
    exact h
  · have : (n == k) = false := beq_false_of_ne hn
    rw [List.lookup_cons, this] at e
    exact r n b e
end DW

end
end
section
set_option Elab.async false
set_option linter.all false
set_option maxRecDepth 100000
set_option maxHeartbeats 4000000
noncomputable section
namespace DW
open PySem PySem.Spec PyProof.Rows L2
open SX (S S_tl S_len S_cat)
section
variable {X : Cx} {W : WX}
/-- isinstance(e, C) in a suite: the reading -/
def tIsX (K : PySem.W.Frag) (a : Addr) (oe : Obj) (u : Value) (i : Nat) : TE := fun σ H Q => σ[i]? = some (some (.ref a)) ∧ ∃ (D : Addr) (b : Bool), ExcC K D ∧ oe.cls = .ref D ∧ PySem.W.kitOne K (.ref D) u = some b ∧ (oe.dict = none ∨ ∃ dx fs, oe.dict = some dx ∧ H dx = some (.xd fs)) ∧ Q (.bl b) H
theorem pe_isX {i : Nat} {n Cn : Str} {p0 p1 p2 pos : Pos} {a : Addr} {oe : Obj} (hp : (a, oe) ∈ X.pn) (hf : ∃ vs, oe.data = .fields vs) (hg : Gl X "isinstance") (hm : X.mg "isinstance" = none) (hb : bootBuiltins "isinstance" = some (.builtin "isinstance"))
    (hn : PE X (.Name n p1) (tVar i)) (u : Value) (vC : V) (hu : ∀ w, RelV vC w → w = u) (ht : PE X (.Name Cn p2) (tC vC)) :
    PE X (.Call (.Name "isinstance" p0) [.Name n p1, .Name Cn p2] [] pos) (tIsX X.K a oe u i) := by
  have rule : CallR X (.builtin "isinstance") (fun xs H Q => ∃ (c : V) (D : Addr) (b : Bool), xs = [.ref a, c] ∧ (∀ w, RelV c w → w = u) ∧ ExcC X.K D ∧ oe.cls = .ref D ∧ PySem.W.kitOne X.K (.ref D) u = some b ∧ (oe.dict = none ∨ ∃ dx fs, oe.dict = some dx ∧ H dx = some (.xd fs)) ∧ Q (.bl b) H) := by
    intro pins s σ H xs us Q I r h
    obtain ⟨c, D, b, rfl, hc, eC, hcl, hk, hd, q⟩ := h
    exact call_isP hp eC hcl hf hd I r hc hk q
  have main := pe_callB (pos := pos) (p := p0) rule hg hm hb (pa_cons hn (pa_cons ht pa_nil)) (by decide) (by decide)
  exact ⟨fun pins s σ H Q I ⟨e, D, b, eC, hcl, hk, hd, q⟩ => main.run pins s σ H Q I ⟨.ref a, e, vC, D, b, rfl, hu, eC, hcl, hk, hd, q⟩⟩
theorem be_isX {i : Nat} {n Cn : Str} {p0 p1 p2 pos : Pos} {a : Addr} {oe : Obj} {pn : List (Addr × Obj)} {isx : Str → Option Bool} {u : Value} (hX : IsX X.K X.mg u isx) (hf : ∃ vs, oe.data = .fields vs) (hg : Gl X "isinstance") (hm : X.mg "isinstance" = none) (hb : bootBuiltins "isinstance" = some (.builtin "isinstance"))
    (hn : PE X (.Name n p1) (tVar i)) (vC : V) (hu : ∀ w, RelV vC w → w = u) (ht : PE X (.Name Cn p2) (tC vC)) (hpn : X.pn = (a, oe) :: pn := by rfl) :
    BE X W true (.Call (.Name "isinstance" p0) [.Name n p1, .Name Cn p2] [] pos) (tIsX X.K a oe u i) (mIsX i isx) := by
  refine ⟨pe_isX (by rw [hpn]; exact List.mem_cons_self) hf hg hm hb hn u vC hu ht, fun Hs H0s σ H H0 ρ Q rl p => ?_⟩
  have ee : excOf X = eaOf X.K X.mg a oe.cls oe.dict := by unfold excOf; rw [hpn]
  rw [ee] at rl
  unfold mIsX at p
  split at p
  · rename_i nm fs e1
    split at p
    · rename_i b eb
      obtain ⟨e2, C, h1, h2, h3⟩ := rl.exc _ _ _ e1
      obtain ⟨k1, k2⟩ := hX.h _ _ eb C h1
      refine ⟨e2, C, b, k1, h2, k2, ?_, p _ H H0 (.refl rl.sub) (.bl _)⟩
      cases fs with
      | nil => exact .inl h3
      | cons f fs =>
        obtain ⟨dx, v, d1, d2, d3⟩ := h3
        exact .inr ⟨dx, _, d1, rl.sub _ _ d2⟩
    · exact False.elim p
  · exact False.elim p
/-- e.f of the caught error, where it is one of the class x -/
def mXf (i : Nat) (x f : Str) : ME := fun ρ => match ρ[i]? with
  | some (some (.exc n ((g, d) :: _))) => if n = x ∧ g = f then .ok d else .stuck
  | _ => .stuck
theorem be_xf {i : Nat} {n f x : Str} {p1 pos : Pos} {a C : Addr} {oe : Obj} {pn : List (Addr × Obj)} (hx : X.mg x = some (.ref C)) (T : XfC X.K C) (hno : PySem.W.findIn X.K (.ref C) f = some none) (hf : ∃ vs, oe.data = .fields vs) (hn : PE (X.suite a ((a, oe) :: pn)) (.Name n p1) (tVar i))
    (hb : attributeBase (.Name n p1) f X.env (eval (.Name n p1) X.env) = eval (.Name n p1) X.env := by rfl) :
    BE (X.suite a ((a, oe) :: pn)) W true (.Attribute (.Name n p1) f pos) (tXf a oe.cls oe.dict C f (tVar i)) (mXf i x f) := by
  refine ⟨pe_xf (cls := oe.cls) (d := oe.dict) T hno ⟨rfl, rfl⟩ hf hn hb, fun Hs H0s σ H H0 ρ Q rl p => ?_⟩
  unfold mXf at p
  split at p
  · rename_i nm g d fs e1
    split at p
    · rename_i hh
      obtain ⟨rfl, rfl⟩ := hh
      obtain ⟨e2, C', h1, h2, dx, v, h3, h4, h5⟩ := rl.exc _ _ _ e1
      have h1 : X.mg nm = some (.ref C') := h1
      rw [hx] at h1
      cases h1
      refine ⟨.ref a, e2, rfl, h2, dx, _, v, h3, rl.sub _ _ h4, ?_, p v H H0 (.refl rl.sub) h5⟩
      rw [List.lookup_cons, beq_self_eq_true]
    · exact False.elim p
  · exact False.elim p
end
end DW

end
end
section
set_option Elab.async false
set_option linter.all false
set_option maxRecDepth 100000
set_option maxHeartbeats 4000000
noncomputable section
namespace DW
open PySem PySem.Spec PyProof.Rows L2
open SX (S S_tl S_len S_cat)
/-! ### a list that anyone may pop -/
def Loose1 : HO → Prop
  | .lst _ => True
  | .ext _ => True
  | _ => False
section
variable {X : Cx} {pins : List (Addr × Obj)} {σ : L2.St} {H : Hp} {s : Shared} {p : Addr} {o1 o2 : HO}
/-- the same object told of in another way -/
theorem Inv.retell (I : Inv X pins σ H s) (h1 : H p = some o1) (l1 : Loose1 o1) (ok : ObjOk X.prog X.w (upd H p o2) s.heap p o2) : Inv X pins σ (upd H p o2) s := by
  have ne : ∀ {b : Addr} {u : HO}, H b = some u → ¬ Loose1 u → b ≠ p := fun {b u} e n z => by
    subst z
    rw [h1] at e
    cases e
    exact n l1
  have un : Un X.fs [] H (upd H p o2) s.heap s.heap :=
    { keep := fun b o e _ _ _ => e
      slot := fun b o e _ _ _ => ⟨o.slots, e⟩
      free := fun b o e n _ => by rw [upd_ne (fun z => by rw [z, h1] at n; cases n)]; exact n
      there := fun b o e _ => ⟨o, e⟩
      tups := fun b xs e => by rw [upd_ne (ne e id)]; exact e
      frzs := fun b o u e => by rw [upd_ne (ne e id)]; exact e
      tbls := fun b ps e => ⟨#[], by rw [upd_ne (ne e id), e]; simp⟩ }
  have hok : HOk X.prog X.w (upd H p o2) s.heap := fun b u e => by
    by_cases hb : b = p
    · subst hb
      rw [upd_same] at e
      cases e
      exact ok
    · rw [upd_ne hb] at e
      exact (I.hok b u e).stay (fun _ _ _ e => e) (fun c e => by rw [upd_ne (ne e id)]; exact e) fun c xs e => by rw [upd_ne (ne e id)]; exact e
  exact I.un (t' := s.toks) un hok
/-- small numbers -/
def Few (ns : List Int) : Prop := ns.length ≤ sizeLine ∧ ∀ z ∈ ns, 0 ≤ z ∧ z < 1000
theorem RndP.stay {a : Addr} {h1 h2 : Heap} (x : RndP a h1) (k : ∀ o, h1.get? a = some o → h2.get? a = some o) : RndP a h2 := by
  obtain ⟨vs, n, ns, e, r⟩ := x
  exact ⟨vs, n, ns, k _ e, r⟩
theorem ints_vals : ∀ {vs : List Value} {ns : List Int}, Vals (ns.map V.int) vs → IntsAre vs ns := fun h => h.ints
theorem Inv.open_ (I : Inv X pins σ H s) (h : H p = some (RndO p)) : ∃ ns, Few ns ∧ Inv X pins σ (upd H p (.lst (ns.map V.int))) s := by
  have ok : ObjOk X.prog X.w H s.heap p (.ext (RndP p)) := I.hok p _ h
  obtain ⟨⟨vs, n, ns, e, r, l, z⟩, _, _⟩ := ok
  refine ⟨ns, ⟨l, z⟩, DW.Inv.retell I h trivial ⟨by rw [List.length_map]; exact l, vs.toList, n, vals_ints r, ?_⟩⟩
  rw [Array.toArray_toList]
  exact e
theorem Inv.hide (I : Inv X pins σ H s) {ns : List Int} (h : H p = some (.lst (ns.map V.int))) (few : Few ns) : Inv X pins σ (upd H p (RndO p)) s := by
  have ok : ObjOk X.prog X.w H s.heap p (.lst (ns.map V.int)) := I.hok p _ h
  obtain ⟨l, its, n, r, e⟩ := ok
  refine DW.Inv.retell I h trivial ⟨⟨its.toArray, n, ns, e, ?_, few.1, few.2⟩, ⟨_, e⟩, fun h1 h2 x k => x.stay k⟩
  show IntsAre its.toArray.toList ns
  exact ints_vals r
theorem upd_back {o : HO} (h : H p = some o) : ∀ {u : HO}, upd (upd H p u) p o = H := fun {u} => by
  funext b
  by_cases hb : b = p
  · subst hb; rw [upd_same, h]
  · rw [upd_ne hb, upd_ne hb]
/-- a block, run where the list is told of; told of as little behind it as ahead -/
def endV (p : Addr) (D : Ends) : Ends where
  nx := fun σ' H' => ∃ ns, Few ns ∧ H' p = some (.lst (ns.map V.int)) ∧ D.nx σ' (upd H' p (RndO p))
  rt := fun v H' => ∃ ns, Few ns ∧ H' p = some (.lst (ns.map V.int)) ∧ D.rt v (upd H' p (RndO p))
  bk := fun σ' H' => ∃ ns, Few ns ∧ H' p = some (.lst (ns.map V.int)) ∧ D.bk σ' (upd H' p (RndO p))
  ct := fun σ' H' => ∃ ns, Few ns ∧ H' p = some (.lst (ns.map V.int)) ∧ D.ct σ' (upd H' p (RndO p))
def tView (t : TS) : TS := fun D σ H => ∃ p, H p = some (RndO p) ∧ ∀ ns, Few ns → t (endV p D) σ (upd H p (.lst (ns.map V.int)))
theorem pss_view {body : List Stmt} {t : TS} (h : PSs X body t) : PSs X body (tView t) := by
  refine ⟨fun pins s σ H D I ⟨p, hp, q⟩ => ?_⟩
  obtain ⟨ns, few, I1⟩ := Inv.open_ I hp
  refine wpAny_mono (h.run pins s σ _ _ I1 (q ns few)) (fun f s1 z => ?_) fun _ _ z => z
  cases f with
  | next => obtain ⟨σ2, H2, J, ms, fm, e, q2⟩ := z; exact ⟨σ2, _, Inv.hide J e fm, q2⟩
  | brk => obtain ⟨σ2, H2, J, ms, fm, e, q2⟩ := z; exact ⟨σ2, _, Inv.hide J e fm, q2⟩
  | cont => obtain ⟨σ2, H2, J, ms, fm, e, q2⟩ := z; exact ⟨σ2, _, Inv.hide J e fm, q2⟩
  | ret u => obtain ⟨v, σ2, H2, J, rv, ms, fm, e, q2⟩ := z; exact ⟨v, σ2, _, Inv.hide J e fm, rv, q2⟩
end
end DW

end
end
section
set_option Elab.async false
set_option linter.all false
set_option maxRecDepth 100000
set_option maxHeartbeats 4000000
noncomputable section
namespace DW
open PySem PySem.Spec PyProof.Rows L2
open SX (S S_tl S_len S_cat)
section
variable {X : Cx} {W : WX} {md : Bool} {e a b c : Expr} {es : List Expr} {t ta tb tc te : TE} {tr : TA} {m ma mb mc : ME} {mr : MA} {pos : Pos} {x : Str} {pos' : Pos}
/-! ### if draws: return draws.pop(); return 0 -/
def sNext (i : Nat) : MS := fun ρ => match ρ[i]? with
  | some (some .rnd) => .pick fun n => .rt (.int (n : Int))
  | _ => .stuck
theorem few_pop {ns : List Int} {z : Int} (h : Few ns) (hz : ns[ns.length - 1]? = some z) : Few ns.dropLast ∧ ∃ n : Nat, n < top1000 ∧ z = (n : Int) := by
  refine ⟨⟨Nat.le_trans (by rw [List.length_dropLast]; omega) h.1, fun y hy => h.2 y (List.dropLast_subset _ hy)⟩, z.toNat, ?_, ?_⟩
  · have := h.2 z (List.mem_of_getElem? hz)
    show z.toNat < 1000
    omega
  · have := h.2 z (List.mem_of_getElem? hz)
    omega
theorem bss_next {i : Nat} {d : Str} {p0 p1 p2 cp rp zp kp : Pos} {j : Nat} (hx0 : PE X (.Name d p0) (tVar i)) (hx : PE X (.Name d p1) (tVar i))
    (he : ∀ whole, isTrue (.Name d p0) X.env whole = (do let v ← whole; standAt (Expr.Name d p0).pos; holding [v] (truthy v)) := by intro _; rfl)
    (hbase : attributeBase (.Name d p1) "pop" X.env (eval (.Name d p1) X.env) = eval (.Name d p1) X.env := by rfl) (hline : (p2.endLine == cp.line) = true := by rfl) :
    BSs X W [.If (.Name d p0) [.Return (some (.Call (.Attribute (.Name d p1) "pop" p2) [] [] cp)) rp] [] pos, .Return (some (.Constant (.int 0) j kp)) zp]
      (tView (tSeq (tIfS (fun σ H Q => tVar i σ H fun x H' => ∃ k, TruV X.K x H' k ∧ Q k H') (tRet (tBM0 X.K "list" rPop (tVar i))) tNext) (tRet (tC (.int 0))))) (sNext i) := by
  refine ⟨pss_view (pss_cons (ps_if (pt_truth hx0 he) (pss_one (ps_ret (pe_bm0 PySem.F.plainAttrs_list PySem.F.slot_list_pop PySem.F.type_list_pop mt_pop hx hbase hline))) pss_nil) (pss_one (ps_ret pe_int))), fun Hs H0s σ H H0 ρ D rl p => ?_⟩
  unfold sNext at p
  split at p
  · rename_i e1
    obtain ⟨q, h1, h2⟩ := rl.rnd _ e1
    have back : ∀ {u : HO}, upd (upd H q u) q (RndO q) = H := fun {u} => upd_back (rl.sub _ _ h2)
    have done : ∀ n : Nat, n < top1000 → D.rt (.int (n : Int)) H := fun n hn => p n hn _ H H0 rl.fr (.int _)
    refine ⟨q, rl.sub _ _ h2, fun ns few => ?_⟩
    refine ⟨.ref q, h1, !(ns.map V.int).isEmpty, .inl ⟨_, .inl (.inl upd_same), rfl⟩, ?_⟩
    cases ns with
    | nil =>
      refine ⟨[], few, upd_same, ?_⟩
      rw [back]
      exact done 0 (by decide)
    | cons z zs =>
      obtain ⟨y, hy⟩ : ∃ y, (z :: zs)[(z :: zs).length - 1]? = some y := ⟨_, List.getElem?_eq_getElem (by rw [List.length_cons]; omega)⟩
      obtain ⟨f2, n, hn, rfl⟩ := few_pop few hy
      refine ⟨.ref q, h1, .inl ⟨rfl, _, .inl (.inl upd_same)⟩, q, _, .int (n : Int), rfl, rfl, upd_same, ?_, ?_⟩
      · rw [List.getElem?_map, List.length_map, hy]; rfl
      · refine ⟨(z :: zs).dropLast, f2, ?_, ?_⟩
        · rw [upd_same, List.map_dropLast]
        · have e3 : upd (upd (upd H q (.lst (((z :: zs)).map V.int))) q (.lst (((z :: zs)).map V.int).dropLast)) q (RndO q) = H := by
            funext bb
            by_cases hb : bb = q
            · subst hb; rw [upd_same]; exact (rl.sub _ _ h2).symm
            · rw [upd_ne hb, upd_ne hb, upd_ne hb]
          rw [e3]
          exact done n hn
  · exact False.elim p
/-! ### defs whose first parameter is such a list -/
def spR (K : PySem.W.Frag) (mg : Str → Option Value) (n : Nat) (f : List D → R D) : Sp := fun vs H Q E => ∃ H0 ds p rest, Same H0 H ∧ vs = .ref p :: rest ∧ H0 p = some (RndO p) ∧ DpAll K H0 rest ds ∧ ds.length = n ∧ Post (Dp K) K mg true H H0 (f ds) Q E
structure DefR (P : Program) (w : World) (K : PySem.W.Frag) (mg : Str → Option Value) (base : Heap) (x : Str) (ps : List Str) (k n : Nat) (f : List D → R D) : Prop where
  ex : ∃ (a : Addr) (fd : FuncData), FnOk P w K mg base (L2.CX P w) k a fd ps (spR K mg n f) ∧ mg x = some (.ref a) ∧ PySem.W.keepIn K (.ref a) = true ∧ L2.Binds K fd ps []
def mCallR (i n : Nat) (f : List D → R D) (r : MA) : ME := fun ρ => match ρ[i]? with
  | some (some .rnd) => (r ρ).bind fun ds => if ds.length = n then f ds else .stuck
  | _ => .stuck
theorem be_callR {i : Nat} {d : Str} {pd p : Pos} {ps : List Str} {k j n : Nat} {f : List D → R D} (F : DefR X.prog X.w X.K X.mg X.base x ps k n f) (hr : Room j X.A) (hk : k ≤ j) (hg : Gl X x) (tk : Takes X W) (hx : PE X (.Name d pd) (tVar i)) (ha : BA X W true es tr mr)
    (hd : (x == ("__debug__" : Str)) = false := by decide) (he : starEach (.Name d pd :: es) X.env = (false, eval (.Name d pd) X.env) :: starEach es X.env := by rfl) (hpl : (backTo pos (starEach es X.env)).any (·.1) = false := by rfl) :
    BE X W true (.Call (.Name x p) (.Name d pd :: es) [] pos) (tCallS (spR X.K X.mg n f) (WE W) (tCons (tVar i) tr)) (mCallR i n f mr) := by
  obtain ⟨a, fd, h1, h2, h3, h4⟩ := F.ex
  refine ⟨pe_callS h1 (hr.mono hk) hg h2 h3 h4 (fun σ => passAt tk σ) (pa_cons hx ha.pe he) hd he hpl, fun Hs H0s σ H H0 ρ Q rl p => ?_⟩
  unfold mCallR at p
  split at p
  · rename_i e1
    obtain ⟨q, g1, g2⟩ := rl.rnd _ e1
    refine ⟨.ref q, g1, ha.ev Hs H0s σ H H0 ρ _ rl ((Post.bind p).imp ?_)⟩
    rintro vs H1 ⟨ds, H01, _, f1, x1, p1⟩
    split at p1
    · rename_i hl
      exact ⟨H01, ds, q, vs, f1.sb, rfl, f1.ez _ _ g2, x1, hl, p1⟩
    · exact False.elim p1
  · exact False.elim p
def runDefR (n : Nat) (m : MS) : List D → R D := fun ds => fin (m (some .rnd :: startD (n - 1) ds))
end
section
variable {P : Program} {w : World} {K : PySem.W.Frag} {mg : Str → Option Value} {base : Heap}
theorem startR_eq (n : Nat) (ds : List D) : some SD.rnd :: startD (n - 1) ds = startS n (.rnd :: ds.map SD.sh) := by
  unfold startD startS
  rw [List.map_cons, List.map_map, List.length_cons, List.length_map, Nat.sub_sub, Nat.add_comm 1]
  rfl
theorem mk_defR {x : Str} {st : Stmt} {N ps : List Str} {k n : Nat} {mb : MS} (F : FD K mg x st) (S : FnScope N ps (defScope st)) (hn : ps.length ≤ N.length) (hp : ps.length = n + 1)
    (hb : ∀ (kV doc pm : Value) (an : Option Addr) (cdv ct : Value) (us : List Value), us.length = ps.length → bindArgs (PySem.W.fnOf x x (defArgs st) (defBody st) (defScope st) .none kV doc pm an cdv ct) ⟨us, []⟩ = pure (ps.zip us))
    (hbody : ∀ (f : Addr) (cdv : Value) (A : Around) (outer : List Env) (s : Shared) (H : Hp) (E : XK), Room k (A.deeper (envOfC x (defScope st) s.heap.objs.size f cdv)) →
      ∃ t, BSs (cxOf (L2.CX P w) P w K mg base N x (defScope st) f cdv A outer s H E) (fun cls d _ H => E cls d H) (defBody st) t mb) : DefR P w K mg base x ps (k + 1) n (runDefR N.length mb) := by
  obtain ⟨f, fd, F, g⟩ := F.ex
  refine ⟨f, fd, F.okX S (fun vs H Q E h => ?_) (fun cdv A outer s H vs Q E hr h => ?_), g, F.kp, F.binds hb⟩
  · obtain ⟨H0, ds, p, rest, _, rfl, _, h1, h2, _⟩ := h
    rw [List.length_cons, DpAll.length h1, h2, hp]
  · obtain ⟨H0, ds, p, rest, sm, rfl, h0, h1, h2, pp⟩ := h
    obtain ⟨t, ht⟩ := hbody f cdv A outer s H E hr
    refine ⟨t, ht.pe, ht.ev H H0 (L2.start N (.ref p :: rest)) H H0 (some .rnd :: startD (N.length - 1) ds) _ ?_ (post_fin pp)⟩
    rw [startR_eq]
    exact start_relS sm (.cons (.rnd h0) (ArgsOk.dp h1)) (by rw [List.length_cons, List.length_map]; omega)
/-! ### defs that hand over a new list -/
def spN (K : PySem.W.Frag) (mg : Str → Option Value) (n : Nat) (f : List D → R (List D)) : Sp := fun vs H Q E => ∃ H0 ds, Same H0 H ∧ DpAll K H0 vs ds ∧ ds.length = n ∧ PostN K mg H H0 (f ds) Q E
structure DefN (P : Program) (w : World) (K : PySem.W.Frag) (mg : Str → Option Value) (base : Heap) (x : Str) (ps : List Str) (k : Nat) (f : List D → R (List D)) : Prop where
  ex : ∃ (a : Addr) (fd : FuncData), FnOk P w K mg base (L2.CX P w) k a fd ps (spN K mg ps.length f) ∧ mg x = some (.ref a) ∧ PySem.W.keepIn K (.ref a) = true ∧ L2.Binds K fd ps []
def runDefN (n : Nat) (m : MS) : List D → R (List D) := fun ds => finN (m (startD n ds))
theorem mk_defN {x : Str} {st : Stmt} {N ps : List Str} {k : Nat} {mb : MS} (F : FD K mg x st) (S : FnScope N ps (defScope st)) (hn : ps.length ≤ N.length)
    (hb : ∀ (kV doc pm : Value) (an : Option Addr) (cdv ct : Value) (us : List Value), us.length = ps.length → bindArgs (PySem.W.fnOf x x (defArgs st) (defBody st) (defScope st) .none kV doc pm an cdv ct) ⟨us, []⟩ = pure (ps.zip us))
    (hbody : ∀ (f : Addr) (cdv : Value) (A : Around) (outer : List Env) (s : Shared) (H : Hp) (E : XK), Room k (A.deeper (envOfC x (defScope st) s.heap.objs.size f cdv)) →
      ∃ t, BSs (cxOf (L2.CX P w) P w K mg base N x (defScope st) f cdv A outer s H E) (fun cls d _ H => E cls d H) (defBody st) t mb) : DefN P w K mg base x ps (k + 1) (runDefN N.length mb) := by
  obtain ⟨f, fd, F, g⟩ := F.ex
  refine ⟨f, fd, F.okX S (fun vs H Q E h => ?_) (fun cdv A outer s H vs Q E hr h => ?_), g, F.kp, F.binds hb⟩
  · obtain ⟨H0, ds, _, h1, h2, _⟩ := h
    rw [DpAll.length h1, h2]
  · obtain ⟨H0, ds, sm, h1, h2, p⟩ := h
    obtain ⟨t, ht⟩ := hbody f cdv A outer s H E hr
    exact ⟨t, ht.pe, ht.ev H H0 (L2.start N vs) H H0 (startD N.length ds) _ (start_rel sm h1 (by omega)) (post_finN p)⟩
end
section
variable {X : Cx} {W : WX} {md : Bool} {e a b c : Expr} {es : List Expr} {t ta tb tc te : TE} {tr : TA} {m ma mb mc : ME} {mr : MA} {pos : Pos} {x : Str} {pos' : Pos}
def mCallN (n : Nat) (f : List D → R (List D)) (r : MA) : MA := fun ρ => (r ρ).bind fun ds => if ds.length = n then f ds else .stuck
theorem PostN.step {K : PySem.W.Frag} {mg : Str → Option Value} {H H0 H' H0' : Hp} {r : R (List D)} {Q : VK} {E : XK} (h : PostN K mg H H0 r Q E) (f : Fr H H0 H' H0') : PostN K mg H' H0' r Q E := by
  induction r with
  | stuck => exact h
  | ok ds => exact fun p vs H2 H02 g n n0 hp x => h p vs H2 H02 (f.trans g) (f.ex.free n) n0 hp x
  | err e => exact fun H2 H02 g => h H2 H02 (f.trans g)
  | pick k ih => exact fun n hn => ih n (h n hn)
theorem PostN.bind {K : PySem.W.Frag} {mg : Str → Option Value} {H H0 : Hp} {α β : Type} {rel : Hp → β → α → Prop} {r : R α} {f : α → R (List D)} {Q : VK} {E : XK} (h : PostN K mg H H0 (r.bind f) Q E) :
    Post rel K mg md H H0 r (fun v H' => ∃ d H0', Fr H H0 H' H0' ∧ rel (bif md then H0' else H') v d ∧ PostN K mg H' H0' (f d) Q E) E := by
  induction r with
  | stuck => exact h
  | ok d => exact fun v H2 H02 g x => ⟨d, H02, g, x, PostN.step h g⟩
  | err e => exact h
  | pick k ih => exact fun n hn => ih n (h n hn)
theorem bn_call {p : Pos} {ps : List Str} {k j n : Nat} {f : List D → R (List D)} (F : DefN X.prog X.w X.K X.mg X.base x ps k f) (hr : Room j X.A) (hk : k ≤ j) (hg : Gl X x) (tk : Takes X W) (ha : BA X W true (e :: es) tr mr) (hn : ps.length = n := by rfl)
    (hd : (x == ("__debug__" : Str)) = false := by decide) (he : starEach (e :: es) X.env = (false, eval e X.env) :: starEach es X.env := by rfl) (hpl : (backTo pos (starEach es X.env)).any (·.1) = false := by rfl) :
    BN X W (.Call (.Name x p) (e :: es) [] pos) (tCallS (spN X.K X.mg n f) (WE W) tr) (mCallN n f mr) := by
  subst hn
  obtain ⟨a, fd, h1, h2, h3, h4⟩ := F.ex
  refine ⟨pe_callS h1 (hr.mono hk) hg h2 h3 h4 (fun σ => passAt tk σ) ha.pe hd he hpl, fun Hs H0s σ H H0 ρ Q rl p => ha.ev Hs H0s σ H H0 ρ _ rl ((PostN.bind p).imp ?_)⟩
  rintro vs H1 ⟨ds, H01, f1, x1, p1⟩
  split at p1
  · rename_i hl
    exact ⟨H01, ds, f1.sb, x1, hl, p1⟩
  · exact False.elim p1
/-- return x, x an own list -/
def sRetOwn (i : Nat) : MS := fun ρ => match ρ[i]? with
  | some (some (.own ds)) => .rto ds
  | _ => .stuck
theorem bs_retOwn {i : Nat} {p : Pos} (hx : PE X (.Name x p) (tVar i)) : BS X W (.Return (some (.Name x p)) pos) (tRet (tVar i)) (sRetOwn i) := by
  refine ⟨ps_ret hx, fun Hs H0s σ H H0 ρ D rl p => ?_⟩
  unfold sRetOwn at p
  split at p
  · rename_i ds e1
    obtain ⟨q, vs, h1, h2, h3, h4, h5⟩ := rl.own _ _ e1
    exact ⟨.ref q, h1, p q vs H H0 rl.fr h2 h3 h4 h5⟩
  · exact False.elim p
/-- x.reverse() -/
def sRev (i : Nat) : MS := fun ρ => match ρ[i]? with
  | some (some (.own ds)) => .nx (ρ.set i (some (.own ds.reverse)))
  | _ => .stuck
theorem bs_rev {i : Nat} {p0 p1 cpos : Pos} (hx : PE X (.Name x p0) (tVar i)) (hbase : attributeBase (.Name x p0) "reverse" X.env (eval (.Name x p0) X.env) = eval (.Name x p0) X.env := by rfl) (hline : (p1.endLine == cpos.line) = true := by rfl)
    (hs : swapsWith (.Call (.Attribute (.Name x p0) "reverse" p1) [] [] cpos) none pos.line X.env = pure false := by rfl) :
    BS X W (.Expr (.Call (.Attribute (.Name x p0) "reverse" p1) [] [] cpos) pos) (tDrop (tBM0 X.K "list" rReverse (tVar i))) (sRev i) := by
  refine ⟨ps_expr (pe_bm0 PySem.F.plainAttrs_list PySem.F.slot_list_reverse PySem.F.type_list_reverse mt_reverse hx hbase hline) hs, fun Hs H0s σ H H0 ρ D rl p => ?_⟩
  unfold sRev at p
  split at p
  · rename_i ds e1
    obtain ⟨q, vs, h1, h2, h3, h4, h5⟩ := rl.own _ _ e1
    refine ⟨.ref q, h1, .inl ⟨rfl, _, .inl (.inl h4)⟩, q, vs, rfl, rfl, h4, ?_⟩
    exact p σ _ H0 (rl.write e1 h1 (DpAll.reverse h5))
  · exact False.elim p
/-- x.extend([..]) -/
def sExt (i : Nat) (r : MA) : MS := fun ρ => match ρ[i]? with
  | some (some (.own ds)) => O.of (r ρ) ρ fun es => if ds.length + es.length ≤ sizeLine then .nx (ρ.set i (some (.own (ds ++ es)))) else .stuck
  | _ => .stuck
theorem bs_ext {i : Nat} {p0 p1 cpos : Pos} (h : BN X W e t mr) (hx : PE X (.Name x p0) (tVar i)) (hbase : attributeBase (.Name x p0) "extend" X.env (eval (.Name x p0) X.env) = eval (.Name x p0) X.env := by rfl)
    (hall : ((((backTo cpos (starEach (e :: []) X.env)).all fun x => !x.fst) && (backToKw cpos (keywordEach [] X.env)).all fun x => x.fst.isSome) && decide (((e :: []).length + ([] : List Keyword).length + if ([] : List Keyword).isEmpty = true then 0 else 1) < 30)) = true := by rfl)
    (hline : (p1.endLine == cpos.line) = true := by rfl) (he : starEach (e :: []) X.env = (false, eval e X.env) :: starEach [] X.env := by rfl) (hpl : ((backTo cpos (starEach [] X.env)).any fun x => x.fst) = false := by rfl)
    (hs : swapsWith (.Call (.Attribute (.Name x p0) "extend" p1) [e] [] cpos) none pos.line X.env = pure false := by rfl) :
    BS X W (.Expr (.Call (.Attribute (.Name x p0) "extend" p1) [e] [] cpos) pos) (tDrop (tBM X.K "list" rExtend (tVar i) (tCons t tNil))) (sExt i mr) := by
  refine ⟨ps_expr (pe_bm PySem.F.plainAttrs_list PySem.F.slot_list_extend PySem.F.type_list_extend mt_extend hx (pa_cons h.pe pa_nil he) hbase hall hline he hpl) hs, fun Hs H0s σ H H0 ρ D rl p => ?_⟩
  unfold sExt at p
  split at p
  · rename_i ds e1
    obtain ⟨q, vs, h1, h2, h3, h4, h5⟩ := rl.own _ _ e1
    refine ⟨.ref q, h1, .inl ⟨rfl, _, .inl (.inl h4)⟩, h.ev Hs H0s σ H H0 ρ _ rl ?_⟩
    generalize mr ρ = r at p
    induction r with
    | stuck => exact p
    | pick k ih => exact fun n hn => ih n (p n hn)
    | err z => exact fun H' H0' f => p σ H' H0' (rl.step f)
    | ok es =>
      intro b zs H' H0' f n n0 hb xz
      have p : PostS X.K X.mg (excOf X) Hs H0s (if ds.length + es.length ≤ sizeLine then .nx (ρ.set i (some (.own (ds ++ es)))) else .stuck) D W := p
      split at p
      · rename_i hl
        refine ⟨q, b, vs, zs, rfl, rfl, f.ex _ _ h4, hb, by rw [DpAll.length h5, DpAll.length xz]; exact hl, ?_⟩
        exact p σ _ H0' ((rl.step f).write e1 h1 (DpAll.append (dpAll_mono f.ez _ _ h5) xz))
      · exact False.elim p
  · exact False.elim p
/-! ### an own list of small numbers, given away -/
def smallD (ds : List D) : Bool := ds.all fun d => match d with | .int z => decide (0 ≤ z ∧ z < 1000) | _ => false
theorem smallD_ints : ∀ {ds : List D}, smallD ds = true → ∃ ns : List Int, ds = ns.map PyData.int ∧ ∀ z ∈ ns, 0 ≤ z ∧ z < 1000
  | [], _ => ⟨[], rfl, fun _ h => nomatch h⟩
  | d :: ds, h => by
    unfold smallD at h
    rw [List.all_cons] at h
    obtain ⟨h1, h2⟩ := Bool.and_eq_true_iff.mp h
    obtain ⟨ns, e, hn⟩ := smallD_ints (ds := ds) h2
    cases d with
    | int z =>
      have h1 : decide (0 ≤ z ∧ z < 1000) = true := h1
      refine ⟨z :: ns, by rw [e]; rfl, fun y hy => ?_⟩
      rcases List.mem_cons.mp hy with rfl | hy
      · exact of_decide_eq_true h1
      · exact hn y hy
    | _ => cases h1
def sGive (i : Nat) (mx : MS) : MS := fun ρ => match ρ[i]? with
  | some (some (.own ds)) => if smallD ds = true ∧ ds.length ≤ sizeLine then mx (ρ.set i (some .rnd)) else .stuck
  | _ => .stuck
def tGive (t : TS) : TS := fun D σ H => ∃ p ns, H p = some (.lst (ns.map V.int)) ∧ Few ns ∧ t D σ (upd H p (RndO p))
theorem pss_give {body : List Stmt} {t : TS} (h : PSs X body t) : PSs X body (tGive t) :=
  ⟨fun pins s σ H D I ⟨p, ns, hp, few, q⟩ => h.run pins s σ _ D (Inv.hide I hp few) q⟩
theorem Rel.give {K : PySem.W.Frag} {ea : EA} {Hs H0s H H0 : Hp} {σ : L2.St} {ρ : En} (h : Rel K ea Hs H0s σ H H0 ρ) {i : Nat} {ds : List D} {p : Addr} (e : ρ[i]? = some (some (.own ds))) (hp : σ[i]? = some (some (.ref p))) :
    Rel K ea Hs H0s σ (upd H p (RndO p)) (upd H0 p (RndO p)) (ρ.set i (some .rnd)) := by
  obtain ⟨p', vs, h1, h2, h3, h4, h5⟩ := h.own i ds e
  have ep : p' = p := by rw [h1] at hp; injection hp with hp; injection hp with hp; injection hp
  subst ep
  have ex : Same H0 (upd H0 p' (RndO p')) := Same.new h3
  have hne : ∀ {j : Nat} {y : SD}, (ρ.set i (some SD.rnd))[j]? = some (some y) → (y ≠ .rnd) → i ≠ j ∧ ρ[j]? = some (some y) := fun {j y} q ny => by
    by_cases hj : i = j
    · subst hj
      rw [List.getElem?_set, if_pos rfl] at q
      split at q
      · cases q; exact absurd rfl ny
      · cases q
    · rw [List.getElem?_set_ne hj] at q; exact ⟨hj, q⟩
  refine ⟨⟨fun b x q => ?_, h.fr.ez.trans ex, fun b x q => ?_, fun q z1 z2 => ?_⟩, by rw [List.length_set, h.len], fun j d q => ?_, fun j es q => ?_, fun j k es fs q hjk q1 q2 q3 q4 => ?_, fun j n fs q => ?_, fun j q => ?_⟩
  · have : b ≠ p' := fun z => by rw [z, h2] at q; cases q
    rw [upd_ne this]; exact h.fr.ex b x q
  · by_cases hb : b = p'
    · subst hb; rw [upd_same] at q ⊢; exact q
    · rw [upd_ne hb] at q ⊢; exact h.fr.sb b x q
  · have : q ≠ p' := fun z => z2 (by rw [z]; exact h2)
    rw [upd_ne this]
    exact h.fr.ow q z1 z2
  · obtain ⟨_, q⟩ := hne q (fun z => nomatch z)
    obtain ⟨v, a, b⟩ := h.sh j d q
    exact ⟨v, a, dp_mono ex _ _ b⟩
  · obtain ⟨hj, q⟩ := hne q (fun z => nomatch z)
    obtain ⟨p2, vs', a1, a2, a3, a4, a5⟩ := h.own j es q
    have np : p2 ≠ p' := fun z => h.dis i j ds es p' hj e q h1 (z ▸ a1)
    exact ⟨p2, vs', a1, a2, by rw [upd_ne np]; exact a3, by rw [upd_ne np]; exact a4, dpAll_mono ex _ _ a5⟩
  · exact h.dis j k es fs q hjk (hne q1 (fun z => nomatch z)).2 (hne q2 (fun z => nomatch z)).2 q3 q4
  · obtain ⟨_, q⟩ := hne q (fun z => nomatch z)
    exact ⟨(h.exc j n fs q).1, ea.mono _ _ _ _ ex (h.exc j n fs q).2⟩
  · by_cases hj : i = j
    · subst hj; exact ⟨p', h1, upd_same⟩
    · rw [List.getElem?_set_ne hj] at q
      obtain ⟨p2, a1, a2⟩ := h.rnd j q
      exact ⟨p2, a1, ex _ _ a2⟩
theorem bss_give (i : Nat) {body : List Stmt} {t : TS} {mx : MS} (h : BSs X W body t mx) : BSs X W body (tGive t) (sGive i mx) := by
  refine ⟨pss_give h.pe, fun Hs H0s σ H H0 ρ D rl p => ?_⟩
  unfold sGive at p
  split at p
  · rename_i ds e1
    split at p
    · rename_i hh
      obtain ⟨q, vs, h1, h2, h3, h4, h5⟩ := rl.own _ _ e1
      obtain ⟨ns, e2, hn⟩ := smallD_ints hh.1
      subst e2
      have e3 := DpAll.ints h5
      subst e3
      refine ⟨q, ns, h4, ⟨by rw [← List.length_map (f := PyData.int)]; exact hh.2, hn⟩, h.ev Hs H0s σ _ _ _ D (rl.give e1 h1) p⟩
    · exact False.elim p
  · exact False.elim p
end
end DW

end
end
section
set_option Elab.async false
set_option linter.all false
set_option maxRecDepth 100000
set_option maxHeartbeats 4000000
noncomputable section
namespace DW
open PySem PySem.Spec PyProof.Rows L2 L2H
open SX (S S_tl S_len S_cat)
/-! ### a def that is handed the caught error -/
section
variable {P : Program} {w : World} {K : PySem.W.Frag} {mg : Str → Option Value} {base : Heap}
theorem enter_hot {x y : Str} {st : Stmt} {f : Addr} {fd : FuncData} {N : List Str} {k : Nat} {A : Around} {outer : List Env} {s : Shared} {H : Hp} {Q : VK} {E : XK} {p : Addr × Obj}
    (F : Fun K x x st f fd) (S : FnScope N [y] (defScope st)) (room : RoomH (k + 1) A) (pin : PinOk outer H s p) (en : Env0 P w K mg base A outer s H) (bi : BindsTo s fd ⟨[.ref p.1], []⟩ [(y, .ref p.1)])
    (body : ∀ cdv : Value, RoomH k (A.deeper (envOfC x (defScope st) s.heap.objs.size f cdv)) →
      ∃ t, PSs (cxH (L2.CX P w) P w K mg base N x (defScope st) f cdv A outer s H E p) (defBody st) t ∧ t { nx := fun _ H' => Q .non H', rt := Q } (L2.start N [.ref p.1]) H) :
    codeAny (model P w) A (.call (.ref f) ⟨[.ref p.1], []⟩) (CR (L2.CX P w) outer P w H s Q E) s := by
  obtain ⟨oc, od, kV, doc, pm, an, cdv, ct, osl, rfl, lk, hcd⟩ := F.ex
  have inK := en.mod.kin.keeps fun b o q => (en.bs b o q).1
  have noLim := en.mod.nolimit.keeps fun b o q => (en.bs b o q).1
  have kinds : ∀ z ∈ [(y, Value.ref p.1)], (defScope st).names.lookup z.1 = some .local ∨ ((defScope st).names.lookup z.1 = some .cell ∧ ((cellsFrom (s.heap.objs.size + 1) (defScope st).names []).lookup z.1).isSome = true) := by
    intro z hz
    cases List.mem_singleton.mp hz
    exact (S.par y List.mem_cons_self).imp id fun q => ⟨q, PySem.W.cellsFrom_some _ _ _ (.inl q)⟩
  refine codeAny_call_function room.depth (inK _ _ lk) rfl S.co S.gen rfl (PySem.W.codeRec_of inK hcd) (bi _ _ _ _ ?_)
  refine wpAny_newFunctionEnv_cells S.kind kinds ?_
  rintro env rfl s1 xin
  refine ⟨noLim.keeps xin.toInCall.keep, codeAny_func ?_⟩
  obtain ⟨t, run, want⟩ := body cdv (room.deeper _)
  have I1 := inv_startH (CX := L2.CX P w) (E := E) (f := f) (cd := cdv) (qual := x) (vs := [.ref p.1]) (us := [.ref p.1]) S pin en rfl (.cons rfl .nil) xin
  refine wpAny_mono (run.run [] s1 _ H _ I1 want) ?_ fun _ _ q => q
  rintro (_ | _ | _ | u) s2 z
  · obtain ⟨σ2, H2, J, q⟩ := z
    exact ⟨.non, H2, J.os, J.bare, J.base, J.hok, rfl, q⟩
  · obtain ⟨_, _, _, q⟩ := z; exact q.elim
  · obtain ⟨_, _, _, q⟩ := z; exact q.elim
  · obtain ⟨v, σ2, H2, J, rv, q⟩ := z
    exact ⟨v, H2, J.os, J.bare, J.base, J.hok, rv, q⟩
theorem cx_nev {P : Program} {w : World} {outer : List Env} {H : Hp} {s s' : Shared} {e : Value} (h : L2.CX P w outer H s (fun _ _ _ => False) e s') : False := by
  obtain ⟨_, _, _, _, _, _, _, _, _, _, _, _, z⟩ := h
  exact z
structure DefX (P : Program) (w : World) (K : PySem.W.Frag) (mg : Str → Option Value) (base : Heap) (x : Str) (k : Nat) (f : Str → List (Str × D) → R D) : Prop where
  ex : ∃ (a : Addr) (fd : FuncData) (y : Str), (∀ (A : Around) (outer : List Env) (s : Shared) (H H0 : Hp) (Q : VK) (p : Addr × Obj) (n : Str) (fs : List (Str × D)), RoomH k A → PinOk outer H s p → (∃ vs, p.2.data = .fields vs) → Env0 P w K mg base A outer s H → BindsTo s fd ⟨[.ref p.1], []⟩ [(y, .ref p.1)] →
      Same H0 H → (eaOf K mg p.1 p.2.cls p.2.dict).ok n fs H0 → Post (Dp K) K mg true H H0 (f n fs) Q (fun _ _ _ => False) → codeAny (model P w) A (.call (.ref a) ⟨[.ref p.1], []⟩) (CR (L2.CX P w) outer P w H s Q (fun _ _ _ => False)) s) ∧
    mg x = some (.ref a) ∧ PySem.W.keepIn K (.ref a) = true ∧ L2.Binds K fd [y] []
def runDefX (n : Nat) (m : MS) : Str → List (Str × D) → R D := fun nm fs => fin (m (some (.exc nm fs) :: List.replicate (n - 1) none))
theorem mk_defX {x y : Str} {st : Stmt} {N : List Str} {k : Nat} {mb : MS} (F : FD K mg x st) (S : FnScope N [y] (defScope st)) (hn : 1 ≤ N.length)
    (hb : ∀ (kV doc pm : Value) (an : Option Addr) (cdv ct : Value) (us : List Value), us.length = [y].length → bindArgs (PySem.W.fnOf x x (defArgs st) (defBody st) (defScope st) .none kV doc pm an cdv ct) ⟨us, []⟩ = pure ([y].zip us))
    (hbody : ∀ (f : Addr) (cdv : Value) (A : Around) (outer : List Env) (s : Shared) (H : Hp) (p : Addr × Obj), (∃ vs, p.2.data = .fields vs) → RoomH k (A.deeper (envOfC x (defScope st) s.heap.objs.size f cdv)) →
      ∃ t, BSs (cxH (L2.CX P w) P w K mg base N x (defScope st) f cdv A outer s H (fun _ _ _ => False) p) W0 (defBody st) t mb) : DefX P w K mg base x (k + 1) (runDefX N.length mb) := by
  obtain ⟨f, fd, F, g⟩ := F.ex
  refine ⟨f, fd, y, fun A outer s H H0 Q p n fs room pin hd en bi sm ok post => ?_, g, F.kp, F.binds hb⟩
  refine enter_hot F S room pin en bi fun cdv rm => ?_
  obtain ⟨t, ht⟩ := hbody f cdv A outer s H p hd rm
  refine ⟨t, ht.pe, ht.ev H H0 (L2.start N [.ref p.1]) H H0 (some (.exc n fs) :: List.replicate (N.length - 1) none) _ ?_ (post_fin post)⟩
  have e : some (SD.exc n fs) :: List.replicate (N.length - 1) none = startS N.length [SD.exc n fs] := rfl
  rw [e]
  exact start_relS sm (.cons (.exc ok) .nil) hn
end
theorem _root_.L2H.RoomH.units {k : Nat} {A : Around} (r : RoomH k A) : A.units + 64 < cLine := by have := r.un; omega
theorem roomX {k : Nat} {A A' : Around} (r : Room k A) (h1 : A'.depth = A.depth) (h2 : A'.units = A.units) : RoomH k A' := ⟨by rw [h1]; exact r.dp, by rw [h2]; exact r.un⟩
section
variable {X : Cx} {W : WX}
def mCallX (i : Nat) (f : Str → List (Str × D) → R D) : ME := fun ρ => match ρ[i]? with
  | some (some (.exc n fs)) => f n fs
  | _ => .stuck
theorem be_callX {i : Nat} {x d : Str} {pd p pos : Pos} {k j : Nat} {a : Addr} {oe : Obj} {pn : List (Addr × Obj)} {f : Str → List (Str × D) → R D} (F : DefX X.prog X.w X.K X.mg X.base x k f) (hr : RoomH j X.A) (hk : k ≤ j) (hf : ∃ vs, oe.data = .fields vs) (hg : Gl X x) (hx : PE X (.Name d pd) (tVar i))
    (hd : (x == ("__debug__" : Str)) = false := by decide) (he : starEach [.Name d pd] X.env = (false, eval (.Name d pd) X.env) :: starEach [] X.env := by rfl) (hpl : (backTo pos (starEach [] X.env)).any (·.1) = false := by rfl) (hpn : X.pn = (a, oe) :: pn := by rfl) :
    BE X W true (.Call (.Name x p) [.Name d pd] [] pos) (fun σ H Q => σ[i]? = some (some (.ref a)) ∧ ∃ H0 n fs, Same H0 H ∧ (eaOf X.K X.mg a oe.cls oe.dict).ok n fs H0 ∧ Post (Dp X.K) X.K X.mg true H H0 (f n fs) Q (fun _ _ _ => False)) (fun ρ => (mCallX i f ρ).quiet) := by
  obtain ⟨b, fd, y, h1, h2, h3, h4⟩ := F.ex
  refine ⟨⟨fun pins s σ H Q I ⟨e1, H0, n, fs, sm, ok, post⟩ => ?_⟩, fun Hs H0s σ H H0 ρ Q rl p => ?_⟩
  · refine wpAny_Call_Name_kw (ld_glob I hg h2 ?_ hd)
    have args : PA X [.Name d pd] (tCons (tVar i) tNil) := pa_cons hx pa_nil he
    refine PySem.W.callWith_K (h₀ := X.base) I.ok.mod.kin h3 (thn (args.run pos pins s σ H (fun vs H1 => vs = [.ref a] ∧ H1 = H) I ⟨.ref a, e1, rfl, rfl⟩) fun us s1 ⟨vs, H1, I1, r, ev, eH⟩ => ⟨I1.kIn, ?_⟩) he hpl
    subst ev eH
    cases r with
    | cons r1 r2 =>
      cases r2
      have r1 : _ = Value.ref a := r1
      subst r1
      have P1 := I1.pin (a, oe) (List.mem_append_left _ (by rw [hpn]; exact List.mem_cons_self))
      have pin : PinOk X.stack H1 s1 (a, oe) := ⟨P1.1, P1.2.1, fun hm => (List.mem_cons.mp (I1.stkSub a hm)).elim P1.2.2.1 P1.2.2.2.1, P1.2.2.2.2⟩
      have bi := h4 s1 [.ref a] I1.kIn rfl
      refine wpAny_call (codeAny_mono (h1 X.A X.stack s1 H1 H0 Q (a, oe) n fs (hr.mono hk) pin hf I1.env0 bi sm ok post) ?_)
      rintro (er | (_ | _ | _ | u)) s2 hq
      · exact (cx_nev hq).elim
      · exact hq.elim
      · exact hq.elim
      · exact hq.elim
      · exact I1.after hq
  · have ee : excOf X = eaOf X.K X.mg a oe.cls oe.dict := by unfold excOf; rw [hpn]
    rw [ee] at rl
    unfold mCallX at p
    split at p
    · rename_i n fs e1
      obtain ⟨e2, ok⟩ := rl.exc _ _ _ e1
      exact ⟨e2, H0, n, fs, rl.sub, ok, Post.quiet p⟩
    · exact False.elim p
end
end DW

end
end
section
set_option Elab.async false
set_option linter.all false
set_option maxRecDepth 100000
set_option maxHeartbeats 4000000
noncomputable section
namespace DW
open PySem PySem.Spec PyProof.Rows L2
open SX (S S_tl S_len S_cat)
section
variable {K : PySem.W.Frag} {mg : Str → Option Value} {md : Bool}
/-! ### in a list, in a tuple -/
def sameD : D → D → Bool
  | .int a, .int b => decide (a = b)
  | .str a, .str b => decide (a = b)
  | _, _ => false
def plainD : D → Bool
  | .int _ => true
  | .str _ => true
  | _ => false
def dInXB (d e : D) : R Bool := match e with
  | .list ds => if (plainD d && ds.all plainD) = true then .ok (ds.any (sameD d)) else .stuck
  | .tuple ds => if (plainD d && ds.all plainD) = true then .ok (ds.any (sameD d)) else .stuck
  | _ => dInB d e
def dInX (d e : D) : R D := (dInXB d e).bind fun k => .ok (.bool k)
def dNotInX (d e : D) : R D := (dInXB d e).bind fun k => .ok (.bool (!k))
theorem plain_flat {H : Hp} {v : V} {d : D} (x : Dp K H v d) (p : plainD d = true) : flatV v = true := by
  cases x <;> first | rfl | cases p
theorem plain_all {H : Hp} : ∀ {vs : List V} {ds : List D}, DpAll K H vs ds → ds.all plainD = true → vs.all flatV = true
  | _, _, .nil, _ => rfl
  | _, _, .cons x r, p => by
    rw [List.all_cons, Bool.and_eq_true] at p ⊢
    exact ⟨plain_flat x p.1, plain_all r p.2⟩
theorem plain_eq {H : Hp} {v w : V} {d e : D} (x : Dp K H v d) (y : Dp K H w e) (p : plainD d = true) (q : plainD e = true) : eqV w v = sameD d e := by
  cases x with
  | int i =>
    cases y with
    | int j =>
      show (j == i) = decide (i = j)
      rw [Bool.eq_iff_iff, beq_iff_eq, decide_eq_true_iff]
      exact ⟨fun h => h.symm, fun h => h.symm⟩
    | str z => rfl
    | _ => cases q
  | str i =>
    cases y with
    | str j =>
      show (j == i) = decide (i = j)
      rw [Bool.eq_iff_iff, beq_iff_eq, decide_eq_true_iff]
      exact ⟨fun h => h.symm, fun h => h.symm⟩
    | int z => rfl
    | _ => cases q
  | _ => cases p
theorem plain_in {H : Hp} {v : V} {d : D} (x : Dp K H v d) (p : plainD d = true) : ∀ {vs : List V} {ds : List D}, DpAll K H vs ds → ds.all plainD = true → inV v vs = ds.any (sameD d)
  | _, _, .nil, _ => rfl
  | _, _, .cons y r, q => by
    rw [List.all_cons, Bool.and_eq_true] at q
    show (eqV _ v || inV v _) = _
    rw [List.any_cons, plain_eq x y p q.1, plain_in x p r q.2]
theorem op2_inX : Op2 K mg md (fun x y H Q => rInA x y H Q ∨ rIn K false x y H Q) dInX := by
  intro x y d e H H0 Q E s hx hy p
  have xx := dp_md s hx
  have yy := dp_md s hy
  unfold dInX dInXB at p
  split at p
  · split at p
    · rename_i h
      obtain ⟨h1, h2⟩ := Bool.and_eq_true_iff.mp h
      cases yy with
      | lst a b => exact .inr ⟨_, _, rfl, .inl a, plain_flat xx h1, plain_all b h2, by rw [if_neg (by decide), plain_in xx h1 b h2]; exact post_here p s fun _ => .bl _⟩
    · exact False.elim p
  · split at p
    · rename_i h
      obtain ⟨h1, h2⟩ := Bool.and_eq_true_iff.mp h
      cases yy with
      | tup a b => exact .inr ⟨_, _, rfl, .inr a, plain_flat xx h1, plain_all b h2, by rw [if_neg (by decide), plain_in xx h1 b h2]; exact post_here p s fun _ => .bl _⟩
    · exact False.elim p
  · exact .inl (op2_in x y d e H H0 Q E s hx hy p)
theorem op2_notInX : Op2 K mg md (rIn K true) (fun d e => match e with
    | .list ds => dNotInX d (.list ds)
    | .tuple ds => dNotInX d (.tuple ds)
    | _ => .stuck) := by
  intro x y d e H H0 Q E s hx hy p
  have xx := dp_md s hx
  have yy := dp_md s hy
  dsimp only at p
  split at p
  · unfold dNotInX dInXB at p
    dsimp only at p
    split at p
    · rename_i h
      obtain ⟨h1, h2⟩ := Bool.and_eq_true_iff.mp h
      cases yy with
      | lst a b => exact ⟨_, _, rfl, .inl a, plain_flat xx h1, plain_all b h2, by rw [if_pos rfl, plain_in xx h1 b h2]; exact post_here p s fun _ => .bl _⟩
    · exact False.elim p
  · unfold dNotInX dInXB at p
    dsimp only at p
    split at p
    · rename_i h
      obtain ⟨h1, h2⟩ := Bool.and_eq_true_iff.mp h
      cases yy with
      | tup a b => exact ⟨_, _, rfl, .inr a, plain_flat xx h1, plain_all b h2, by rw [if_pos rfl, plain_in xx h1 b h2]; exact post_here p s fun _ => .bl _⟩
    · exact False.elim p
  · exact False.elim p
def dNotInS (d e : D) : R D := match e with
    | .list ds => dNotInX d (.list ds)
    | .tuple ds => dNotInX d (.tuple ds)
    | _ => .stuck
theorem op_inX {X : Cx} : OpR X (compareOp .In) (fun x y H Q => rInA x y H Q ∨ rIn X.K false x y H Q) := OpR.or op_in_sign op_in_seq
theorem op_notInX {X : Cx} : OpR X (compareOp .NotIn) (rIn X.K true) := op_notIn_seq
theorem op2_notInS : Op2 K mg md (rIn K true) dNotInS := op2_notInX
/-! ### max, min, abs, sum -/
def dMax2 : List D → R D
  | [.int i, .int j] => .ok (.int (if j > i then j else i))
  | _ => .stuck
def dMin2 : List D → R D
  | [.int i, .int j] => .ok (.int (if j < i then j else i))
  | _ => .stuck
def dAbs : List D → R D
  | [.int i] => .ok (.int (if i < 0 then -i else i))
  | _ => .stuck
theorem fn_max2 : Fn K mg md (fun xs H Q => ∃ i j, xs = [.int i, .int j] ∧ Q (.int (if j > i then j else i)) H) dMax2 := by
  intro xs ds H H0 Q E s hx p
  replace hx := dpAll_md s hx
  unfold dMax2 at p
  split at p
  · cases hx with
    | cons h1 h2 =>
      cases h2 with
      | cons h3 h4 => cases h4; cases h1; cases h3; exact ⟨_, _, rfl, post_here p s fun _ => .int _⟩
  · exact False.elim p
theorem fn_min2 : Fn K mg md (fun xs H Q => ∃ i j, xs = [.int i, .int j] ∧ Q (.int (if j < i then j else i)) H) dMin2 := by
  intro xs ds H H0 Q E s hx p
  replace hx := dpAll_md s hx
  unfold dMin2 at p
  split at p
  · cases hx with
    | cons h1 h2 =>
      cases h2 with
      | cons h3 h4 => cases h4; cases h1; cases h3; exact ⟨_, _, rfl, post_here p s fun _ => .int _⟩
  · exact False.elim p
theorem fn_abs : Fn K mg md (fun xs H Q => ∃ i, xs = [.int i] ∧ Q (.int (if i < 0 then -i else i)) H) dAbs := by
  intro xs ds H H0 Q E s hx p
  replace hx := dpAll_md s hx
  unfold dAbs at p
  split at p
  · cases hx with
    | cons h1 h2 => cases h2; cases h1; exact ⟨_, rfl, post_here p s fun _ => .int _⟩
  · exact False.elim p
def intsD : List D → Option (List Int)
  | [] => some []
  | .int z :: ds => (intsD ds).map (z :: ·)
  | _ => none
theorem intsD_eq : ∀ {ds : List D} {ns : List Int}, intsD ds = some ns → ds = ns.map PyData.int
  | [], ns, h => by cases h; rfl
  | d :: ds, ns, h => by
    cases d with
    | int z =>
      have h : (intsD ds).map (z :: ·) = some ns := h
      cases q : intsD ds with
      | none => rw [q] at h; cases h
      | some ms => rw [q] at h; cases h; rw [intsD_eq q]; rfl
    | _ => cases h
theorem intsD_map : ∀ ns : List Int, intsD (ns.map PyData.int) = some ns
  | [] => rfl
  | n :: ns => by show (intsD (ns.map PyData.int)).map _ = _; rw [intsD_map ns]; rfl
def dSum : List D → R D
  | [.list ds] => match intsD ds with
    | some ns => .ok (.int ns.sum)
    | none => .stuck
  | _ => .stuck
theorem fn_sum : Fn K mg md (rSum K) dSum := by
  intro xs ds H H0 Q E s hx p
  replace hx := dpAll_md s hx
  unfold dSum at p
  split at p
  · split at p
    · rename_i ns q
      have e := intsD_eq q
      subst e
      cases hx with
      | cons h1 h2 =>
        cases h2
        cases h1 with
        | lst a b =>
          have e2 := DpAll.ints b
          subst e2
          exact ⟨_, ns, rfl, a, post_here p s fun _ => .int _⟩
    · exact False.elim p
  · exact False.elim p
end
section
variable {X : Cx} {W : WX} {md : Bool} {e a b c : Expr} {es : List Expr} {t ta tb tc te : TE} {tr : TA} {m ma mb mc : ME} {mr : MA} {pos : Pos} {x : Str}
/-! ### tuple(x) -/
def dTupOf : D → R D
  | .list ds => .ok (.tuple ds)
  | .tuple ds => .ok (.tuple ds)
  | _ => .stuck
theorem be_tupleOf {p : Pos} (hg : Gl X "tuple") (hm : X.mg "tuple" = none) (h : BE X W true a ta ma) (na : starEach [a] X.env = (false, eval a X.env) :: starEach [] X.env := by rfl) : BE X W true (.Call (.Name "tuple" p) [a] [] pos) (tThen ta (kTup X.K)) (m1 dTupOf ma) := by
  refine ⟨pe_tupleOf hg hm h.pe na, fun Hs H0s σ H H0 ρ Q rl p => h.ev Hs H0s σ H H0 ρ _ rl ((Post.bind p).imp ?_)⟩
  rintro v H1 ⟨d, H01, _, f1, x1, p1⟩
  cases x1 with
  | lst hl ha => exact .inl ⟨_, _, rfl, f1.sb.seq hl, fun q hq => p1 _ _ _ (Fr.new f1.sb hq) (.tup (.inl (.inl upd_same)) (dpAll_mono (Same.new (f1.sb.free hq)) _ _ ha))⟩
  | tup hl ha => exact .inr ⟨_, _, rfl, sqT_mono f1.sb hl, p1 _ H1 H01 (.refl f1.sb) (.tup hl ha)⟩
  | _ => exact False.elim p1
/-! ### list(x): a new list -/
def rListOf (K : PySem.W.Frag) : List V → Hp → VK → Prop := fun xs H Q => (∃ p ys, xs = [.ref p] ∧ (SqL K H p ys ∨ SqT K H p ys) ∧ ∀ l, H l = none → Q (.ref l) (upd H l (.lst ys))) ∨
  ∃ z : Str, xs = [.str z] ∧ z.cps.size ≤ sizeLine ∧ ∀ l, H l = none → Q (.ref l) (upd H l (.lst (z.cps.toList.map fun c => V.str ⟨#[c]⟩)))
theorem vals_signs {z : Str} {acc : Array Value} (h : ItemsOf (SignAt z) acc z.cps.size) : Vals (z.cps.toList.map fun c => V.str ⟨#[c]⟩) acc.toList := by
  refine vals_of_at ?_ fun j x u h1 h2 => ?_
  · rw [List.length_map, Array.length_toList, Array.length_toList]; exact h.1.symm
  · rw [Array.getElem?_toList] at h2
    obtain ⟨c, t, h3, rfl⟩ := h.2 j u h2
    rw [List.getElem?_map, Array.getElem?_toList, h3] at h1
    cases h1
    exact ⟨t, rfl⟩
theorem cr_listOf (hc : X.calm = true) : CallR X (.type "list") (rListOf X.K) := by
  intro pins s σ H xs us Q I r h
  rcases h with h | ⟨z, rfl, hz, q⟩
  · exact call_list_of pins s σ H xs us Q I r h
  · obtain ⟨u, rfl, t, rfl⟩ := vals1 r
    refine call_list_str (I.ok.hd hc) z t (fun h' tk acc c' hk he hi => ?_) hz
    refine ⟨.ref s.heap.objs.size, _, I.laid hk (Nat.le_refl _) (show ObjOk X.prog X.w _ h' _ (.lst (z.cps.toList.map fun c => V.str ⟨#[c]⟩)) from ⟨?_, acc.toList, c', vals_signs hi, ?_⟩), rfl, q _ (I.hok.fresh (Nat.le_refl _))⟩
    · rw [List.length_map, Array.length_toList]; exact hz
    · rw [Array.toArray_toList]; exact he
def dListOf : List D → R (List D)
  | [.list ds] => .ok ds
  | [.tuple ds] => .ok ds
  | [.str z] => if z.cps.size ≤ sizeLine then .ok (signs z) else .stuck
  | _ => .stuck
def aListOf (r : MA) : MA := fun ρ => (r ρ).bind dListOf
theorem dp_signs {K : PySem.W.Frag} {H : Hp} (z : Str) : DpAll K H (z.cps.toList.map fun c => V.str ⟨#[c]⟩) (signs z) := by
  unfold signs
  induction z.cps.toList with
  | nil => exact .nil
  | cons c cs ih => exact .cons (.str _) ih
theorem bn_listOf {p : Pos} (hc : X.calm = true) (hg : Gl X "list") (hm : X.mg "list" = none) (ha : BA X W true (e :: es) tr mr) (hv : bootBuiltins "list" = some (.type "list") := by rfl)
    (hn : ("list" : Str) ≠ "__name__" := by decide) (hd : (("list" : Str) == ("__debug__" : Str)) = false := by decide) (he : starEach (e :: es) X.env = (false, eval e X.env) :: starEach es X.env := by rfl) (hpl : (backTo pos (starEach es X.env)).any (·.1) = false := by rfl) :
    BN X W (.Call (.Name "list" p) (e :: es) [] pos) (tCB (rListOf X.K) tr) (aListOf mr) := by
  refine ⟨pe_callTy (cr_listOf hc) hg hm hv ha.pe hn hd he hpl, fun Hs H0s σ H H0 ρ Q rl p => ha.ev Hs H0s σ H H0 ρ _ rl ((PostN.bind p).imp ?_)⟩
  rintro vs H1 ⟨ds, H01, f1, x1, p1⟩
  unfold dListOf at p1
  split at p1
  · cases x1 with
    | cons h1 h2 =>
      cases h2
      cases h1 with
      | lst hl ha => exact .inl ⟨_, _, rfl, .inl (f1.sb.seq hl), fun q hq => p1 q _ _ _ (Fr.loose f1.sb hq) hq (f1.sb.free hq) upd_same ha⟩
  · cases x1 with
    | cons h1 h2 =>
      cases h2
      cases h1 with
      | tup hl ha => exact .inl ⟨_, _, rfl, .inr (sqT_mono f1.sb hl), fun q hq => p1 q _ _ _ (Fr.loose f1.sb hq) hq (f1.sb.free hq) upd_same ha⟩
  · split at p1
    · rename_i hz
      cases x1 with
      | cons h1 h2 =>
        cases h2
        cases h1
        exact .inr ⟨_, rfl, hz, fun q hq => p1 q _ _ _ (Fr.loose f1.sb hq) hq (f1.sb.free hq) upd_same (dp_signs _)⟩
    · exact False.elim p1
  · exact False.elim p1
/-! ### [..] * n -/
def aRep (r : MA) (m : ME) : MA := fun ρ => (r ρ).bind fun ds => (m ρ).bind fun d => match d with
  | .int k => if -(2 ^ 63) ≤ k ∧ k < 2 ^ 63 ∧ ds.length * k.toNat ≤ sizeLine then .ok (List.replicate k.toNat ds).flatten else .stuck
  | _ => .stuck
theorem DpAll.rep {K : PySem.W.Frag} {H : Hp} {vs : List V} {ds : List D} (h : DpAll K H vs ds) : ∀ n : Nat, DpAll K H (List.replicate n vs).flatten (List.replicate n ds).flatten
  | 0 => .nil
  | n + 1 => by
    rw [List.replicate_succ, List.replicate_succ, List.flatten_cons, List.flatten_cons]
    exact DpAll.append h (DpAll.rep h n)
theorem bn_rep (h : BN X W a ta mr) (hb : BE X W true b tb mb) : BN X W (.BinOp a .Mult b pos) (tOp rRep ta tb) (aRep mr mb) := by
  refine ⟨pe_op op_rep h.pe hb.pe, fun Hs H0s σ H H0 ρ Q rl p => h.ev Hs H0s σ H H0 ρ _ rl ?_⟩
  unfold aRep at p
  generalize mr ρ = r at p
  induction r with
  | stuck => exact p
  | pick k ih => exact fun n hn => ih n (p n hn)
  | err z => exact p
  | ok ds =>
    intro q vs H1 H01 f1 n1 n01 hq xq
    have p : PostN X.K X.mg H H0 ((mb ρ).bind fun d => match d with
      | .int k => if -(2 ^ 63) ≤ k ∧ k < 2 ^ 63 ∧ ds.length * k.toNat ≤ sizeLine then .ok (List.replicate k.toNat ds).flatten else .stuck
      | _ => .stuck) Q (WE W σ) := p
    refine hb.ev Hs H0s σ H1 H01 ρ _ (rl.step f1) ((PostN.bind (PostN.step p f1)).imp ?_)
    rintro v H2 ⟨d, H02, f2, x2, p2⟩
    cases d with
    | int k =>
      cases x2
      have p2 : PostN X.K X.mg H2 H02 (if -(2 ^ 63) ≤ k ∧ k < 2 ^ 63 ∧ ds.length * k.toNat ≤ sizeLine then .ok (List.replicate k.toNat ds).flatten else .stuck) Q (WE W σ) := p2
      split at p2
      · rename_i hh
        refine ⟨q, k, vs, rfl, rfl, f2.ex _ _ hq, hh.1, hh.2.1, by rw [DpAll.length xq]; exact hh.2.2, fun p3 hp3 => ?_⟩
        exact p2 p3 _ _ _ (Fr.loose f2.sb hp3) hp3 (f2.sb.free hp3) upd_same (DpAll.rep (dpAll_mono f2.ez _ _ xq) _)
      · exact False.elim p2
    | _ => exact False.elim p2
/-! ### {..}[e] -/
def vD : D → V
  | .int i => .int i
  | .str z => .str z
  | _ => .non
def kvsOf (tb : List (Str × D)) : List (Key × V) := tb.map fun kv => (Sum.inr kv.1, vD kv.2)
def trsOf (tb : List (Str × D)) : List (TE × TE) := tb.map fun kv => (tC (.str kv.1), tC (vD kv.2))
theorem tPairs_const {σ : L2.St} {H : Hp} : ∀ {tb : List (Str × D)} {Q : List (V × V) → Hp → Prop}, Q ((kvsOf tb).map fun kv => (kV kv.1, kv.2)) H → tPairs (trsOf tb) σ H Q
  | [], _, h => h
  | kv :: tb, Q, h => tPairs_const (tb := tb) (Q := fun ps H3 => Q ((V.str kv.1, vD kv.2) :: ps) H3) h
theorem valV_kvs : ∀ {tb : List (Str × D)} {z : Str} {v : D}, tb.lookup z = some v → valV (kvsOf tb) (Sum.inr z) = some (vD v)
  | [], _, _, h => nomatch h
  | (k, w) :: tb, z, v, h => by
    by_cases hz : k = z
    · subst hz
      rw [List.lookup_cons, beq_self_eq_true] at h
      cases h
      exact valV_pos rfl
    · have n : (z == k) = false := beq_false_of_ne fun q => hz q.symm
      rw [List.lookup_cons, n] at h
      show valV ((Sum.inr k, vD w) :: kvsOf tb) (Sum.inr z) = _
      rw [valV_neg (fun q => hz (Sum.inr.inj q))]
      exact valV_kvs h
theorem lookup_mem : ∀ {tb : List (Str × D)} {z : Str} {w : D}, tb.lookup z = some w → (z, w) ∈ tb
  | [], _, _, h => nomatch h
  | (k, u) :: tb, z, w, h => by
    by_cases hz : k = z
    · subst hz
      rw [List.lookup_cons, beq_self_eq_true] at h
      cases h
      exact List.mem_cons_self
    · have n : (z == k) = false := beq_false_of_ne fun q => hz q.symm
      rw [List.lookup_cons, n] at h
      exact List.mem_cons_of_mem _ (lookup_mem h)
theorem be_dispIx {keys : List (Option Expr)} {values : List Expr} {tb : List (Str × D)} {dp : Pos} (hu : X.A.units + 1 < cLine) (hp : PPs X dp keys values (trsOf tb)) (h : BE X W false e te m) (hs : NoSl e) (hall : keys.all (·.isSome) = true := by rfl) (hl : keys.length = values.length := by rfl) (h0 : keys ≠ [] := by simp)
    (h15 : keys.length ≤ 15 := by decide) (hmg : mergeK [] (kvsOf tb) = kvsOf tb) (hlen : tb.length ≤ 15) (hpl : ∀ kv ∈ tb, plainD kv.2 = true) : BE X W true (.Subscript (.Dict keys values dp) e pos) (tDGet (tDisp (trsOf tb)) te) (m1 (dTabAt tb) m) := by
  refine ⟨pe_dget hu (pe_disp hp hall hl h0 h15) h.pe hs, fun Hs H0s σ H H0 ρ Q rl p => ?_⟩
  intro q hq
  refine tPairs_const ⟨upd_same, kvsOf tb, rfl, by unfold kvsOf; rw [List.length_map]; exact hlen, ?_⟩
  rw [hmg]
  have f0 : Fr H H0 (upd (upd H q (.dK [])) q (.dK (kvsOf tb))) H0 := by
    have e : upd (upd H q (.dK [])) q (.dK (kvsOf tb)) = upd H q (.dK (kvsOf tb)) := by
      funext bb
      by_cases hb : bb = q
      · subst hb; rw [upd_same, upd_same]
      · rw [upd_ne hb, upd_ne hb, upd_ne hb]
    rw [e]
    exact Fr.loose rl.sub hq
  refine h.ev Hs H0s σ _ H0 ρ _ (rl.step f0) ((Post.bind (Post.step p f0)).imp ?_)
  rintro v H1 ⟨d, H01, _, f1, x1, p1⟩
  cases d with
  | str z =>
    cases x1
    have p1 : Post (Dp X.K) X.K X.mg true H1 H01 (match tb.lookup z with | some v => .ok v | none => .stuck) Q (WE W σ) := p1
    cases qq : tb.lookup z with
    | none => rw [qq] at p1; exact False.elim p1
    | some w =>
      rw [qq] at p1
      refine ⟨q, vD w, rfl, .inl ⟨kvsOf tb, Sum.inr z, .inl (f1.ex _ _ upd_same), rfl, (valV_kvs qq).symm⟩, p1 _ H1 H01 (.refl f1.sb) ?_⟩
      have hp : plainD w = true := by
        have : (z, w) ∈ tb := lookup_mem qq
        exact hpl _ this
      cases w with
      | int i => exact .int i
      | str z => exact .str z
      | _ => cases hp
  | _ => exact False.elim p1
end
end DW

end
end
section
set_option Elab.async false
set_option linter.all false
set_option maxRecDepth 100000
set_option maxHeartbeats 4000000
noncomputable section
namespace DW
open PySem PySem.Spec PyProof.Rows L2
/-! ### the law's own def, entered where no repr is under way -/
section
variable {P : Program} {w : World} {K : PySem.W.Frag} {mg : Str → Option Value} {base : Heap}
theorem enter_law {x p : Str} {st : Stmt} {f a : Addr} {fd : FuncData} {N : List Str} {k : Nat} {A : Around} {outer : List Env} {s : Shared} {H : Hp} {Q : VK} {E : XK}
    (F : Fun K x x st f fd) (S : FnScope N [p] (defScope st)) (room : Room (k + 1) A) (en : Env0 P w K mg base A outer s H) (bi : BindsTo s fd ⟨[.ref a], []⟩ [(p, .ref a)])
    (body : ∀ cdv : Value, Room k (A.deeper (envOfC x (defScope st) s.heap.objs.size f cdv)) →
      ∃ t, PSs (cxOf (L2.CX P w) P w K mg base N x (defScope st) f cdv A outer s H E) (defBody st) t ∧ t { nx := fun _ H' => Q .non H', rt := Q } (L2.start N [.ref a]) H) :
    codeAny (model P w) A (.call (.ref f) ⟨[.ref a], []⟩) (CR (L2.CX P w) outer P w H s Q E) s := by
  obtain ⟨oc, od, kV, doc, pm, an, cdv, ct, osl, rfl, lk, hcd⟩ := F.ex
  have inK := en.mod.kin.keeps fun b o q => (en.bs b o q).1
  have noLim := en.mod.nolimit.keeps fun b o q => (en.bs b o q).1
  have kinds : ∀ y ∈ [(p, Value.ref a)], (defScope st).names.lookup y.1 = some .local ∨ ((defScope st).names.lookup y.1 = some .cell ∧ ((cellsFrom (s.heap.objs.size + 1) (defScope st).names []).lookup y.1).isSome = true) := by
    intro y hy
    cases List.mem_singleton.mp hy
    exact (S.par p List.mem_cons_self).imp id fun q => ⟨q, PySem.W.cellsFrom_some _ _ _ (.inl q)⟩
  refine codeAny_call_function room.depth (inK _ _ lk) rfl S.co S.gen rfl (PySem.W.codeRec_of inK hcd) (bi _ _ _ _ ?_)
  refine wpAny_newFunctionEnv_cells S.kind kinds ?_
  rintro env rfl s1 xin
  refine ⟨noLim.keeps xin.toInCall.keep, codeAny_func ?_⟩
  obtain ⟨t, run, want⟩ := body cdv (room.deeper _)
  have I1 := inv_start (CX := L2.CX P w) (E := E) (f := f) (cd := cdv) (qual := x) (vs := [.ref a]) (us := [.ref a]) S room.hd en rfl (.cons rfl .nil) xin
  refine wpAny_mono (run.run [] s1 _ H _ I1 want) ?_ fun _ _ q => q
  rintro (_ | _ | _ | u) s2 z
  · obtain ⟨σ2, H2, J, q⟩ := z
    exact ⟨.non, H2, J.os, J.bare, J.base, J.hok, rfl, q⟩
  · obtain ⟨_, _, _, q⟩ := z; exact q.elim
  · obtain ⟨_, _, _, q⟩ := z; exact q.elim
  · obtain ⟨v, σ2, H2, J, rv, q⟩ := z
    exact ⟨v, H2, J.os, J.bare, J.base, J.hok, rv, q⟩
end
end DW

end
end
section
set_option Elab.async false
set_option linter.all false
set_option maxRecDepth 100000
set_option maxHeartbeats 4000000
noncomputable section
namespace DW
open PySem PySem.Spec PyProof.Rows L2
/-- the heap in which the script alone is told of, unless it is the module's own -/
def scriptHp (K : PySem.W.Frag) (o : Obj) (xs : List V) (a : Addr) : Hp := fun b => if b = a ∧ K.lookup a = none then some (.frz o (.lst xs)) else none
section
variable {K : PySem.W.Frag} {o : Obj} {xs : List V} {a b : Addr}
theorem scriptHp_some {u : HO} (e : scriptHp K o xs a b = some u) : b = a ∧ K.lookup a = none ∧ u = .frz o (.lst xs) := by
  unfold scriptHp at e
  split at e
  · rename_i h; cases e; exact ⟨h.1, h.2, rfl⟩
  · cases e
theorem scriptHp_of {p : Obj} (h : Heap) (hp : h.get? b = some p) (hne : b = a → K.lookup a = none → False) : scriptHp K o xs a b = none := by
  unfold scriptHp
  exact if_neg fun z => hne z.1 z.2
end
/-- what an entry of the law finds -/
theorem law_entry {P : Program} {w : World} {K : PySem.W.Frag} {mg mb : Str → Option Value} {a : Addr} {s : Shared} {vs : List Value} {ns : List Int}
    (inK : K.In s.heap) (gl : s.heap.Ns mainGlobals mg) (bl : s.heap.Ns builtinsNs mb) (boot : ∀ x : Str, x ≠ "__name__" → mb x = bootBuiltins x) (lim : s.heap.NoLimit) (gens : s.gens = #[])
    (at_ : s.heap.get? a = some { cls := .type "list", data := .seq vs.toArray }) (hin : IntsAre vs ns) (few : ns.length ≤ sizeLine) :
    ∃ (H : Hp) (base : Heap), SqL K H a (ns.map V.int) ∧ K.In base ∧ base.Ns mainGlobals mg ∧ Env0 P w K mg base callerA [] s H ∧
      ∀ (Q : VK) (u : Value) (s' : Shared), CE [] P w H s Q u s' → OldK s.heap s'.heap ∧ s'.os = s.os ∧ AllBare s'.gens := by
  let ob : Obj := { cls := .type "list", data := .seq vs.toArray }
  have obj : s.heap.get? a = some ob := at_
  have vals := vals_ints hin
  have many := hin.length
  let H : Hp := scriptHp K ob (ns.map V.int) a
  have only : ∀ {b : Addr} {u : HO}, H b = some u → b = a ∧ K.lookup a = none ∧ u = .frz ob (.lst (ns.map V.int)) := fun e => scriptHp_some e
  have good : HOk P w H s.heap := fun b u e => by
    obtain ⟨rfl, _, rfl⟩ := only e
    exact ⟨obj, by rw [List.length_map]; exact few, vs, _, vals, obj⟩
  have seq : SqL K H a (ns.map V.int) := by
    cases q : K.lookup a with
    | none => exact .inl (.inr ⟨ob, if_pos ⟨rfl, q⟩⟩)
    | some p =>
      have same := inK a p q
      rw [obj] at same
      cases same
      exact .inr ⟨_, vs.toArray, _, q, rfl, rfl, rfl, by rw [List.size_toArray, many]; exact few, by simpa using vals⟩
  have free : ∀ {b : Addr} {p : Obj}, s.heap.get? b = some p → (∀ (e : Array DictEntry) (j : Nat), p.data = .dict e j → H b = none) := fun {b p} e _ _ d => by
    cases q : H b with
    | none => rfl
    | some u =>
      obtain ⟨rfl, _, _⟩ := only q
      rw [obj] at e
      cases e
      exact absurd d (by intro z; cases z)
  have nsOk : ∀ {b : Addr} {m : Str → Option Value}, s.heap.Ns b m → (hidT s.heap H).Ns b m := by
    rintro b m ⟨p, es, j, e, d, r⟩
    exact ⟨p, es, j, hidT_get e (free e _ _ d), d, r⟩
  have kOk : K.In (hidT s.heap H) := fun b p e => hidT_get (inK b p e) (by
    cases q : H b with
    | none => rfl
    | some u =>
      obtain ⟨rfl, n, _⟩ := only q
      have e' : K.lookup b = some p := e
      rw [n] at e'
      cases e')
  obtain ⟨mc, l1, l2⟩ := lim
  have modOk : Mod K mg (hidT s.heap H) := ⟨kOk, nsOk gl, ⟨mb, nsOk bl, boot⟩, ⟨mc, nsOk l1, l2⟩⟩
  refine ⟨H, hidT s.heap H, seq, kOk, nsOk gl, ⟨rfl, modOk, fun b p e => of_hidT e, Nat.le_of_eq (hidT_size _ _), trivial, (fun b z => nomatch z), good, .of_eq gens⟩, ?_⟩
  rintro Q u s' ⟨v, H', os, bare, un, good', _, _⟩
  refine ⟨OldK.of_keep fun b p e => ?_, os, bare⟩
  cases q : H b with
  | none => exact un.keep b p e q (fun z => nomatch z) (fun z => nomatch z)
  | some y =>
    obtain ⟨rfl, _, rfl⟩ := only q
    have there := (good b _ q).1
    have still := (good' b _ (un.frzs b ob _ q)).1
    rw [e] at there
    cases there
    exact still
/-- true at every pick -/
def R.yes (r : R D) : Prop := R.rec (motive := fun _ => Prop) False (fun d => d = .bool true) (fun _ => False) (fun _ ih => ∀ n, n < top1000 → ih n) r
theorem R.yes_of {r : R D} (h : r = .ok (.bool true)) : r.yes := by rw [h]; rfl
theorem post_yes {K : PySem.W.Frag} {mg : Str → Option Value} {H H0 : Hp} {r : R D} {E : XK} (h : r.yes) : Post (Dp K) K mg true H H0 r (fun v _ => v = .bl true) E := by
  induction r with
  | ok d =>
    have h : d = .bool true := h
    subst h
    intro v H' H0' f x
    cases x
    rfl
  | pick k ih => exact fun n hn => ih n (h n hn)
  | _ => exact False.elim h
/-- the law's run, from a mirror of its body -/
def LawRun (P : Program) (w : World) (K : PySem.W.Frag) (mg : Str → Option Value) (fa : Addr) (g : List D → R D) : Prop :=
  ∃ fd : FuncData, (∀ (s : Shared) (u : Value), BindsTo s fd ⟨[u], []⟩ [("script", u)]) ∧ ∀ base : Heap, K.In base → base.Ns mainGlobals mg → ∀ (s : Shared) (H : Hp) (a : Addr) (ns : List Int), Env0 P w K mg base callerA [] s H → SqL K H a (ns.map V.int) →
    (g [.list (ns.map PyData.int)]).yes → codeAny (model P w) callerA (.call (.ref fa) ⟨[.ref a], []⟩) (CR (L2.CX P w) [] P w H s (fun v _ => v = .bl true) fun _ _ _ => False) s
theorem walk_law {l : PySem.W.OpenLaw} {n : Nat} {q : Program} {loose : List Str} {XP : (Str → Option Value) → Heap → Prop} {YP : World → Heap → Prop} {d : DefRec} {K : Params → PySem.W.Frag} {g : List D → R D}
    (hn : l.most = some n) (hn2 : n ≤ sizeLine) (hdf : d.params.defaults = []) (hY : ∀ (w : World) (h : Heap), YP w h → (K w.params).In h)
    (F : ∀ (w : World) (mg : Str → Option Value) (fa : Addr) (h : Heap), (K w.params).In h → h.Ns mainGlobals mg → mg d.name = some (.ref fa) → LawRun l.prog w (K w.params) mg fa g)
    (holds : ∀ ns : List Int, ns.length ≤ n → (∀ z ∈ ns, Builtin.Int.intBits z ≤ 1048576) → (g [.list (ns.map PyData.int)]).yes) :
    PySem.W.WalkO q loose XP YP l.row.toRowW d [] (fun f vs => PySem.call f vs) := by
  refine Att.attach_callB hn hdf ?_
  intro w s₀ s mg mb fa o pm cd doc a vs ns G Y ho hd hcd hmg hobj hints hlen hbits hg
  have inK := hY w _ Y
  obtain ⟨fd, bi, run⟩ := F w mg fa _ inK G.T.g hmg
  obtain ⟨H, base, seq, k1, k2, en, back⟩ := law_entry (P := l.prog) (w := w) inK G.T.g G.T.b G.T.builtins G.T.nolimit hg hobj hints (Nat.le_trans hlen hn2)
  refine codeAny_mono (run base k1 k2 s H a ns en seq (holds ns hlen hbits)) ?_
  rintro (e | (_ | _ | _ | u)) s' z
  · exact (cx_never z).elim
  · exact z.elim
  · exact z.elim
  · exact z.elim
  · obtain ⟨b1, b2, b3⟩ := back _ u s' z
    obtain ⟨v, H', _, _, _, _, rv, q⟩ := z
    have q : v = .bl true := q
    subst q
    have rv : u = Value.bool true := rv
    subst rv
    exact ⟨rfl, b1, b2, b3⟩
/-- from the body -/
theorem law_run {P : Program} {w : World} {K : PySem.W.Frag} {mg : Str → Option Value} {st : Stmt} {f : Addr} {fd : FuncData} {N : List Str} {k : Nat} {mb : MS}
    (F : Fun K "law" "law" st f fd) (S : FnScope N ["script"] (defScope st)) (hn : 1 ≤ N.length) (room : Room (k + 1) callerA) (bi : ∀ (s : Shared) (u : Value), BindsTo s fd ⟨[u], []⟩ [("script", u)])
    (body : ∀ base : Heap, K.In base → base.Ns mainGlobals mg → ∀ (cdv : Value) (A : Around) (s : Shared) (H : Hp) (E : XK), A.guards = some [] → Room k (A.deeper (envOfC "law" (defScope st) s.heap.objs.size f cdv)) →
      ∃ t, BSs (cxOf (L2.CX P w) P w K mg base N "law" (defScope st) f cdv A [] s H E) (fun cls d _ H => E cls d H) (defBody st) t mb) : LawRun P w K mg f (runDef N.length mb) := by
  refine ⟨fd, bi, fun base k1 k2 s H a ns en seq holds => enter_law F S room en (bi s _) fun cdv rm => ?_⟩
  obtain ⟨t, ht⟩ := body base k1 k2 cdv callerA s H (fun _ _ _ => False) rfl rm
  exact ⟨t, ht.pe, ht.ev H H (L2.start N [.ref a]) H H (startD N.length [.list (ns.map PyData.int)]) _ (start_rel (Same.refl _) (.cons (.lst seq (ints_all ns)) .nil) hn) (post_fin (post_yes holds))⟩
/-! ### repr of what lies deep -/
def okShow (d : D) : Bool := d.showable && decide (d.shown.length ≤ sizeLine) && !d.hasDict && decide (d.depth ≤ 60)
def dReprC : List D → R D
  | [.str z] => dRepr [.str z]
  | [.int i] => dRepr [.int i]
  | [.bool b] => dRepr [.bool b]
  | [.none] => dRepr [.none]
  | [.list ds] => if okShow (.list ds) = true then .ok (.str (PyData.shown (.list ds))) else .stuck
  | [.tuple ds] => if okShow (.tuple ds) = true then .ok (.str (PyData.shown (.tuple ds))) else .stuck
  | _ => .stuck
def rReprC (K : PySem.W.Frag) : List V → Hp → VK → Prop := fun xs H Q => rReprS xs H Q ∨ ∃ a d, xs = [.ref a] ∧ Dp K H (.ref a) d ∧ okShow d = true ∧ Q (.str d.shown) H
section
variable {X : Cx}
theorem cr_reprC (hg : X.A.guards = some []) (hu : X.A.units + 64 < cLine) : CallR X (.builtin "repr") (rReprC X.K) := by
  intro pins s σ H xs us Q I r h
  rcases h with h | ⟨a, d, rfl, x, ok, q⟩
  · exact call_reprS pins s σ H xs us Q I r h
  · obtain ⟨u, rfl, ru⟩ := vals1 r
    obtain rfl : u = Value.ref a := ru
    obtain ⟨as, rd⟩ := Dp.reads I d _ _ x rfl
    unfold okShow at ok
    simp only [Bool.and_eq_true, decide_eq_true_eq, Bool.not_eq_true'] at ok
    obtain ⟨⟨⟨o1, o2⟩, o3⟩, o4⟩ := ok
    refine repr_of_reads' rd o1 (fun z => by rw [o3] at z; cases z) hg (by omega) (fun b o e => e) (fun h' u tk hk => ?_) o2
    exact ⟨.str d.shown, H, I.kept hk, ⟨_, rfl⟩, q⟩
end
theorem fn_reprC {K : PySem.W.Frag} {mg : Str → Option Value} {md : Bool} : Fn K mg md (rReprC K) dReprC := by
  intro xs ds H H0 Q E s hx p
  have hx' := dpAll_md s hx
  unfold dReprC at p
  split at p
  · exact .inl (fn_reprS xs _ H H0 Q E s hx p)
  · exact .inl (fn_reprS xs _ H H0 Q E s hx p)
  · exact .inl (fn_reprS xs _ H H0 Q E s hx p)
  · exact .inl (fn_reprS xs _ H H0 Q E s hx p)
  · split at p
    · rename_i ok
      cases hx' with
      | cons h1 h2 =>
        cases h2
        cases h1 with
        | lst a b => exact .inr ⟨_, _, rfl, .lst a b, ok, post_here p s fun _ => .str _⟩
    · exact False.elim p
  · split at p
    · rename_i ok
      cases hx' with
      | cons h1 h2 =>
        cases h2
        cases h1 with
        | tup a b => exact .inr ⟨_, _, rfl, .tup a b, ok, post_here p s fun _ => .str _⟩
    · exact False.elim p
  · exact False.elim p
end DW

end
end
section
set_option Elab.async false
set_option linter.all false
set_option maxRecDepth 100000
set_option maxHeartbeats 4000000
noncomputable section
namespace DW
open PySem PySem.Spec PyProof.Rows L2
open SX (S S_tl S_len S_cat)
/-! ### errors with a field -/
def sRaise1 (x f : Str) (m : ME) : MS := fun ρ => O.of (m ρ) ρ fun d => .err (x, [(f, d)]) ρ
/-- what __init__(self, f): self.f = f keeps -/
def spI (C : Addr) (f : Str) : Sp := fun vs H Q _ => ∃ a v, vs = [.ref a, v] ∧ H a = some (exo a C none) ∧ ∀ dx, H dx = none → dx ≠ a → Q .non (upd (upd H dx (exd dx [(f, v)])) a (exo a C (some dx)))
structure ExcI (P : Program) (w : World) (K : PySem.W.Frag) (mg : Str → Option Value) (x : Str) (C : Addr) (f : Str) : Prop where
  g : mg x = some (.ref C)
  oex : OexC K C
  ini : ∀ base : Heap, ∃ (fI : Addr) (fd : FuncData), PySem.W.findIn K (.ref C) "__init__" = some (some (.ref fI)) ∧ PySem.W.typeIn K (.ref fI) = some (.type "function") ∧ FnOk P w K mg base CX0 1 fI fd ["self", f] (spI C f) ∧ Binds K fd ["self", f] []
  sb : PySem.W.subIn K (.ref C) (.type "BaseException") = some true
  xf : XfC K C
  no : PySem.W.findIn K (.ref C) f = some none
theorem spI_read {K : PySem.W.Frag} {C a : Addr} {v : V} {H : Hp} {f : Str} {Q : VK} (T : OexC K C) (no : PySem.W.findIn K (.ref C) f = some none) (ha : H a = some (exo a C none))
    (q : ∀ dx, H dx = none → dx ≠ a → Q .non (upd (upd H dx (exd dx [(f, v)])) a (exo a C (some dx)))) : tOst K f (tVar 0) (tVar 1) { nx := fun _ H' => Q .non H', rt := Q } (L2.start ["self", f] [.ref a, v]) H :=
  ⟨v, rfl, .ref a, rfl, a, C, rfl, T, no, .inl ⟨ha, fun dx h1 h2 => q dx h1 h2⟩⟩
section
variable {X : Cx} {W : WX} {md : Bool} {e : Expr} {t te : TE} {m : ME} {pos : Pos} {x : Str}
theorem bs_raiseF {C : Addr} {f : Str} {j : Nat} {p p3 : Pos} (F : ExcI X.prog X.w X.K X.mg x C f) (hr : Room j X.A) (hj : 2 ≤ j) (hc : X.calm = true) (tk : Takes X W) (hg : Gl X x) (ha : BE X W true e te m) (hdb : (x == ("__debug__" : Str)) = false := by decide)
    (he : starEach (e :: []) X.env = (false, eval e X.env) :: starEach [] X.env := by rfl) (hpl : (backTo p3 (starEach [] X.env)).any (·.1) = false := by rfl) :
    BS X W (.Raise (some (.Call (.Name x p) [e] [] p3)) none pos) (fun _ σ H => tMkO C (spI C f) [] (tCons te tNil) σ H fun cls d H' => W cls d σ H') (sRaise1 x f m) := by
  obtain ⟨fI, fd, h1, h2, h3, h4⟩ := F.ini X.base
  refine ⟨ps_raise hc tk (pmk_oex F.oex h1 h2 h3 (hr.mono hj) h4 .nil pass0 hg F.g (pa_cons ha.pe pa_nil he) hdb he hpl), fun Hs H0s σ H H0 ρ D rl p => ?_⟩
  refine ha.ev Hs H0s σ H H0 ρ _ rl ((PostS.of p rl).imp ?_)
  rintro v H1 ⟨d, H01, _, f1, x1, p1⟩
  refine ⟨by show 1 ≤ 1000; decide, fun a hn => ?_⟩
  refine ⟨a, v, rfl, upd_same, fun dx hd hne => ⟨rfl, dx, [(f, v)], upd_same, by rw [upd_ne hne, upd_same], by rw [upd_ne hne] at hd; exact hd, ?_⟩⟩
  rw [upd_ne hne] at hd
  obtain ⟨C', g1, g2⟩ := p1 σ H1 H01 (rl.step f1)
  have g1 : X.mg x = some (.ref C') := g1
  rw [F.g] at g1
  cases g1
  have g3 := g2 v dx x1 hd
  have e1 : upd (del (upd (upd (upd H1 a (exo a C none)) dx (exd dx [(f, v)])) a (exo a C (some dx))) a) dx (.xd [(f, v)]) = upd H1 dx (.xd [(f, v)]) := by
    funext b
    by_cases hb : b = dx
    · subst hb; rw [upd_same, upd_same]
    · rw [upd_ne hb, upd_ne hb]
      by_cases hba : b = a
      · subst hba; rw [del_same]; exact hn.symm
      · rw [del_ne hba, upd_ne hba, upd_ne hb, upd_ne hba]
  rw [e1]
  exact g3
/-! ### a, b = x, y -/
def sPar (i j : Nat) (r : MA) : MS := fun ρ => O.of (r ρ) ρ fun ds => match ds with
  | [d, e] => .nx ((ρ.set i (some (.sh d))).set j (some (.sh e)))
  | _ => .stuck
theorem bs_par {i j : Nat} {y : Str} {a b : Expr} {ta : TA} {mr : MA} {px py pt : Pos} {kt k2 pt2} (hc : X.calm = true) (hN : X.N.Nodup) (hi : X.N[i]? = some x) (hj : X.N[j]? = some y) (hij : i ≠ j)
    (hx : X.env.scope.names.lookup x = some .local) (hy : X.env.scope.names.lookup y = some .local) (ha : BA X W true [a, b] ta mr)
    (hw : swappedStores [.Tuple [.Name x px, .Name y py] kt pt] (.Tuple [a, b] k2 pt2) X.env = pure (some [x, y]))
    (hs : swapsWithSole [.Tuple [.Name x px, .Name y py] kt pt] (.Tuple [a, b] k2 pt2) pos.line X.env = pure false := by rfl) :
    BS X W (.Assign [.Tuple [.Name x px, .Name y py] kt pt] (.Tuple [a, b] k2 pt2) pos) (tPar i j ta) (sPar i j mr) := by
  refine ⟨ps_par hc hN hi hj hij hx hy ha.pe hw hs, fun Hs H0s σ H H0 ρ D rl p => ha.ev Hs H0s σ H H0 ρ _ rl ((PostS.of p rl).imp ?_)⟩
  rintro vs H1 ⟨ds, H01, _, f1, x1, p1⟩
  match ds, x1, p1 with
  | [d, e], .cons h1 (.cons h2 .nil), p1 => exact ⟨_, _, rfl, p1 _ H1 H01 (((rl.step f1).set i h1).set j h2)⟩
def sPar3 (i j l : Nat) (r : MA) : MS := fun ρ => O.of (r ρ) ρ fun ds => match ds with
  | [d, e, f] => .nx (((ρ.set i (some (.sh d))).set j (some (.sh e))).set l (some (.sh f)))
  | _ => .stuck
theorem bs_par3 {i j l : Nat} {y z : Str} {a b c : Expr} {ta : TA} {mr : MA} {px py pz pt : Pos} {kt k2 pt2} (hc : X.calm = true) (hN : X.N.Nodup) (hi : X.N[i]? = some x) (hj : X.N[j]? = some y) (hl : X.N[l]? = some z) (hij : i ≠ j) (hil : i ≠ l) (hjl : j ≠ l)
    (hx : X.env.scope.names.lookup x = some .local) (hy : X.env.scope.names.lookup y = some .local) (hz : X.env.scope.names.lookup z = some .local) (ha : BA X W true [a, b, c] ta mr)
    (hw : swappedStores [.Tuple [.Name x px, .Name y py, .Name z pz] kt pt] (.Tuple [a, b, c] k2 pt2) X.env = pure (some [x, y, z]))
    (hs : swapsWithSole [.Tuple [.Name x px, .Name y py, .Name z pz] kt pt] (.Tuple [a, b, c] k2 pt2) pos.line X.env = pure false := by rfl) :
    BS X W (.Assign [.Tuple [.Name x px, .Name y py, .Name z pz] kt pt] (.Tuple [a, b, c] k2 pt2) pos) (tPar3 i j l ta) (sPar3 i j l mr) := by
  refine ⟨ps_par3 hc hN hi hj hl hij hil hjl hx hy hz ha.pe hw hs, fun Hs H0s σ H H0 ρ D rl p => ha.ev Hs H0s σ H H0 ρ _ rl ((PostS.of p rl).imp ?_)⟩
  rintro vs H1 ⟨ds, H01, _, f1, x1, p1⟩
  match ds, x1, p1 with
  | [d, e, f], .cons h1 (.cons h2 (.cons h3 .nil)), p1 => exact ⟨_, _, _, rfl, p1 _ H1 H01 ((((rl.step f1).set i h1).set j h2).set l h3)⟩
end
/-- the n-th statement of a class -/
def clsM : Stmt → Nat → Stmt
  | .ClassDef (body := b) .., n => b.getD n (.Pass ⟨0, 0, 0, 0⟩)
  | s, _ => s
end DW

end
end
section
set_option Elab.async false
set_option linter.all false
set_option maxRecDepth 100000
set_option maxHeartbeats 4000000
noncomputable section
namespace DW
open PySem PySem.Spec PyProof.Rows L2
open SX (S S_tl S_len S_cat)
/-! ### enumerate, zip -/
def enumD : Nat → List D → List D
  | _, [] => []
  | k, d :: ds => .tuple [.int (k : Int), d] :: enumD (k + 1) ds
theorem enumD_len : ∀ (k : Nat) (ds : List D), (enumD k ds).length = ds.length
  | _, [] => rfl
  | k, d :: ds => by rw [enumD, List.length_cons, List.length_cons, enumD_len (k + 1) ds]
theorem enumD_at : ∀ (k : Nat) (ds : List D) (i : Nat), (enumD k ds)[i]? = ds[i]?.map fun d => .tuple [.int ((k + i : Nat) : Int), d]
  | _, [], i => by rw [enumD]; rfl
  | k, d :: ds, 0 => rfl
  | k, d :: ds, i + 1 => by
    rw [enumD, List.getElem?_cons_succ, List.getElem?_cons_succ, enumD_at (k + 1) ds i]
    have : k + 1 + i = k + (i + 1) := by omega
    rw [this]
def zipD : List D → List D → List D
  | x :: xs, y :: ys => .tuple [x, y] :: zipD xs ys
  | _, _ => []
theorem zipD_at : ∀ (xs ys : List D) (i : Nat) (d : D), (zipD xs ys)[i]? = some d → ∃ x y, xs[i]? = some x ∧ ys[i]? = some y ∧ d = .tuple [x, y]
  | x :: xs, y :: ys, 0, d, h => by cases h; exact ⟨x, y, rfl, rfl, rfl⟩
  | x :: xs, y :: ys, i + 1, d, h => by
    rw [zipD, List.getElem?_cons_succ] at h
    obtain ⟨a, b, h1, h2, h3⟩ := zipD_at xs ys i d h
    exact ⟨a, b, h1, h2, h3⟩
  | [], _, _, _, h => by simp [zipD] at h
  | _ :: _, [], _, _, h => by simp [zipD] at h
theorem zipD_len : ∀ (xs ys : List D), (zipD xs ys).length = min xs.length ys.length
  | x :: xs, y :: ys => by rw [zipD, List.length_cons, List.length_cons, List.length_cons, zipD_len xs ys]; omega
  | [], _ => by simp [zipD]
  | _ :: _, [] => by simp [zipD]
section
variable {K : PySem.W.Frag} {H H' Hb H0 H0' : Hp}
theorem fr_tup {T : Addr} {vs : List V} {ds : List D} (s2 : Same H0' H') (n : H' T = none) (x : DpAll K H0' vs ds) : ∃ H0'', Fr H' H0' (upd H' T (.tup vs)) H0'' ∧ Dp K H0'' (.ref T) (.tuple ds) :=
  ⟨_, Fr.new s2 n, .tup (.inl (.inl upd_same)) (dpAll_mono (Same.new (s2.free n)) _ _ x)⟩
theorem walks_enum {a : Addr} {xs : List V} {ds : List D} (h : SqL K Hb a xs) (x : DpAll K Hb xs ds) : Walks K (Ite K a) (enumD 0 ds) Hb := by
  intro i H' H0' s1 s2
  have h' : SqL K H' a xs := (s1.trans s2).seq h
  refine ⟨fun hi => ⟨xs, h', by rw [DpAll.length x]; rw [enumD_len] at hi; exact hi⟩, fun d hd => ?_⟩
  rw [enumD_at] at hd
  cases e : ds[i]? with
  | none => rw [e] at hd; cases hd
  | some y =>
    rw [e] at hd
    cases hd
    obtain ⟨v, hv, xv⟩ := DpAll.get x e
    refine ⟨⟨xs, v, h', hv⟩, fun z H'' hz => ?_⟩
    obtain ⟨T, u, rfl, n, rfl, q⟩ := hz
    have e2 : some u = some v := (q xs h').symm.trans hv
    cases e2
    have e3 : ((0 + i : Nat) : Int) = (i : Int) := by rw [Nat.zero_add]
    rw [e3]
    exact fr_tup s2 n (.cons (.int _) (.cons (dp_mono s1 _ _ xv) .nil))
theorem walks_zipL {a b : Addr} {xs ys : List V} {ds es : List D} (h : SqL K Hb a xs) (x : DpAll K Hb xs ds) (h2 : SqL K Hb b ys) (x2 : DpAll K Hb ys es) : Walks K (Itz K a b) (zipD ds es) Hb := by
  intro i H' H0' s1 s2
  have ha : SqL K H' a xs := (s1.trans s2).seq h
  have hb : SqL K H' b ys := (s1.trans s2).seq h2
  refine ⟨fun hi => ⟨xs, ys, ha, hb, by rw [DpAll.length x, DpAll.length x2]; rw [zipD_len] at hi; omega⟩, fun d hd => ?_⟩
  obtain ⟨p, q, e1, e2, rfl⟩ := zipD_at _ _ _ _ hd
  obtain ⟨v, hv, xv⟩ := DpAll.get x e1
  obtain ⟨u, hu, xu⟩ := DpAll.get x2 e2
  refine ⟨⟨xs, ys, v, u, ha, hb, hv, hu⟩, fun z H'' hz => ?_⟩
  obtain ⟨T, v', u', rfl, n, rfl, q1, q2⟩ := hz
  have e3 : some v' = some v := (q1 xs ha).symm.trans hv
  have e4 : some u' = some u := (q2 ys hb).symm.trans hu
  cases e3; cases e4
  exact fr_tup s2 n (.cons (dp_mono s1 _ _ xv) (.cons (dp_mono s1 _ _ xu) .nil))
theorem walks_zipT {a b : Addr} {xs ys : List V} {ds es : List D} (h : SqT K Hb a xs) (x : DpAll K Hb xs ds) (h2 : SqT K Hb b ys) (x2 : DpAll K Hb ys es) : Walks K (RZ.ItzT K a b) (zipD ds es) Hb := by
  intro i H' H0' s1 s2
  have ha : SqT K H' a xs := sqT_mono (s1.trans s2) h
  have hb : SqT K H' b ys := sqT_mono (s1.trans s2) h2
  refine ⟨fun hi => ⟨xs, ys, ha, hb, by rw [DpAll.length x, DpAll.length x2]; rw [zipD_len] at hi; omega⟩, fun d hd => ?_⟩
  obtain ⟨p, q, e1, e2, rfl⟩ := zipD_at _ _ _ _ hd
  obtain ⟨v, hv, xv⟩ := DpAll.get x e1
  obtain ⟨u, hu, xu⟩ := DpAll.get x2 e2
  refine ⟨⟨xs, ys, v, u, ha, hb, hv, hu⟩, fun z H'' hz => ?_⟩
  obtain ⟨T, v', u', rfl, n, rfl, q1, q2⟩ := hz
  have e3 : some v' = some v := (q1 xs ha).symm.trans hv
  have e4 : some u' = some u := (q2 ys hb).symm.trans hu
  cases e3; cases e4
  exact fr_tup s2 n (.cons (dp_mono s1 _ _ xv) (.cons (dp_mono s1 _ _ xu) .nil))
end
section
variable {X : Cx} {W : WX} {e e2 : Expr} {es : List Expr} {t : TE} {tr : TA} {m : ME} {mr : MA} {pos tpos : Pos} {elts : List Expr} {kk : Nat}
theorem PostI.ofA {K : PySem.W.Frag} {mg : Str → Option Value} {H H0 : Hp} {r : R (List D)} {f : List D → R (List D)} {Rk : It → Hp → Prop} {E : XK} (h : PostI K mg H H0 (r.bind f) Rk E) :
    Post (DpAll K) K mg true H H0 r (fun v H' => ∃ d H0', True ∧ Fr H H0 H' H0' ∧ DpAll K H0' v d ∧ PostI K mg H' H0' (f d) Rk E) E := by
  induction r with
  | stuck => exact h
  | err e => exact h
  | pick k ih => exact fun n hn => ih n (h n hn)
  | ok d =>
    intro v H' H0' f1 x
    refine ⟨d, H0', trivial, f1, x, ?_⟩
    have h : PostI K mg H H0 (f d) Rk E := h
    generalize f d = r at h
    induction r with
    | stuck => exact h
    | pick k ih => exact fun n hn => ih n (h n hn)
    | err e => exact fun H2 H02 g => h H2 H02 (f1.trans g)
    | ok ds => exact fun J H2 H02 g w => h J H2 H02 (f1.trans g) w
def dEnum : List D → R (List D)
  | [.list ds] => .ok (enumD 0 ds)
  | _ => .stuck
def iEnumS (r : MA) : MA := fun ρ => (r ρ).bind dEnum
theorem bi_enum {p : Pos} (hg : Gl X "enumerate") (hm : X.mg "enumerate" = none) (ha : BA X W true [e] tr mr) (hs : starEach [e] X.env = [(false, eval e X.env)] := by rfl) :
    BI X W (.Tuple elts kk tpos) (.Call (.Name "enumerate" p) [e] [] pos) (iEnum X.K tr) (iEnumS mr) := by
  refine ⟨pi_enum hg hm ha.pe hs, fun Hs H0s σ H H0 ρ Rk rl p => ha.ev Hs H0s σ H H0 ρ _ rl ((PostI.ofA p).imp ?_)⟩
  rintro vs H1 ⟨ds, H01, _, f1, x1, p1⟩
  match ds, x1, p1 with
  | [.list es], .cons (.lst hq ha) .nil, p1 => exact ⟨_, _, rfl, f1.sb.seq hq, p1 _ H1 H01 (.refl f1.sb) (walks_enum hq ha)⟩
def dZip : List D → R (List D)
  | [.list ds, .list es] => .ok (zipD ds es)
  | [.tuple ds, .tuple es] => .ok (zipD ds es)
  | _ => .stuck
def iZipS (r : MA) : MA := fun ρ => (r ρ).bind dZip
theorem bi_zip {p : Pos} (hg : Gl X "zip") (hm : X.mg "zip" = none) (ha : BA X W true [e, e2] tr mr)
    (hs : starEach [e, e2] X.env = (false, eval e X.env) :: starEach [e2] X.env := by rfl) (hpl : (backTo pos (starEach [e2] X.env)).any (·.1) = false := by rfl) :
    BI X W (.Tuple elts kk tpos) (.Call (.Name "zip" p) [e, e2] [] pos) (RZ.iZipA X.K tr) (iZipS mr) := by
  refine ⟨RZ.pi_zipA hg hm ha.pe hs hpl, fun Hs H0s σ H H0 ρ Rk rl p => ha.ev Hs H0s σ H H0 ρ _ rl ((PostI.ofA p).imp ?_)⟩
  rintro vs H1 ⟨ds, H01, _, f1, x1, p1⟩
  match ds, x1, p1 with
  | [.list es, .list gs], .cons (.lst hq ha) (.cons (.lst hq2 ha2) .nil), p1 => exact ⟨_, _, _, _, rfl, .inl ⟨f1.sb.seq hq, f1.sb.seq hq2, p1 _ H1 H01 (.refl f1.sb) (walks_zipL hq ha hq2 ha2)⟩⟩
  | [.tuple es, .tuple gs], .cons (.tup hq ha) (.cons (.tup hq2 ha2) .nil), p1 => exact ⟨_, _, _, _, rfl, .inr ⟨sqT_mono f1.sb hq, sqT_mono f1.sb hq2, p1 _ H1 H01 (.refl f1.sb) (walks_zipT hq ha hq2 ha2)⟩⟩
end
/-! ### is True, is False -/
def dIsB : D → D → R D
  | .bool a, .bool b => .ok (.bool (decide (a = b)))
  | _, _ => .stuck
def dNotB : D → D → R D
  | .bool a, .bool b => .ok (.bool (!decide (a = b)))
  | _, _ => .stuck
section
variable {K : PySem.W.Frag} {mg : Str → Option Value} {md : Bool}
theorem op2_isB : Op2 K mg md rIsB dIsB := by
  intro x y d e H H0 Q E s hx hy p
  unfold dIsB at p
  split at p
  · cases dp_md s hx; cases dp_md s hy; exact ⟨_, _, rfl, rfl, post_here p s fun _ => .bl _⟩
  · exact False.elim p
theorem op2_notB : Op2 K mg md rNotB dNotB := by
  intro x y d e H H0 Q E s hx hy p
  unfold dNotB at p
  split at p
  · cases dp_md s hx; cases dp_md s hy; exact ⟨_, _, rfl, rfl, post_here p s fun _ => .bl _⟩
  · exact False.elim p
end
end DW

end
end
section
set_option Elab.async false
set_option linter.all false
set_option maxRecDepth 100000
set_option maxHeartbeats 4000000
/-! evaluation of mirrors -/
noncomputable section
namespace DW
open PySem L2
open SX (S S_tl S_len S_cat)
variable {α β : Type} {ρ ρ' : En} {x y z : MS} {m ma mb mc : ME} {t u : MT} {r ar : MA} {i j : Nat}
abbrev one' (c : Nat) : D := .str (S [c])
theorem e_sCons : sCons x y ρ = (x ρ).thn y := rfl
theorem e_sNil : sNil ρ = .nx ρ := rfl
theorem e_sBreak : sBreak ρ = .bk ρ := rfl
theorem e_sCont : sCont ρ = .ct ρ := rfl
theorem e_sRet : sRet m ρ = O.of (m ρ) ρ .rt := rfl
theorem e_sRetN : sRetN ρ = .rt .none := rfl
theorem e_sExpr : sExpr m ρ = O.of (m ρ) ρ fun _ => .nx ρ := rfl
theorem e_sIf : sIf t x y ρ = O.of (t ρ) ρ fun k => if k then x ρ else y ρ := rfl
theorem e_sAsg {g : D → En → R En} : sAsg g m ρ = O.of (m ρ) ρ fun d => O.of (g d ρ).sure ρ .nx := rfl
theorem e_sOwn : sOwn i r ρ = O.of (r ρ) ρ fun ds => .nx (ρ.set i (some (.own ds))) := rfl
theorem e_sFrz : sFrz i x ρ = x (frz i ρ) := rfl
theorem e_sRaise {n : Str} : sRaise n ρ = .err (n, []) ρ := rfl
theorem e_sFor {g : D → En → R En} : sFor r g x ρ = O.of (r ρ) ρ fun ds => mLoop g x ds ρ := rfl
theorem e_loop_nil {g : D → En → R En} : mLoop g x [] ρ = .nx ρ := rfl
theorem e_loop_cons {d : D} {ds : List D} : mLoop (gN i) x (d :: ds) ρ = (x (ρ.set i (some (.sh d)))).lp (mLoop (gN i) x ds) := rfl
theorem e_loop_nx {d : D} {ds : List D} (h : x (ρ.set i (some (.sh d))) = .nx ρ') : mLoop (gN i) x (d :: ds) ρ = mLoop (gN i) x ds ρ' := by rw [e_loop_cons, h]; rfl
theorem e_while {n : Nat} : mWhile t x (n + 1) ρ = O.of (t ρ) ρ fun k => if k then (x ρ).lp (mWhile t x n) else .nx ρ := rfl
theorem e_mC {d : D} : mC d ρ = .ok d := rfl
theorem e_m1 {f : D → R D} : m1 f m ρ = (m ρ).bind f := rfl
theorem e_m2 {f : D → D → R D} : m2 f ma mb ρ = (ma ρ).bind fun d => (mb ρ).bind fun e => f d e := rfl
theorem e_mF {f : List D → R D} : mF f r ρ = (r ρ).bind f := rfl
theorem e_mCall {n : Nat} {f : List D → R D} : mCall n f r ρ = (r ρ).bind fun ds => if ds.length = n then f ds else .stuck := rfl
theorem e_mM1 {f : Str → D → R D} : mM1 f ma m ρ = (ma ρ).bind fun d => match d with | .str a => (m ρ).bind fun e => f a e | _ => .stuck := rfl
theorem e_aNil : aNil ρ = .ok [] := rfl
theorem e_aCons : aCons m r ρ = (m ρ).bind fun d => (r ρ).bind fun ds => .ok (d :: ds) := rfl
theorem e_aLst : aLst r ρ = (r ρ).bind fun ds => if ds.length ≤ sizeLine then .ok ds else .stuck := rfl
theorem e_mTup : mTup r ρ = (r ρ).bind fun ds => if ds.length ≤ sizeLine then .ok (.tuple ds) else .stuck := rfl
theorem e_mLst : mLst r ρ = (r ρ).bind fun ds => if ds.length ≤ sizeLine then .ok (.list ds) else .stuck := rfl
theorem e_mN : mN r ρ = (r ρ).bind fun ds => .ok (.list ds) := rfl
theorem e_mT : mT m ρ = (m ρ).bind asB := rfl
theorem e_mTru : mTru m ρ = (m ρ).bind dTruth := rfl
theorem e_mAndT : mAndT t u ρ = (t ρ).bind fun k => if k then u ρ else .ok false := rfl
theorem e_mOrT : mOrT t u ρ = (t ρ).bind fun k => if k then .ok true else u ρ := rfl
theorem e_mNotT : mNotT t ρ = (t ρ).bind fun k => .ok (!k) := rfl
theorem e_mAnd : mAnd ma mb ρ = (ma ρ).bind fun d => (dTruth d).bind fun k => if k then mb ρ else .ok d := rfl
theorem e_mOr : mOr ma mb ρ = (ma ρ).bind fun d => (dTruth d).bind fun k => if k then .ok d else mb ρ := rfl
theorem e_mNot : mNot ma ρ = (ma ρ).bind fun d => (dTruth d).bind fun k => .ok (.bool (!k)) := rfl
theorem e_mIf : mIf t ma mb ρ = (t ρ).bind fun k => if k then ma ρ else mb ρ := rfl
theorem e_mChain {f g : D → D → R D} : mChain f g ma mb mc ρ = (ma ρ).bind fun d => (mb ρ).bind fun e => (f d e).bind fun k => (asB k).bind fun k => if k then (mc ρ).bind fun z => g e z else .ok (.bool false) := rfl
theorem e_iSeq : iSeq m ρ = (m ρ).bind dItems := rfl
theorem e_iRange1 : iRange1 r ρ = (r ρ).bind dRange1 := rfl
theorem e_iRange2 : iRange2 r ρ = (r ρ).bind dRange2 := rfl
theorem e_oNone : oNone ρ = .ok none := rfl
theorem e_oSome : oSome m ρ = (m ρ).bind fun d => match d with | .int i => .ok (some i) | _ => .stuck := rfl
theorem e_mSl {l h : MO} : mSl m l h ρ = (m ρ).bind fun d => (l ρ).bind fun lo => (h ρ).bind fun hi => dSl d lo hi := rfl
theorem e_mYes : mYes ρ = .ok true := rfl
theorem e_mLc {vs : List Nat} {g : D → En → R En} : mLc vs r g t m ρ = (r ρ).bind fun ds => if ds.length ≤ sizeLine then (lcLoop g t m (wipeD (clean ρ) vs) ds).sure else .stuck := rfl
theorem e_gN {d : D} : gN i d ρ = .ok (ρ.set i (some (.sh d))) := rfl
theorem v_sh {d : D} (h : ρ[i]? = some (some (.sh d))) : mVar i ρ = .ok d := by unfold mVar; rw [h]
theorem v0 {d : D} : mVar 0 (some (.sh d) :: ρ) = .ok d := rfl
theorem vS {s : Option SD} : mVar (i + 1) (s :: ρ) = mVar i ρ := rfl
theorem p0 {d : D} : mVarP 0 (some (.sh d) :: ρ) = .ok d := rfl
theorem p0o {d : List D} : mVarP 0 (some (.own d) :: ρ) = .ok (.list d) := rfl
theorem pS {s : Option SD} : mVarP (i + 1) (s :: ρ) = mVarP i ρ := rfl
theorem ie0 {n : Str} {fs : List (Str × D)} {isx : Str → Option Bool} {b : Bool} (h : isx n = some b) : mIsX 0 isx (some (.exc n fs) :: ρ) = .ok (.bool b) := by
  show (match isx n with | some b => R.ok (PyData.bool b) | none => R.stuck) = _
  rw [h]
theorem ieS {isx : Str → Option Bool} {s : Option SD} : mIsX (i + 1) isx (s :: ρ) = mIsX i isx ρ := rfl
theorem f0 {d : List D} : frz 0 (some (.own d) :: ρ) = some (.sh (.list d)) :: ρ := rfl
theorem f0s {d : D} : frz 0 (some (.sh d) :: ρ) = some (.sh d) :: ρ := rfl
theorem f0n : frz 0 (none :: ρ) = none :: ρ := rfl
theorem fS {s : Option SD} : frz (i + 1) (s :: ρ) = s :: frz i ρ := by
  unfold frz
  rw [List.getElem?_cons_succ]
  cases ρ[i]? with
  | none => rfl
  | some t =>
    cases t with
    | none => rfl
    | some t => cases t <;> rfl
/-- x.append(e) at a slot -/
theorem e_app {ds : List D} (h : ρ[i]? = some (some (.own ds))) : sApp i m ρ = O.of (m ρ) ρ fun d => if ds.length < sizeLine then .nx (ρ.set i (some (.own (ds ++ [d])))) else .stuck := by
  unfold sApp
  rw [h]
theorem e_pop {ds : List D} {d : D} (h : ρ[i]? = some (some (.own ds))) (h2 : ds[ds.length - 1]? = some d) : sPop i ρ = .nx (ρ.set i (some (.own ds.dropLast))) := by
  unfold sPop
  rw [h]
  dsimp only
  rw [h2]
/-- a comprehension of a plain map -/
theorem lc_map {f : D → D} : ∀ ds : List D, (∀ d ∈ ds, m (ρ.set i (some (.sh d))) = .ok (f d)) → lcLoop (gN i) mYes m ρ ds = .ok (ds.map f)
  | [], _ => rfl
  | d :: ds, h => by
    show (R.bind (m (ρ.set i (some (.sh d)))).sure fun y => (lcLoop (gN i) mYes m ρ ds).bind fun ys => R.ok (y :: ys)) = _
    rw [h d List.mem_cons_self, lc_map ds fun e he => h e (List.mem_cons_of_mem _ he)]
    rfl
theorem signs_S (l : List Nat) : signs (S l) = l.map fun c => .str (S [c]) := rfl
theorem sz_ok {n : Nat} (h : n ≤ 16777216) : n ≤ sizeLine := by rw [sizeLine_eq]; exact h
theorem fin_nx : fin (.nx ρ) = .ok .none := rfl
theorem fin_rt {d : D} : fin (.rt d) = .ok d := rfl
theorem fin_err {e : Exn} : fin (.err e ρ) = .err e := rfl
theorem asB_b {b : Bool} : asB (.bool b) = .ok b := rfl
theorem o_add {a b : Int} : dAdd (.int a) (.int b) = .ok (.int (a + b)) := rfl
theorem o_addS {a b : List Nat} : dAdd (.str (S a)) (.str (S b)) = if a.length + b.length ≤ sizeLine then .ok (.str (S (a ++ b))) else .stuck := rfl
theorem o_addL {a b : List D} : dAdd (.list a) (.list b) = if a.length + b.length ≤ sizeLine then .ok (.list (a ++ b)) else .stuck := rfl
theorem o_addI {a b : Int} : dAddI (.int a) (.int b) = .ok (.int (a + b)) := rfl
theorem o_sub {a b : Int} : dSub (.int a) (.int b) = .ok (.int (a - b)) := rfl
theorem o_neg {a : Int} : dNeg (.int a) = .ok (.int (-a)) := rfl
theorem o_fdiv {a b : Int} (h : 0 < b ∧ b.natAbs.log2 < 9000) : dFdiv (.int a) (.int b) = .ok (.int (a / b)) := if_pos h
theorem o_mod {a b : Int} (h : 0 < b) : dMod (.int a) (.int b) = .ok (.int (a % b)) := if_pos h
theorem o_pow {a b : Int} (h : 0 ≤ b ∧ b ≤ 1000000 ∧ a.natAbs < 2 ^ 64) : dPow (.int a) (.int b) = .ok (.int (a ^ b.toNat)) := if_pos h
theorem o_mul {a b : Int} (h : a.natAbs.log2 + b.natAbs.log2 < 1000000) : dMul (.int a) (.int b) = .ok (.int (a * b)) := if_pos h
theorem log_small {a : Int} (h : a.natAbs < 2 ^ 64) : a.natAbs.log2 < 64 := by
  by_cases h0 : a.natAbs = 0
  · rw [h0]; decide
  · exact (Nat.log2_lt h0).mpr h
theorem o_mulS {a b : Int} (h : a.natAbs < 2 ^ 64) (h2 : b.natAbs < 2 ^ 64) : dMul (.int a) (.int b) = .ok (.int (a * b)) := o_mul (by have := log_small h; have := log_small h2; omega)
theorem o_mulT {z : List Nat} {n : Int} (h : n < 1000000 ∧ -1000000 < n ∧ z.length * n.toNat ≤ 1000000) : dMul (.str (S z)) (.int n) = .ok (.str (S (repL n.toNat z))) := if_pos h
theorem o_lt {a b : Int} : dLt (.int a) (.int b) = .ok (.bool (decide (a < b))) := rfl
theorem o_le {a b : Int} : dLe (.int a) (.int b) = .ok (.bool (decide (a ≤ b))) := rfl
theorem o_gt {a b : Int} : dGt (.int a) (.int b) = .ok (.bool (decide (b < a))) := rfl
theorem o_ge {a b : Int} : dGe (.int a) (.int b) = .ok (.bool (decide (b ≤ a))) := rfl
theorem o_eqI {a b : Int} : dEq (.int a) (.int b) = .ok (.bool (decide (a = b))) := rfl
theorem o_neI {a b : Int} : dNe (.int a) (.int b) = .ok (.bool (!decide (a = b))) := rfl
theorem o_eqS {a b : List Nat} : dEq (.str (S a)) (.str (S b)) = .ok (.bool (decide (a = b))) := rfl
theorem o_neS {a b : List Nat} : dNe (.str (S a)) (.str (S b)) = .ok (.bool (!decide (a = b))) := rfl
theorem o_inS {c : Nat} {b : List Nat} : dIn (.str (S [c])) (.str (S b)) = .ok (.bool (decide (c ∈ b))) := rfl
theorem o_lenS {a : List Nat} : dLen [.str (S a)] = if a.length ≤ sizeLine then .ok (.int a.length) else .stuck := rfl
theorem o_lenL {a : List D} : dLen [.list a] = .ok (.int a.length) := rfl
theorem o_lenT {a : List D} : dLen [.tuple a] = .ok (.int a.length) := rfl
theorem o_int {a : Int} : dInt1 [.int a] = .ok (.int a) := rfl
theorem o_all {bs : List Bool} : dAll [.list (bs.map PyData.bool)] = .ok (.bool (bs.all id)) := by
  show (bools (bs.map PyData.bool)).bind _ = _
  rw [bools_map]; rfl
theorem o_any {bs : List Bool} : dAny [.list (bs.map PyData.bool)] = .ok (.bool (bs.any id)) := by
  show (bools (bs.map PyData.bool)).bind _ = _
  rw [bools_map]; rfl
theorem o_tIn {tb : List (Str × D)} {z : Str} : dTabIn tb (.str z) = .ok (.bool (tb.lookup z).isSome) := rfl
theorem o_tNi {tb : List (Str × D)} {z : Str} : dTabNi tb (.str z) = .ok (.bool (!(tb.lookup z).isSome)) := rfl
theorem o_tAt {tb : List (Str × D)} {z : Str} {v : D} (h : tb.lookup z = some v) : dTabAt tb (.str z) = .ok v := by
  show (match tb.lookup z with | some v => R.ok v | none => R.stuck) = R.ok v
  rw [h]
theorem o_itS {l : List Nat} : dItems (.str (S l)) = .ok (l.map one') := rfl
theorem o_itL {l : List D} : dItems (.list l) = .ok l := rfl
theorem o_itT {l : List D} : dItems (.tuple l) = .ok l := rfl
theorem o_revS {l : List Nat} (h : l.length ≤ 16777216) : dRev (.str (S l)) = .ok (.str (S l.reverse)) := if_pos (sz_ok h)
theorem o_truL {l : List D} : dTruth (.list l) = .ok (!l.isEmpty) := rfl
theorem o_truB {b : Bool} : dTruth (.bool b) = .ok b := rfl
theorem o_truI {i : Int} : dTruth (.int i) = .ok (i != 0) := rfl
theorem joinN_one : ∀ l : List Nat, joinN (l.map fun c => S [c]) = l
  | [] => rfl
  | c :: l => by
    show [c] ++ joinN (l.map fun c => S [c]) = _
    rw [joinN_one l]; rfl
theorem sum_one : ∀ l : List Nat, ((l.map fun c => S [c]).map (·.length)).sum = l.length
  | [] => rfl
  | c :: l => by
    rw [List.map_cons, List.map_cons, List.sum_cons, sum_one l, S_len, List.length_cons, List.length_cons]
    show 0 + 1 + l.length = l.length + 1
    omega
/-- joining signs -/
theorem o_join {l : List Nat} (h : l.length ≤ 16777216) : dJoin0 (.list (l.map one')) = .ok (.str (S l)) := by
  have e : l.map one' = (l.map fun c => S [c]).map PyData.str := by rw [List.map_map]; rfl
  show (strsD (l.map one')).bind _ = _
  rw [e, strs_map, R.bind_ok, sum_one, if_pos h, joinN_one]
theorem o_nil : dJoin0 (.list []) = .ok (.str (S [])) := rfl
/-- an item of a text at a place that it has -/
theorem atI_nn {α : Type} {l : List α} {i : Nat} {c : α} (h : l[i]? = some c) : atI l (i : Int) = some c := by
  have hl : i < l.length := (List.getElem?_eq_some_iff.mp h).1
  unfold L2.atI L2.ixN
  rw [if_pos (by omega), if_pos (by omega)]
  exact h
theorem o_ixS {l : List Nat} {i : Nat} {c : Nat} (hs : l.length ≤ 16777216) (h : l[i]? = some c) : dIdx (.str (S l)) (.int (i : Int)) = .ok (.str (S [c])) := by
  unfold dIdx
  dsimp only
  rw [if_pos (sz_ok hs)]
  rw [atI_nn h]
theorem o_ixL {l : List D} {i : Nat} {c : D} (h : l[i]? = some c) : dIdx (.list l) (.int (i : Int)) = .ok c := by
  unfold dIdx
  dsimp only
  rw [atI_nn h]
theorem o_ixT {l : List D} {i : Nat} {c : D} (h : l[i]? = some c) : dIdx (.tuple l) (.int (i : Int)) = .ok c := by
  unfold dIdx
  dsimp only
  rw [atI_nn h]
/-! ### letters -/
def L6 : List Nat := [97, 65, 98, 66, 99, 67]
def inv (c : Nat) : Nat := if c < 97 then c + 32 else c - 32
abbrev one (c : Nat) : D := one' c
theorem L6_all {P : Nat → Prop} (h : P 97 ∧ P 65 ∧ P 98 ∧ P 66 ∧ P 99 ∧ P 67) : ∀ c ∈ L6, P c := by
  obtain ⟨h1, h2, h3, h4, h5, h6⟩ := h
  intro c hc
  simp only [L6, List.mem_cons, List.not_mem_nil, or_false] at hc
  rcases hc with rfl | rfl | rfl | rfl | rfl | rfl <;> assumption
theorem inv_mem : ∀ c ∈ L6, inv c ∈ L6 := L6_all (by decide)
theorem inv_inv : ∀ c ∈ L6, inv (inv c) = c := L6_all (by decide)
theorem inv_ne : ∀ c ∈ L6, inv c ≠ c := L6_all (by decide)
theorem inv_inj {a b : Nat} (ha : a ∈ L6) (hb : b ∈ L6) (h : inv a = inv b) : a = b := by rw [← inv_inv a ha, h, inv_inv b hb]
abbrev Wd (w : List Nat) : Prop := ∀ c ∈ w, c ∈ L6
end DW

end
end
section
set_option Elab.async false
set_option linter.all false
set_option maxRecDepth 100000
set_option maxHeartbeats 4000000
/-! what a mirror comes to, by wishes -/
noncomputable section
namespace DW
open PySem L2
open SX (S S_tl S_len S_cat)
section
variable {α β : Type} {r : R α} {f : α → R β} {Q Q' : α → Prop} {Qb : β → Prop} {E E' : Exn → Prop} {P P' : Prop}
/-- of a result: a value with Q, or an error with E; picks only where P -/
def RP0 {α : Type} (P : Prop) (r : R α) (Q : α → Prop) (E : Exn → Prop) : Prop := R.rec (motive := fun _ => Prop) False (fun a => Q a) (fun e => E e) (fun _ ih => P ∧ ∀ n, n < top1000 → ih n) r
abbrev NoE : Exn → Prop := fun _ => False
theorem RP0_ok {a : α} : RP0 P (.ok a) Q E = Q a := rfl
theorem RP0_err {e : Exn} : RP0 P (.err e : R α) Q E = E e := rfl
theorem RP0_stuck : RP0 P (.stuck : R α) Q E = False := rfl
theorem RP0_pick {k : Nat → R α} : RP0 P (.pick k) Q E = (P ∧ ∀ n, n < top1000 → RP0 P (k n) Q E) := rfl
theorem RP0_bind : RP0 P (r.bind f) Qb E = RP0 P r (fun a => RP0 P (f a) Qb E) E := by
  induction r with
  | pick k ih => exact congrArg (And P) (forall_congr fun n => forall_congr fun _ => ih n)
  | _ => rfl
theorem RP0_quiet : RP0 P r.quiet Q E = RP0 P r Q NoE := by
  induction r with
  | pick k ih => exact congrArg (And P) (forall_congr fun n => forall_congr fun _ => ih n)
  | _ => rfl
theorem RP0.mono (h : RP0 P r Q E) (hp : P → P') (hq : ∀ a, Q a → Q' a) (he : ∀ e, E e → E' e) : RP0 P' r Q' E' := by
  induction r with
  | stuck => exact h
  | ok a => exact hq a h
  | err e => exact he e h
  | pick k ih => exact ⟨hp h.1, fun n hn => ih n (h.2 n hn)⟩
theorem RP0.imp (h : RP0 P r Q E) (hq : ∀ a, Q a → Q' a) (he : ∀ e, E e → E' e) : RP0 P r Q' E' := h.mono id hq he
/-- of a result without errors -/
theorem RP0.le (h : RP0 P r Q NoE) (hp : P → P') (hq : ∀ a, Q a → Q' a) : RP0 P' r Q' E' := h.mono hp hq fun _ z => z.elim
theorem RP0.and {Q2 : α → Prop} {E2 : Exn → Prop} (h : RP0 P r Q E) (h2 : RP0 P r Q2 E2) : RP0 P r (fun a => Q a ∧ Q2 a) (fun e => E e ∧ E2 e) := by
  induction r with
  | stuck => exact h
  | ok a => exact ⟨h, h2⟩
  | err e => exact ⟨h, h2⟩
  | pick k ih => exact ⟨h.1, fun n hn => ih n (h.2 n hn) (h2.2 n hn)⟩
theorem RP0_ite {c : Prop} [Decidable c] {a b : R α} : RP0 P (if c then a else b) Q E = ((c → RP0 P a Q E) ∧ (¬c → RP0 P b Q E)) := by
  by_cases h : c
  · rw [if_pos h]; exact propext ⟨fun x => ⟨fun _ => x, fun z => absurd h z⟩, fun x => x.1 h⟩
  · rw [if_neg h]; exact propext ⟨fun x => ⟨fun z => absurd z h, fun _ => x⟩, fun x => x.2 h⟩
theorem RP0_sure : RP0 P r.sure Q E = RP0 False r Q NoE := by
  cases r with
  | pick k => exact propext ⟨fun h => h.elim, fun h => h.1.elim⟩
  | _ => rfl
theorem RP0_of {a : α} (h : r = .ok a) : RP0 P r Q E = Q a := by rw [h]; rfl
theorem RP0_ofE {e : Exn} (h : r = .err e) : RP0 P r Q E = E e := by rw [h]; rfl
/-- from a wish to an equation -/
theorem eq_ok0 {a : α} (h : RP0 False r (fun b => b = a) NoE) : r = .ok a := by
  cases r with
  | ok b => exact congrArg R.ok h
  | err e => exact h.elim
  | stuck => exact h.elim
  | pick k => exact h.1.elim
theorem eq_err0 {e : Exn} (h : RP0 False r (fun _ => False) (fun d => d = e)) : r = .err e := by
  cases r with
  | ok b => exact h.elim
  | err d => exact congrArg R.err h
  | stuck => exact h.elim
  | pick k => exact h.1.elim
theorem ex_ok0 (h : RP0 False r Q NoE) : ∃ a, r = .ok a ∧ Q a := by
  cases r with
  | ok b => exact ⟨b, rfl, h⟩
  | err e => exact h.elim
  | stuck => exact h.elim
  | pick k => exact h.1.elim
end
/-- what is wished at the ends of a statement -/
structure Ways where
  p : Prop
  n : En → Prop
  t : D → Prop
  l : List D → Prop
  b : En → Prop
  c : En → Prop
  e : Exn → En → Prop
def OP0 (o : O) (w : Ways) : Prop := O.rec (motive := fun _ => Prop) (fun ρ => w.n ρ) (fun d => w.t d) (fun ds => w.l ds) (fun ρ => w.b ρ) (fun ρ => w.c ρ) (fun e ρ => w.e e ρ) False (fun _ ih => w.p ∧ ∀ n, n < top1000 → ih n) o
section
variable {α : Type} {o : O} {w w' : Ways} {ρ : En} {d : D} {r : R α} {f : α → O} {g : MS} {P : Prop}
theorem OP0_nx : OP0 (.nx ρ) w = w.n ρ := rfl
theorem OP0_rt : OP0 (.rt d) w = w.t d := rfl
theorem OP0_rto {ds : List D} : OP0 (.rto ds) w = w.l ds := rfl
theorem OP0_bk : OP0 (.bk ρ) w = w.b ρ := rfl
theorem OP0_ct : OP0 (.ct ρ) w = w.c ρ := rfl
theorem OP0_err {e : Exn} : OP0 (.err e ρ) w = w.e e ρ := rfl
theorem OP0_stuck : OP0 .stuck w = False := rfl
theorem OP0_pick {k : Nat → O} : OP0 (.pick k) w = (w.p ∧ ∀ n, n < top1000 → OP0 (k n) w) := rfl
theorem OP0_of : OP0 (O.of r ρ f) w = RP0 w.p r (fun a => OP0 (f a) w) (fun e => w.e e ρ) := by
  induction r with
  | pick k ih => exact congrArg (And w.p) (forall_congr fun n => forall_congr fun _ => ih n)
  | _ => rfl
theorem OP0_lf {h : O → O} (w2 : Ways) (hp : w.p = w2.p) (hs : ∀ o', (∀ k, o' ≠ .pick k) → OP0 (h o') w = OP0 o' w2) : OP0 (O.lf h o) w = OP0 o w2 := by
  induction o with
  | pick k ih =>
    have e : (∀ n, n < top1000 → OP0 (O.lf h (k n)) w) = (∀ n, n < top1000 → OP0 (k n) w2) := forall_congr fun n => forall_congr fun _ => ih n
    show (w.p ∧ (∀ n, n < top1000 → OP0 (O.lf h (k n)) w)) = (w2.p ∧ (∀ n, n < top1000 → OP0 (k n) w2))
    rw [hp, e]
  | nx ρ => exact hs (.nx ρ) (fun _ z => nomatch z)
  | rt ρ => exact hs (.rt ρ) (fun _ z => nomatch z)
  | rto ρ => exact hs (.rto ρ) (fun _ z => nomatch z)
  | bk ρ => exact hs (.bk ρ) (fun _ z => nomatch z)
  | ct ρ => exact hs (.ct ρ) (fun _ z => nomatch z)
  | err e ρ => exact hs (.err e ρ) (fun _ z => nomatch z)
  | stuck => exact hs .stuck (fun _ z => nomatch z)
theorem OP0_thn : OP0 (o.thn g) w = OP0 o ⟨w.p, fun ρ => OP0 (g ρ) w, w.t, w.l, w.b, w.c, w.e⟩ := OP0_lf ⟨w.p, fun ρ => OP0 (g ρ) w, w.t, w.l, w.b, w.c, w.e⟩ rfl fun o' np => by
  cases o' with
  | pick k => exact absurd rfl (np k)
  | _ => rfl
/-- behind a turn of a loop -/
theorem OP0_lp : OP0 (o.lp g) w = OP0 o ⟨w.p, fun ρ => OP0 (g ρ) w, w.t, w.l, w.n, fun ρ => OP0 (g ρ) w, w.e⟩ := OP0_lf ⟨w.p, fun ρ => OP0 (g ρ) w, w.t, w.l, w.n, fun ρ => OP0 (g ρ) w, w.e⟩ rfl fun o' np => by
  cases o' with
  | pick k => exact absurd rfl (np k)
  | _ => rfl
theorem OP0.mono (h : OP0 o w) (hp : w.p → w'.p) (hn : ∀ ρ, w.n ρ → w'.n ρ) (ht : ∀ d, w.t d → w'.t d) (hl : ∀ d, w.l d → w'.l d) (hb : ∀ ρ, w.b ρ → w'.b ρ) (hc : ∀ ρ, w.c ρ → w'.c ρ) (he : ∀ e ρ, w.e e ρ → w'.e e ρ) : OP0 o w' := by
  induction o with
  | nx ρ => exact hn _ h
  | rt d => exact ht _ h
  | rto d => exact hl _ h
  | bk ρ => exact hb _ h
  | ct ρ => exact hc _ h
  | err e ρ => exact he _ _ h
  | stuck => exact h
  | pick k ih => exact ⟨hp h.1, fun n z => ih n (h.2 n z)⟩
theorem OP0_ite {c : Prop} [Decidable c] {a b : O} : OP0 (if c then a else b) w = ((c → OP0 a w) ∧ (¬c → OP0 b w)) := by
  by_cases h : c
  · rw [if_pos h]; exact propext ⟨fun x => ⟨fun _ => x, fun z => absurd h z⟩, fun x => x.1 h⟩
  · rw [if_neg h]; exact propext ⟨fun x => ⟨fun z => absurd z h, fun _ => x⟩, fun x => x.2 h⟩
/-- the end of a def -/
theorem RP0_fin {Q : D → Prop} {E : Exn → Prop} : RP0 P (fin o) Q E = OP0 o ⟨P, fun _ => Q .none, Q, fun _ => False, fun _ => False, fun _ => False, fun e _ => E e⟩ := by
  induction o with
  | pick k ih => exact congrArg (And P) (forall_congr fun n => forall_congr fun _ => ih n)
  | _ => rfl
theorem RP0_finN {Q : List D → Prop} {E : Exn → Prop} : RP0 P (finN o) Q E = OP0 o ⟨P, fun _ => False, fun _ => False, Q, fun _ => False, fun _ => False, fun e _ => E e⟩ := by
  induction o with
  | pick k ih => exact congrArg (And P) (forall_congr fun n => forall_congr fun _ => ih n)
  | _ => rfl
theorem yes_RP0 {r : R D} (h : RP0 True r (fun d => d = .bool true) NoE) : r.yes := by
  induction r with
  | pick k ih => exact fun n hn => ih n (h.2 n hn)
  | _ => exact h
/-- tries -/
theorem OP0_tryN {cs : List Clause} {body : MS} : OP0 (sTryN cs body ρ) w = OP0 (body (clean ρ)) ⟨w.p, fun ρ => w.n (clean ρ), w.t, w.l, fun ρ => w.b (clean ρ), fun ρ => w.c (clean ρ), fun e ρ => OP0 (hdl cs e ρ) w⟩ := OP0_lf ⟨w.p, fun ρ => w.n (clean ρ), w.t, w.l, fun ρ => w.b (clean ρ), fun ρ => w.c (clean ρ), fun e ρ => OP0 (hdl cs e ρ) w⟩ rfl fun o' np => by
  cases o' with
  | pick k => exact absurd rfl (np k)
  | _ => rfl
theorem OP0_tryAs {x : Str} {i : Nat} {sub : Str → Option Bool} {body suite : MS} : OP0 (sTryAs x i sub body suite ρ) w = OP0 (body (clean ρ)) ⟨w.p, fun ρ => w.n (clean ρ), w.t, w.l, fun ρ => w.b (clean ρ), fun ρ => w.c (clean ρ), fun e ρ => OP0 (hdlAs i sub suite e ρ) w⟩ := OP0_lf ⟨w.p, fun ρ => w.n (clean ρ), w.t, w.l, fun ρ => w.b (clean ρ), fun ρ => w.c (clean ρ), fun e ρ => OP0 (hdlAs i sub suite e ρ) w⟩ rfl fun o' np => by
  cases o' with
  | pick k => exact absurd rfl (np k)
  | _ => rfl
theorem OP0_endS : OP0 (endS o) w = OP0 o ⟨w.p, fun ρ => w.n (clean ρ), w.t, w.l, fun ρ => w.b (clean ρ), fun ρ => w.c (clean ρ), fun _ _ => False⟩ := OP0_lf ⟨w.p, fun ρ => w.n (clean ρ), w.t, w.l, fun ρ => w.b (clean ρ), fun ρ => w.c (clean ρ), fun _ _ => False⟩ rfl fun o' np => by
  cases o' with
  | pick k => exact absurd rfl (np k)
  | _ => rfl
theorem OP0_endI {i : Nat} : OP0 (endI i o) w = OP0 o ⟨w.p, fun ρ => w.n (clean (ρ.set i none)), w.t, w.l, fun ρ => w.b (clean (ρ.set i none)), fun ρ => w.c (clean (ρ.set i none)), fun _ _ => False⟩ := OP0_lf ⟨w.p, fun ρ => w.n (clean (ρ.set i none)), w.t, w.l, fun ρ => w.b (clean (ρ.set i none)), fun ρ => w.c (clean (ρ.set i none)), fun _ _ => False⟩ rfl fun o' np => by
  cases o' with
  | pick k => exact absurd rfl (np k)
  | _ => rfl
theorem hdl_t {x : Str} {sub : Str → Option Bool} {su : MS} {cs : List Clause} {e : Exn} (h : sub e.1 = some true) : hdl ((x, sub, su) :: cs) e ρ = endS (su (clean ρ)) := by
  show (match sub e.1 with | some true => endS (su (clean ρ)) | some false => hdl cs e ρ | none => .stuck) = _
  rw [h]
theorem hdl_f {x : Str} {sub : Str → Option Bool} {su : MS} {cs : List Clause} {e : Exn} (h : sub e.1 = some false) : hdl ((x, sub, su) :: cs) e ρ = hdl cs e ρ := by
  show (match sub e.1 with | some true => endS (su (clean ρ)) | some false => hdl cs e ρ | none => .stuck) = _
  rw [h]
theorem hdl_nil {e : Exn} : hdl [] e ρ = .err e (clean ρ) := rfl
theorem hdlAs_t {i : Nat} {sub : Str → Option Bool} {su : MS} {e : Exn} (h : sub e.1 = some true) : hdlAs i sub su e ρ = endI i (su ((clean ρ).set i (some (.exc e.1 e.2)))) := by
  unfold hdlAs
  rw [h]
theorem hdlAs_f {i : Nat} {sub : Str → Option Bool} {su : MS} {e : Exn} (h : sub e.1 = some false) : hdlAs i sub su e ρ = .err e (clean ρ) := by
  unfold hdlAs
  rw [h]
end

/-! the same, not seen through -/
structure RP {α : Type} (P : Prop) (r : R α) (Q : α → Prop) (E : Exn → Prop) : Prop where mk :: (out : RP0 P r Q E)
structure OP (o : O) (w : Ways) : Prop where mk :: (out : OP0 o w)
theorem RP_eq0 {α : Type} {P : Prop} {r : R α} {Q : α → Prop} {E : Exn → Prop} : RP P r Q E = RP0 P r Q E := propext ⟨RP.out, RP.mk⟩
theorem OP_eq0 {o : O} {w : Ways} : OP o w = OP0 o w := propext ⟨OP.out, OP.mk⟩
section
variable {α β : Type} {r : R α} {f : α → R β} {Q Q' : α → Prop} {Qb : β → Prop} {E E' : Exn → Prop} {P P' : Prop}
theorem RP_ok {a : α} : RP P (.ok a) Q E = Q a := RP_eq0
theorem RP_err {e : Exn} : RP P (.err e : R α) Q E = E e := RP_eq0
theorem RP_stuck : RP P (.stuck : R α) Q E = False := RP_eq0
theorem RP_pick {k : Nat → R α} : RP P (.pick k) Q E = (P ∧ ∀ n, n < top1000 → RP P (k n) Q E) := by simp only [RP_eq0]; exact RP0_pick
theorem RP_bind : RP P (r.bind f) Qb E = RP P r (fun a => RP P (f a) Qb E) E := by simp only [RP_eq0]; exact RP0_bind
theorem RP_quiet : RP P r.quiet Q E = RP P r Q NoE := by simp only [RP_eq0]; exact RP0_quiet
theorem RP.mono (h : RP P r Q E) (hp : P → P') (hq : ∀ a, Q a → Q' a) (he : ∀ e, E e → E' e) : RP P' r Q' E' := ⟨h.out.mono hp hq he⟩
theorem RP.imp (h : RP P r Q E) (hq : ∀ a, Q a → Q' a) (he : ∀ e, E e → E' e) : RP P r Q' E' := h.mono id hq he
theorem RP.le (h : RP P r Q NoE) (hp : P → P') (hq : ∀ a, Q a → Q' a) : RP P' r Q' E' := h.mono hp hq fun _ z => z.elim
theorem RP.and {Q2 : α → Prop} {E2 : Exn → Prop} (h : RP P r Q E) (h2 : RP P r Q2 E2) : RP P r (fun a => Q a ∧ Q2 a) (fun e => E e ∧ E2 e) := ⟨h.out.and h2.out⟩
theorem RP_ite {c : Prop} [Decidable c] {a b : R α} : RP P (if c then a else b) Q E = ((c → RP P a Q E) ∧ (¬c → RP P b Q E)) := by simp only [RP_eq0]; exact RP0_ite
theorem RP_sure : RP P r.sure Q E = RP False r Q NoE := by simp only [RP_eq0]; exact RP0_sure
theorem RP_of {a : α} (h : r = .ok a) : RP P r Q E = Q a := by rw [h]; exact RP_ok
theorem RP_ofE {e : Exn} (h : r = .err e) : RP P r Q E = E e := by rw [h]; exact RP_err
theorem eq_ok {a : α} (h : RP False r (fun b => b = a) NoE) : r = .ok a := eq_ok0 h.out
theorem eq_err {e : Exn} (h : RP False r (fun _ => False) (fun d => d = e)) : r = .err e := eq_err0 h.out
theorem ex_ok (h : RP False r Q NoE) : ∃ a, r = .ok a ∧ Q a := ex_ok0 h.out
end
section
variable {α : Type} {o : O} {w w' : Ways} {ρ : En} {d : D} {r : R α} {f : α → O} {g : MS} {P : Prop}
theorem OP_nx : OP (.nx ρ) w = w.n ρ := OP_eq0
theorem OP_rt : OP (.rt d) w = w.t d := OP_eq0
theorem OP_rto {ds : List D} : OP (.rto ds) w = w.l ds := OP_eq0
theorem OP_bk : OP (.bk ρ) w = w.b ρ := OP_eq0
theorem OP_ct : OP (.ct ρ) w = w.c ρ := OP_eq0
theorem OP_err {e : Exn} : OP (.err e ρ) w = w.e e ρ := OP_eq0
theorem OP_stuck : OP .stuck w = False := OP_eq0
theorem OP_pick {k : Nat → O} : OP (.pick k) w = (w.p ∧ ∀ n, n < top1000 → OP (k n) w) := by simp only [OP_eq0]; exact OP0_pick
theorem OP_of : OP (O.of r ρ f) w = RP w.p r (fun a => OP (f a) w) (fun e => w.e e ρ) := by simp only [RP_eq0, OP_eq0]; exact OP0_of
theorem OP_thn : OP (o.thn g) w = OP o ⟨w.p, fun ρ => OP (g ρ) w, w.t, w.l, w.b, w.c, w.e⟩ := by simp only [OP_eq0]; exact OP0_thn
theorem OP_lp : OP (o.lp g) w = OP o ⟨w.p, fun ρ => OP (g ρ) w, w.t, w.l, w.n, fun ρ => OP (g ρ) w, w.e⟩ := by simp only [OP_eq0]; exact OP0_lp
theorem OP.mono (h : OP o w) (hp : w.p → w'.p) (hn : ∀ ρ, w.n ρ → w'.n ρ) (ht : ∀ d, w.t d → w'.t d) (hl : ∀ d, w.l d → w'.l d) (hb : ∀ ρ, w.b ρ → w'.b ρ) (hc : ∀ ρ, w.c ρ → w'.c ρ) (he : ∀ e ρ, w.e e ρ → w'.e e ρ) : OP o w' := ⟨h.out.mono hp hn ht hl hb hc he⟩
theorem OP_ite {c : Prop} [Decidable c] {a b : O} : OP (if c then a else b) w = ((c → OP a w) ∧ (¬c → OP b w)) := by simp only [OP_eq0]; exact OP0_ite
theorem RP_fin {Q : D → Prop} {E : Exn → Prop} : RP P (fin o) Q E = OP o ⟨P, fun _ => Q .none, Q, fun _ => False, fun _ => False, fun _ => False, fun e _ => E e⟩ := by simp only [RP_eq0, OP_eq0]; exact RP0_fin
theorem RP_finN {Q : List D → Prop} {E : Exn → Prop} : RP P (finN o) Q E = OP o ⟨P, fun _ => False, fun _ => False, Q, fun _ => False, fun _ => False, fun e _ => E e⟩ := by simp only [RP_eq0, OP_eq0]; exact RP0_finN
theorem yes_RP {r : R D} (h : RP True r (fun d => d = .bool true) NoE) : r.yes := yes_RP0 h.out
theorem OP_tryN {cs : List Clause} {body : MS} : OP (sTryN cs body ρ) w = OP (body (clean ρ)) ⟨w.p, fun ρ => w.n (clean ρ), w.t, w.l, fun ρ => w.b (clean ρ), fun ρ => w.c (clean ρ), fun e ρ => OP (hdl cs e ρ) w⟩ := by simp only [OP_eq0]; exact OP0_tryN
theorem OP_tryAs {x : Str} {i : Nat} {sub : Str → Option Bool} {body suite : MS} : OP (sTryAs x i sub body suite ρ) w = OP (body (clean ρ)) ⟨w.p, fun ρ => w.n (clean ρ), w.t, w.l, fun ρ => w.b (clean ρ), fun ρ => w.c (clean ρ), fun e ρ => OP (hdlAs i sub suite e ρ) w⟩ := by simp only [OP_eq0]; exact OP0_tryAs
theorem OP_endS : OP (endS o) w = OP o ⟨w.p, fun ρ => w.n (clean ρ), w.t, w.l, fun ρ => w.b (clean ρ), fun ρ => w.c (clean ρ), fun _ _ => False⟩ := by simp only [OP_eq0]; exact OP0_endS
theorem OP_endI {i : Nat} : OP (endI i o) w = OP o ⟨w.p, fun ρ => w.n (clean (ρ.set i none)), w.t, w.l, fun ρ => w.b (clean (ρ.set i none)), fun ρ => w.c (clean (ρ.set i none)), fun _ _ => False⟩ := by simp only [OP_eq0]; exact OP0_endI
theorem e_loop_nil' {g : D → En → R En} {b : MS} : mLoop g b [] ρ = .nx ρ := rfl
/-- a for loop, by what holds behind the first turns -/
theorem OP_loop {g : D → En → R En} {b : MS} {ds : List D} (I : Nat → En → Prop) (h0 : I 0 ρ)
    (turn : ∀ k d ρ, ds[k]? = some d → I k ρ → ∃ ρ1, g d ρ = .ok ρ1 ∧ OP (b ρ1) ⟨w.p, I (k + 1), w.t, w.l, w.n, I (k + 1), w.e⟩) (hend : ∀ ρ, I ds.length ρ → w.n ρ) : OP (mLoop g b ds ρ) w := by
  have main : ∀ (es : List D) (k : Nat) (ρ : En), k ≤ ds.length → ds.drop k = es → I k ρ → OP (mLoop g b es ρ) w := by
    intro es
    induction es with
    | nil =>
      intro k ρ hk e h
      have := congrArg List.length e
      rw [List.length_drop, List.length_nil] at this
      have : k = ds.length := by omega
      subst this
      rw [e_loop_nil', OP_nx]; exact hend ρ h
    | cons d es ih =>
      intro k ρ hk' e h
      have hk : ds[k]? = some d := by
        have := congrArg (fun l => l[0]?) e
        simpa using this
      have hlt : k < ds.length := (List.getElem?_eq_some_iff.mp hk).1
      obtain ⟨ρ1, e1, h1⟩ := turn k d ρ hk h
      have e2 : mLoop g b (d :: es) ρ = (b ρ1).lp (mLoop g b es) := by
        show O.of (g d ρ).sure ρ (fun ρ1 => (b ρ1).lp (mLoop g b es)) = _
        rw [e1]
        rfl
      have e3 : ds.drop (k + 1) = es := by
        have := congrArg List.tail e
        rw [List.tail_drop] at this
        exact this
      rw [e2, OP_lp]
      exact h1.mono id (fun ρ z => ih (k + 1) ρ hlt e3 z) (fun _ z => z) (fun _ z => z) (fun _ z => z) (fun ρ z => ih (k + 1) ρ hlt e3 z) (fun _ _ z => z)
  exact main ds 0 ρ (Nat.zero_le _) rfl h0
/-- the same with a plain name -/
theorem OP_for {i : Nat} {b : MS} {ds : List D} (I : Nat → En → Prop) (h0 : I 0 ρ)
    (turn : ∀ k d ρ, ds[k]? = some d → I k ρ → OP (b (ρ.set i (some (.sh d)))) ⟨w.p, I (k + 1), w.t, w.l, w.n, I (k + 1), w.e⟩) (hend : ∀ ρ, I ds.length ρ → w.n ρ) : OP (mLoop (gN i) b ds ρ) w :=
  OP_loop I h0 (fun k d ρ h1 h2 => ⟨_, rfl, turn k d ρ h1 h2⟩) hend
/-- a while loop, by a measure -/
theorem OP_while {t : MT} {b : MS} : ∀ {n : Nat} {ρ : En} (m : Nat) (I : Nat → En → Prop), m < n → I m ρ →
    (∀ k ρ, I k ρ → RP w.p (t ρ) (fun c => (c = false → w.n ρ) ∧ (c = true → 0 < k ∧ OP (b ρ) ⟨w.p, fun ρ => ∃ j, j < k ∧ I j ρ, w.t, w.l, w.n, fun ρ => ∃ j, j < k ∧ I j ρ, w.e⟩)) (fun e => w.e e ρ)) → OP (mWhile t b n ρ) w
  | 0, _, m, _, h, _, _ => by omega
  | n + 1, ρ, m, I, h, h0, turn => by
    rw [e_while, OP_of]
    refine (turn m ρ h0).imp (fun c hc => ?_) fun e he => he
    cases c with
    | false => rw [if_neg (by decide), OP_nx]; exact hc.1 rfl
    | true =>
      rw [if_pos rfl, OP_lp]
      obtain ⟨_, h2⟩ := hc.2 rfl
      exact h2.mono id (fun ρ ⟨j, hj, hI⟩ => OP_while j I (by omega) hI turn) (fun _ z => z) (fun _ z => z) (fun _ z => z) (fun ρ ⟨j, hj, hI⟩ => OP_while j I (by omega) hI turn) (fun _ _ z => z)
end
section
variable {ρ : En} {ds : List D}
theorem e_gT {n : Nat} {gs : List D → En → R En} : gT n gs (.tuple ds) ρ = if ds.length = n then gs ds ρ else .stuck := rfl
theorem e_gTL {n : Nat} {gs : List D → En → R En} : gT n gs (.list ds) ρ = if ds.length = n then gs ds ρ else .stuck := rfl
theorem e_gsC {g : D → En → R En} {gs : List D → En → R En} {d : D} : gsC g gs (d :: ds) ρ = (g d ρ).bind (gs ds) := rfl
theorem e_gsN : gsN [] ρ = .ok ρ := rfl
theorem e_next : m1 (fun d => .ok d) (fun _ => .pick fun n => .ok (.int (n : Int))) ρ = .pick fun n => .ok (.int (n : Int)) := rfl
theorem e_callR0 {i n : Nat} {f : List D → R D} {r : MA} : mCallR 0 n f r (some .rnd :: ρ) = (r (some .rnd :: ρ)).bind fun ds => if ds.length = n then f ds else .stuck := rfl
theorem e_callN {n : Nat} {f : List D → R (List D)} {r : MA} : mCallN n f r ρ = (r ρ).bind fun ds => if ds.length = n then f ds else .stuck := rfl
/-- what stands in a slot, in ways that simp can go -/
def ownAt {α : Type} (y : α) (f : List D → α) : Option (Option SD) → α
  | some (some (.own ds)) => f ds
  | _ => y
def rndAt {α : Type} (y x : α) : Option (Option SD) → α
  | some (some .rnd) => x
  | _ => y
def excAt {α : Type} (y : α) (f : Str → List (Str × D) → α) : Option (Option SD) → α
  | some (some (.exc n fs)) => f n fs
  | _ => y
def someD {α β : Type} (y : β) (f : α → β) : Option α → β
  | some d => f d
  | none => y
def caseB {α : Type} (y x1 x0 : α) : Option Bool → α
  | some true => x1
  | some false => x0
  | none => y
def intD {α : Type} (y : α) (f : Int → α) : D → α
  | .int z => f z
  | _ => y
theorem ownAt_own {α : Type} {y : α} {f : List D → α} : ownAt y f (some (some (.own ds))) = f ds := rfl
theorem rndAt_rnd {α : Type} {y x : α} : rndAt y x (some (some .rnd)) = x := rfl
theorem excAt_exc {α : Type} {y : α} {f : Str → List (Str × D) → α} {n : Str} {fs : List (Str × D)} : excAt y f (some (some (.exc n fs))) = f n fs := rfl
theorem someD_some {α β : Type} {y : β} {f : α → β} {d : α} : someD y f (some d) = f d := rfl
theorem caseB_t {α : Type} {y x1 x0 : α} : caseB y x1 x0 (some true) = x1 := rfl
theorem caseB_f {α : Type} {y x1 x0 : α} : caseB y x1 x0 (some false) = x0 := rfl
theorem intD_int {α : Type} {y : α} {f : Int → α} {z : Int} : intD y f (.int z) = f z := rfl
theorem e_callR {i n : Nat} {f : List D → R D} {r : MA} : mCallR i n f r ρ = rndAt .stuck ((r ρ).bind fun ds => if ds.length = n then f ds else .stuck) ρ[i]? := by
  unfold mCallR rndAt
  generalize ρ[i]? = q
  rcases q with _ | _ | (_ | _ | _ | _) <;> rfl
theorem e_callX {i : Nat} {f : Str → List (Str × D) → R D} : mCallX i f ρ = excAt .stuck f ρ[i]? := by
  unfold mCallX excAt
  generalize ρ[i]? = q
  rcases q with _ | _ | (_ | _ | _ | _) <;> rfl
theorem e_isX {i : Nat} {isx : Str → Option Bool} : mIsX i isx ρ = excAt .stuck (fun n _ => someD .stuck (fun b => .ok (.bool b)) (isx n)) ρ[i]? := by
  unfold mIsX excAt someD
  generalize ρ[i]? = q
  rcases q with _ | _ | (_ | _ | ⟨n, fs⟩ | _)
  case some.some.exc => dsimp only; cases isx n <;> rfl
  all_goals rfl
theorem e_xf {i : Nat} {x f : Str} : mXf i x f ρ = excAt .stuck (fun n fs => match fs with | (g, d) :: _ => if n = x ∧ g = f then .ok d else .stuck | _ => .stuck) ρ[i]? := by
  unfold mXf
  generalize ρ[i]? = q
  match q with
  | some (some (.exc n ((g, d) :: fs))) => rfl
  | some (some (.exc n [])) => rfl
  | some (some (.sh _)) => rfl
  | some (some (.own _)) => rfl
  | some (some .rnd) => rfl
  | some none => rfl
  | none => rfl
theorem e_sNext {i : Nat} : sNext i ρ = rndAt .stuck (.pick fun n => .rt (.int (n : Int))) ρ[i]? := by
  unfold sNext rndAt
  generalize ρ[i]? = q
  rcases q with _ | _ | (_ | _ | _ | _) <;> rfl
theorem e_sApp {i : Nat} {m : ME} : sApp i m ρ = ownAt .stuck (fun ds => O.of (m ρ) ρ fun d => if ds.length < sizeLine then .nx (ρ.set i (some (.own (ds ++ [d])))) else .stuck) ρ[i]? := by
  unfold sApp ownAt
  generalize ρ[i]? = q
  rcases q with _ | _ | (_ | _ | _ | _) <;> rfl
theorem e_sPop {i : Nat} : sPop i ρ = ownAt .stuck (fun ds => someD .stuck (fun _ => .nx (ρ.set i (some (.own ds.dropLast)))) ds[ds.length - 1]?) ρ[i]? := by
  unfold sPop ownAt someD
  generalize ρ[i]? = q
  rcases q with _ | _ | (_ | ds | _ | _)
  case some.some.own => dsimp only; cases ds[ds.length - 1]? <;> rfl
  all_goals rfl
theorem e_sRev {i : Nat} : sRev i ρ = ownAt .stuck (fun ds => .nx (ρ.set i (some (.own ds.reverse)))) ρ[i]? := by
  unfold sRev ownAt
  generalize ρ[i]? = q
  rcases q with _ | _ | (_ | _ | _ | _) <;> rfl
theorem e_sRetOwn {i : Nat} : sRetOwn i ρ = ownAt .stuck (fun ds => .rto ds) ρ[i]? := by
  unfold sRetOwn ownAt
  generalize ρ[i]? = q
  rcases q with _ | _ | (_ | _ | _ | _) <;> rfl
theorem e_sExt {i : Nat} {r : MA} : sExt i r ρ = ownAt .stuck (fun ds => O.of (r ρ) ρ fun es => if ds.length + es.length ≤ sizeLine then .nx (ρ.set i (some (.own (ds ++ es)))) else .stuck) ρ[i]? := by
  unfold sExt ownAt
  generalize ρ[i]? = q
  rcases q with _ | _ | (_ | _ | _ | _) <;> rfl
theorem e_sGive {i : Nat} {x : MS} : sGive i x ρ = ownAt .stuck (fun ds => if smallD ds = true ∧ ds.length ≤ sizeLine then x (ρ.set i (some .rnd)) else .stuck) ρ[i]? := by
  unfold sGive ownAt
  generalize ρ[i]? = q
  rcases q with _ | _ | (_ | _ | _ | _) <;> rfl
theorem e_sSetIx {i : Nat} {mi mv : ME} : sSetIx i mi mv ρ = O.of (mv ρ) ρ fun d => ownAt .stuck (fun ds => O.of (mi ρ) ρ fun k => intD .stuck (fun z => someD .stuck (fun n => .nx (ρ.set i (some (.own (ds.set n d))))) (L2.ixN ds.length z)) k) ρ[i]? := by
  unfold sSetIx
  congr 1
  funext d
  unfold ownAt
  generalize ρ[i]? = q
  rcases q with _ | _ | (_ | ds | _ | _)
  case some.some.own =>
    dsimp only
    congr 1
    funext k
    cases k with
    | int z => dsimp only [intD]; cases L2.ixN ds.length z <;> rfl
    | _ => rfl
  all_goals rfl
theorem e_sPopTo {i j : Nat} : sPopTo j i ρ = sPopTo j i ρ := rfl
theorem e_hdl {x : Str} {sub : Str → Option Bool} {su : MS} {cs : List Clause} {e : Exn} : hdl ((x, sub, su) :: cs) e ρ = caseB .stuck (endS (su (clean ρ))) (hdl cs e ρ) (sub e.1) := by
  show (match sub e.1 with | some true => endS (su (clean ρ)) | some false => hdl cs e ρ | none => .stuck) = _
  unfold caseB
  rcases sub e.1 with _ | (_ | _) <;> rfl
theorem e_hdlAs {i : Nat} {sub : Str → Option Bool} {su : MS} {e : Exn} : hdlAs i sub su e ρ = caseB .stuck (endI i (su ((clean ρ).set i (some (.exc e.1 e.2))))) (.err e (clean ρ)) (sub e.1) := by
  unfold hdlAs caseB
  rcases sub e.1 with _ | (_ | _) <;> rfl
theorem wipe_nil : wipeD ρ [] = ρ := rfl
theorem wipe_cons {v : Nat} {vs : List Nat} : wipeD ρ (v :: vs) = (wipeD ρ vs).set v none := rfl
theorem clean_nil : clean [] = [] := rfl
theorem clean_sh {d : D} : clean (some (.sh d) :: ρ) = some (.sh d) :: clean ρ := rfl
theorem clean_no : clean (none :: ρ) = none :: clean ρ := rfl
theorem clean_own : clean (some (.own ds) :: ρ) = some (.own ds) :: clean ρ := rfl
end
theorem cst0 : ((0 : Nat) : Int) = 0 := rfl
theorem cst1 : ((1 : Nat) : Int) = 1 := rfl
theorem cst2 : ((2 : Nat) : Int) = 2 := rfl
theorem cst3 : ((3 : Nat) : Int) = 3 := rfl
theorem cst4 : ((4 : Nat) : Int) = 4 := rfl
theorem cst5 : ((5 : Nat) : Int) = 5 := rfl
theorem cst6 : ((6 : Nat) : Int) = 6 := rfl
theorem cst7 : ((7 : Nat) : Int) = 7 := rfl
theorem cst8 : ((8 : Nat) : Int) = 8 := rfl
theorem cst9 : ((9 : Nat) : Int) = 9 := rfl
theorem cst10 : ((10 : Nat) : Int) = 10 := rfl
theorem cst11 : ((11 : Nat) : Int) = 11 := rfl
theorem cst12 : ((12 : Nat) : Int) = 12 := rfl
section
variable {ρ : En} {r : MA}
theorem e_iEnumS : iEnumS r ρ = (r ρ).bind dEnum := rfl
theorem e_iZipS : iZipS r ρ = (r ρ).bind dZip := rfl
theorem o_enum {ds : List D} : dEnum [.list ds] = .ok (enumD 0 ds) := rfl
theorem o_zipL {ds es : List D} : dZip [.list ds, .list es] = .ok (zipD ds es) := rfl
theorem o_zipT {ds es : List D} : dZip [.tuple ds, .tuple es] = .ok (zipD ds es) := rfl
theorem e_sRaise1 {x f : Str} {m : ME} : sRaise1 x f m ρ = O.of (m ρ) ρ fun d => .err (x, [(f, d)]) ρ := rfl
theorem e_sPar {i j : Nat} : sPar i j r ρ = O.of (r ρ) ρ fun ds => match ds with
  | [d, e] => .nx ((ρ.set i (some (.sh d))).set j (some (.sh e)))
  | _ => .stuck := rfl
theorem e_sPar3 {i j l : Nat} : sPar3 i j l r ρ = O.of (r ρ) ρ fun ds => match ds with
  | [d, e, f] => .nx (((ρ.set i (some (.sh d))).set j (some (.sh e))).set l (some (.sh f)))
  | _ => .stuck := rfl
end
theorem o_addT {a b : List D} : dAdd (.tuple a) (.tuple b) = if a.length + b.length ≤ sizeLine then .ok (.tuple (a ++ b)) else .stuck := rfl
theorem o_slT {l : List D} {lo hi : Option Int} (h : ¬ (HT.sIx l.length 0 lo = 0 ∧ HT.sIx l.length l.length hi = l.length)) : dSl (.tuple l) lo hi = .ok (.tuple (cutG l lo hi)) := if_pos h
theorem o_isBB {a b : Bool} : dIsB (.bool a) (.bool b) = .ok (.bool (decide (a = b))) := rfl
theorem o_notBB {a b : Bool} : dNotB (.bool a) (.bool b) = .ok (.bool (!decide (a = b))) := rfl
end DW

end
end
section
set_option Elab.async false
set_option linter.all false
set_option maxRecDepth 100000
set_option maxHeartbeats 4000000
noncomputable section
namespace DW
open PySem PySem.Spec PyProof.Rows L2
/-! ### comprehensions whose items are drawn -/
def lcP (g : D → En → R En) (mt : MT) (m : ME) (ρ : En) : List D → List D → R (List D)
  | acc, [] => .ok acc
  | acc, d :: ds => (g d ρ).sure.bind fun ρ1 => (mt ρ1).sure.bind fun k => if k then (m ρ1).quiet.bind fun y => lcP g mt m ρ (acc ++ [y]) ds else lcP g mt m ρ acc ds
def mLcP (vs : List Nat) (mi : MA) (g : D → En → R En) (mt : MT) (m : ME) : MA := fun ρ => (mi ρ).bind fun ds => if ds.length ≤ sizeLine then lcP g mt m (wipeD (clean ρ) vs) [] ds else .stuck
theorem PostN.elt {α β : Type} {rel : Hp → β → α → Prop} {K : PySem.W.Frag} {mg : Str → Option Value} {md : Bool} {r : R α} {f : α → R (List D)} {Q : VK} {E : XK} {H H0 H' H0' : Hp} (h : PostN K mg H H0 (r.quiet.bind f) Q E) :
    Post rel K mg md H' H0' r (fun v H5 => ∃ y H05, Fr H' H0' H5 H05 ∧ rel (bif md then H05 else H5) v y ∧ PostN K mg H H0 (f y) Q E) (fun _ _ _ => False) := by
  induction r with
  | stuck => exact h
  | ok d => exact fun v H5 H05 f5 x => ⟨d, H05, f5, x, h⟩
  | err e => exact False.elim h
  | pick k ih => exact fun n hn => ih n (h n hn)
section
variable {X : Cx} {W : WX} {md : Bool} {e a b c : Expr} {t ta tb tc te : TE} {m ma mb mc : ME} {pos : Pos} {st : Stmt} {sts rest : List Stmt} {s u : TS} {ms mu : MS}
theorem ev_lcP {elt tg iter : Expr} {ifs : List Expr} {scope : Scope} {vs sl : List Nat} {wi : TI} {mi : MA} {g : TG} {mt : D → En → R En} {tt : TT} {mtt : MT} (hi : BI X W tg iter wi mi) (hvs : ∀ j ∈ sl, j ∈ vs)
    (hg : ∀ (s : Shared) (H : Hp) (C : Addr) (cl : List (Str × Addr)) (fp : List Addr), BG (X.blk s H scope (compEnvC scope cl C X.env) fp) tg g sl mt) (ht : ∀ (s : Shared) (H : Hp) (C : Addr) (cl : List (Str × Addr)) (fp : List Addr), BTs (X.blk s H scope (compEnvC scope cl C X.env) fp) W0 ifs tt mtt)
    (he : ∀ (s : Shared) (H : Hp) (C : Addr) (cl : List (Str × Addr)) (fp : List Addr), BE (X.blk s H scope (compEnvC scope cl C X.env) fp) W0 true elt te m) :
    ∀ Hs H0s σ H H0 ρ Q, Rel X.K (excOf X) Hs H0s σ H H0 ρ → PostN X.K X.mg H H0 (mLcP vs mi mt mtt m ρ) Q (WE W σ) → tLc wi g tt te vs σ H Q := by
  intro Hs H0s σ H H0 ρ Q rl p
  have hg := hg X.s_0 X.H_0 0 [] []
  have ht := ht X.s_0 X.H_0 0 [] []
  have he := he X.s_0 X.H_0 0 [] []
  refine hi.ev Hs H0s σ H H0 ρ _ rl ?_
  unfold mLcP at p
  generalize mi ρ = r at p
  induction r with
  | stuck => exact p
  | pick k ih => exact fun n hn => ih n (p n hn)
  | err z => exact p
  | ok ds =>
    have p : PostN X.K X.mg H H0 (if ds.length ≤ sizeLine then lcP mt mtt m (wipeD (clean ρ) vs) [] ds else .stuck) Q (WE W σ) := p
    split at p
    · rename_i hsz
      intro J H1 H01 f1 w1 LD hLD
      have nD : H LD = none := f1.ex.free hLD
      have nDs : Hs LD = none := rl.fr.ex.free nD
      have rlw : Rel X.K EA.none Hs H0s (L2.wipe σ vs) H1 H01 (wipeD (clean ρ) vs) := Rel.wipe (Rel.clean (rl.step f1)) vs
      have ownD : ∀ (j : Nat) (es : List D), (wipeD (clean ρ) vs)[j]? = some (some (.own es)) → (L2.wipe σ vs)[j]? = some (some (.ref LD)) → False := fun j es e1 e2 => by
        obtain ⟨q', ws, a1, a2, a3, a4, a5⟩ := rlw.own j es e1
        rw [e2] at a1
        injection a1 with a1; injection a1 with a1; injection a1 with a1
        rw [← a1, hLD] at a4
        cases a4
      refine ⟨fun i k H' => i + k = ds.length ∧ ∃ H0' ws ys, Rel X.K EA.none Hs H0s (L2.wipe σ vs) H' H0' (wipeD (clean ρ) vs) ∧ Same H01 H0' ∧ Fr H H0 H' H0' ∧ H0' LD = none ∧ H' LD = some (.lst ws) ∧ DpAll X.K H0' ws ys ∧ ys.length ≤ i ∧ PostN X.K X.mg H H0 (lcP mt mtt m (wipeD (clean ρ) vs) ys (ds.drop i)) Q (WE W σ),
        ⟨ds.length, by omega, H01, [], [], rlw.loose nDs (f1.sb.free hLD) ownD, Same.refl _, f1.trans (Fr.loose f1.sb hLD), f1.sb.free hLD, upd_same, .nil, Nat.le_refl _, p⟩, ?_⟩
      rintro i k H2 ⟨ek, H02, ws, ys, rl2, s2, f2, n2, hw, hys, hly, hz⟩
      obtain ⟨wS, wG⟩ := w1 i H2 H02 s2 f2.sb
      cases k with
      | zero =>
        have e1 : ds.drop i = [] := List.drop_eq_nil_of_le (by omega)
        rw [e1] at hz
        have hz : ∀ p vs H' H0', Fr H H0 H' H0' → H p = none → H0' p = none → H' p = some (.lst vs) → DpAll X.K H0' vs ys → Q (.ref p) H' := hz
        exact .inl ⟨wS (by omega), hz LD ws H2 H02 f2 nD n2 hw hys⟩
      | succ k =>
        have hi' : i < ds.length := by omega
        have e1 : ds.drop i = ds[i] :: ds.drop (i + 1) := List.drop_eq_getElem_cons hi'
        rw [e1] at hz
        obtain ⟨go, yl⟩ := wG ds[i] (List.getElem?_eq_getElem hi')
        refine .inr ⟨go, fun H' => i + 1 + k = ds.length ∧ ∃ H0' ws ys, Rel X.K EA.none Hs H0s (L2.wipe σ vs) H' H0' (wipeD (clean ρ) vs) ∧ Same H01 H0' ∧ Fr H H0 H' H0' ∧ H0' LD = none ∧ H' LD = some (.lst ws) ∧ DpAll X.K H0' ws ys ∧ ys.length ≤ i + 1 ∧ PostN X.K X.mg H H0 (lcP mt mtt m (wipeD (clean ρ) vs) ys (ds.drop (i + 1))) Q (WE W σ), fun H' h => ⟨k, Nat.lt_succ_self k, h⟩, fun x H3 y => ?_⟩
        obtain ⟨H03, f3, x3⟩ := yl x H3 y
        have hLL2 : H2 LD ≠ none := by rw [hw]; simp
        have n3 : H03 LD = none := f3.ow LD n2 hLL2
        have hw3 := f3.ex _ _ hw
        unfold lcP at hz
        cases z1 : (mt ds[i] (wipeD (clean ρ) vs)) with
        | stuck => rw [z1] at hz; exact False.elim hz
        | err _ => rw [z1] at hz; exact False.elim hz
        | pick _ => rw [z1] at hz; exact False.elim hz
        | ok ρ1 =>
          rw [z1, R.sure_ok, R.bind_ok] at hz
          refine hg.ev Hs H0s (L2.wipe σ vs) H3 H03 _ x _ ρ1 _ (rl2.step f3) x3 z1 fun σ3 rl3 ag => ⟨wipe_ag ag hvs, ?_⟩
          refine ht.ev Hs H0s σ3 H3 H03 ρ1 _ rl3 (Post.sure (E := fun _ _ _ => False) ?_)
          cases z2 : (mtt ρ1).sure with
          | stuck => rw [z2] at hz; exact False.elim hz
          | err _ => cases z5 : mtt ρ1 <;> rw [z5] at z2 <;> cases z2
          | pick _ => cases z5 : mtt ρ1 <;> rw [z5] at z2 <;> cases z2
          | ok kk =>
            rw [z2, R.bind_ok] at hz
            intro bb H4 H04 f4 xb
            have xb : bb = kk := xb
            subst xb
            have f34 := f3.trans f4
            have n4 : H04 LD = none := f34.ow LD n2 hLL2
            have hw4 := f34.ex _ _ hw
            cases bb with
            | false =>
              rw [if_neg (by decide)] at hz ⊢
              exact ⟨by omega, H04, ws, ys, rl2.step f34, (s2.trans f3.ez).trans f4.ez, f2.trans f34, n4, hw4, dpAll_mono f34.ez _ _ hys, by omega, hz⟩
            | true =>
              rw [if_pos rfl] at hz ⊢
              refine he.ev Hs H0s σ3 H4 H04 ρ1 _ (rl3.step f4) ((PostN.elt (rel := Dp X.K) (md := true) (H' := H4) (H0' := H04) hz).imp ?_)
              rintro v5 H5 ⟨y1, H05, f5, x5, hz5⟩
              have f35 := f34.trans f5
              have n5 : H05 LD = none := f35.ow LD n2 hLL2
              have hw5 := f35.ex _ _ hw
              have hlen : ws.length < sizeLine := by
                rw [DpAll.length hys]
                omega
              refine ⟨ws, hw5, hlen, by omega, H05, ws ++ [v5], ys ++ [y1], (rl2.step f35).loose nDs n5 ownD, (s2.trans f3.ez).trans (f4.ez.trans f5.ez), ?_, n5, upd_same, DpAll.append (dpAll_mono f35.ez _ _ hys) (.cons x5 .nil), by rw [List.length_append]; exact Nat.succ_le_succ hly, hz5⟩
              have ff := f2.trans f35
              refine ⟨fun b x q => ?_, ff.ez, fun b x q => ?_, ff.ow⟩
              · have : b ≠ LD := fun z => by rw [z, nD] at q; cases q
                rw [upd_ne this]; exact ff.ex b x q
              · have : b ≠ LD := fun z => by rw [z, n5] at q; cases q
                rw [upd_ne this]; exact ff.sb b x q
    · exact False.elim p
theorem bn_lcP {elt tg iter : Expr} {ifs : List Expr} {scope : Scope} {own : List (Str × Nat)} {sl : List Nat} {wi : TI} {mi : MA} {mt : D → En → R En} {mtt : MT} (hc : X.calm = true) (hN : X.N.Nodup) (hi : BI X W tg iter wi mi) (ok : BlkOk X.N X.env.scope scope own) (hvs : ∀ j ∈ sl, j ∈ own.map (·.2))
    (hg : ∀ (s : Shared) (H : Hp) (C : Addr) (cl : List (Str × Addr)) (fp : List Addr), ∃ g, BG (X.blk s H scope (compEnvC scope cl C X.env) fp) tg g sl mt) (ht : ∀ (s : Shared) (H : Hp) (C : Addr) (cl : List (Str × Addr)) (fp : List Addr), ∃ tt, BTs (X.blk s H scope (compEnvC scope cl C X.env) fp) W0 ifs tt mtt)
    (he : ∀ (s : Shared) (H : Hp) (C : Addr) (cl : List (Str × Addr)) (fp : List Addr), ∃ te, BE (X.blk s H scope (compEnvC scope cl C X.env) fp) W0 true elt te m) (hs : ∀ x, foldedSetIterable iter X.env x = pure x := by intro _; rfl) :
    BN X W (.ListComp elt [⟨tg, iter, ifs, 0⟩] scope pos) (tLc wi (TG0 X.K EA.none sl mt) (TT0 X.K X.mg EA.none W0 mtt) (TE0 X.K X.mg EA.none W0 true m) (own.map (·.2))) (mLcP (own.map (·.2)) mi mt mtt m) :=
  have hg := fun s H C cl fp => (hg s H C cl fp).elim fun _ h => h.canon
  have ht := fun s H C cl fp => (ht s H C cl fp).elim fun _ h => h.canon
  have he := fun s H C cl fp => (he s H C cl fp).elim fun _ h => h.canon
  ⟨pe_lc hc hN hi.pe ok (fun s H C cl fp => (hg s H C cl fp).pe) (fun s H C cl fp => (ht s H C cl fp).pe) (fun s H C cl fp => (he s H C cl fp).pe) hs, ev_lcP hi hvs hg ht he⟩
theorem bl_lcP {i : Nat} {y : Str} {py spos : Pos} {elt tg iter : Expr} {ifs : List Expr} {scope : Scope} {own : List (Str × Nat)} {sl : List Nat} {wi : TI} {mi : MA} {mt : D → En → R En} {mtt : MT} (hc : X.calm = true) (hN : X.N.Nodup) (hy : X.N[i]? = some y) (hyl : X.env.scope.names.lookup y = some .local)
    (hsw : swapsWith (.ListComp elt [⟨tg, iter, ifs, 0⟩] scope pos) (some (.Name y py)) spos.line X.env = pure true) (hi : BI X W tg iter wi mi) (ok : BlkOk X.N X.env.scope scope own) (hvs : ∀ j ∈ sl, j ∈ own.map (·.2))
    (hg : ∀ (s : Shared) (H : Hp) (C : Addr) (cl : List (Str × Addr)) (fp : List Addr), ∃ g, BG (X.blk s H scope (compEnvC scope cl C X.env) fp) tg g sl mt) (ht : ∀ (s : Shared) (H : Hp) (C : Addr) (cl : List (Str × Addr)) (fp : List Addr), ∃ tt, BTs (X.blk s H scope (compEnvC scope cl C X.env) fp) W0 ifs tt mtt)
    (he : ∀ (s : Shared) (H : Hp) (C : Addr) (cl : List (Str × Addr)) (fp : List Addr), ∃ te, BE (X.blk s H scope (compEnvC scope cl C X.env) fp) W0 true elt te m) (hs : ∀ x, foldedSetIterable iter X.env x = pure x := by intro _; rfl) :
    BL X W (.Assign [.Name y py] (.ListComp elt [⟨tg, iter, ifs, 0⟩] scope pos) spos) i (tLc wi (TG0 X.K EA.none sl mt) (TT0 X.K X.mg EA.none W0 mtt) (TE0 X.K X.mg EA.none W0 true m) (own.map (·.2))) (mLcP (own.map (·.2)) mi mt mtt m) :=
  have hg := fun s H C cl fp => (hg s H C cl fp).elim fun _ h => h.canon
  have ht := fun s H C cl fp => (ht s H C cl fp).elim fun _ h => h.canon
  have he := fun s H C cl fp => (he s H C cl fp).elim fun _ h => h.canon
  ⟨ps_setLc hc hN hy hyl hsw hi.pe ok (fun s H C cl fp => (hg s H C cl fp).pe) (fun s H C cl fp => (ht s H C cl fp).pe) (fun s H C cl fp => (he s H C cl fp).pe) hs, ev_lcP hi hvs hg ht he⟩
end
end DW

end
end
section
set_option Elab.async false
set_option linter.all false
set_option maxRecDepth 100000
set_option maxHeartbeats 4000000
noncomputable section
namespace DW
open PySem PySem.Spec PyProof.Rows L2
/-! ### range that goes down -/
def rangeD (hi lo : Int) : List D := (List.range (hi - lo).toNat).map fun (k : Nat) => PyData.int (hi - (k : Int))
def dRange3 : List D → R (List D)
  | [.int i, .int j, .int c] => if small i && small j && decide (c = -1) then .ok (rangeD i j) else .stuck
  | _ => .stuck
def iRange3 (r : MA) : MA := fun ρ => (r ρ).bind dRange3
theorem walks_rangeD {K : PySem.W.Frag} {Hb : Hp} (hi lo : Int) : Walks K (Itc hi (-1) (hi - lo).toNat) (rangeD hi lo) Hb := by
  intro i H' H0' s1 s2
  have hl : (rangeD hi lo).length = (hi - lo).toNat := by unfold rangeD; rw [List.length_map, List.length_range]
  refine ⟨fun hi => by show _ ≤ i; omega, fun d hd => ?_⟩
  have hi' : i < (hi - lo).toNat := by rw [← hl]; exact (List.getElem?_eq_some_iff.mp hd).1
  refine ⟨hi', fun y H'' hy => ?_⟩
  obtain ⟨rfl, rfl⟩ := hy
  unfold rangeD at hd
  rw [List.getElem?_map, List.getElem?_range hi'] at hd
  cases hd
  have e : hi - (i : Int) = hi + (i : Int) * (-1) := by omega
  refine ⟨H0', .refl s2, ?_⟩
  show Dp K H0' (V.int (hi + (i : Int) * (-1))) (PyData.int (hi - (i : Int)))
  rw [e]
  exact .int _
section
variable {X : Cx} {W : WX} {a b c : Expr}
theorem bi_range3 {tg : Expr} {p pos : Pos} {tr : TA} {mr : MA} (hg : Gl X "range") (hm : X.mg "range" = none) (ha : BA X W false [a, b, c] tr mr) (hs : starEach [a, b, c] X.env = (false, eval a X.env) :: starEach [b, c] X.env := by rfl) (hpl : (backTo pos (starEach [b, c] X.env)).any (·.1) = false := by rfl) :
    BI X W tg (.Call (.Name "range" p) [a, b, c] [] pos) (iRng3 tr) (iRange3 mr) := by
  refine ⟨pi_range3 hg hm ha.pe hs hpl, fun Hs H0s σ H H0 ρ Rk rl p => ha.ev Hs H0s σ H H0 ρ _ rl ((PostI.ofL p).imp ?_)⟩
  rintro v H1 ⟨ds, H01, _, f1, x1, p1⟩
  unfold dRange3 at p1
  split at p1
  · cases x1 with
    | cons y1 y2 =>
      cases y2 with
      | cons y3 y4 =>
        cases y4 with
        | cons y5 y6 =>
          cases y6
          cases y1
          cases y3
          cases y5
          rename_i i j c
          split at p1
          · rename_i hh
            have hh := (Bool.and_eq_true_iff.mp hh)
            have hc := of_decide_eq_true hh.2
            have hh := (Bool.and_eq_true_iff.mp hh.1)
            have h1 := small_of hh.1
            have h2 := small_of hh.2
            subst hc
            exact ⟨i, j, -1, _, rfl, RgC.neg h1.1 h1.2 h2.1 h2.2, p1 _ H1 H01 (.refl f1.sb) (walks_rangeD i j)⟩
          · exact False.elim p1
  · exact False.elim p1
end
theorem e_iRange3 {r : MA} {ρ : En} : iRange3 r ρ = (r ρ).bind dRange3 := rfl
theorem rgD_nat {n : Nat} {j : Int} (h : n ≤ 1000) (hj : -1 ≤ j) (hj2 : j ≤ 1000) : dRange3 [.int ((n : Int) - 1), .int j, .int (-1)] = .ok ((List.range ((n : Int) - 1 - j).toNat).map fun (k : Nat) => PyData.int ((n : Int) - 1 - (k : Int))) := by
  have h1 : small ((n : Int) - 1) = true := by unfold small; exact decide_eq_true (by constructor <;> omega)
  have h2 : small j = true := by unfold small; exact decide_eq_true (by constructor <;> omega)
  unfold dRange3
  dsimp only
  rw [h1, h2]
  rfl
end DW

end
end
section
set_option Elab.async false
set_option linter.all false
set_option maxRecDepth 100000
set_option autoImplicit false
set_option maxHeartbeats 4000000
noncomputable section
namespace Law
open PySem DW L2
open SX (S S_tl S_len S_cat)
def rstep (st : List Nat) (c : Nat) : List Nat := match st with
  | t :: s => if t = inv c then s else c :: t :: s
  | [] => [c]
theorem rstep_cut {t c : Nat} {s : List Nat} (e : t = inv c) : rstep (t :: s) c = s := if_pos e
theorem rstep_add {t c : Nat} {s : List Nat} (e : ¬ t = inv c) : rstep (t :: s) c = c :: t :: s := if_neg e
def redS (st cs : List Nat) : List Nat := cs.foldl rstep st
def red (w : List Nat) : List Nat := (redS [] w).reverse
def invw (w : List Nat) : List Nat := w.reverse.map inv
theorem redS_cons (st : List Nat) (c : Nat) (cs : List Nat) : redS st (c :: cs) = redS (rstep st c) cs := rfl
theorem redS_app (st a b : List Nat) : redS st (a ++ b) = redS (redS st a) b := List.foldl_append
theorem rstep_len (st : List Nat) (c : Nat) : (rstep st c).length ≤ st.length + 1 := by
  unfold rstep
  split
  · split
    · rw [List.length_cons]; omega
    · rw [List.length_cons, List.length_cons]; omega
  · rw [List.length_cons]; omega
theorem redS_len : ∀ (cs st : List Nat), (redS st cs).length ≤ st.length + cs.length
  | [], st => Nat.le_refl _
  | c :: cs, st => by
    have := redS_len cs (rstep st c)
    have := rstep_len st c
    rw [redS_cons, List.length_cons]
    omega
theorem red_len (w : List Nat) : (red w).length ≤ w.length := by
  have := redS_len w []
  unfold red
  rw [List.length_reverse]
  simpa using this
theorem rstep_wd {st : List Nat} {c : Nat} (h : Wd st) (hc : c ∈ L6) : Wd (rstep st c) := by
  unfold rstep
  split
  · split
    · exact fun x hx => h x (List.mem_cons_of_mem _ hx)
    · exact fun x hx => (List.mem_cons.mp hx).elim (fun e => e ▸ hc) (h x)
  · exact fun x hx => (List.mem_cons.mp hx).elim (fun e => e ▸ hc) (h x)
theorem redS_wd : ∀ {cs st : List Nat}, Wd st → Wd cs → Wd (redS st cs)
  | [], _, h, _ => h
  | c :: cs, st, h, hc => redS_wd (cs := cs) (rstep_wd h (hc c List.mem_cons_self)) fun x hx => hc x (List.mem_cons_of_mem _ hx)
theorem nil_wd : Wd [] := fun _ h => nomatch h
theorem red_wd {w : List Nat} (h : Wd w) : Wd (red w) := fun c hc => redS_wd nil_wd h c (List.mem_reverse.mp hc)
theorem invw_wd {w : List Nat} (h : Wd w) : Wd (invw w) := fun c hc => by
  obtain ⟨d, hd, e⟩ := List.mem_map.mp hc
  rw [← e]
  exact inv_mem d (h d (List.mem_reverse.mp hd))
theorem invw_len (w : List Nat) : (invw w).length = w.length := by unfold invw; rw [List.length_map, List.length_reverse]
theorem invw_invw {w : List Nat} (h : Wd w) : invw (invw w) = w := by
  unfold invw
  rw [← List.map_reverse, List.reverse_reverse, List.map_map]
  conv => rhs; rw [← List.map_id w]
  exact List.map_congr_left fun c hc => inv_inv c (h c hc)
theorem invw_app (a b : List Nat) : invw (a ++ b) = invw b ++ invw a := by unfold invw; rw [List.reverse_append, List.map_append]
theorem app_wd {a b : List Nat} (ha : Wd a) (hb : Wd b) : Wd (a ++ b) := fun c hc => (List.mem_append.mp hc).elim (ha c) (hb c)
/-- no two neighbours cut each other -/
def Irr : List Nat → Prop
  | a :: b :: r => b ≠ inv a ∧ Irr (b :: r)
  | _ => True
theorem Irr.tail {a : Nat} {r : List Nat} (h : Irr (a :: r)) : Irr r := by
  cases r with
  | nil => trivial
  | cons b r => exact h.2
theorem rstep_irr {st : List Nat} {c : Nat} (h : Irr st) : Irr (rstep st c) := by
  unfold rstep
  split
  · split
    · exact h.tail
    · rename_i hne
      exact ⟨hne, h⟩
  · trivial
theorem redS_irr : ∀ {cs st : List Nat}, Irr st → Irr (redS st cs)
  | [], _, h => h
  | c :: cs, st, h => redS_irr (cs := cs) (rstep_irr h)
/-- a stack that is reduced takes a letter and its inverse as nothing -/
theorem rstep_pair {st : List Nat} {c : Nat} (h : Irr st) (hs : Wd st) (hc : c ∈ L6) : rstep (rstep st c) (inv c) = st := by
  cases st with
  | nil => exact rstep_cut (inv_inv c hc).symm
  | cons t s =>
    by_cases e : t = inv c
    · rw [rstep_cut e, ← e]
      cases s with
      | nil => rfl
      | cons u v => exact rstep_add h.1
    · rw [rstep_add e]
      exact rstep_cut (inv_inv c hc).symm
/-- reduction does not see a pair that is cut -/
theorem redS_pair {st a b : List Nat} {c : Nat} (h : Irr st) (hs : Wd st) (ha : Wd a) (hc : c ∈ L6) : redS st (a ++ c :: inv c :: b) = redS st (a ++ b) := by
  rw [redS_app, redS_app, redS_cons, redS_cons, rstep_pair (redS_irr h) (redS_wd hs ha) hc]
/-- a word pushed onto a stack, then its inverse -/
theorem redS_invw : ∀ (w st : List Nat), Irr st → Wd st → Wd w → redS (redS st w) (invw w) = st
  | [], st, _, _, _ => rfl
  | c :: w, st, h, hs, hw => by
    have hc := hw c List.mem_cons_self
    have hw' : Wd w := fun x hx => hw x (List.mem_cons_of_mem _ hx)
    have e : invw (c :: w) = invw w ++ [inv c] := by unfold invw; rw [List.reverse_cons, List.map_append]; rfl
    rw [e, redS_cons, redS_app, redS_invw w (rstep st c) (rstep_irr h) (rstep_wd hs hc) hw']
    exact rstep_pair h hs hc
/-- a reduced word is pushed as it is, if it meets no inverse -/
theorem redS_of_irr : ∀ (w st : List Nat), Irr (w.reverse ++ st) → (∀ c ∈ w, c ∈ L6) → Wd st → redS st w = w.reverse ++ st
  | [], st, _, _, _ => rfl
  | c :: w, st, h, hw, hs => by
    have hc := hw c List.mem_cons_self
    have e1 : (c :: w).reverse ++ st = w.reverse ++ (c :: st) := by rw [List.reverse_cons, List.append_assoc]; rfl
    rw [e1] at h ⊢
    have hst : rstep st c = c :: st := by
      cases st with
      | nil => rfl
      | cons t s =>
        have hI : ∀ (a b : List Nat), Irr (a ++ b) → Irr b := fun a => by
          induction a with
          | nil => exact fun b h => h
          | cons x a ih => exact fun b h => ih b (Irr.tail h)
        have h2 : Irr (c :: t :: s) := hI w.reverse _ h
        show (if t = inv c then s else c :: t :: s) = _
        rw [if_neg h2.1]
    rw [redS_cons, hst]
    exact redS_of_irr w (c :: st) h (fun x hx => hw x (List.mem_cons_of_mem _ hx)) fun x hx => (List.mem_cons.mp hx).elim (fun e => e ▸ hc) (hs x)
/-- reducing again changes nothing -/
theorem red_red {w : List Nat} (h : Wd w) : red (red w) = red w := by
  have hi : Irr (redS [] w) := redS_irr trivial
  unfold red
  have := redS_of_irr (redS [] w).reverse [] (by rw [List.reverse_reverse, List.append_nil]; exact hi) (fun c hc => redS_wd nil_wd h c (List.mem_reverse.mp hc)) nil_wd
  rw [this, List.reverse_reverse, List.append_nil]
/-- cuts do not change the reduced form -/
theorem red_pair {a b : List Nat} {c : Nat} (ha : Wd a) (hc : c ∈ L6) : red (a ++ c :: inv c :: b) = red (a ++ b) := by
  unfold red
  rw [redS_pair (st := []) trivial nil_wd ha hc]
theorem red_invw {w : List Nat} (h : Wd w) : red (w ++ invw w) = [] := by
  unfold red
  rw [redS_app, redS_invw w [] trivial nil_wd h]
  rfl
theorem irr_of_red {w : List Nat} (h : red w = w) : Irr w.reverse := by
  have hi : Irr (redS [] w) := redS_irr trivial
  have e : (redS [] w).reverse = w := h
  rw [← e, List.reverse_reverse]
  exact hi
theorem occ_L6 : ∀ c ∈ L6, Builtin.Str.occurrences (S L6) (S [c]) 0 (S L6).length 1 = [L6.idxOf c] := L6_all ⟨by decide +kernel, by decide +kernel, by decide +kernel, by decide +kernel, by decide +kernel, by decide +kernel⟩
abbrev l6 : List Nat := [65, 97, 66, 98, 67, 99]
theorem l6_at : ∀ c ∈ L6, l6[L6.idxOf c]? = some (inv c) := L6_all (by decide)
theorem o_idxL6 {c : Nat} (h : c ∈ L6) : dIndexS (S L6) (one c) = .ok (.int ((L6.idxOf c : Nat) : Int)) := by
  show (match Builtin.Str.occurrences (S L6) (S [c]) 0 (S L6).length 1 with | i :: _ => R.ok (PyData.int (i : Nat)) | [] => R.stuck) = _
  rw [occ_L6 c h]
theorem o_invL6 {c : Nat} (h : c ∈ L6) : dIdx (.str (S l6)) (.int ((L6.idxOf c : Nat) : Int)) = .ok (one (inv c)) := o_ixS (by decide) (l6_at c h)
/-- the last of a list -/
theorem o_ixLast {l : List D} {d : D} : dIdx (.list (l ++ [d])) (.int (-1)) = .ok d := by
  unfold dIdx
  dsimp only
  rw [atI_last]
theorem ones_snoc (s : List Nat) (t : Nat) : (t :: s).reverse.map one = s.reverse.map one ++ [one t] := by rw [List.reverse_cons, List.map_append]; rfl
theorem one_eq {a b : Nat} : decide ([a] = [b]) = decide (a = b) := decide_eq_decide.mpr ⟨fun h => (List.cons.inj h).1, fun h => by rw [h]⟩
theorem ones_len (s : List Nat) : (s.map one).length = s.length := List.length_map ..
/-- the reading of a script's cell -/
def cellN (ns : List Int) (k : Nat) : Int := ns.getD k 0
/-- the letters of g generators -/
def lt (g : Int) : List Nat := L6.take (2 * g.toNat)
theorem lt_sub {g : Int} {c : Nat} (h : c ∈ lt g) : c ∈ L6 := List.mem_of_mem_take h
theorem lt_3 : lt 3 = L6 := by decide
theorem cut_lt {g : Int} (h1 : 1 ≤ g) (h2 : g ≤ 3) : cutG L6 none (some (2 * g)) = lt g := by
  have : g = 1 ∨ g = 2 ∨ g = 3 := by omega
  rcases this with rfl | rfl | rfl <;> decide
theorem lt_len {g : Int} (h1 : 1 ≤ g) (h2 : g ≤ 3) : ((lt g).length : Int) = 2 * g := by
  have : g = 1 ∨ g = 2 ∨ g = 3 := by omega
  rcases this with rfl | rfl | rfl <;> decide
abbrev okw (g : Int) (t : List Nat) : Bool := t.all fun c => decide (c ∈ lt g)
theorem okw_iff {g : Int} {t : List Nat} : okw g t = true ↔ ∀ c ∈ t, c ∈ lt g := by
  unfold okw
  rw [List.all_eq_true]
  exact ⟨fun h c hc => of_decide_eq_true (h c hc), fun h c hc => decide_eq_true (h c hc)⟩
theorem okw3 {t : List Nat} (h : Wd t) : okw 3 t = true := okw_iff.mpr fun c hc => by rw [lt_3]; exact h c hc
theorem o_slS {l : List Nat} {lo hi : Option Int} (h : l.length ≤ 16777216) : dSl (.str (S l)) lo hi = .ok (.str (S (cutG l lo hi))) := if_pos (sz_ok h)
theorem o_slL {l : List D} {lo hi : Option Int} : dSl (.list l) lo hi = .ok (.list (cutG l lo hi)) := rfl
theorem rg_int {z : Int} (h1 : -1000 ≤ z) (h2 : z ≤ 1000) : dRange1 [.int z] = .ok ((List.range z.toNat).map fun (k : Nat) => PyData.int (k : Int)) := by
  have h : small z = true := by
    unfold small
    exact decide_eq_true ⟨by omega, by omega⟩
  have e : rangeL 0 z = (List.range z.toNat).map fun (k : Nat) => PyData.int (k : Int) := by
    unfold rangeL
    rw [Int.sub_zero]
    exact List.map_congr_left fun k _ => by show PyData.int (0 + (k : Int)) = PyData.int (k : Int); rw [Int.zero_add]
  unfold dRange1
  simp only [h, e, if_true]
theorem cut_to {α : Type} {l : List α} {n : Nat} (h : n ≤ l.length) : cutG l none (some (n : Int)) = l.take n := by
  unfold cutG
  have e1 : HT.sIx l.length l.length (some (n : Int)) = min n l.length := HT.sIx_nat _ _ _
  have e0 : HT.sIx l.length 0 none = 0 := rfl
  rw [e1, e0, List.drop_zero, Nat.sub_zero, Nat.min_eq_left h]
theorem cut_from {α : Type} {l : List α} {n : Nat} (h : n ≤ l.length) : cutG l (some (n : Int)) none = l.drop n := by
  unfold cutG
  have e1 : HT.sIx l.length 0 (some (n : Int)) = min n l.length := HT.sIx_nat _ _ _
  have e0 : HT.sIx l.length l.length none = l.length := rfl
  rw [e1, e0, Nat.min_eq_left h]
  exact List.take_of_length_le (by rw [List.length_drop]; omega)
theorem lt_wd {g : Int} {w : List Nat} (h : ∀ x ∈ w, x ∈ lt g) : Wd w := fun x hx => lt_sub (h x hx)
theorem nat_of {z n : Int} (hn : 0 < n) : ∃ k : Nat, z % n = (k : Int) ∧ (k : Int) < n := ⟨(z % n).toNat, by have := Int.emod_nonneg z (show n ≠ 0 by omega); omega, by have := Int.emod_nonneg z (show n ≠ 0 by omega); have := Int.emod_lt_of_pos z hn; omega⟩
theorem cut_to' {α : Type} {l : List α} {n : Nat} : cutG l none (some (n : Int)) = l.take (min n l.length) := by
  unfold cutG
  have e1 : HT.sIx l.length l.length (some (n : Int)) = min n l.length := HT.sIx_nat _ _ _
  have e0 : HT.sIx l.length 0 none = 0 := rfl
  rw [e1, e0, List.drop_zero, Nat.sub_zero]
theorem o_neZ {z : Str} : dNe (.str z) (.str z) = .ok (.bool false) := by
  show R.ok (PyData.bool (!decide (z.cps.toList = z.cps.toList))) = _
  rw [decide_eq_true rfl]; rfl
theorem o_repB {b : Bool} : dRepr [.bool b] = .ok (.str (PyData.shown (.bool b))) := rfl
theorem o_isS {z : Str} : dIsT "str" (.str z) = .ok (.bool true) := rfl
theorem e_tryas_err {x : Str} {i : Nat} {sub : Str → Option Bool} {body suite : MS} {ρ ρ' : En} {e : Exn} {d : D} (h : body (clean ρ) = .err e ρ') (hs : sub e.1 = some true) (h2 : suite ((clean ρ').set i (some (.exc e.1 e.2))) = .rt d) : sTryAs x i sub body suite ρ = .rt d := by
  show O.lf (tryE (hdlAs i sub suite)) (body (clean ρ)) = _
  rw [h]
  show hdlAs i sub suite e ρ' = _
  unfold hdlAs
  rw [hs]
  show endI i (suite _) = _
  rw [h2]
  rfl
theorem lc_cons {i : Nat} {m : ME} {ρ : En} {d : D} {ds : List D} : lcLoop (gN i) mYes m ρ (d :: ds) = (m (ρ.set i (some (.sh d)))).sure.bind fun y => (lcLoop (gN i) mYes m ρ ds).bind fun ys => .ok (y :: ys) := rfl
theorem lc_nil {i : Nat} {m : ME} {ρ : En} : lcLoop (gN i) mYes m ρ [] = .ok [] := rfl
/-- a stack takes the reduced form of a word as the word itself -/
theorem rstep_rev {st s : List Nat} {c : Nat} (h : Irr st) (hs : Wd st) (hw : Wd s) (hc : c ∈ L6) : redS st (rstep s c).reverse = rstep (redS st s.reverse) c := by
  have push : redS st (c :: s).reverse = rstep (redS st s.reverse) c := by rw [List.reverse_cons, redS_app]; rfl
  cases s with
  | nil => exact push
  | cons t s =>
    by_cases e : t = inv c
    · have ht : t ∈ L6 := hw t List.mem_cons_self
      have ec : c = inv t := by rw [e, inv_inv c hc]
      have hw' : Wd s.reverse := fun x hx => hw x (List.mem_cons_of_mem _ (List.mem_reverse.mp hx))
      rw [rstep_cut e, List.reverse_cons, redS_app]
      show redS st s.reverse = rstep (rstep (redS st s.reverse) t) c
      rw [ec, rstep_pair (redS_irr h) (redS_wd hs hw') ht]
    · rw [rstep_add e]; exact push
theorem redS_rev : ∀ (cs s st : List Nat), Irr st → Wd st → Wd s → Wd cs → redS st (redS s cs).reverse = redS (redS st s.reverse) cs
  | [], s, st, _, _, _, _ => rfl
  | c :: cs, s, st, h, hs, hw, hc => by
    have c1 := hc c List.mem_cons_self
    rw [redS_cons, redS_rev cs (rstep s c) st h hs (rstep_wd hw c1) (fun x hx => hc x (List.mem_cons_of_mem _ hx)), rstep_rev h hs hw c1, redS_cons]
theorem irr_nil : Irr [] := trivial
theorem redS_red {st b : List Nat} (h : Irr st) (hs : Wd st) (hb : Wd b) : redS st (red b) = redS st b := by
  unfold red
  rw [redS_rev b [] st h hs nil_wd hb]
  rfl
theorem red_app_r {a b : List Nat} (ha : Wd a) (hb : Wd b) : red (a ++ red b) = red (a ++ b) := by
  have e : redS [] (a ++ red b) = redS [] (a ++ b) := by rw [redS_app, redS_app, redS_red (redS_irr irr_nil) (redS_wd nil_wd ha) hb]
  show (redS [] (a ++ red b)).reverse = (redS [] (a ++ b)).reverse
  rw [e]
theorem red_app_l {a b : List Nat} (ha : Wd a) : red (red a ++ b) = red (a ++ b) := by
  have e : redS [] (red a ++ b) = redS [] (a ++ b) := by rw [redS_app, redS_app, redS_red irr_nil nil_wd ha]
  show (redS [] (red a ++ b)).reverse = (redS [] (a ++ b)).reverse
  rw [e]
theorem repL_len (n : Nat) (w : List Nat) : (repL n w).length = n * w.length := by
  unfold repL
  induction n with
  | zero => rw [List.replicate_zero, List.flatten_nil, List.length_nil, Nat.zero_mul]
  | succ n ih => rw [List.replicate_succ, List.flatten_cons, List.length_append, ih, Nat.succ_mul, Nat.add_comm]
theorem repL_wd {n : Nat} {w : List Nat} (h : Wd w) : Wd (repL n w) := fun c hc => by
  unfold repL at hc
  obtain ⟨l, h1, h2⟩ := List.mem_flatten.mp hc
  rw [(List.mem_replicate.mp h1).2] at h2
  exact h c h2
theorem repL_add (n m : Nat) (w : List Nat) : repL (n + m) w = repL n w ++ repL m w := by
  unfold repL
  rw [← List.replicate_append_replicate, List.flatten_append]
theorem repL_one (w : List Nat) : repL 1 w = w := by
  unfold repL
  show w ++ [] = w
  rw [List.append_nil]
theorem repL_zero (w : List Nat) : repL 0 w = [] := rfl
def pw (e : Int) (w : List Nat) : List Nat := if e < 0 then red (repL (-e).toNat (invw w)) else red (repL e.toNat w)
theorem pw_nat {n : Nat} {w : List Nat} : pw (n : Int) w = red (repL n w) := by
  unfold pw
  rw [if_neg (by omega), Int.toNat_natCast]
theorem pw_add {n m : Nat} {w : List Nat} (hw : Wd w) : red (pw (n : Int) w ++ pw (m : Int) w) = pw ((n : Int) + (m : Int)) w := by
  have e : (n : Int) + (m : Int) = ((n + m : Nat) : Int) := by omega
  rw [e, pw_nat, pw_nat, pw_nat, red_app_l (repL_wd hw), red_app_r (repL_wd hw) (repL_wd hw), repL_add]
theorem pw_one {w : List Nat} : pw 1 w = red w := by
  have := pw_nat (n := 1) (w := w)
  rw [repL_one] at this
  exact this
theorem pw_zero {w : List Nat} : pw 0 w = [] := by
  have := pw_nat (n := 0) (w := w)
  rw [repL_zero] at this
  exact this
theorem pw_wd {e : Int} {w : List Nat} (hw : Wd w) : Wd (pw e w) := by
  unfold pw
  split
  · exact red_wd (repL_wd (invw_wd hw))
  · exact red_wd (repL_wd hw)

end Law

end
end
section
set_option Elab.async false
set_option linter.all false
set_option maxRecDepth 100000
set_option autoImplicit false
set_option maxHeartbeats 4000000
noncomputable section
namespace Law
open PySem DW L2
open SX (S S_tl S_len S_cat)
abbrev sD (w : List Nat) : D := .str (S w)
abbrev PV (g : Int) (rs : List (List Nat)) : D := .tuple [.int g, .tuple (rs.map sD)]
def relB (g : Int) (r : List Nat) : Bool := decide (1 ≤ r.length ∧ r.length ≤ 20) && okw g r
def presB (g : Int) (rs : List (List Nat)) : Bool := decide (1 ≤ g ∧ g ≤ 3 ∧ rs.length ≤ 8) && rs.all (relB g)
theorem rp_of {α : Type} {r : R α} {P : Prop} {a : α} {E : Exn → Prop} {Q : α → Prop} (h : r = .ok a) (q : Q a) : RP P r Q E := by rw [h, RP_ok]; exact q
section
variable {α : Type} {P : Prop} {i : Nat} {m : ME} {mt : MT} {ρ : En} {xs : List α} {u f : α → D} {Q : List D → Prop} {E : Exn → Prop}
theorem lc_mapM (h : ∀ x ∈ xs, m (ρ.set i (some (.sh (u x)))) = .ok (f x)) : lcLoop (gN i) mYes m ρ (xs.map u) = .ok (xs.map f) := by
  induction xs with
  | nil => rfl
  | cons x xs ih =>
    show (R.bind (m (ρ.set i (some (.sh (u x))))).sure fun y => (lcLoop (gN i) mYes m ρ (xs.map u)).bind fun ys => R.ok (y :: ys)) = _
    rw [h x List.mem_cons_self, ih fun y hy => h y (List.mem_cons_of_mem _ hy)]
    rfl
theorem RP_lc (h : ∀ x ∈ xs, m (ρ.set i (some (.sh (u x)))) = .ok (f x)) : RP P (lcLoop (gN i) mYes m ρ (xs.map u)) Q E = Q (xs.map f) := by
  rw [lc_mapM h, RP_ok]
theorem lc_filM {c : α → Bool} (h : ∀ x ∈ xs, mt (ρ.set i (some (.sh (u x)))) = .ok (c x) ∧ (c x = true → m (ρ.set i (some (.sh (u x)))) = .ok (f x))) : lcLoop (gN i) mt m ρ (xs.map u) = .ok ((xs.filter c).map f) := by
  induction xs with
  | nil => rfl
  | cons x xs ih =>
    obtain ⟨h1, h2⟩ := h x List.mem_cons_self
    show (R.bind (mt (ρ.set i (some (.sh (u x))))).sure fun k => if k then (m (ρ.set i (some (.sh (u x))))).sure.bind fun y => (lcLoop (gN i) mt m ρ (xs.map u)).bind fun ys => R.ok (y :: ys) else lcLoop (gN i) mt m ρ (xs.map u)) = _
    rw [h1, ih fun y hy => h y (List.mem_cons_of_mem _ hy), List.filter_cons]
    show (if c x = true then _ else _) = _
    by_cases hc : c x = true
    · rw [if_pos hc, if_pos hc, h2 hc]; rfl
    · rw [if_neg hc, if_neg hc]
theorem RP_lcF {c : α → Bool} (h : ∀ x ∈ xs, mt (ρ.set i (some (.sh (u x)))) = .ok (c x) ∧ (c x = true → m (ρ.set i (some (.sh (u x)))) = .ok (f x))) : RP P (lcLoop (gN i) mt m ρ (xs.map u)) Q E = Q ((xs.filter c).map f) := by
  rw [lc_filM h, RP_ok]
theorem o_allM {b : α → Bool} : dAll [.list (xs.map fun x => .bool (b x))] = .ok (.bool (xs.all b)) := by
  have := o_all (bs := xs.map b)
  rw [List.map_map, List.all_map] at this
  exact this
theorem o_anyM {b : α → Bool} : dAny [.list (xs.map fun x => .bool (b x))] = .ok (.bool (xs.any b)) := by
  have := o_any (bs := xs.map b)
  rw [List.map_map, List.any_map] at this
  exact this
end
/-! ### equality of data -/
/-- data without truth values and dicts, not deeper than n -/
def okD : Nat → D → Bool
  | _, .none => true
  | _, .int _ => true
  | _, .str x => PyData.strOk x
  | n + 1, .list xs => xs.all (okD n)
  | n + 1, .tuple xs => xs.all (okD n)
  | _, _ => false
theorem okD_depth : ∀ (n : Nat) (d : D), okD n d = true → d.depth ≤ n
  | n, .none, _ => Nat.zero_le _
  | n, .int _, _ => Nat.zero_le _
  | n, .str _, _ => Nat.zero_le _
  | n, .bool _, h => by cases n <;> cases h
  | n, .dict _, h => by cases n <;> cases h
  | 0, .list _, h => by cases h
  | 0, .tuple _, h => by cases h
  | n + 1, .list xs, h => by
    have key : ∀ xs : List D, xs.all (okD n) = true → PyData.depthAll xs ≤ n := by
      intro xs
      induction xs with
      | nil => exact fun _ => Nat.zero_le _
      | cons x xs ih =>
        intro h
        rw [List.all_cons, Bool.and_eq_true] at h
        exact Nat.max_le.mpr ⟨okD_depth n x h.1, ih h.2⟩
    exact Nat.succ_le_succ (key xs h)
  | n + 1, .tuple xs, h => by
    have key : ∀ xs : List D, xs.all (okD n) = true → PyData.depthAll xs ≤ n := by
      intro xs
      induction xs with
      | nil => exact fun _ => Nat.zero_le _
      | cons x xs ih =>
        intro h
        rw [List.all_cons, Bool.and_eq_true] at h
        exact Nat.max_le.mpr ⟨okD_depth n x h.1, ih h.2⟩
    exact Nat.succ_le_succ (key xs h)
theorem okD_lay : ∀ (n : Nat) (d : D), okD n d = true → d.canLay0 = true
  | n, .none, _ => by simp only [PyData.canLay0]
  | n, .int _, _ => by simp only [PyData.canLay0]
  | n, .str x, h => by
    simp only [PyData.canLay0]
    cases n <;> exact h
  | n, .bool _, h => by cases n <;> cases h
  | n, .dict _, h => by cases n <;> cases h
  | 0, .list _, h => by cases h
  | 0, .tuple _, h => by cases h
  | n + 1, .list xs, h => by
    have key : ∀ xs : List D, xs.all (okD n) = true → PyData.canLayAll0 xs = true := by
      intro xs
      induction xs with
      | nil => exact fun _ => by simp only [PyData.canLayAll0]
      | cons x xs ih =>
        intro h
        rw [List.all_cons, Bool.and_eq_true] at h
        simp only [PyData.canLayAll0, okD_lay n x h.1, ih h.2, Bool.and_self]
    simp only [PyData.canLay0]
    exact key xs h
  | n + 1, .tuple xs, h => by
    have key : ∀ xs : List D, xs.all (okD n) = true → PyData.canLayAll0 xs = true := by
      intro xs
      induction xs with
      | nil => exact fun _ => by simp only [PyData.canLayAll0]
      | cons x xs ih =>
        intro h
        rw [List.all_cons, Bool.and_eq_true] at h
        simp only [PyData.canLayAll0, okD_lay n x h.1, ih h.2, Bool.and_self]
    simp only [PyData.canLay0]
    exact key xs h
theorem okD_eqv : ∀ (n m : Nat) (d e : D), okD n d = true → okD m e = true → (PyData.eqv d e = true ↔ d = e) := by
  intro n
  induction n with
  | zero =>
    intro m d e hd he
    cases d with
    | none => cases e <;> simp [PyData.eqv]
    | int i =>
      cases e with
      | bool b => cases m <;> cases he
      | _ => simp [PyData.eqv]
    | str i => cases e <;> simp [PyData.eqv]
    | _ => cases hd
  | succ n ih =>
    intro m d e hd he
    have key : ∀ (k : Nat) (xs ys : List D), xs.all (okD n) = true → ys.all (okD k) = true → (PyData.eqvAll xs ys = true ↔ xs = ys) := by
      intro k xs
      induction xs with
      | nil => intro ys _ _; cases ys <;> simp [PyData.eqvAll]
      | cons x xs ihx =>
        intro ys hx hy
        cases ys with
        | nil => simp [PyData.eqvAll]
        | cons y ys =>
          rw [List.all_cons, Bool.and_eq_true] at hx hy
          rw [PyData.eqvAll, Bool.and_eq_true, ih k x y hx.1 hy.1, ihx ys hx.2 hy.2, List.cons.injEq]
    cases d with
    | none => cases e <;> simp [PyData.eqv]
    | int i =>
      cases e with
      | bool b => cases m <;> cases he
      | _ => simp [PyData.eqv]
    | str i => cases e <;> simp [PyData.eqv]
    | bool _ => cases hd
    | dict _ => cases hd
    | list xs =>
      cases e with
      | list ys =>
        cases m with
        | zero => cases he
        | succ m => rw [PyData.eqv, key m xs ys hd he, PyData.list.injEq]
      | _ => simp [PyData.eqv]
    | tuple xs =>
      cases e with
      | tuple ys =>
        cases m with
        | zero => cases he
        | succ m => rw [PyData.eqv, key m xs ys hd he, PyData.tuple.injEq]
      | _ => simp [PyData.eqv]
open Classical in
theorem okD_eqB {n m : Nat} {d e : D} (hd : okD n d = true) (he : okD m e = true) (hn : n ≤ 64) (hm : m ≤ 64) : dEqB d e = .ok (decide (d = e)) := by
  have main : deepEq d e = .ok (decide (d = e)) := by
    unfold deepEq SeqAt.shaped
    rw [okD_lay n d hd, okD_lay m e he, decide_eq_true (Nat.le_trans (okD_depth n d hd) hn), decide_eq_true (Nat.le_trans (okD_depth m e he) hm)]
    show R.ok (PyData.eqv d e) = _
    have := okD_eqv n m d e hd he
    by_cases h : d = e
    · rw [decide_eq_true h, this.mpr h]
    · rw [decide_eq_false h, Bool.eq_false_iff.mpr fun z => h (this.mp z)]
  have scal : ∀ (b : Bool) (p : Prop) [Decidable p], (b = true ↔ p) → R.ok b = R.ok (decide p) := fun b p _ h => by
    by_cases hp : p
    · rw [decide_eq_true hp, h.mpr hp]
    · rw [decide_eq_false hp, Bool.eq_false_iff.mpr fun z => hp (h.mp z)]
  cases d with
  | bool b => cases n <;> cases hd
  | dict b => cases n <;> cases hd
  | none => cases e <;> first | exact main | exact scal _ _ (by simp)
  | int i =>
    cases e with
    | int j => exact scal _ _ (by simp)
    | bool b => cases m <;> cases he
    | _ => first | exact main | exact scal _ _ (by simp)
  | str i =>
    cases e with
    | str j => exact scal _ _ (by
        simp only [decide_eq_true_eq, PyData.str.injEq]
        exact ⟨fun h => by rw [← S_tl i, ← S_tl j, h], fun h => by rw [h]⟩)
    | bool b => cases m <;> cases he
    | _ => first | exact main | exact scal _ _ (by simp)
  | list xs => exact main
  | tuple xs => exact main
open Classical in
theorem okD_eq {n m : Nat} {d e : D} (hd : okD n d = true) (he : okD m e = true) (hn : n ≤ 64) (hm : m ≤ 64) : dEq d e = .ok (.bool (decide (d = e))) := by
  unfold dEq; rw [okD_eqB hd he hn hm]; rfl
open Classical in
theorem okD_ne {n m : Nat} {d e : D} (hd : okD n d = true) (he : okD m e = true) (hn : n ≤ 64) (hm : m ≤ 64) : dNe d e = .ok (.bool (!decide (d = e))) := by
  unfold dNe; rw [okD_eqB hd he hn hm]; rfl
theorem okS {w : List Nat} (h : ∀ c ∈ w, c < 1114112) : PyData.strOk (S w) = true := by
  unfold PyData.strOk
  rw [← Array.all_toList, List.all_eq_true]
  exact fun c hc => decide_eq_true (h c hc)
theorem L6_lt : ∀ c ∈ L6, c < 1114112 := by decide
theorem okW {w : List Nat} (h : Wd w) : PyData.strOk (S w) = true := okS fun c hc => L6_lt c (h c hc)
theorem okD_w {n : Nat} {w : List Nat} (h : Wd w) : okD n (sD w) = true := by cases n <;> exact okW h
theorem okD_i {n : Nat} {z : Int} : okD n (.int z) = true := by cases n <;> rfl
theorem okD_n {n : Nat} : okD n .none = true := by cases n <;> rfl
/-! ### items -/
section
variable {a b c d x : D} {l : List D} {P : Prop} {Q : D → Prop} {E : Exn → Prop}
theorem ixT0 : dIdx (.tuple (a :: l)) (.int 0) = .ok a := o_ixT (i := 0) rfl
theorem ixT1 : dIdx (.tuple (a :: b :: l)) (.int 1) = .ok b := o_ixT (i := 1) rfl
theorem ixT2 : dIdx (.tuple (a :: b :: c :: l)) (.int 2) = .ok c := o_ixT (i := 2) rfl
theorem ixT3 : dIdx (.tuple (a :: b :: c :: d :: l)) (.int 3) = .ok d := o_ixT (i := 3) rfl
theorem ixL0 : dIdx (.list (a :: l)) (.int 0) = .ok a := o_ixL (i := 0) rfl
theorem ixL1 : dIdx (.list (a :: b :: l)) (.int 1) = .ok b := o_ixL (i := 1) rfl
theorem ixL2 : dIdx (.list (a :: b :: c :: l)) (.int 2) = .ok c := o_ixL (i := 2) rfl
theorem ixL3 : dIdx (.list (a :: b :: c :: d :: l)) (.int 3) = .ok d := o_ixL (i := 3) rfl
theorem ixL {l : List D} {k : Nat} (h : k < l.length) : dIdx (.list l) (.int (k : Int)) = .ok l[k] := o_ixL (List.getElem?_eq_getElem h)
theorem ixT {l : List D} {k : Nat} (h : k < l.length) : dIdx (.tuple l) (.int (k : Int)) = .ok l[k] := o_ixT (List.getElem?_eq_getElem h)
theorem ixS {w : List Nat} {k : Nat} (hs : w.length ≤ 16777216) (h : k < w.length) : dIdx (.str (S w)) (.int (k : Int)) = .ok (one w[k]) := o_ixS hs (List.getElem?_eq_getElem h)
/-- some item: all are as wished -/
theorem rp_ixL {z : Int} (h0 : 0 ≤ z) (h1 : z < (l.length : Int)) (h : ∀ d ∈ l, Q d) : RP P (dIdx (.list l) (.int z)) Q E := by
  obtain ⟨k, rfl⟩ : ∃ k : Nat, z = (k : Int) := ⟨z.toNat, by omega⟩
  exact rp_of (ixL (by omega)) (h _ (List.getElem_mem _))
theorem rp_ixT {z : Int} (h0 : 0 ≤ z) (h1 : z < (l.length : Int)) (h : ∀ d ∈ l, Q d) : RP P (dIdx (.tuple l) (.int z)) Q E := by
  obtain ⟨k, rfl⟩ : ∃ k : Nat, z = (k : Int) := ⟨z.toNat, by omega⟩
  exact rp_of (ixT (by omega)) (h _ (List.getElem_mem _))
theorem rp_ixS {w : List Nat} {z : Int} (hs : w.length ≤ 16777216) (h0 : 0 ≤ z) (h1 : z < (w.length : Int)) (h : ∀ c ∈ w, Q (one c)) : RP P (dIdx (.str (S w)) (.int z)) Q E := by
  obtain ⟨k, rfl⟩ : ∃ k : Nat, z = (k : Int) := ⟨z.toNat, by omega⟩
  exact rp_of (ixS hs (by omega)) (h _ (List.getElem_mem _))
end
theorem m_lt {z n : Int} (h : 0 < n) : z % n < n := Int.emod_lt_of_pos _ h
theorem m_nn {z n : Int} (h : 0 < n) : 0 ≤ z % n := Int.emod_nonneg _ (by omega)
theorem o_isB {b : Bool} : dIsT "bool" (.bool b) = .ok (.bool true) := rfl
theorem o_isL {l : List D} : dIsT "list" (.list l) = .ok (.bool true) := rfl
theorem o_isT {l : List D} : dIsT "tuple" (.tuple l) = .ok (.bool true) := rfl
theorem o_isI {z : Int} : dIsT "int" (.int z) = .ok (.bool true) := rfl
theorem o_niPM {s : Int} : dNotInS (.int s) (.tuple [.int 1, .int (-1)]) = .ok (.bool (!decide (s = 1 ∨ s = -1))) := by
  show R.ok (PyData.bool (!(decide (s = 1) || (decide (s = -1) || false)))) = _
  rw [Bool.or_false, Bool.decide_or]
theorem o_niPL {s : Int} : dNotInS (.int s) (.list [.int 1, .int (-1)]) = .ok (.bool (!decide (s = 1 ∨ s = -1))) := by
  show R.ok (PyData.bool (!(decide (s = 1) || (decide (s = -1) || false)))) = _
  rw [Bool.or_false, Bool.decide_or]
theorem o_max2 {a b : Int} : dMax2 [.int a, .int b] = .ok (.int (if b > a then b else a)) := rfl
theorem o_min2 {a b : Int} : dMin2 [.int a, .int b] = .ok (.int (if b < a then b else a)) := rfl
theorem o_abs {a : Int} : dAbs [.int a] = .ok (.int (if a < 0 then -a else a)) := rfl
theorem o_tupL {l : List D} : dTupOf (.list l) = .ok (.tuple l) := rfl
theorem o_tupT {l : List D} : dTupOf (.tuple l) = .ok (.tuple l) := rfl
theorem o_lofL {l : List D} : dListOf [.list l] = .ok l := rfl
theorem o_lofT {l : List D} : dListOf [.tuple l] = .ok l := rfl
theorem o_lofS {w : List Nat} (h : w.length ≤ 16777216) : dListOf [.str (S w)] = .ok (w.map one) := by
  show (if w.toArray.size ≤ sizeLine then R.ok (signs (S w)) else R.stuck) = _
  rw [if_pos (by rw [sizeLine_eq]; simpa using h)]
  rfl
theorem e_aListOf {r : MA} {ρ : En} : aListOf r ρ = (r ρ).bind dListOf := rfl
theorem e_aRep {r : MA} {m : ME} {ρ : En} : aRep r m ρ = (r ρ).bind fun ds => (m ρ).bind fun d => intD .stuck (fun k => if -(2 ^ 63) ≤ k ∧ k < 2 ^ 63 ∧ ds.length * k.toNat ≤ sizeLine then .ok (List.replicate k.toNat ds).flatten else .stuck) d := by
  unfold aRep
  refine congrArg _ (funext fun ds => congrArg _ (funext fun d => ?_))
  cases d <;> rfl
theorem rg_nat {n : Nat} (h : n ≤ 1000) : dRange1 [.int (n : Int)] = .ok ((List.range n).map fun (k : Nat) => PyData.int (k : Int)) := by
  have := rg_int (z := (n : Int)) (by omega) (by omega)
  rw [Int.toNat_natCast] at this
  exact this
theorem o_lt6 {g : Int} {j : Nat} (h1 : 1 ≤ g) (h2 : g ≤ 3) (hj : (j : Int) < 2 * g) : (lt g).getD j 0 ∈ lt g ∧ dIdx (.str (S L6)) (.int (j : Int)) = .ok (one ((lt g).getD j 0)) := by
  have hl := lt_len h1 h2
  have hi : j < (lt g).length := by omega
  have e0 : (lt g).getD j 0 = (lt g)[j] := by rw [List.getD_eq_getElem?_getD, List.getElem?_eq_getElem hi]; rfl
  have e : L6[j]? = some (lt g)[j] := by
    have e1 : (lt g)[j]? = some (lt g)[j] := List.getElem?_eq_getElem hi
    rw [← e1]
    unfold lt
    have : j < 2 * g.toNat := by omega
    rw [List.getElem?_take, if_pos this]
  rw [e0]
  exact ⟨List.getElem_mem hi, o_ixS (by decide) e⟩
def sigR (rs : List (List Nat)) (k s : Int) : Option (List Nat) := if 0 ≤ k ∧ k < rs.length ∧ (s = 1 ∨ s = -1) then some (if s = 1 then rs.getD k.toNat [] else invw (rs.getD k.toNat [])) else none
def optD : Option (List Nat) → D
  | none => .none
  | some w => sD w
theorem o_eqB {a b : Bool} : dEq (.bool a) (.bool b) = .ok (.bool (decide (a = b))) := rfl
theorem o_neB {a b : Bool} : dNe (.bool a) (.bool b) = .ok (.bool (!decide (a = b))) := rfl
theorem o_eqN : dIsN .none .none = .ok (.bool true) := rfl
theorem bool_eq {a b : Bool} : (PyData.bool a = PyData.bool b) = (a = b) := propext ⟨fun h => PyData.bool.inj h, fun h => by rw [h]⟩
theorem o_inPL {s : Int} : dInX (.int s) (.list [.int 1, .int (-1)]) = .ok (.bool (decide (s = 1 ∨ s = -1))) := by
  show R.ok (PyData.bool (decide (s = 1) || (decide (s = -1) || false))) = _
  rw [Bool.or_false, Bool.decide_or]

end Law

end
end
section
set_option Elab.async false
set_option linter.all false
set_option maxRecDepth 100000
set_option autoImplicit false
set_option maxHeartbeats 4000000
noncomputable section
namespace Law
open PySem DW L2
open SX (S S_tl S_len S_cat)
/-! ### moves -/
abbrev kPut : List Nat := [112, 117, 116]
abbrev kCut : List Nat := [99, 117, 116]
abbrev kAdd : List Nat := [97, 100, 100]
abbrev kTake : List Nat := [116, 97, 107, 101]
inductive Mv where
  | put (a : Int) (c : List Nat) | cut (a : Int) | add (a k s : Int) | take (a k s : Int)
def mvD : Mv → D
  | .put a c => .tuple [sD kPut, .int a, sD c]
  | .cut a => .tuple [sD kCut, .int a]
  | .add a k s => .tuple [sD kAdd, .int a, .int k, .int s]
  | .take a k s => .tuple [sD kTake, .int a, .int k, .int s]
def insW (w : List Nat) (a : Int) (t : List Nat) : Option (List Nat) := if 0 ≤ a ∧ a ≤ w.length ∧ w.length + t.length ≤ 200 then some (w.take a.toNat ++ t ++ w.drop a.toNat) else none
def rmvW (w : List Nat) (a : Int) (t : List Nat) : Option (List Nat) := if 0 ≤ a ∧ (w.drop a.toNat).take t.length = t then some (w.take a.toNat ++ w.drop (a.toNat + t.length)) else none
def pairA (w : List Nat) (a : Int) : Option (List Nat) := if 0 ≤ a ∧ a + 1 < w.length ∧ w.getD (a.toNat + 1) 0 = inv (w.getD a.toNat 0) then some ((w.drop a.toNat).take 2) else none
def ltP (g : Int) : List Nat → Option (List Nat)
  | [x] => if x ∈ lt g then some [x, inv x] else none
  | _ => none
def aft (g : Int) (rs : List (List Nat)) (w : List Nat) : Mv → Option (List Nat)
  | .put a c => (ltP g c).bind (insW w a)
  | .cut a => (pairA w a).bind (rmvW w a)
  | .add a k s => (sigR rs k s).bind (insW w a)
  | .take a k s => (sigR rs k s).bind (rmvW w a)
theorem cut_mid {α : Type} {l : List α} {a n : Nat} : cutG l (some (a : Int)) (some ((a : Int) + (n : Int))) = (l.drop a).take n := by
  unfold cutG
  have e1 : HT.sIx l.length 0 (some (a : Int)) = min a l.length := HT.sIx_nat _ _ _
  have e2 : HT.sIx l.length l.length (some ((a : Int) + (n : Int))) = min (a + n) l.length := by
    have := HT.sIx_nat l.length l.length (a + n)
    rw [← this]
    congr 2
  rw [e1, e2]
  by_cases h : a ≤ l.length
  · rw [Nat.min_eq_left h]
    by_cases h2 : a + n ≤ l.length
    · rw [Nat.min_eq_left h2]
      congr 1
      omega
    · have e3 : min (a + n) l.length = l.length := Nat.min_eq_right (by omega)
      rw [e3, List.take_of_length_le (by rw [List.length_drop]; omega), List.take_of_length_le (by rw [List.length_drop]; omega)]
  · have e3 : min a l.length = l.length := Nat.min_eq_right (by omega)
    rw [e3, List.drop_length, List.take_nil, List.drop_eq_nil_of_le (by omega), List.take_nil]
theorem cut_from' {α : Type} {l : List α} {n : Nat} : cutG l (some (n : Int)) none = l.drop n := by
  by_cases h : n ≤ l.length
  · exact cut_from h
  · unfold cutG
    have e1 : HT.sIx l.length 0 (some (n : Int)) = min n l.length := HT.sIx_nat _ _ _
    have e0 : HT.sIx l.length l.length none = l.length := rfl
    rw [e1, e0, Nat.min_eq_right (by omega), Nat.sub_self, List.take_zero, List.drop_eq_nil_of_le (by omega)]
theorem cut_to2 {α : Type} {l : List α} {n : Nat} : cutG l none (some (n : Int)) = l.take n := by
  rw [cut_to']
  by_cases h : n ≤ l.length
  · rw [Nat.min_eq_left h]
  · rw [Nat.min_eq_right (by omega), List.take_length, List.take_of_length_le (by omega)]
theorem ixSD {w : List Nat} {k : Nat} (hs : w.length ≤ 16777216) (h : k < w.length) : dIdx (.str (S w)) (.int (k : Int)) = .ok (one (w.getD k 0)) := by
  rw [ixS hs h, List.getD_eq_getElem?_getD, List.getElem?_eq_getElem h]; rfl
theorem getD_mem {w : List Nat} {k : Nat} (h : k < w.length) : w.getD k 0 ∈ w := by
  rw [List.getD_eq_getElem?_getD, List.getElem?_eq_getElem h]; exact List.getElem_mem h
theorem relsAt {rs : List (List Nat)} {k : Nat} (h : k < rs.length) : dIdx (.tuple (rs.map sD)) (.int (k : Int)) = .ok (sD (rs.getD k [])) := o_ixT (by rw [List.getElem?_map, List.getElem?_eq_getElem h, List.getD_eq_getElem?_getD, List.getElem?_eq_getElem h]; rfl)
theorem rels_mem {rs : List (List Nat)} {k : Nat} (h : k < rs.length) : rs.getD k [] ∈ rs := by rw [List.getD_eq_getElem?_getD, List.getElem?_eq_getElem h]; exact List.getElem_mem h
theorem o_isNn : dIsN .none .none = .ok (.bool true) := rfl
theorem o_isNs {w : List Nat} : dIsN (sD w) .none = .ok (.bool false) := rfl
theorem o_notNn : dNotN .none .none = .ok (.bool false) := rfl
theorem o_notNs {w : List Nat} : dNotN (sD w) .none = .ok (.bool true) := rfl
/-- a presentation: numbers, letters, lengths -/
structure Pres (g : Int) (rs : List (List Nat)) : Prop where
  h1 : 1 ≤ g
  h2 : g ≤ 3
  n : rs.length ≤ 8
  r : ∀ r ∈ rs, (∀ c ∈ r, c ∈ lt g) ∧ 1 ≤ r.length ∧ r.length ≤ 20
theorem Pres.wd {g : Int} {rs : List (List Nat)} (h : Pres g rs) : ∀ r ∈ rs, Wd r ∧ r.length ≤ 1000000 := fun r hr => ⟨lt_wd (h.r r hr).1, by have := (h.r r hr).2.2; omega⟩
theorem Pres.len {g : Int} {rs : List (List Nat)} (h : Pres g rs) : ∀ r ∈ rs, r.length ≤ 1000000 := fun r hr => (h.wd r hr).2
theorem Pres.ok {g : Int} {rs : List (List Nat)} (h : Pres g rs) : presB g rs = true := by
  unfold presB
  rw [Bool.and_eq_true, decide_eq_true_eq, List.all_eq_true]
  refine ⟨⟨h.h1, h.h2, h.n⟩, fun r hr => ?_⟩
  unfold relB
  rw [Bool.and_eq_true, decide_eq_true_eq, okw_iff]
  exact ⟨(h.r r hr).2, (h.r r hr).1⟩
theorem sigR_mem {g : Int} {rs : List (List Nat)} (h : Pres g rs) {k s : Int} {w : List Nat} (e : sigR rs k s = some w) : Wd w ∧ 1 ≤ w.length ∧ w.length ≤ 20 := by
  unfold sigR at e
  split at e
  · rename_i hk
    have hm := rels_mem (rs := rs) (k := k.toNat) (by omega)
    have q := h.r _ hm
    cases e
    split
    · exact ⟨lt_wd q.1, q.2⟩
    · exact ⟨invw_wd (lt_wd q.1), by rw [invw_len]; exact q.2⟩
  · cases e
theorem inv_lt {g : Int} (h1 : 1 ≤ g) (h2 : g ≤ 3) : ∀ c ∈ lt g, inv c ∈ lt g := by
  have : g = 1 ∨ g = 2 ∨ g = 3 := by omega
  rcases this with rfl | rfl | rfl <;> decide
theorem sigR_lt {g : Int} {rs : List (List Nat)} (h : Pres g rs) {k s : Int} {w : List Nat} (e : sigR rs k s = some w) : ∀ c ∈ w, c ∈ lt g := by
  unfold sigR at e
  split at e
  · rename_i hk
    have hm := rels_mem (rs := rs) (k := k.toNat) (by omega)
    have q := h.r _ hm
    cases e
    split
    · exact q.1
    · intro c hc
      unfold invw at hc
      obtain ⟨d, hd, rfl⟩ := List.mem_map.mp hc
      exact inv_lt h.h1 h.h2 d (q.1 d (List.mem_reverse.mp hd))
  · cases e
theorem insW_lt {P : Nat → Prop} {w t v : List Nat} {a : Int} (hw : ∀ c ∈ w, P c) (ht : ∀ c ∈ t, P c) (e : insW w a t = some v) : (∀ c ∈ v, P c) ∧ v.length ≤ 200 := by
  unfold insW at e
  split at e
  · cases e
    refine ⟨fun c hc => ?_, ?_⟩
    · rw [List.mem_append, List.mem_append] at hc
      rcases hc with (hc | hc) | hc
      · exact hw c (List.mem_of_mem_take hc)
      · exact ht c hc
      · exact hw c (List.mem_of_mem_drop hc)
    · rw [List.length_append, List.length_append, List.length_take, List.length_drop]; omega
  · cases e
theorem rmvW_lt {P : Nat → Prop} {w t v : List Nat} {a : Int} (hw : ∀ c ∈ w, P c) (e : rmvW w a t = some v) : (∀ c ∈ v, P c) ∧ v.length ≤ w.length := by
  unfold rmvW at e
  split at e
  · cases e
    refine ⟨fun c hc => ?_, ?_⟩
    · rw [List.mem_append] at hc
      rcases hc with hc | hc
      · exact hw c (List.mem_of_mem_take hc)
      · exact hw c (List.mem_of_mem_drop hc)
    · rw [List.length_append, List.length_take, List.length_drop]; omega
  · cases e
/-- the word behind a move is one over the letters, of at most 200 -/
theorem aft_lt {g : Int} {rs : List (List Nat)} (h : Pres g rs) {w v : List Nat} {m : Mv} (hw : ∀ c ∈ w, c ∈ lt g) (hl : w.length ≤ 200) (e : aft g rs w m = some v) : (∀ c ∈ v, c ∈ lt g) ∧ v.length ≤ 200 := by
  have put : ∀ {a : Int} {c : List Nat}, (ltP g c).bind (insW w a) = some v → (∀ c ∈ v, c ∈ lt g) ∧ v.length ≤ 200 := by
    intro a c e
    match c, e with
    | [x], e =>
      by_cases hx : x ∈ lt g
      · have q : ltP g [x] = some [x, inv x] := if_pos hx
        rw [q] at e
        exact insW_lt hw (fun c hc => by
          rcases List.mem_cons.mp hc with rfl | hc
          · exact hx
          · rw [List.mem_singleton.mp hc]; exact inv_lt h.h1 h.h2 _ hx) e
      · have q : ltP g [x] = none := if_neg hx
        rw [q] at e; cases e
    | [], e => cases e
    | _ :: _ :: _, e => cases e
  cases m with
  | put a c => exact put e
  | cut a =>
    have e : (pairA w a).bind (rmvW w a) = some v := e
    cases q : pairA w a with
    | none => rw [q] at e; cases e
    | some t => rw [q] at e; have := rmvW_lt hw e; exact ⟨this.1, by omega⟩
  | add a k s =>
    have e : (sigR rs k s).bind (insW w a) = some v := e
    cases q : sigR rs k s with
    | none => rw [q] at e; cases e
    | some t => rw [q] at e; exact insW_lt hw (sigR_lt h q) e
  | take a k s =>
    have e : (sigR rs k s).bind (rmvW w a) = some v := e
    cases q : sigR rs k s with
    | none => rw [q] at e; cases e
    | some t => rw [q] at e; have := rmvW_lt hw e; exact ⟨this.1, by omega⟩

end Law

end
end
section
set_option Elab.async false
set_option linter.all false
set_option maxRecDepth 100000
set_option autoImplicit false
set_option maxHeartbeats 4000000
noncomputable section
namespace Law
open PySem DW L2
open SX (S S_tl S_len S_cat)
/-! ### moves are undone; lists of moves -/
def oppM (w : List Nat) : Mv → Mv
  | .put a _ => .cut a
  | .cut a => .put a [w.getD a.toNat 0]
  | .add a k s => .take a k s
  | .take a k s => .add a k s
theorem e_loop_c {g : D → En → R En} {b : MS} {d : D} {ds : List D} {ρ : En} : mLoop g b (d :: ds) ρ = O.of (g d ρ).sure ρ fun ρ1 => (b ρ1).lp (mLoop g b ds) := rfl
theorem ins_rmv {w t v : List Nat} {a : Int} (e : insW w a t = some v) : rmvW v a t = some w := by
  unfold insW at e
  split at e
  · rename_i h
    cases e
    have ht : (w.take a.toNat).length = a.toNat := by rw [List.length_take]; omega
    unfold rmvW
    have e1 : ((w.take a.toNat ++ t ++ w.drop a.toNat).drop a.toNat) = t ++ w.drop a.toNat := by
      rw [List.append_assoc, List.drop_append_of_le_length (by omega), List.drop_eq_nil_of_le (by omega), List.nil_append]
    rw [e1, if_pos ⟨h.1, by rw [List.take_append_of_le_length (Nat.le_refl _), List.take_length]⟩]
    congr 1
    have e2 : (w.take a.toNat ++ t ++ w.drop a.toNat).take a.toNat = w.take a.toNat := by
      rw [List.append_assoc, List.take_append_of_le_length (by omega), List.take_of_length_le (by omega)]
    have e3 : (w.take a.toNat ++ t ++ w.drop a.toNat).drop (a.toNat + t.length) = w.drop a.toNat := by
      rw [← List.drop_drop, e1, List.drop_append_of_le_length (Nat.le_refl _), List.drop_length, List.nil_append]
    rw [e2, e3, List.take_append_drop]
  · cases e
theorem rmv_ins {w t v : List Nat} {a : Int} (hl : w.length ≤ 200) (ht : 1 ≤ t.length) (e : rmvW w a t = some v) : insW v a t = some w := by
  unfold rmvW at e
  split at e
  · rename_i h
    cases e
    have h2 := congrArg List.length h.2
    rw [List.length_take, List.length_drop] at h2
    have h3 : a.toNat + t.length ≤ w.length := by omega
    have ht : (w.take a.toNat).length = a.toNat := by rw [List.length_take]; omega
    unfold insW
    rw [if_pos ⟨h.1, by rw [List.length_append, List.length_drop, ht]; omega, by rw [List.length_append, List.length_drop, ht]; omega⟩]
    congr 1
    rw [List.take_append_of_le_length (by omega), List.take_of_length_le (l := w.take a.toNat) (by omega), List.drop_append_of_le_length (by omega), List.drop_eq_nil_of_le (as := w.take a.toNat) (by omega), List.nil_append]
    have e1 : t ++ w.drop (a.toNat + t.length) = w.drop a.toNat := by
      conv => rhs; rw [← List.take_append_drop t.length (w.drop a.toNat)]
      rw [h.2, List.drop_drop]
    rw [List.append_assoc, e1, List.take_append_drop]
  · cases e
theorem getD_drop {w : List Nat} {k : Nat} (h : k < w.length) : w.drop k = w.getD k 0 :: w.drop (k + 1) := by
  rw [List.drop_eq_getElem_cons h, List.getD_eq_getElem?_getD, List.getElem?_eq_getElem h]; rfl
theorem pairA_eq {w t : List Nat} {a : Int} (e : pairA w a = some t) : t = [w.getD a.toNat 0, inv (w.getD a.toNat 0)] ∧ 0 ≤ a ∧ a + 1 < w.length := by
  unfold pairA at e
  split at e
  · rename_i h
    cases e
    refine ⟨?_, h.1, h.2.1⟩
    rw [getD_drop (by omega), getD_drop (by omega), h.2.2]
    rfl
  · cases e
theorem pairA_of {w : List Nat} {a : Int} {x : Nat} (h : 0 ≤ a) (e : (w.drop a.toNat).take 2 = [x, inv x]) : pairA w a = some [x, inv x] := by
  have h2 := congrArg List.length e
  rw [List.length_take, List.length_drop] at h2
  have h2 : min 2 (w.length - a.toNat) = 2 := h2
  rw [getD_drop (by omega), getD_drop (by omega)] at e
  have e : [w.getD a.toNat 0, w.getD (a.toNat + 1) 0] = [x, inv x] := e
  injection e with e1 e2
  injection e2 with e2 _
  unfold pairA
  rw [if_pos ⟨h, by omega, by rw [e2, e1]⟩, getD_drop (by omega), getD_drop (by omega)]
  show some [w.getD a.toNat 0, w.getD (a.toNat + 1) 0] = _
  rw [e1, e2]
/-- an allowed move is undone -/
theorem aft_opp {g : Int} {rs : List (List Nat)} (hp : Pres g rs) {w v : List Nat} {m : Mv} (hw : ∀ c ∈ w, c ∈ lt g) (hl : w.length ≤ 200) (e : aft g rs w m = some v) : aft g rs v (oppM w m) = some w := by
  cases m with
  | put a c =>
    have e : (ltP g c).bind (insW w a) = some v := e
    match c, e with
    | [x], e =>
      by_cases hx : x ∈ lt g
      · have q : ltP g [x] = some [x, inv x] := if_pos hx
        rw [q] at e
        have e : insW w a [x, inv x] = some v := e
        have r := ins_rmv e
        have r2 := r
        unfold rmvW at r2
        split at r2
        · rename_i h
          show (pairA v a).bind (rmvW v a) = some w
          rw [pairA_of h.1 h.2]
          exact r
        · cases r2
      · have q : ltP g [x] = none := if_neg hx
        rw [q] at e; cases e
    | [], e => cases e
    | _ :: _ :: _, e => cases e
  | cut a =>
    have e : (pairA w a).bind (rmvW w a) = some v := e
    cases q : pairA w a with
    | none => rw [q] at e; cases e
    | some t =>
      rw [q] at e
      have e : rmvW w a t = some v := e
      obtain ⟨rfl, h1, h2⟩ := pairA_eq q
      have hx : w.getD a.toNat 0 ∈ lt g := hw _ (getD_mem (by omega))
      have q : ltP g [w.getD a.toNat 0] = some [w.getD a.toNat 0, inv (w.getD a.toNat 0)] := if_pos hx
      show (ltP g [w.getD a.toNat 0]).bind (insW v a) = some w
      rw [q]
      exact rmv_ins hl (by show 1 ≤ 2; decide) e
  | add a k s =>
    have e : (sigR rs k s).bind (insW w a) = some v := e
    show (sigR rs k s).bind (rmvW v a) = some w
    cases q : sigR rs k s with
    | none => rw [q] at e; cases e
    | some t => rw [q] at e; exact ins_rmv e
  | take a k s =>
    have e : (sigR rs k s).bind (rmvW w a) = some v := e
    show (sigR rs k s).bind (insW v a) = some w
    cases q : sigR rs k s with
    | none => rw [q] at e; cases e
    | some t => rw [q] at e; exact rmv_ins hl (sigR_mem hp q).2.1 e
def badAt (g : Int) (rs : List (List Nat)) : Nat → List Nat → List Mv → Option Nat
  | _, _, [] => none
  | k, w, m :: ms => match aft g rs w m with
    | none => some k
    | some v => badAt g rs (k + 1) v ms
def lastW (g : Int) (rs : List (List Nat)) : List Nat → List Mv → List Nat
  | w, [] => w
  | w, m :: ms => match aft g rs w m with
    | none => w
    | some v => lastW g rs v ms
/-- the words behind the moves, the first one left out -/
def wordsM (g : Int) (rs : List (List Nat)) : List Nat → List Mv → List (List Nat)
  | _, [] => []
  | w, m :: ms => match aft g rs w m with
    | none => []
    | some v => v :: wordsM g rs v ms
def undM (g : Int) (rs : List (List Nat)) : List Nat → List Mv → List Mv
  | _, [] => []
  | w, m :: ms => match aft g rs w m with
    | none => []
    | some v => undM g rs v ms ++ [oppM w m]
theorem badAt_s {g : Int} {rs : List (List Nat)} {k : Nat} {w v : List Nat} {m : Mv} {ms : List Mv} (q : aft g rs w m = some v) : badAt g rs k w (m :: ms) = badAt g rs (k + 1) v ms := by
  show (match aft g rs w m with | none => some k | some v => badAt g rs (k + 1) v ms) = _
  rw [q]
theorem badAt_n {g : Int} {rs : List (List Nat)} {k : Nat} {w : List Nat} {m : Mv} {ms : List Mv} (q : aft g rs w m = none) : badAt g rs k w (m :: ms) = some k := by
  show (match aft g rs w m with | none => some k | some v => badAt g rs (k + 1) v ms) = _
  rw [q]
theorem lastW_s {g : Int} {rs : List (List Nat)} {w v : List Nat} {m : Mv} {ms : List Mv} (q : aft g rs w m = some v) : lastW g rs w (m :: ms) = lastW g rs v ms := by
  show (match aft g rs w m with | none => w | some v => lastW g rs v ms) = _
  rw [q]
theorem lastW_n {g : Int} {rs : List (List Nat)} {w : List Nat} {m : Mv} {ms : List Mv} (q : aft g rs w m = none) : lastW g rs w (m :: ms) = w := by
  show (match aft g rs w m with | none => w | some v => lastW g rs v ms) = _
  rw [q]
theorem wordsM_s {g : Int} {rs : List (List Nat)} {w v : List Nat} {m : Mv} {ms : List Mv} (q : aft g rs w m = some v) : wordsM g rs w (m :: ms) = v :: wordsM g rs v ms := by
  show (match aft g rs w m with | none => [] | some v => v :: wordsM g rs v ms) = _
  rw [q]
theorem undM_s {g : Int} {rs : List (List Nat)} {w v : List Nat} {m : Mv} {ms : List Mv} (q : aft g rs w m = some v) : undM g rs w (m :: ms) = undM g rs v ms ++ [oppM w m] := by
  show (match aft g rs w m with | none => [] | some v => undM g rs v ms ++ [oppM w m]) = _
  rw [q]
theorem okK {n : Nat} {k : List Nat} (h : ∀ c ∈ k, c < 1114112) : okD n (sD k) = true := by cases n <;> exact okS h
def MvC (m : Mv) : Prop := ∀ a c, m = .put a c → c.length ≤ 1000
/-- the word at a time, of a list that is walked to its end -/
theorem words_last (g : Int) (rs : List (List Nat)) : ∀ (ms : List Mv) (w : List Nat) (k : Nat), badAt g rs k w ms = none → (w :: wordsM g rs w ms)[ms.length]? = some (lastW g rs w ms) ∧ (wordsM g rs w ms).length = ms.length
  | [], w, k, _ => ⟨rfl, rfl⟩
  | m :: ms, w, k, h => by
    unfold badAt at h
    cases q : aft g rs w m with
    | none => rw [q] at h; cases h
    | some v =>
      rw [q] at h
      obtain ⟨h1, h2⟩ := words_last g rs ms v (k + 1) h
      unfold wordsM lastW
      rw [q]
      exact ⟨by rw [List.length_cons, List.getElem?_cons_succ]; exact h1, by rw [List.length_cons, List.length_cons, h2]⟩
theorem badAt_shift (g : Int) (rs : List (List Nat)) : ∀ (ms : List Mv) (w : List Nat) (k j : Nat), badAt g rs k w ms = none → badAt g rs j w ms = none
  | [], _, _, _, _ => rfl
  | m :: ms, w, k, j, h => by
    unfold badAt at h ⊢
    cases q : aft g rs w m with
    | none => rw [q] at h; cases h
    | some v => rw [q] at h; exact badAt_shift g rs ms v (k + 1) (j + 1) h
theorem badAt_ge (g : Int) (rs : List (List Nat)) : ∀ (ms : List Mv) (w : List Nat) (k i : Nat), badAt g rs k w ms = some i → k ≤ i ∧ i < k + ms.length
  | [], _, _, _, h => by cases h
  | m :: ms, w, k, i, h => by
    unfold badAt at h
    rw [List.length_cons]
    cases q : aft g rs w m with
    | none => rw [q] at h; cases h; omega
    | some v => rw [q] at h; have := badAt_ge g rs ms v (k + 1) i h; omega
theorem lastW_lt {g : Int} {rs : List (List Nat)} (hp : Pres g rs) : ∀ (ms : List Mv) (w : List Nat), (∀ c ∈ w, c ∈ lt g) → w.length ≤ 200 → (∀ c ∈ lastW g rs w ms, c ∈ lt g) ∧ (lastW g rs w ms).length ≤ 200
  | [], w, hw, hl => ⟨hw, hl⟩
  | m :: ms, w, hw, hl => by
    unfold lastW
    cases q : aft g rs w m with
    | none => exact ⟨hw, hl⟩
    | some v => have := aft_lt hp hw hl q; exact lastW_lt hp ms v this.1 this.2
theorem badAt_app (g : Int) (rs : List (List Nat)) (b : List Mv) : ∀ (a : List Mv) (w : List Nat) (k : Nat), badAt g rs k w a = none → badAt g rs k w (a ++ b) = badAt g rs (k + a.length) (lastW g rs w a) b ∧ lastW g rs w (a ++ b) = lastW g rs (lastW g rs w a) b
  | [], w, k, _ => ⟨rfl, rfl⟩
  | m :: ms, w, k, h => by
    rw [List.cons_append]
    cases q : aft g rs w m with
    | none => rw [badAt_n q] at h; cases h
    | some v =>
      rw [badAt_s q] at h
      obtain ⟨h1, h2⟩ := badAt_app g rs b ms v (k + 1) h
      have e : k + 1 + ms.length = k + (m :: ms).length := by rw [List.length_cons]; omega
      rw [e] at h1
      rw [badAt_s q, lastW_s q, lastW_s q]
      exact ⟨h1, h2⟩
/-- the undone moves lead back -/
theorem und_back {g : Int} {rs : List (List Nat)} (hp : Pres g rs) : ∀ (ms : List Mv) (w : List Nat) (k : Nat), (∀ c ∈ w, c ∈ lt g) → w.length ≤ 200 → badAt g rs k w ms = none → badAt g rs 0 (lastW g rs w ms) (undM g rs w ms) = none ∧ lastW g rs (lastW g rs w ms) (undM g rs w ms) = w ∧ (undM g rs w ms).length = ms.length
  | [], w, k, _, _, _ => ⟨rfl, rfl, rfl⟩
  | m :: ms, w, k, hw, hl, h => by
    cases q : aft g rs w m with
    | none => rw [badAt_n q] at h; cases h
    | some v =>
      rw [badAt_s q] at h
      have hv := aft_lt hp hw hl q
      obtain ⟨h1, h2, h3⟩ := und_back hp ms v (k + 1) hv.1 hv.2 h
      have o := aft_opp hp hw hl q
      obtain ⟨a1, a2⟩ := badAt_app g rs [oppM w m] _ _ 0 h1
      rw [lastW_s q, undM_s q, a1, a2, h2]
      refine ⟨?_, ?_, by rw [List.length_append, h3]; rfl⟩
      · rw [badAt_s o]; rfl
      · rw [lastW_s o]; rfl
theorem oppM_C {w : List Nat} {m : Mv} : MvC (oppM w m) := by
  intro a c e
  cases m with
  | cut a => cases e; show 1 ≤ 1000; decide
  | _ => cases e
theorem undM_C {g : Int} {rs : List (List Nat)} : ∀ (ms : List Mv) (w : List Nat), ∀ m ∈ undM g rs w ms, MvC m
  | [], _, _, h => nomatch h
  | m :: ms, w, x, h => by
    unfold undM at h
    cases q : aft g rs w m with
    | none => rw [q] at h; exact nomatch h
    | some v =>
      rw [q] at h
      rcases List.mem_append.mp h with h | h
      · exact undM_C ms v x h
      · rw [List.mem_singleton.mp h]; exact oppM_C
/-- moves as data to compare -/
theorem okD_mv {m : Mv} (h : ∀ a c, m = .put a c → Wd c) : okD 1 (mvD m) = true := by
  cases m with
  | put a c =>
    show ([sD kPut, .int a, sD c] : List D).all (okD 0) = true
    have := okD_w (n := 0) (h a c rfl)
    rw [List.all_cons, List.all_cons, List.all_cons, List.all_nil, okD_i, this, okK (by decide)]; rfl
  | cut a =>
    show ([sD kCut, .int a] : List D).all (okD 0) = true
    rw [List.all_cons, List.all_cons, List.all_nil, okD_i, okK (by decide)]; rfl
  | add a k s =>
    show ([sD kAdd, .int a, .int k, .int s] : List D).all (okD 0) = true
    rw [List.all_cons, List.all_cons, List.all_cons, List.all_cons, List.all_nil, okD_i, okD_i, okD_i, okK (by decide)]; rfl
  | take a k s =>
    show ([sD kTake, .int a, .int k, .int s] : List D).all (okD 0) = true
    rw [List.all_cons, List.all_cons, List.all_cons, List.all_cons, List.all_nil, okD_i, okD_i, okD_i, okK (by decide)]; rfl
theorem okD_mvs {ms : List Mv} (h : ∀ m ∈ ms, ∀ a c, m = .put a c → Wd c) : okD 2 (.list (ms.map mvD)) = true := by
  show (ms.map mvD).all (okD 1) = true
  rw [List.all_map, List.all_eq_true]
  exact fun m hm => okD_mv (h m hm)
/-- a move as it is drawn -/
def MvL (g : Int) (m : Mv) : Prop := ∀ a c, m = .put a c → ∃ x ∈ lt g, c = [x]
def MvP (g : Int) (d : D) : Prop := ∃ m, d = mvD m ∧ MvL g m
theorem mv_put {g a : Int} {x : Nat} (h : x ∈ lt g) : MvP g (.tuple [sD kPut, .int a, one x]) := ⟨.put a [x], rfl, fun a' c e => by cases e; exact ⟨x, h, rfl⟩⟩
theorem mv_cut {g a : Int} : MvP g (.tuple [sD kCut, .int a]) := ⟨.cut a, rfl, fun _ _ e => by cases e⟩
theorem mv_add {g a k s : Int} : MvP g (.tuple [sD kAdd, .int a, .int k, .int s]) := ⟨.add a k s, rfl, fun _ _ e => by cases e⟩
theorem mv_take {g a k s : Int} : MvP g (.tuple [sD kTake, .int a, .int k, .int s]) := ⟨.take a k s, rfl, fun _ _ e => by cases e⟩
def MvsP (g : Int) (n : Nat) (ds : List D) : Prop := ds.length ≤ n ∧ ∀ d ∈ ds, MvP g d
theorem MvsP.app {g : Int} {n : Nat} {ds : List D} {d : D} (h : MvsP g n ds) (h2 : MvP g d) : MvsP g (n + 1) (ds ++ [d]) := ⟨by rw [List.length_append]; exact Nat.succ_le_succ h.1, fun x hx => (List.mem_append.mp hx).elim (h.2 x) fun z => by rw [List.mem_singleton.mp z]; exact h2⟩
theorem MvsP.mono {g : Int} {n m : Nat} {ds : List D} (h : MvsP g n ds) (h2 : n ≤ m) : MvsP g m ds := ⟨Nat.le_trans h.1 h2, h.2⟩
theorem loop_lt {n j : Nat} {d : D} (hd : ((List.range n).map fun (k : Nat) => PyData.int (k : Int))[j]? = some d) : j < n ∧ d = .int (j : Int) := by
  rw [List.getElem?_map] at hd
  by_cases h : j < n
  · rw [List.getElem?_range h] at hd
    exact ⟨h, (Option.some.inj hd).symm⟩
  · rw [List.getElem?_eq_none (by rw [List.length_range]; omega)] at hd
    cases hd
theorem mvL_C {g : Int} {m : Mv} (h : MvL g m) : MvC m := fun a c e => by obtain ⟨x, _, rfl⟩ := h a c e; show 1 ≤ 1000; decide
/-- moves that may be compared -/
def MvsL (g : Int) (n : Nat) (ms : List Mv) : Prop := ms.length ≤ n ∧ ∀ m ∈ ms, MvL g m
def SpoP (g : Int) (n : Nat) (d : D) : Prop := ∃ ms : List Mv, d = .list (ms.map mvD) ∧ MvsL g n ms
theorem mv_bump {m : Mv} : ∃ (k : D) (a : Int) (r : List D), mvD m = .tuple (k :: .int a :: r) ∧ ∃ m', mvD m' = .tuple (k :: .int (a + 1) :: r) ∧ ∀ g, MvL g m → MvL g m' := by
  cases m with
  | put a c => exact ⟨_, a, _, rfl, .put (a + 1) c, rfl, fun g h a' c' e => by cases e; exact h a c rfl⟩
  | cut a => exact ⟨_, a, _, rfl, .cut (a + 1), rfl, fun g h a' c' e => by cases e⟩
  | add a k s => exact ⟨_, a, _, rfl, .add (a + 1) k s, rfl, fun g h a' c' e => by cases e⟩
  | take a k s => exact ⟨_, a, _, rfl, .take (a + 1) k s, rfl, fun g h a' c' e => by cases e⟩
theorem sl2 {a b : D} {r : List D} : dSl (.tuple (a :: b :: r)) (some 2) none = .ok (.tuple r) := by
  have h : ¬ (HT.sIx (a :: b :: r).length 0 (some 2) = 0 ∧ HT.sIx (a :: b :: r).length (a :: b :: r).length none = (a :: b :: r).length) := fun z => by
    have e : HT.sIx (a :: b :: r).length 0 (some ((2 : Nat) : Int)) = min 2 (a :: b :: r).length := HT.sIx_nat _ _ _
    have e : HT.sIx (a :: b :: r).length 0 (some 2) = min 2 (a :: b :: r).length := e
    have z1 := z.1
    rw [e, List.length_cons, List.length_cons] at z1
    omega
  rw [o_slT h]
  exact congrArg (fun l => R.ok (PyData.tuple l)) (cut_from' (l := a :: b :: r) (n := 2))
theorem lc_gen {α : Type} {g : D → En → R En} {m : ME} {ρ : En} {ds : List D} {fs : List D} (hl : ds.length = fs.length) (h : ∀ (i : Nat) (d f : D), ds[i]? = some d → fs[i]? = some f → ∃ ρ1, g d ρ = .ok ρ1 ∧ m ρ1 = .ok f) : lcLoop g mYes m ρ ds = .ok fs := by
  induction ds generalizing fs with
  | nil =>
    cases fs with
    | nil => rfl
    | cons _ _ => cases hl
  | cons d ds ih =>
    cases fs with
    | nil => cases hl
    | cons f fs =>
      obtain ⟨ρ1, h1, h2⟩ := h 0 d f rfl rfl
      show (R.bind (g d ρ).sure fun ρ1 => (mYes ρ1).sure.bind fun k => if k then (m ρ1).sure.bind fun y => (lcLoop g mYes m ρ ds).bind fun ys => R.ok (y :: ys) else lcLoop g mYes m ρ ds) = _
      rw [h1, ih (Nat.succ.inj hl) fun i d f e1 e2 => h (i + 1) d f e1 e2]
      show (R.bind (m ρ1).sure fun y => _) = _
      rw [h2]
      rfl
/-- what each move is undone by, in the order of the moves -/
def oppsM (g : Int) (rs : List (List Nat)) : List Nat → List Mv → List Mv
  | _, [] => []
  | w, m :: ms => oppM w m :: (match aft g rs w m with
    | none => []
    | some v => oppsM g rs v ms)
theorem opps_und (g : Int) (rs : List (List Nat)) : ∀ (ms : List Mv) (w : List Nat) (k : Nat), badAt g rs k w ms = none → (oppsM g rs w ms).reverse = undM g rs w ms ∧ (oppsM g rs w ms).length = ms.length
  | [], _, _, _ => ⟨rfl, rfl⟩
  | m :: ms, w, k, h => by
    cases q : aft g rs w m with
    | none => rw [badAt_n q] at h; cases h
    | some v =>
      rw [badAt_s q] at h
      obtain ⟨h1, h2⟩ := opps_und g rs ms v (k + 1) h
      have e : oppsM g rs w (m :: ms) = oppM w m :: oppsM g rs v ms := by
        show oppM w m :: (match aft g rs w m with | none => [] | some v => oppsM g rs v ms) = _
        rw [q]
      rw [e, undM_s q, List.reverse_cons, h1, List.length_cons, List.length_cons, h2]
      exact ⟨rfl, rfl⟩
theorem opps_at {g : Int} {rs : List (List Nat)} (hp : Pres g rs) : ∀ (ms : List Mv) (w : List Nat) (k : Nat), (∀ c ∈ w, c ∈ lt g) → w.length ≤ 200 → badAt g rs k w ms = none → ∀ (i : Nat) (m o : Mv), ms[i]? = some m → (oppsM g rs w ms)[i]? = some o → ∃ v, (w :: wordsM g rs w ms)[i]? = some v ∧ o = oppM v m ∧ v.length ≤ 200 ∧ (∀ a, m = .cut a → 0 ≤ a ∧ a < v.length)
  | m :: ms, w, k, hw, hl, h, i, x, o, e1, e2 => by
    cases q : aft g rs w m with
    | none => rw [badAt_n q] at h; cases h
    | some v =>
      rw [badAt_s q] at h
      have hv := aft_lt hp hw hl q
      have e : oppsM g rs w (m :: ms) = oppM w m :: oppsM g rs v ms := by
        show oppM w m :: (match aft g rs w m with | none => [] | some v => oppsM g rs v ms) = _
        rw [q]
      rw [e] at e2
      rw [wordsM_s q]
      cases i with
      | zero =>
        cases e1; cases e2
        refine ⟨w, rfl, rfl, hl, fun a ea => ?_⟩
        subst ea
        have q : (pairA w a).bind (rmvW w a) = some v := q
        cases q2 : pairA w a with
        | none => rw [q2] at q; cases q
        | some t => have := pairA_eq q2; exact ⟨this.2.1, by omega⟩
      | succ i => exact opps_at hp ms v (k + 1) hv.1 hv.2 h i x o e1 e2
open Classical in
theorem ne_refl' {n : Nat} {d : D} (h : okD n d = true) (hn : n ≤ 64) : dNe d d = .ok (.bool false) := by
  rw [okD_ne h h hn hn, decide_eq_true rfl]; rfl
open Classical in
theorem eq_refl' {n : Nat} {d : D} (h : okD n d = true) (hn : n ≤ 64) : dEq d d = .ok (.bool true) := by
  rw [okD_eq h h hn hn, decide_eq_true rfl]
theorem okD_T {n : Nat} {l : List D} (h : ∀ d ∈ l, okD n d = true) : okD (n + 1) (.tuple l) = true := List.all_eq_true.mpr h
theorem okD_L {n : Nat} {l : List D} (h : ∀ d ∈ l, okD n d = true) : okD (n + 1) (.list l) = true := List.all_eq_true.mpr h
theorem okD_ki {k : List Nat} {z : Int} (h : ∀ c ∈ k, c < 1114112) : okD 1 (.tuple [sD k, .int z]) = true := okD_T fun d hd => by
  rcases List.mem_cons.mp hd with rfl | hd
  · exact okK h
  · rw [List.mem_singleton.mp hd]; exact okD_i
theorem okD_iw {w : List Nat} {z : Int} (h : Wd w) : okD 1 (.list [.int z, sD w]) = true := okD_L fun d hd => by
  rcases List.mem_cons.mp hd with rfl | hd
  · exact okD_i
  · rw [List.mem_singleton.mp hd]; exact okD_w h
theorem mvL_wd {g : Int} {m : Mv} (h : MvL g m) : ∀ a c, m = .put a c → Wd c := fun a c e => by
  obtain ⟨x, hx, rfl⟩ := h a c e
  intro y hy
  rw [List.mem_singleton.mp hy]; exact lt_sub hx

end Law

end
end
section
set_option Elab.async false
set_option linter.all false
set_option maxRecDepth 100000
set_option autoImplicit false
set_option maxHeartbeats 4000000
noncomputable section
namespace Law
open PySem DW L2
open SX (S S_tl S_len S_cat)
/-! ### inverted and shifted moves -/
theorem insW_iff {w t v : List Nat} {a : Int} : insW w a t = some v ↔ ∃ p q, w = p ++ q ∧ a = (p.length : Int) ∧ v = p ++ t ++ q ∧ w.length + t.length ≤ 200 := by
  constructor
  · intro e
    unfold insW at e
    split at e
    · rename_i h
      cases e
      exact ⟨w.take a.toNat, w.drop a.toNat, (List.take_append_drop _ _).symm, by rw [List.length_take]; omega, rfl, h.2.2⟩
    · cases e
  · rintro ⟨p, q, rfl, rfl, rfl, h⟩
    unfold insW
    rw [if_pos ⟨by omega, by rw [List.length_append]; omega, h⟩, Int.toNat_natCast, List.take_append_of_le_length (Nat.le_refl _), List.take_length, List.drop_append_of_le_length (Nat.le_refl _), List.drop_length, List.nil_append]
theorem rmvW_iff {w t v : List Nat} {a : Int} (ht : 1 ≤ t.length) : rmvW w a t = some v ↔ ∃ p q, w = p ++ t ++ q ∧ a = (p.length : Int) ∧ v = p ++ q := by
  constructor
  · intro e
    unfold rmvW at e
    split at e
    · rename_i h
      cases e
      have h2 := congrArg List.length h.2
      rw [List.length_take, List.length_drop] at h2
      refine ⟨w.take a.toNat, w.drop (a.toNat + t.length), ?_, by rw [List.length_take]; omega, rfl⟩
      rw [List.append_assoc]
      have e1 : t ++ w.drop (a.toNat + t.length) = w.drop a.toNat := by
        conv => rhs; rw [← List.take_append_drop t.length (w.drop a.toNat)]
        rw [h.2, List.drop_drop]
      rw [e1, List.take_append_drop]
    · cases e
  · rintro ⟨p, q, rfl, rfl, rfl⟩
    unfold rmvW
    have e1 : (p ++ t ++ q).drop p.length = t ++ q := by rw [List.append_assoc, List.drop_append_of_le_length (Nat.le_refl _), List.drop_length, List.nil_append]
    rw [Int.toNat_natCast, e1, if_pos ⟨by omega, by rw [List.take_append_of_le_length (Nat.le_refl _), List.take_length]⟩]
    have e2 : (p ++ t ++ q).drop (p.length + t.length) = q := by rw [← List.drop_drop, e1, List.drop_append_of_le_length (Nat.le_refl _), List.drop_length, List.nil_append]
    rw [e2, List.append_assoc, List.take_append_of_le_length (Nat.le_refl _), List.take_length]
theorem pairA_iff {w t : List Nat} {a : Int} : pairA w a = some t ↔ ∃ p x q, w = p ++ [x, inv x] ++ q ∧ a = (p.length : Int) ∧ t = [x, inv x] := by
  constructor
  · intro e
    obtain ⟨h1, h2, h3⟩ := pairA_eq e
    have e2 : w.drop a.toNat = t ++ w.drop (a.toNat + 2) := by
      rw [getD_drop (by omega), getD_drop (k := a.toNat + 1) (by omega), h1]
      unfold pairA at e
      split at e
      · rename_i h; rw [h.2.2]; rfl
      · cases e
    refine ⟨w.take a.toNat, w.getD a.toNat 0, w.drop (a.toNat + 2), ?_, by rw [List.length_take]; omega, h1⟩
    rw [← h1, List.append_assoc, ← e2, List.take_append_drop]
  · rintro ⟨p, x, q, rfl, rfl, rfl⟩
    refine pairA_of (by omega) ?_
    rw [Int.toNat_natCast, List.append_assoc, List.drop_append_of_le_length (Nat.le_refl _), List.drop_length, List.nil_append]
    rfl
theorem ltP_some {g : Int} {c t : List Nat} (e : ltP g c = some t) : ∃ x, x ∈ lt g ∧ c = [x] ∧ t = [x, inv x] := by
  match c, e with
  | [x], e =>
    by_cases hx : x ∈ lt g
    · have q : ltP g [x] = some [x, inv x] := if_pos hx
      rw [q] at e; cases e; exact ⟨x, hx, rfl, rfl⟩
    · have q : ltP g [x] = none := if_neg hx
      rw [q] at e; cases e
  | [], e => cases e
  | _ :: _ :: _, e => cases e
theorem ltP_of {g : Int} {x : Nat} (h : x ∈ lt g) : ltP g [x] = some [x, inv x] := if_pos h
/-- the moves by what they do -/
theorem aft_iff {g : Int} {rs : List (List Nat)} (hp : Pres g rs) {w v : List Nat} {m : Mv} : aft g rs w m = some v ↔ match m with
    | .put a c => ∃ x p q, x ∈ lt g ∧ c = [x] ∧ w = p ++ q ∧ a = (p.length : Int) ∧ v = p ++ [x, inv x] ++ q ∧ w.length + 2 ≤ 200
    | .cut a => ∃ x p q, w = p ++ [x, inv x] ++ q ∧ a = (p.length : Int) ∧ v = p ++ q
    | .add a k s => ∃ t p q, sigR rs k s = some t ∧ w = p ++ q ∧ a = (p.length : Int) ∧ v = p ++ t ++ q ∧ w.length + t.length ≤ 200
    | .take a k s => ∃ t p q, sigR rs k s = some t ∧ w = p ++ t ++ q ∧ a = (p.length : Int) ∧ v = p ++ q := by
  cases m with
  | put a c =>
    show (ltP g c).bind (insW w a) = some v ↔ _
    rw [Option.bind_eq_some_iff]
    constructor
    · rintro ⟨t, h1, h2⟩
      obtain ⟨x, hx, rfl, rfl⟩ := ltP_some h1
      obtain ⟨p, q, e1, e2, e3, e4⟩ := insW_iff.mp h2
      exact ⟨x, p, q, hx, rfl, e1, e2, e3, e4⟩
    · rintro ⟨x, p, q, hx, rfl, e1, e2, e3, e4⟩
      exact ⟨_, ltP_of hx, insW_iff.mpr ⟨p, q, e1, e2, e3, e4⟩⟩
  | cut a =>
    show (pairA w a).bind (rmvW w a) = some v ↔ _
    rw [Option.bind_eq_some_iff]
    constructor
    · rintro ⟨t, h1, h2⟩
      obtain ⟨p, x, q, e1, e2, rfl⟩ := pairA_iff.mp h1
      obtain ⟨p', q', f1, f2, f3⟩ := (rmvW_iff (by show 1 ≤ 2; decide)).mp h2
      exact ⟨x, p', q', f1, f2, f3⟩
    · rintro ⟨x, p, q, e1, e2, e3⟩
      exact ⟨_, pairA_iff.mpr ⟨p, x, q, e1, e2, rfl⟩, (rmvW_iff (by show 1 ≤ 2; decide)).mpr ⟨p, q, e1, e2, e3⟩⟩
  | add a k s =>
    show (sigR rs k s).bind (insW w a) = some v ↔ _
    rw [Option.bind_eq_some_iff]
    constructor
    · rintro ⟨t, h1, h2⟩
      obtain ⟨p, q, e⟩ := insW_iff.mp h2
      exact ⟨t, p, q, h1, e⟩
    · rintro ⟨t, p, q, h1, e⟩
      exact ⟨t, h1, insW_iff.mpr ⟨p, q, e⟩⟩
  | take a k s =>
    show (sigR rs k s).bind (rmvW w a) = some v ↔ _
    rw [Option.bind_eq_some_iff]
    constructor
    · rintro ⟨t, h1, h2⟩
      obtain ⟨p, q, e⟩ := (rmvW_iff (sigR_mem hp h1).2.1).mp h2
      exact ⟨t, p, q, h1, e⟩
    · rintro ⟨t, p, q, h1, e⟩
      exact ⟨t, h1, (rmvW_iff (sigR_mem hp h1).2.1).mpr ⟨p, q, e⟩⟩
def invM (rs : List (List Nat)) (size : Int) : Mv → Mv
  | .put a c => .put (size - a) c
  | .cut a => .cut (size - a - 2)
  | .add a k s => .add (size - a) k (-s)
  | .take a k s => .take (size - a - ((rs.getD k.toNat []).length : Int)) k (-s)
theorem sigR_neg {g : Int} {rs : List (List Nat)} (hp : Pres g rs) {k s : Int} {t : List Nat} (e : sigR rs k s = some t) : sigR rs k (-s) = some (invw t) ∧ t.length = (rs.getD k.toNat []).length := by
  have hw := (sigR_mem hp e).1
  unfold sigR at e ⊢
  split at e
  · rename_i h
    have hm := rels_mem (rs := rs) (k := k.toNat) (by omega)
    have hr := (hp.wd _ hm).1
    rw [if_pos ⟨h.1, h.2.1, by omega⟩]
    cases e
    rcases h.2.2 with rfl | rfl
    · exact ⟨rfl, rfl⟩
    · refine ⟨?_, invw_len _⟩
      show some (rs.getD k.toNat []) = some (invw (invw (rs.getD k.toNat [])))
      rw [invw_invw hr]
  · cases e
theorem invw_pair {g : Int} {x : Nat} (h : x ∈ L6) : invw [x, inv x] = [x, inv x] := by
  show [inv (inv x), inv x] = _
  rw [inv_inv x h]
theorem app_wd_l {a b : List Nat} (h : Wd (a ++ b)) : Wd a := fun c hc => h c (List.mem_append_left _ hc)
theorem app_wd_r {a b : List Nat} (h : Wd (a ++ b)) : Wd b := fun c hc => h c (List.mem_append_right _ hc)
theorem aft_inv {g : Int} {rs : List (List Nat)} (hp : Pres g rs) {w v : List Nat} {m : Mv} (hw : Wd w) (e : aft g rs w m = some v) : aft g rs (invw w) (invM rs (w.length : Int) m) = some (invw v) := by
  have e := (aft_iff hp).mp e
  cases m with
  | put a c =>
    obtain ⟨x, p, q, hx, rfl, rfl, rfl, rfl, hl⟩ := e
    refine (aft_iff hp).mpr ⟨x, invw q, invw p, hx, rfl, invw_app _ _, ?_, ?_, by rw [invw_len]; exact hl⟩
    · rw [invw_len, List.length_append]; omega
    · rw [invw_app, invw_app, invw_pair (g := g) (lt_sub hx), List.append_assoc]
  | cut a =>
    obtain ⟨x, p, q, rfl, rfl, rfl⟩ := e
    have hx : x ∈ L6 := hw x (by simp)
    refine (aft_iff hp).mpr ⟨x, invw q, invw p, ?_, ?_, invw_app _ _⟩
    · rw [invw_app, invw_app, invw_pair (g := g) hx, List.append_assoc]
    · rw [invw_len, List.length_append, List.length_append]
      show ((p.length + 2 + q.length : Nat) : Int) - _ - 2 = _
      omega
  | add a k s =>
    obtain ⟨t, p, q, ht, rfl, rfl, rfl, hl⟩ := e
    obtain ⟨h1, h2⟩ := sigR_neg hp ht
    refine (aft_iff hp).mpr ⟨invw t, invw q, invw p, h1, invw_app _ _, ?_, ?_, by rw [invw_len, invw_len]; exact hl⟩
    · rw [invw_len, List.length_append]; omega
    · rw [invw_app, invw_app, List.append_assoc]
  | take a k s =>
    obtain ⟨t, p, q, ht, rfl, rfl, rfl⟩ := e
    obtain ⟨h1, h2⟩ := sigR_neg hp ht
    refine (aft_iff hp).mpr ⟨invw t, invw q, invw p, h1, ?_, ?_, invw_app _ _⟩
    · rw [invw_app, invw_app, List.append_assoc]
    · rw [invw_len, List.length_append, List.length_append, h2]; omega
def shM (b : Int) : Mv → Mv
  | .put a c => .put (a + b) c
  | .cut a => .cut (a + b)
  | .add a k s => .add (a + b) k s
  | .take a k s => .take (a + b) k s
theorem aft_sh {g : Int} {rs : List (List Nat)} (hp : Pres g rs) {w v x y : List Nat} {m : Mv} (hl : x.length + v.length + y.length ≤ 200) (e : aft g rs w m = some v) : aft g rs (x ++ w ++ y) (shM (x.length : Int) m) = some (x ++ v ++ y) := by
  have e := (aft_iff hp).mp e
  cases m with
  | put a c =>
    obtain ⟨z, p, q, hx, rfl, rfl, rfl, rfl, _⟩ := e
    refine (aft_iff hp).mpr ⟨z, x ++ p, q ++ y, hx, rfl, by simp only [List.append_assoc], by rw [List.length_append]; omega, by simp only [List.append_assoc], ?_⟩
    simp only [List.length_append, List.length_cons, List.length_nil] at hl ⊢
    omega
  | cut a =>
    obtain ⟨z, p, q, rfl, rfl, rfl⟩ := e
    exact (aft_iff hp).mpr ⟨z, x ++ p, q ++ y, by simp only [List.append_assoc], by rw [List.length_append]; omega, by simp only [List.append_assoc]⟩
  | add a k s =>
    obtain ⟨t, p, q, ht, rfl, rfl, rfl, _⟩ := e
    refine (aft_iff hp).mpr ⟨t, x ++ p, q ++ y, ht, by simp only [List.append_assoc], by rw [List.length_append]; omega, by simp only [List.append_assoc], ?_⟩
    simp only [List.length_append] at hl ⊢
    omega
  | take a k s =>
    obtain ⟨t, p, q, ht, rfl, rfl, rfl⟩ := e
    exact (aft_iff hp).mpr ⟨t, x ++ p, q ++ y, ht, by simp only [List.append_assoc], by rw [List.length_append]; omega, by simp only [List.append_assoc]⟩
/-- inverted lists -/
def invsM (g : Int) (rs : List (List Nat)) : List Nat → List Mv → List Mv
  | _, [] => []
  | w, m :: ms => invM rs (w.length : Int) m :: (match aft g rs w m with
    | none => []
    | some v => invsM g rs v ms)
theorem invsM_s {g : Int} {rs : List (List Nat)} {w v : List Nat} {m : Mv} {ms : List Mv} (q : aft g rs w m = some v) : invsM g rs w (m :: ms) = invM rs (w.length : Int) m :: invsM g rs v ms := by
  show invM rs (w.length : Int) m :: (match aft g rs w m with | none => [] | some v => invsM g rs v ms) = _
  rw [q]
theorem invs_walk {g : Int} {rs : List (List Nat)} (hp : Pres g rs) : ∀ (ms : List Mv) (w : List Nat) (k j : Nat), (∀ c ∈ w, c ∈ lt g) → w.length ≤ 200 → badAt g rs k w ms = none → badAt g rs j (invw w) (invsM g rs w ms) = none ∧ lastW g rs (invw w) (invsM g rs w ms) = invw (lastW g rs w ms) ∧ (invsM g rs w ms).length = ms.length
  | [], w, k, j, _, _, _ => ⟨rfl, rfl, rfl⟩
  | m :: ms, w, k, j, hw, hl, h => by
    cases q : aft g rs w m with
    | none => rw [badAt_n q] at h; cases h
    | some v =>
      rw [badAt_s q] at h
      have hv := aft_lt hp hw hl q
      have o := aft_inv hp (lt_wd hw) q
      obtain ⟨h1, h2, h3⟩ := invs_walk hp ms v (k + 1) (j + 1) hv.1 hv.2 h
      rw [invsM_s q, badAt_s o, lastW_s o, lastW_s q, List.length_cons, List.length_cons, h3]
      exact ⟨h1, h2, rfl⟩
theorem shs_walk {g : Int} {rs : List (List Nat)} (hp : Pres g rs) {x y : List Nat} : ∀ (ms : List Mv) (w : List Nat) (k j : Nat), badAt g rs k w ms = none → (∀ v ∈ wordsM g rs w ms, x.length + v.length + y.length ≤ 200) → badAt g rs j (x ++ w ++ y) (ms.map (shM (x.length : Int))) = none ∧ lastW g rs (x ++ w ++ y) (ms.map (shM (x.length : Int))) = x ++ lastW g rs w ms ++ y
  | [], w, k, j, _, _ => ⟨rfl, rfl⟩
  | m :: ms, w, k, j, h, hs => by
    cases q : aft g rs w m with
    | none => rw [badAt_n q] at h; cases h
    | some v =>
      rw [badAt_s q] at h
      rw [wordsM_s q] at hs
      have o := aft_sh (x := x) (y := y) hp (hs v List.mem_cons_self) q
      obtain ⟨h1, h2⟩ := shs_walk hp ms v (k + 1) (j + 1) h fun u hu => hs u (List.mem_cons_of_mem _ hu)
      rw [List.map_cons, badAt_s o, lastW_s o, lastW_s q]
      exact ⟨h1, h2⟩
theorem invM_L {g : Int} {rs : List (List Nat)} {z : Int} {m : Mv} (h : MvL g m) : MvL g (invM rs z m) := fun a c e => by
  cases m with
  | put a' c' => cases e; exact h a' c rfl
  | _ => cases e
theorem shM_L {g z : Int} {m : Mv} (h : MvL g m) : MvL g (shM z m) := fun a c e => by
  cases m with
  | put a' c' => cases e; exact h a' c rfl
  | _ => cases e
theorem invsM_L {g : Int} {rs : List (List Nat)} : ∀ (ms : List Mv) (w : List Nat), (∀ m ∈ ms, MvL g m) → ∀ m ∈ invsM g rs w ms, MvL g m
  | [], _, _, _, h => nomatch h
  | m :: ms, w, hm, x, h => by
    rcases List.mem_cons.mp h with rfl | h
    · exact invM_L (hm m List.mem_cons_self)
    · cases q : aft g rs w m with
      | none => rw [q] at h; exact nomatch h
      | some v => rw [q] at h; exact invsM_L ms v (fun y hy => hm y (List.mem_cons_of_mem _ hy)) x h
theorem mv_sh {m : Mv} (b : Int) : ∃ (k : D) (a : Int) (r : List D), mvD m = .tuple (k :: .int a :: r) ∧ mvD (shM b m) = .tuple (k :: .int (a + b) :: r) ∧ r.length ≤ 2 := by
  cases m with
  | put a c => exact ⟨_, a, _, rfl, rfl, by show 1 ≤ 2; decide⟩
  | cut a => exact ⟨_, a, _, rfl, rfl, by show 0 ≤ 2; decide⟩
  | add a k s => exact ⟨_, a, _, rfl, rfl, by show 2 ≤ 2; decide⟩
  | take a k s => exact ⟨_, a, _, rfl, rfl, by show 2 ≤ 2; decide⟩
theorem words_app (g : Int) (rs : List (List Nat)) (b : List Mv) : ∀ (a : List Mv) (w : List Nat) (k : Nat), badAt g rs k w a = none → wordsM g rs w (a ++ b) = wordsM g rs w a ++ wordsM g rs (lastW g rs w a) b
  | [], w, k, _ => rfl
  | m :: ms, w, k, h => by
    rw [List.cons_append]
    cases q : aft g rs w m with
    | none => rw [badAt_n q] at h; cases h
    | some v =>
      rw [badAt_s q] at h
      rw [wordsM_s q, wordsM_s q, lastW_s q, words_app g rs b ms v (k + 1) h]
      rfl
theorem oppM_L {g : Int} {rs : List (List Nat)} {w v : List Nat} {m : Mv} (hw : ∀ c ∈ w, c ∈ lt g) (e : aft g rs w m = some v) : MvL g (oppM w m) := by
  intro a c h
  cases m with
  | cut a' =>
    cases h
    have e : (pairA w a).bind (rmvW w a) = some v := e
    cases q : pairA w a with
    | none => rw [q] at e; cases e
    | some t =>
      have := pairA_eq q
      exact ⟨_, hw _ (getD_mem (by omega)), rfl⟩
  | _ => cases h
theorem undM_L {g : Int} {rs : List (List Nat)} (hp : Pres g rs) : ∀ (ms : List Mv) (w : List Nat) (k : Nat), (∀ c ∈ w, c ∈ lt g) → w.length ≤ 200 → badAt g rs k w ms = none → ∀ m ∈ undM g rs w ms, MvL g m
  | [], _, _, _, _, _, _, h => nomatch h
  | m :: ms, w, k, hw, hl, hb, x, h => by
    cases q : aft g rs w m with
    | none => rw [badAt_n q] at hb; cases hb
    | some v =>
      rw [badAt_s q] at hb
      have hv := aft_lt hp hw hl q
      rw [undM_s q] at h
      rcases List.mem_append.mp h with h | h
      · exact undM_L hp ms v (k + 1) hv.1 hv.2 hb x h
      · rw [List.mem_singleton.mp h]; exact oppM_L hw q
theorem undM_app (g : Int) (rs : List (List Nat)) (b : List Mv) : ∀ (a : List Mv) (w : List Nat) (k : Nat), badAt g rs k w a = none → undM g rs w (a ++ b) = undM g rs (lastW g rs w a) b ++ undM g rs w a
  | [], w, k, _ => (List.append_nil _).symm
  | m :: ms, w, k, h => by
    rw [List.cons_append]
    cases q : aft g rs w m with
    | none => rw [badAt_n q] at h; cases h
    | some v =>
      rw [badAt_s q] at h
      rw [undM_s q, undM_s q, lastW_s q, undM_app g rs b ms v (k + 1) h, List.append_assoc]
theorem opp_opp {g : Int} {rs : List (List Nat)} (hp : Pres g rs) {w v : List Nat} {m : Mv} (e : aft g rs w m = some v) : oppM v (oppM w m) = m := by
  have e := (aft_iff hp).mp e
  cases m with
  | put a c =>
    obtain ⟨x, p, q, hx, rfl, rfl, rfl, rfl, hl⟩ := e
    show Mv.put _ [(p ++ [x, inv x] ++ q).getD (p.length : Int).toNat 0] = _
    rw [Int.toNat_natCast, List.getD_eq_getElem?_getD, List.append_assoc, List.getElem?_append_right (Nat.le_refl _), Nat.sub_self]
    rfl
  | _ => rfl
theorem und_und {g : Int} {rs : List (List Nat)} (hp : Pres g rs) : ∀ (ms : List Mv) (w : List Nat) (k : Nat), (∀ c ∈ w, c ∈ lt g) → w.length ≤ 200 → badAt g rs k w ms = none → undM g rs (lastW g rs w ms) (undM g rs w ms) = ms
  | [], w, k, _, _, _ => rfl
  | m :: ms, w, k, hw, hl, h => by
    cases q : aft g rs w m with
    | none => rw [badAt_n q] at h; cases h
    | some v =>
      rw [badAt_s q] at h
      have hv := aft_lt hp hw hl q
      have o := aft_opp hp hw hl q
      obtain ⟨b1, b2, b3⟩ := und_back hp ms v (k + 1) hv.1 hv.2 h
      rw [lastW_s q, undM_s q, undM_app g rs [oppM w m] _ _ 0 b1, b2, und_und hp ms v (k + 1) hv.1 hv.2 h, undM_s o, opp_opp hp q]
      rfl
theorem inv_invM {rs : List (List Nat)} {z : Int} {m : Mv} : invM rs z (invM rs z m) = m := by
  cases m with
  | put a c => show Mv.put (z - (z - a)) c = _; congr 1; omega
  | cut a => show Mv.cut (z - (z - a - 2) - 2) = _; congr 1; omega
  | add a k s => show Mv.add (z - (z - a)) k (- -s) = _; congr 1 <;> omega
  | take a k s => show Mv.take (z - (z - a - ((rs.getD k.toNat []).length : Int)) - ((rs.getD k.toNat []).length : Int)) k (- -s) = _; congr 1 <;> omega
theorem invs_invs {g : Int} {rs : List (List Nat)} (hp : Pres g rs) : ∀ (ms : List Mv) (w : List Nat) (k : Nat), (∀ c ∈ w, c ∈ lt g) → w.length ≤ 200 → badAt g rs k w ms = none → invsM g rs (invw w) (invsM g rs w ms) = ms
  | [], w, k, _, _, _ => rfl
  | m :: ms, w, k, hw, hl, h => by
    cases q : aft g rs w m with
    | none => rw [badAt_n q] at h; cases h
    | some v =>
      rw [badAt_s q] at h
      have hv := aft_lt hp hw hl q
      have o := aft_inv hp (lt_wd hw) q
      rw [invsM_s q, invsM_s o, invw_len, inv_invM, invs_invs hp ms v (k + 1) hv.1 hv.2 h]

end Law

end
end
section
set_option Elab.async false
set_option linter.all false
set_option maxRecDepth 100000
set_option autoImplicit false
set_option maxHeartbeats 4000000
noncomputable section
namespace Law
open PySem DW L2
open SX (S S_tl S_len S_cat)
/-! counting letters -/
def wt (n1 n2 n3 : Int) (c : Nat) : Int := if c = 97 then n1 else if c = 98 then n2 else if c = 99 then n3 else if c = 65 then -n1 else if c = 66 then -n2 else -n3
def cnt (n1 n2 n3 : Int) : List Nat → Int
  | [] => 0
  | c :: w => wt n1 n2 n3 c + cnt n1 n2 n3 w
section
variable {n1 n2 n3 n : Int}
theorem cnt_app (b : List Nat) : ∀ a, cnt n1 n2 n3 (a ++ b) = cnt n1 n2 n3 a + cnt n1 n2 n3 b
  | [] => (Int.zero_add _).symm
  | c :: a => by
    show wt n1 n2 n3 c + cnt n1 n2 n3 (a ++ b) = wt n1 n2 n3 c + cnt n1 n2 n3 a + cnt n1 n2 n3 b
    rw [cnt_app b a, Int.add_assoc]
theorem wt_inv : ∀ c ∈ L6, wt n1 n2 n3 (inv c) = - wt n1 n2 n3 c := L6_all ⟨by simp [wt, inv], by simp [wt, inv], by simp [wt, inv], by simp [wt, inv], by simp [wt, inv], by simp [wt, inv]⟩
theorem cnt_invw : ∀ w : List Nat, Wd w → cnt n1 n2 n3 (invw w) = - cnt n1 n2 n3 w
  | [], _ => rfl
  | c :: w, h => by
    have e : invw (c :: w) = invw w ++ [inv c] := invw_app [c] w
    rw [e, cnt_app, cnt_invw w fun x hx => h x (List.mem_cons_of_mem _ hx)]
    show _ + (wt n1 n2 n3 (inv c) + 0) = - (wt n1 n2 n3 c + _)
    rw [wt_inv c (h c List.mem_cons_self)]
    omega
theorem cnt_ins {w v t : List Nat} {a : Int} (e : insW w a t = some v) : cnt n1 n2 n3 v = cnt n1 n2 n3 w + cnt n1 n2 n3 t := by
  unfold insW at e
  split at e
  · cases e
    have h : cnt n1 n2 n3 w = cnt n1 n2 n3 (w.take a.toNat ++ w.drop a.toNat) := by rw [List.take_append_drop]
    rw [h, cnt_app, cnt_app, cnt_app]
    omega
  · cases e
theorem cnt_rmv {w v t : List Nat} {a : Int} (e : rmvW w a t = some v) : cnt n1 n2 n3 v = cnt n1 n2 n3 w - cnt n1 n2 n3 t := by
  unfold rmvW at e
  split at e
  · rename_i q
    cases e
    have h : cnt n1 n2 n3 w = cnt n1 n2 n3 (w.take a.toNat ++ (t ++ w.drop (a.toNat + t.length))) := by
      have : t ++ w.drop (a.toNat + t.length) = w.drop a.toNat := by
        rw [← List.drop_drop]
        have := List.take_append_drop t.length (w.drop a.toNat)
        rw [q.2] at this
        exact this
      rw [this, List.take_append_drop]
    rw [h, cnt_app, cnt_app, cnt_app]
    omega
  · cases e
theorem cnt_aft {g : Int} {rs : List (List Nat)} (hp : Pres g rs) {w v : List Nat} {m : Mv} (hw : ∀ c ∈ w, c ∈ lt g) (fit : ∀ r ∈ rs, n ∣ cnt n1 n2 n3 r) (e : aft g rs w m = some v) : n ∣ cnt n1 n2 n3 v - cnt n1 n2 n3 w := by
  have sg : ∀ k s t, sigR rs k s = some t → n ∣ cnt n1 n2 n3 t := fun k s t q => by
    unfold sigR at q
    split at q
    · rename_i h
      cases q
      have hk : k.toNat < rs.length := by omega
      have hr : rs.getD k.toNat [] ∈ rs := by
        rw [List.getD_eq_getElem?_getD, List.getElem?_eq_getElem hk]
        exact List.getElem_mem hk
      have f := fit _ hr
      split
      · exact f
      · rw [cnt_invw _ (hp.wd _ hr).1]; exact Int.dvd_neg.mpr f
    · cases q
  cases m with
  | put a c =>
    have e : (ltP g c).bind (insW w a) = some v := e
    match c, e with
    | [x], e =>
      by_cases hx : x ∈ lt g
      · have q : ltP g [x] = some [x, inv x] := if_pos hx
        rw [q] at e
        have := cnt_ins (n1 := n1) (n2 := n2) (n3 := n3) (show insW w a [x, inv x] = some v from e)
        rw [this]
        show n ∣ _ + (wt n1 n2 n3 x + (wt n1 n2 n3 (inv x) + 0)) - _
        rw [wt_inv x (lt_sub hx)]
        exact ⟨0, by omega⟩
      · have q : ltP g [x] = none := if_neg hx
        rw [q] at e; cases e
    | [], e => cases e
    | _ :: _ :: _, e => cases e
  | cut a =>
    have e : (pairA w a).bind (rmvW w a) = some v := e
    cases q : pairA w a with
    | none => rw [q] at e; cases e
    | some t =>
      rw [q] at e
      have := cnt_rmv (n1 := n1) (n2 := n2) (n3 := n3) (show rmvW w a t = some v from e)
      rw [this]
      unfold pairA at q
      split at q
      · rename_i h
        cases q
        have h1 : a.toNat < w.length := by omega
        have h2 : a.toNat + 1 < w.length := by omega
        have e2 : (w.drop a.toNat).take 2 = [w.getD a.toNat 0, w.getD (a.toNat + 1) 0] := by
          rw [List.drop_eq_getElem_cons h1, List.drop_eq_getElem_cons h2, List.getD_eq_getElem?_getD, List.getD_eq_getElem?_getD, List.getElem?_eq_getElem h1, List.getElem?_eq_getElem h2]
          rfl
        have hm : w.getD a.toNat 0 ∈ L6 := by
          rw [List.getD_eq_getElem?_getD, List.getElem?_eq_getElem h1]
          exact lt_sub (hw _ (List.getElem_mem h1))
        rw [e2, h.2.2]
        show n ∣ _ - (wt n1 n2 n3 _ + (wt n1 n2 n3 (inv _) + 0)) - _
        rw [wt_inv _ hm]
        exact ⟨0, by omega⟩
      · cases q
  | add a k s =>
    have e : (sigR rs k s).bind (insW w a) = some v := e
    cases q : sigR rs k s with
    | none => rw [q] at e; cases e
    | some t =>
      rw [q] at e
      rw [cnt_ins (n1 := n1) (n2 := n2) (n3 := n3) (show insW w a t = some v from e)]
      have := sg k s t q
      have e2 : cnt n1 n2 n3 w + cnt n1 n2 n3 t - cnt n1 n2 n3 w = cnt n1 n2 n3 t := by omega
      rw [e2]; exact this
  | take a k s =>
    have e : (sigR rs k s).bind (rmvW w a) = some v := e
    cases q : sigR rs k s with
    | none => rw [q] at e; cases e
    | some t =>
      rw [q] at e
      rw [cnt_rmv (n1 := n1) (n2 := n2) (n3 := n3) (show rmvW w a t = some v from e)]
      have := sg k s t q
      have e2 : cnt n1 n2 n3 w - cnt n1 n2 n3 t - cnt n1 n2 n3 w = - cnt n1 n2 n3 t := by omega
      rw [e2]; exact Int.dvd_neg.mpr this
theorem cnt_last {g : Int} {rs : List (List Nat)} (hp : Pres g rs) (fit : ∀ r ∈ rs, n ∣ cnt n1 n2 n3 r) : ∀ (ms : List Mv) (w : List Nat), (∀ c ∈ w, c ∈ lt g) → w.length ≤ 200 → n ∣ cnt n1 n2 n3 (lastW g rs w ms) - cnt n1 n2 n3 w
  | [], w, hw, hl => ⟨0, by show cnt n1 n2 n3 w - cnt n1 n2 n3 w = n * 0; omega⟩
  | m :: ms, w, hw, hl => by
    cases q : aft g rs w m with
    | none => rw [lastW_n q]; exact ⟨0, by omega⟩
    | some v =>
      have hv := aft_lt hp hw hl q
      rw [lastW_s q]
      have h1 := cnt_last hp fit ms v hv.1 hv.2
      have h2 := cnt_aft hp hw fit q
      have := Int.dvd_add h1 h2
      have e : cnt n1 n2 n3 (lastW g rs v ms) - cnt n1 n2 n3 v + (cnt n1 n2 n3 v - cnt n1 n2 n3 w) = cnt n1 n2 n3 (lastW g rs v ms) - cnt n1 n2 n3 w := by omega
      rw [e] at this
      exact this
end

end Law

end
end
section
set_option Elab.async false
set_option linter.all false
set_option maxRecDepth 100000
set_option autoImplicit false
set_option maxHeartbeats 4000000
noncomputable section
namespace Law
open PySem DW L2
open SX (S S_tl S_len S_cat)
/-! the cuts of a word: the first pair each time -/
def cutS : List Nat → List Nat → List (Nat × Nat)
  | _, [] => []
  | [], c :: w => cutS [c] w
  | t :: st, c :: w => if t = inv c then (st.length, t) :: cutS st w else cutS (c :: t :: st) w
def fp : List Nat → Option Nat
  | a :: b :: u => if b = inv a then some 0 else (fp (b :: u)).map (· + 1)
  | _ => none
theorem fp_top : ∀ (s : List Nat) (t : Nat) (w : List Nat), Irr (t :: s) → Wd (t :: s) → fp (s.reverse ++ t :: w) = (fp (t :: w)).map (· + s.length)
  | [], t, w, _, _ => by
    show fp (t :: w) = (fp (t :: w)).map (· + 0)
    cases fp (t :: w) <;> rfl
  | x :: s, t, w, h, hw => by
    have e : (x :: s).reverse ++ t :: w = s.reverse ++ x :: t :: w := by rw [List.reverse_cons, List.append_assoc]; rfl
    rw [e, fp_top s x (t :: w) h.2 fun y hy => hw y (List.mem_cons_of_mem _ hy)]
    have n : ¬ t = inv x := fun z => h.1 (by rw [z, inv_inv x (hw x (List.mem_cons_of_mem _ List.mem_cons_self))])
    have q : fp (x :: t :: w) = (fp (t :: w)).map (· + 1) := if_neg n
    rw [q]
    cases fp (t :: w) with
    | none => rfl
    | some i => show some (i + 1 + s.length) = some (i + (s.length + 1)); rw [Nat.add_assoc, Nat.add_comm 1]
theorem cut_step : ∀ (w st : List Nat), Irr st → Wd st → Wd w →
    (cutS st w = [] ∧ fp (st.reverse ++ w) = none ∧ redS st w = (st.reverse ++ w).reverse) ∨
    ∃ (s : List Nat) (t c : Nat) (w' : List Nat), cutS st w = (s.length, t) :: cutS s w' ∧ Irr s ∧ Wd s ∧ Wd w' ∧ c = inv t ∧ t ∈ L6 ∧ st.reverse ++ w = s.reverse ++ t :: c :: w' ∧ fp (st.reverse ++ w) = some s.length ∧ redS st w = redS s w'
  | [], st, h, hs, _ => by
    refine .inl ⟨by cases st <;> rfl, ?_, by rw [List.append_nil, List.reverse_reverse]; rfl⟩
    cases st with
    | nil => rfl
    | cons t s =>
      have e : (t :: s).reverse ++ [] = s.reverse ++ t :: [] := by rw [List.reverse_cons, List.append_nil]
      rw [e, fp_top s t [] h hs]
      rfl
  | c :: w, [], h, hs, hw => by
    have hc := hw c List.mem_cons_self
    exact cut_step w [c] trivial (fun x hx => by rw [List.mem_singleton.mp hx]; exact hc) fun x hx => hw x (List.mem_cons_of_mem _ hx)
  | c :: w, t :: s, h, hs, hw => by
    have hc := hw c List.mem_cons_self
    have ht := hs t List.mem_cons_self
    have hw2 : Wd w := fun x hx => hw x (List.mem_cons_of_mem _ hx)
    by_cases e : t = inv c
    · have ec : c = inv t := by rw [e, inv_inv c hc]
      refine .inr ⟨s, t, c, w, if_pos e, h.tail, fun x hx => hs x (List.mem_cons_of_mem _ hx), hw2, ec, ht, ?_, ?_, ?_⟩
      · rw [List.reverse_cons, List.append_assoc]; rfl
      · have e2 : (t :: s).reverse ++ c :: w = s.reverse ++ t :: c :: w := by rw [List.reverse_cons, List.append_assoc]; rfl
        rw [e2, fp_top s t (c :: w) h hs]
        have q : fp (t :: c :: w) = some 0 := if_pos ec
        rw [q]
        show some (0 + s.length) = _
        rw [Nat.zero_add]
      · rw [redS_cons, rstep_cut e]
    · have e2 : (t :: s).reverse ++ c :: w = (c :: t :: s).reverse ++ w := by rw [List.reverse_cons (a := c), List.append_assoc]; rfl
      have q : cutS (t :: s) (c :: w) = cutS (c :: t :: s) w := if_neg e
      have q2 : redS (t :: s) (c :: w) = redS (c :: t :: s) w := by rw [redS_cons, rstep_add e]
      rw [e2, q, q2]
      exact cut_step w (c :: t :: s) ⟨e, h⟩ (fun x hx => (List.mem_cons.mp hx).elim (fun z => z ▸ hc) (hs x)) hw2
theorem cut_len : ∀ (w st : List Nat), (cutS st w).length ≤ w.length
  | [], st => by cases st <;> exact Nat.le_refl _
  | c :: w, [] => Nat.le_succ_of_le (cut_len w [c])
  | c :: w, t :: s => by
    show (if t = inv c then (s.length, t) :: cutS s w else cutS (c :: t :: s) w).length ≤ w.length + 1
    split
    · exact Nat.succ_le_succ (cut_len w s)
    · exact Nat.le_succ_of_le (cut_len w _)
/-- the moves -/
def cutMv (p : Nat × Nat) : Mv := .cut (p.1 : Int)
abbrev cutD (p : Nat × Nat) : D := mvD (cutMv p)
def putMv (p : Nat × Nat) : Mv := .put (p.1 : Int) [p.2]
theorem getD_app {a b : List Nat} {x : Nat} : (a ++ x :: b).getD a.length 0 = x := by
  rw [List.getD_eq_getElem?_getD, List.getElem?_append_right (Nat.le_refl _), Nat.sub_self]; rfl
theorem getD_app1 {a b : List Nat} {x y : Nat} : (a ++ x :: y :: b).getD (a.length + 1) 0 = y := by
  have e : a ++ x :: y :: b = (a ++ [x]) ++ y :: b := by rw [List.append_assoc]; rfl
  have e2 : a.length + 1 = (a ++ [x]).length := by rw [List.length_append]; rfl
  rw [e, e2]; exact getD_app
theorem cut_aft {g : Int} {rs : List (List Nat)} {s w : List Nat} {t c : Nat} (hc : c = inv t) :
    aft g rs (s.reverse ++ t :: c :: w) (.cut (s.length : Int)) = some (s.reverse ++ w) := by
  have e0 : s.length = s.reverse.length := List.length_reverse.symm
  rw [e0]
  generalize s.reverse = a
  have g1 : (a ++ t :: c :: w).getD a.length 0 = t := getD_app
  have g2 : (a ++ t :: c :: w).getD (a.length + 1) 0 = c := getD_app1
  have hp : pairA (a ++ t :: c :: w) (a.length : Int) = some [t, c] := by
    unfold pairA
    rw [if_pos]
    · rw [Int.toNat_natCast, List.drop_append_of_le_length (Nat.le_refl _), List.drop_length]; rfl
    · rw [Int.toNat_natCast, g1, g2]
      refine ⟨by omega, ?_, hc⟩
      rw [List.length_append]; simp only [List.length_cons]; omega
  show (pairA _ _).bind (rmvW _ _) = _
  rw [hp]
  show rmvW _ _ [t, c] = _
  unfold rmvW
  have d1 : (a ++ t :: c :: w).drop a.length = t :: c :: w := by rw [List.drop_append_of_le_length (Nat.le_refl _), List.drop_length]; rfl
  have d2 : (a ++ t :: c :: w).drop (a.length + 2) = w := by rw [← List.drop_drop, d1]; rfl
  have d3 : (a ++ t :: c :: w).take a.length = a := by rw [List.take_append_of_le_length (Nat.le_refl _), List.take_length]
  rw [if_pos ⟨by omega, by rw [Int.toNat_natCast, d1]; rfl⟩, Int.toNat_natCast]
  show some (_ ++ (a ++ t :: c :: w).drop (a.length + 2)) = _
  rw [d2, d3]
theorem cut_walk {g : Int} {rs : List (List Nat)} : ∀ (n : Nat) (w st : List Nat) (k : Nat), (cutS st w).length = n → Irr st → Wd st → Wd w →
    badAt g rs k (st.reverse ++ w) ((cutS st w).map cutMv) = none ∧ lastW g rs (st.reverse ++ w) ((cutS st w).map cutMv) = (redS st w).reverse ∧
    undM g rs (st.reverse ++ w) ((cutS st w).map cutMv) = (cutS st w).reverse.map putMv
  | 0, w, st, k, hn, h, hs, hw => by
    rcases cut_step w st h hs hw with ⟨h1, h2, h3⟩ | ⟨s, t, c, w', h1, _⟩
    · rw [h1, h3, List.reverse_reverse]; exact ⟨rfl, rfl, rfl⟩
    · rw [h1] at hn; cases hn
  | n + 1, w, st, k, hn, h, hs, hw => by
    rcases cut_step w st h hs hw with ⟨h1, h2, h3⟩ | ⟨s, t, c, w', h1, h2, h3, h4, h5, h6, h7, h8, h9⟩
    · rw [h1] at hn; cases hn
    · rw [h1, h7, h9]
      have q : aft g rs (s.reverse ++ t :: c :: w') (cutMv (s.length, t)) = some (s.reverse ++ w') := cut_aft h5
      have hn : (cutS s w').length = n := by rw [h1] at hn; exact Nat.succ.inj hn
      obtain ⟨a1, a2, a3⟩ := cut_walk (g := g) (rs := rs) n w' s (k + 1) hn h2 h3 h4
      refine ⟨?_, ?_, ?_⟩
      · rw [List.map_cons, badAt_s q]; exact a1
      · rw [List.map_cons, lastW_s q]; exact a2
      · rw [List.map_cons, undM_s q, a3, List.reverse_cons, List.map_append]
        congr 1
        show [Mv.put (s.length : Int) [(s.reverse ++ t :: c :: w').getD ((s.length : Int)).toNat 0]] = [Mv.put (s.length : Int) [t]]
        rw [Int.toNat_natCast]
        have e0 : s.length = s.reverse.length := List.length_reverse.symm
        have : (s.reverse ++ t :: c :: w').getD s.length 0 = t := by rw [e0]; exact getD_app
        rw [this]
theorem cut_walk0 {g : Int} {rs : List (List Nat)} {w : List Nat} (hw : Wd w) (k : Nat) :
    badAt g rs k w ((cutS [] w).map cutMv) = none ∧ lastW g rs w ((cutS [] w).map cutMv) = red w ∧ undM g rs w ((cutS [] w).map cutMv) = (cutS [] w).reverse.map putMv := cut_walk _ w [] k rfl trivial nil_wd hw

end Law

end
end
section
set_option Elab.async false
set_option linter.all false
set_option maxRecDepth 100000
set_option autoImplicit false
set_option maxHeartbeats 4000000
noncomputable section
namespace Law
open PySem PySem.Spec PyProof.Rows L2 DW
open SX (S S_tl S_len S_cat)
def k_tab : List (Str × List (Str × Bool)) := [("CayleyError", [("NotWord", true), ("BadNumber", true), ("NotPresentation", true), ("BadMove", true)])]
def k_sub (x n : Str) : Option Bool := ((k_tab.lookup x).getD []).lookup n
def k_itab : List (Str × List (Str × Bool)) := [("NotPresentation", [("NotWord", false), ("BadNumber", false), ("NotPresentation", true), ("BadMove", false)]), ("NotWord", [("NotWord", true), ("BadNumber", false), ("NotPresentation", false), ("BadMove", false)]), ("BadMove", [("NotWord", false), ("BadNumber", false), ("NotPresentation", false), ("BadMove", true)]), ("BadNumber", [("NotWord", false), ("BadNumber", true), ("NotPresentation", false), ("BadMove", false)]), ("CayleyError", [("NotWord", true), ("BadNumber", true), ("NotPresentation", true), ("BadMove", true)])]
def k_isx (x n : Str) : Option Bool := ((k_itab.lookup x).getD []).lookup n
def tb_INVERSES : List (Str × D) := [("a", .str "A"), ("A", .str "a"), ("b", .str "B"), ("B", .str "b"), ("c", .str "C"), ("C", .str "c")]
def b__law_number : MS := (sCons (sIf (mT (m2 dLt (mVarP 0) (mC (.int 0)))) (sRet (m2 dSub (mC (.int 0)) (mVarP 0))) sNil)
  (sRet (mVar 0)))
def m__law_number : List D → R D := runDef 1 b__law_number
def lb__law_draws_1 : MS := (sCons (sIf (mT (m2 dEq (mVarP 3) (mC (.int 0)))) sBreak sNil)
  (sCons (sApp 1 (m2 dMod (mF dInt1 (aCons (mVarP 3) aNil)) (mC (.int 1000))))
  (sAsg (gN 3) (m2 dFdiv (mVarP 3) (mC (.int 1000))))))
def lb__law_draws_2 : MS := (sCons (sAsg (gN 3) (mCall 1 m__law_number (aCons (mVar 2) aNil)))
  (sIf (mT (m2 dGe (mVarP 3) (mC (.int 1000000000000000000)))) (sFor (iRange1 (aCons (mC (.int 60)) aNil)) (gN 4) lb__law_draws_1) (sCons (sAsg (gN 5) (m2 dMod (mF dInt1 (aCons (m2 dAdd (m2 dMul (mVarP 3) (mC (.int 48271))) (mC (.int 11))) aNil)) (mC (.int 2147483647))))
  (sCons (sAsg (gN 6) (m2 dMod (mF dInt1 (aCons (m2 dAdd (m2 dMul (mVarP 5) (mC (.int 69621))) (mVar 3)) aNil)) (mC (.int 2147483629))))
  (sExt 1 (aLst (aCons (m2 dMod (mF dInt1 (aCons (mVarP 3) aNil)) (mC (.int 1000))) (aCons (m2 dMod (mF dInt1 (aCons (mVarP 5) aNil)) (mC (.int 1000))) (aCons (m2 dMod (mF dInt1 (aCons (mVarP 6) aNil)) (mC (.int 1000))) aNil)))))))))
def b__law_draws : MS := (sCons (sOwn 1 (aLst aNil))
  (sCons (sFor (iSeq (mVar 0)) (gN 2) lb__law_draws_2)
  (sRetOwn 1)))
def m__law_draws : List D → R (List D) := runDefN 7 b__law_draws
def b__law_next : MS := (sNext 0)
def m__law_next : List D → R D := runDefR 1 b__law_next
def lb__law_word_1 : MS := (sAsg (gN 4) (m2 dAdd (mVar 4) (m2 dIdx (mVarP 3) (m2 dMod (mF dInt1 (aCons (mCallR 0 0 m__law_next aNil) aNil)) (m2 dMul (mC (.int 2)) (mVarP 1))))))
def b__law_word : MS := (sCons (sAsg (gN 3) (mC (.str "aAbBcC")))
  (sCons (sAsg (gN 4) (mC (.str "")))
  (sCons (sFor (iRange1 (aCons (m2 dMod (mF dInt1 (aCons (mCallR 0 0 m__law_next aNil) aNil)) (m2 dAdd (mVar 2) (mC (.int 1)))) aNil)) (gN 5) lb__law_word_1)
  (sRet (mVar 4)))))
def m__law_word : List D → R D := runDefR 6 b__law_word
def lb__law_presentation_1 : MS := (sCons (sAsg (gN 4) (mCallR 0 2 m__law_word (aCons (mVar 1) (aCons (mC (.int 6)) aNil))))
  (sIf (mT (m2 dNe (mVarP 4) (mC (.str "")))) (sApp 2 (mVar 4)) sNil))
def b__law_presentation : MS := (sCons (sAsg (gN 1) (m2 dIdx (mLst (aCons (mC (.int 1)) (aCons (mC (.int 2)) (aCons (mC (.int 2)) (aCons (mC (.int 2)) (aCons (mC (.int 2)) (aCons (mC (.int 2)) (aCons (mC (.int 3)) aNil)))))))) (m2 dMod (mF dInt1 (aCons (mCallR 0 0 m__law_next aNil) aNil)) (mC (.int 7)))))
  (sCons (sOwn 2 (aLst aNil))
  (sCons (sFor (iRange1 (aCons (m2 dMod (mF dInt1 (aCons (mCallR 0 0 m__law_next aNil) aNil)) (mC (.int 4))) aNil)) (gN 3) lb__law_presentation_1)
  (sFrz 2 (sRet (mTup (aCons (mVar 1) (aCons (m1 dTupOf (mVar 2)) aNil))))))))
def m__law_presentation : List D → R D := runDefR 5 b__law_presentation
def b__law_swap : MS := (sRet (m1 (dTabAt [("a", .str "A"), ("A", .str "a"), ("b", .str "B"), ("B", .str "b"), ("c", .str "C"), ("C", .str "c")]) (mVarP 0)))
def m__law_swap : List D → R D := runDef 1 b__law_swap
def lb__law_padded_1 : MS := (sCons (sAsg (gN 4) (m2 dMod (mF dInt1 (aCons (mCallR 0 0 m__law_next aNil) aNil)) (m2 dAdd (mF dLen (aCons (mVarP 2) aNil)) (mC (.int 1)))))
  (sCons (sAsg (gN 5) (m2 dIdx (mC (.str "aAbBcC")) (m2 dMod (mF dInt1 (aCons (mCallR 0 0 m__law_next aNil) aNil)) (m2 dMul (mC (.int 2)) (mVarP 1)))))
  (sAsg (gN 2) (m2 dAdd (m2 dAdd (m2 dAdd (mSl (mVarP 2) oNone (oSome (mVarP 4))) (mVar 5)) (mCall 1 m__law_swap (aCons (mVar 5) aNil))) (mSl (mVarP 2) (oSome (mVarP 4)) oNone)))))
def b__law_padded : MS := (sCons (sFor (iRange1 (aCons (m2 dMod (mF dInt1 (aCons (mCallR 0 0 m__law_next aNil) aNil)) (mC (.int 5))) aNil)) (gN 3) lb__law_padded_1)
  (sRet (mVar 2)))
def m__law_padded : List D → R D := runDefR 6 b__law_padded
def lb__law_cuts_1 : MS := (sIf (mT (m2 dEq (m2 dIdx (mVarP 0) (mVarP 5)) (mCall 1 m__law_swap (aCons (m2 dIdx (mVarP 0) (m2 dSub (mVarP 5) (mC (.int 1)))) aNil)))) (sAsg (gN 4) (m2 dSub (mVarP 5) (mC (.int 1)))) sNil)
def lb__law_cuts_2 : MS := (sCons (sAsg (gN 4) (m1 dNeg (mC (.int 1))))
  (sCons (sFor (iRange3 (aCons (m2 dSub (mF dLen (aCons (mVarP 0) aNil)) (mC (.int 1))) (aCons (mC (.int 0)) (aCons (m1 dNeg (mC (.int 1))) aNil)))) (gN 5) lb__law_cuts_1)
  (sCons (sIf (mT (m2 dLt (mVarP 4) (mC (.int 0)))) sBreak sNil)
  (sCons (sApp 2 (m2 dIdx (mVarP 0) (mVarP 4)))
  (sCons (sApp 1 (mTup (aCons (mC (.str "cut")) (aCons (mVar 4) aNil))))
  (sAsg (gN 0) (m2 dAdd (mSl (mVarP 0) oNone (oSome (mVarP 4))) (mSl (mVarP 0) (oSome (m2 dAdd (mVar 4) (mC (.int 2)))) oNone))))))))
def b__law_cuts : MS := (sCons (sOwn 1 (aLst aNil))
  (sCons (sOwn 2 (aLst aNil))
  (sCons (sFor (iRange1 (aCons (mF dLen (aCons (mVarP 0) aNil)) aNil)) (gN 3) lb__law_cuts_2)
  (sFrz 2 (sFrz 1 (sRet (mLst (aCons (mVar 1) (aCons (mVar 0) (aCons (mVar 2) aNil))))))))))
def m__law_cuts : List D → R D := runDef 6 b__law_cuts
def b_inverse_letter : MS := (sCons (sIf (mT (m1 (dTabNi tb_INVERSES) (mVarP 0))) (sRaise "NotWord") sNil)
  (sRet (m1 (dTabAt tb_INVERSES) (mVarP 0))))
def m_inverse_letter : List D → R D := runDef 1 b_inverse_letter
def lb_cuts_1 : MS := (sCons (sAsg (gN 4) (mCall 1 m_inverse_letter (aCons (mVar 3) aNil)))
  (sIf (mAndT (mTru (mVarP 2)) (mT (m2 dEq (m2 dIdx (mVarP 2) (m1 dNeg (mC (.int 1)))) (mVarP 4)))) (sCons (sPop 2)
  (sApp 1 (mTup (aCons (mC (.str "cut")) (aCons (mF dLen (aCons (mVarP 2) aNil)) aNil))))) (sApp 2 (mVar 3))))
def b_cuts : MS := (sCons (sOwn 1 (aLst aNil))
  (sCons (sOwn 2 (aLst aNil))
  (sCons (sFor (iSeq (mVar 0)) (gN 3) lb_cuts_1)
  (sFrz 1 (sRet (mVar 1))))))
def m_cuts : List D → R D := runDef 5 b_cuts
def b_letters_of : MS := (sCons (sIf (mOrT (mT (m2 dLt (mVarP 0) (mC (.int 1)))) (mT (m2 dGt (mVarP 0) (mC (.int 3))))) (sRaise "BadNumber") sNil)
  (sRet (mSl (mC (.str "aAbBcC")) oNone (oSome (m2 dMul (mC (.int 2)) (mVarP 0))))))
def m_letters_of : List D → R D := runDef 1 b_letters_of
def ce_is_word_1 : ME := (m2 dInX (mVarP 3) (mVarP 2))
def b_is_word : MS := (sCons (sAsg (gN 2) (mCall 1 m_letters_of (aCons (mVar 0) aNil)))
  (sRet (mF dAll (aCons (mN (mLc [3] (iSeq (mVar 1)) (gN 3) mYes ce_is_word_1)) aNil))))
def m_is_word : List D → R D := runDef 4 b_is_word
def b__is_relator : MS := (sRet (mAnd (mChain dLe dLe (mC (.int 1)) (mF dLen (aCons (mVarP 1) aNil)) (mC (.int 20))) (mCall 2 m_is_word (aCons (mVar 0) (aCons (mVar 1) aNil)))))
def m__is_relator : List D → R D := runDef 2 b__is_relator
def ce_is_presentation_1 : ME := (mCall 2 m__is_relator (aCons (mVar 1) (aCons (mVar 3) aNil)))
def b_is_presentation : MS := (sCons (sAsg (gT 2 (gsC (gN 1) (gsC (gN 2) gsN))) (mVar 0))
  (sCons (sIf (mOrT (mT (m2 dLt (mVarP 1) (mC (.int 1)))) (mOrT (mT (m2 dGt (mVarP 1) (mC (.int 3)))) (mT (m2 dGt (mF dLen (aCons (mVarP 2) aNil)) (mC (.int 8)))))) (sRet (mC (.bool false))) sNil)
  (sRet (mF dAll (aCons (mN (mLc [3] (iSeq (mVar 2)) (gN 3) mYes ce_is_presentation_1)) aNil)))))
def m_is_presentation : List D → R D := runDef 4 b_is_presentation
def b_check_presentation : MS := (sIf (mNotT (mTru (mCall 1 m_is_presentation (aCons (mVar 0) aNil)))) (sRaise "NotPresentation") sNil)
def m_check_presentation : List D → R D := runDef 1 b_check_presentation
def lb_check_words_1 : MS := (sCons (sIf (mNotT (mTru (mCall 2 m_is_word (aCons (m2 dIdx (mVarP 0) (mC (.int 0))) (aCons (mVar 2) aNil))))) (sRaise "NotWord") sNil)
  (sIf (mT (m2 dGt (mF dLen (aCons (mVarP 2) aNil)) (mC (.int 200)))) (sRaise "NotWord") sNil))
def b_check_words : MS := (sCons (sExpr (mCall 1 m_check_presentation (aCons (mVar 0) aNil)))
  (sFor (iSeq (mVar 1)) (gN 2) lb_check_words_1))
def m_check_words : List D → R D := runDef 3 b_check_words
def b__with : MS := (sCons (sIf (mOrT (mT (m2 dIsN (mVarP 2) (mC .none))) (mOrT (mT (m2 dLt (mVarP 1) (mC (.int 0)))) (mOrT (mT (m2 dGt (mVarP 1) (mF dLen (aCons (mVarP 0) aNil)))) (mT (m2 dGt (m2 dAdd (mF dLen (aCons (mVarP 0) aNil)) (mF dLen (aCons (mVarP 2) aNil))) (mC (.int 200))))))) (sRet (mC .none)) sNil)
  (sRet (m2 dAdd (m2 dAdd (mSl (mVarP 0) oNone (oSome (mVarP 1))) (mVar 2)) (mSl (mVarP 0) (oSome (mVarP 1)) oNone))))
def m__with : List D → R D := runDef 3 b__with
def b__without : MS := (sCons (sIf (mOrT (mT (m2 dIsN (mVarP 2) (mC .none))) (mOrT (mT (m2 dLt (mVarP 1) (mC (.int 0)))) (mT (m2 dNe (mSl (mVarP 0) (oSome (mVarP 1)) (oSome (m2 dAdd (mVar 1) (mF dLen (aCons (mVarP 2) aNil))))) (mVarP 2))))) (sRet (mC .none)) sNil)
  (sRet (m2 dAdd (mSl (mVarP 0) oNone (oSome (mVarP 1))) (mSl (mVarP 0) (oSome (m2 dAdd (mVar 1) (mF dLen (aCons (mVarP 2) aNil)))) oNone))))
def m__without : List D → R D := runDef 3 b__without
def b__letter_pair : MS := (sCons (sIf (mOrT (mT (m2 dNe (mF dLen (aCons (mVarP 1) aNil)) (mC (.int 1)))) (mNotT (mTru (mCall 2 m_is_word (aCons (m2 dIdx (mVarP 0) (mC (.int 0))) (aCons (mVar 1) aNil)))))) (sRet (mC .none)) sNil)
  (sRet (m2 dAdd (mVar 1) (mCall 1 m_inverse_letter (aCons (mVar 1) aNil)))))
def m__letter_pair : List D → R D := runDef 2 b__letter_pair
def b__pair_at : MS := (sCons (sIf (mOrT (mT (m2 dLt (mVarP 1) (mC (.int 0)))) (mOrT (mT (m2 dGe (m2 dAdd (mVar 1) (mC (.int 1))) (mF dLen (aCons (mVarP 0) aNil)))) (mT (m2 dNe (m2 dIdx (mVarP 0) (m2 dAdd (mVar 1) (mC (.int 1)))) (mCall 1 m_inverse_letter (aCons (m2 dIdx (mVarP 0) (mVarP 1)) aNil)))))) (sRet (mC .none)) sNil)
  (sRet (mSl (mVarP 0) (oSome (mVarP 1)) (oSome (m2 dAdd (mVar 1) (mC (.int 2)))))))
def m__pair_at : List D → R D := runDef 2 b__pair_at
def ce_flipped_1 : ME := (mCall 1 m_inverse_letter (aCons (mVar 1) aNil))
def b_flipped : MS := (sRet (m1 dJoin0 (mN (mLc [1] (iSeq (m1 dRev (mVar 0))) (gN 1) mYes ce_flipped_1))))
def m_flipped : List D → R D := runDef 2 b_flipped
def b_signed_relator : MS := (sCons (sAsg (gN 3) (m2 dIdx (mVarP 0) (mC (.int 1))))
  (sCons (sIf (mOrT (mT (m2 dLt (mVarP 1) (mC (.int 0)))) (mOrT (mT (m2 dGe (mVarP 1) (mF dLen (aCons (mVarP 3) aNil)))) (mT (m2 dNotInS (mVarP 2) (mTup (aCons (mC (.int 1)) (aCons (m1 dNeg (mC (.int 1))) aNil))))))) (sRet (mC .none)) sNil)
  (sCons (sIf (mT (m2 dEq (mVarP 2) (mC (.int 1)))) (sRet (m2 dIdx (mVarP 3) (mVarP 1))) sNil)
  (sRet (mCall 1 m_flipped (aCons (m2 dIdx (mVarP 3) (mVarP 1)) aNil))))))
def m_signed_relator : List D → R D := runDef 4 b_signed_relator
def st_word_after_1 : MS := (sPar 3 4 (aCons (m2 dIdx (mVarP 2) (mC (.int 0))) (aCons (m2 dIdx (mVarP 2) (mC (.int 1))) aNil)))
def st_word_after_2 : MS := (sIf (mT (m2 dEq (mVarP 3) (mC (.str "put")))) (sRet (mCall 3 m__with (aCons (mVar 1) (aCons (mVar 4) (aCons (mCall 2 m__letter_pair (aCons (mVar 0) (aCons (m2 dIdx (mVarP 2) (mC (.int 2))) aNil))) aNil))))) sNil)
def st_word_after_3 : MS := (sIf (mT (m2 dEq (mVarP 3) (mC (.str "cut")))) (sRet (mCall 3 m__without (aCons (mVar 1) (aCons (mVar 4) (aCons (mCall 2 m__pair_at (aCons (mVar 1) (aCons (mVar 4) aNil))) aNil))))) sNil)
def st_word_after_4 : MS := (sIf (mT (m2 dEq (mVarP 3) (mC (.str "add")))) (sRet (mCall 3 m__with (aCons (mVar 1) (aCons (mVar 4) (aCons (mCall 3 m_signed_relator (aCons (mVar 0) (aCons (m2 dIdx (mVarP 2) (mC (.int 2))) (aCons (m2 dIdx (mVarP 2) (mC (.int 3))) aNil)))) aNil))))) sNil)
def st_word_after_5 : MS := (sIf (mT (m2 dEq (mVarP 3) (mC (.str "take")))) (sRet (mCall 3 m__without (aCons (mVar 1) (aCons (mVar 4) (aCons (mCall 3 m_signed_relator (aCons (mVar 0) (aCons (m2 dIdx (mVarP 2) (mC (.int 2))) (aCons (m2 dIdx (mVarP 2) (mC (.int 3))) aNil)))) aNil))))) sNil)
def st_word_after_6 : MS := (sRet (mC .none))
def b_word_after : MS := (sCons st_word_after_1
  (sCons st_word_after_2
  (sCons st_word_after_3
  (sCons st_word_after_4
  (sCons st_word_after_5
  st_word_after_6)))))
def m_word_after : List D → R D := runDef 5 b_word_after
def lb__trail_1 : MS := (sCons (sAsg (gN 6) (mCall 3 m_word_after (aCons (mVar 0) (aCons (m2 dIdx (mVarP 3) (m1 dNeg (mC (.int 1)))) (aCons (mVar 5) aNil)))))
  (sCons (sIf (mT (m2 dIsN (mVarP 6) (mC .none))) (sRaise1 "BadMove" "at" (mVar 4)) sNil)
  (sApp 3 (mVar 6))))
def b__trail : MS := (sCons (sOwn 3 (aLst (aCons (mVar 1) aNil)))
  (sCons (sFor (iEnumS (aCons (mVar 2) aNil)) (gT 2 (gsC (gN 4) (gsC (gN 5) gsN))) lb__trail_1)
  (sFrz 3 (sRet (mVar 3)))))
def m__trail : List D → R D := runDef 7 b__trail
def b_opposite_move : MS := (sCons (sPar 2 3 (aCons (m2 dIdx (mVarP 1) (mC (.int 0))) (aCons (m2 dIdx (mVarP 1) (mC (.int 1))) aNil)))
  (sCons (sIf (mT (m2 dEq (mVarP 2) (mC (.str "put")))) (sRet (mTup (aCons (mC (.str "cut")) (aCons (mVar 3) aNil)))) sNil)
  (sCons (sIf (mT (m2 dEq (mVarP 2) (mC (.str "cut")))) (sRet (mTup (aCons (mC (.str "put")) (aCons (mVar 3) (aCons (m2 dIdx (mVarP 0) (mVarP 3)) aNil))))) sNil)
  (sCons (sIf (mT (m2 dEq (mVarP 2) (mC (.str "add")))) (sRet (mTup (aCons (mC (.str "take")) (aCons (mVar 3) (aCons (m2 dIdx (mVarP 1) (mC (.int 2))) (aCons (m2 dIdx (mVarP 1) (mC (.int 3))) aNil)))))) sNil)
  (sRet (mTup (aCons (mC (.str "add")) (aCons (mVar 3) (aCons (m2 dIdx (mVarP 1) (mC (.int 2))) (aCons (m2 dIdx (mVarP 1) (mC (.int 3))) aNil))))))))))
def m_opposite_move : List D → R D := runDef 4 b_opposite_move
def ce__undone_moves_1 : ME := (mCall 2 m_opposite_move (aCons (m2 dIdx (mVarP 3) (mVarP 5)) (aCons (mVar 6) aNil)))
def b__undone_moves : MS := (sCons (sAsg (gN 3) (mCall 3 m__trail (aCons (mVar 0) (aCons (mVar 1) (aCons (mVar 2) aNil)))))
  (sCons (sAsg (gN 4) (mN (mLc [5, 6] (iEnumS (aCons (mVar 2) aNil)) (gT 2 (gsC (gN 5) (gsC (gN 6) gsN))) mYes ce__undone_moves_1)))
  (sRet (m1 dRev (mVar 4)))))
def m__undone_moves : List D → R D := runDef 7 b__undone_moves
def b_free_derivation : MS := (sCons (sExpr (mCall 2 m_check_words (aCons (mVar 0) (aCons (mLst (aCons (mVar 1) (aCons (mVar 2) aNil))) aNil))))
  (sCons (sAsg (gN 3) (mCall 1 m_cuts (aCons (mVar 1) aNil)))
  (sCons (sAsg (gN 4) (mCall 1 m_cuts (aCons (mVar 2) aNil)))
  (sCons (sIf (mT (m2 dNe (m2 dIdx (mCall 3 m__trail (aCons (mVar 0) (aCons (mVar 1) (aCons (mVar 3) aNil)))) (m1 dNeg (mC (.int 1)))) (m2 dIdx (mCall 3 m__trail (aCons (mVar 0) (aCons (mVar 2) (aCons (mVar 4) aNil)))) (m1 dNeg (mC (.int 1)))))) (sRet (mC .none)) sNil)
  (sRet (m2 dAdd (mVar 3) (mCall 3 m__undone_moves (aCons (mVar 0) (aCons (mVar 2) (aCons (mVar 4) aNil))))))))))
def m_free_derivation : List D → R D := runDef 5 b_free_derivation
def st__law_kind_1 : MS := (sOwn 1 (aLst aNil))
def st__law_kind_2 : MS := (sIf (mTru (mIsX 0 (k_isx "NotPresentation"))) (sApp 1 (mC (.str "presentation"))) sNil)
def st__law_kind_3 : MS := (sIf (mTru (mIsX 0 (k_isx "NotWord"))) (sApp 1 (mC (.str "word"))) sNil)
def st__law_kind_4 : MS := (sIf (mTru (mIsX 0 (k_isx "BadMove"))) (sApp 1 (mC (.str "move"))) sNil)
def st__law_kind_5 : MS := (sIf (mTru (mIsX 0 (k_isx "BadNumber"))) (sApp 1 (mC (.str "number"))) sNil)
def st__law_kind_6 : MS := (sIf (mAndT (mT (m2 dEq (mF dLen (aCons (mVarP 1) aNil)) (mC (.int 1)))) (mTru (mIsX 0 (k_isx "CayleyError")))) (sRet (m2 dIdx (mVarP 1) (mC (.int 0)))) sNil)
def st__law_kind_7 : MS := (sRet (mC (.str "other")))
def b__law_kind : MS := (sCons st__law_kind_1
  (sCons st__law_kind_2
  (sCons st__law_kind_3
  (sCons st__law_kind_4
  (sCons st__law_kind_5
  (sCons st__law_kind_6
  st__law_kind_7))))))
def m__law_kind : Str → List (Str × D) → R D := runDefX 2 b__law_kind
def b__law_told : MS := (sTryAs "CayleyError" 3 (k_sub "CayleyError") (sRet (mCall 3 m_free_derivation (aCons (mVar 0) (aCons (mVar 1) (aCons (mVar 2) aNil))))) (sRet (fun ρ => (mCallX 3 m__law_kind ρ).quiet)))
def m__law_told : List D → R D := runDef 4 b__law_told
def lb_law_1 : MS := (sApp 16 (mTup (aCons (mC (.str "put")) (aCons (m2 dIdx (m2 dIdx (mVarP 11) (mVarP 17)) (mC (.int 1))) (aCons (m2 dIdx (mVarP 13) (mVarP 17)) aNil)))))
def st_law_1 : MS := (sOwn 1 (mCallN 1 m__law_draws (aCons (mVar 0) aNil)))
def st_law_2 : MS := (sRev 1)
def st_law_3 : MS := (sAsg (gN 2) (mCallR 1 0 m__law_presentation aNil))
def st_law_4 : MS := (sAsg (gN 3) (m2 dIdx (mVarP 2) (mC (.int 0))))
def st_law_5 : MS := (sAsg (gN 4) (mCallR 1 2 m__law_word (aCons (mVar 3) (aCons (mC (.int 8)) aNil))))
def st_law_6 : MS := (sAsg (gN 5) (mCallR 1 2 m__law_padded (aCons (mVar 3) (aCons (mVar 4) aNil))))
def st_law_7 : MS := (sAsg (gN 6) (m2 dMod (mF dInt1 (aCons (mCallR 1 0 m__law_next aNil) aNil)) (mC (.int 3))))
def st_law_8 : MS := (sAsg (gN 7) (mCallR 1 2 m__law_padded (aCons (mVar 3) (aCons (mVar 4) aNil))))
def st_law_9 : MS := (sIf (mT (m2 dEq (mVarP 6) (mC (.int 1)))) (sAsg (gN 7) (mCallR 1 2 m__law_padded (aCons (mVar 3) (aCons (mCallR 1 2 m__law_word (aCons (mVar 3) (aCons (mC (.int 6)) aNil))) aNil)))) sNil)
def st_law_10 : MS := (sIf (mT (m2 dEq (mVarP 6) (mC (.int 2)))) (sAsg (gN 7) (m2 dAdd (mVar 7) (mC (.str "a")))) sNil)
def st_law_11 : MS := (sAsg (gT 3 (gsC (gN 8) (gsC (gN 9) (gsC (gN 10) gsN)))) (mCall 1 m__law_cuts (aCons (mVar 5) aNil)))
def st_law_12 : MS := (sAsg (gT 3 (gsC (gN 11) (gsC (gN 12) (gsC (gN 13) gsN)))) (mCall 1 m__law_cuts (aCons (mVar 7) aNil)))
def st_law_13 : MS := (sAsg (gN 14) (mCall 1 m_cuts (aCons (mVar 5) aNil)))
def st_law_14 : MS := (sIf (mOrT (mNotT (mTru (m1 (dIsT "list") (mVarP 14)))) (mT (m2 dNe (mVarP 14) (mVarP 8)))) (sRet (mC (.bool false))) sNil)
def st_law_15 : MS := (sAsg (gN 15) (mCall 3 m__law_told (aCons (mVar 2) (aCons (mVar 5) (aCons (mVar 7) aNil)))))
def st_law_16 : MS := (sIf (mT (m2 dNe (mVarP 9) (mVarP 12))) (sIf (mT (m2 dNotN (mVarP 15) (mC .none))) (sRet (mC (.bool false))) sNil) (sCons (sOwn 16 (aListOf (aCons (mVar 8) aNil)))
  (sCons (sFor (iRange3 (aCons (m2 dSub (mF dLen (aCons (mVarP 11) aNil)) (mC (.int 1))) (aCons (m1 dNeg (mC (.int 1))) (aCons (m1 dNeg (mC (.int 1))) aNil)))) (gN 17) lb_law_1)
  (sIf (mOrT (mNotT (mTru (m1 (dIsT "list") (mVarP 15)))) (mT (m2 dNe (mVarP 15) (mVarP 16)))) (sRet (mC (.bool false))) sNil))))
def st_law_17 : MS := (sIf (mOrT (mT (m2 dNe (mCall 3 m__law_told (aCons (mTup (aCons (mC (.int 4)) (aCons (mTup aNil) aNil))) (aCons (mC (.str "d")) (aCons (mVar 7) aNil)))) (mC (.str "presentation")))) (mT (m2 dNe (mCall 3 m__law_told (aCons (mVar 2) (aCons (mC (.str "d")) (aCons (mVar 7) aNil)))) (mC (.str "word"))))) (sRet (mC (.bool false))) sNil)
def st_law_18 : MS := (sRet (m2 dEq (mCall 3 m__law_told (aCons (mVar 2) (aCons (mVar 5) (aCons (mC (.str "x")) aNil)))) (mC (.str "word"))))
def b_law : MS := (sCons st_law_1
  (sCons st_law_2
  (sGive 1 (sCons st_law_3
  (sCons st_law_4
  (sCons st_law_5
  (sCons st_law_6
  (sCons st_law_7
  (sCons st_law_8
  (sCons st_law_9
  (sCons st_law_10
  (sCons st_law_11
  (sCons st_law_12
  (sCons st_law_13
  (sCons st_law_14
  (sCons st_law_15
  (sCons st_law_16
  (sCons st_law_17
  st_law_18))))))))))))))))))
def m_law : List D → R D := runDef 18 b_law
theorem lit_0 : Str.ofString "aAbBcC" = S L6 := by decide +kernel
theorem lit_1 : Str.ofString "" = S [] := by decide +kernel
theorem lit_2 : Str.ofString "a" = S [97] := by decide +kernel
theorem lit_3 : Str.ofString "A" = S [65] := by decide +kernel
theorem lit_4 : Str.ofString "b" = S [98] := by decide +kernel
theorem lit_5 : Str.ofString "B" = S [66] := by decide +kernel
theorem lit_6 : Str.ofString "c" = S [99] := by decide +kernel
theorem lit_7 : Str.ofString "C" = S [67] := by decide +kernel
theorem lit_8 : Str.ofString "cut" = S [99, 117, 116] := by decide +kernel
theorem lit_9 : Str.ofString "not a letter" = S [110, 111, 116, 32, 97, 32, 108, 101, 116, 116, 101, 114] := by decide +kernel
theorem lit_10 : Str.ofString "there are 1, 2 or 3 generators" = S [116, 104, 101, 114, 101, 32, 97, 114, 101, 32, 49, 44, 32, 50, 32, 111, 114, 32, 51, 32, 103, 101, 110, 101, 114, 97, 116, 111, 114, 115] := by decide +kernel
theorem lit_11 : Str.ofString "not a presentation" = S [110, 111, 116, 32, 97, 32, 112, 114, 101, 115, 101, 110, 116, 97, 116, 105, 111, 110] := by decide +kernel
theorem lit_12 : Str.ofString "not a word over the letters of the presentation" = S [110, 111, 116, 32, 97, 32, 119, 111, 114, 100, 32, 111, 118, 101, 114, 32, 116, 104, 101, 32, 108, 101, 116, 116, 101, 114, 115, 32, 111, 102, 32, 116, 104, 101, 32, 112, 114, 101, 115, 101, 110, 116, 97, 116, 105, 111, 110] := by decide +kernel
theorem lit_13 : Str.ofString "a word has at most 200 letters here" = S [97, 32, 119, 111, 114, 100, 32, 104, 97, 115, 32, 97, 116, 32, 109, 111, 115, 116, 32, 50, 48, 48, 32, 108, 101, 116, 116, 101, 114, 115, 32, 104, 101, 114, 101] := by decide +kernel
theorem lit_14 : Str.ofString "put" = S [112, 117, 116] := by decide +kernel
theorem lit_15 : Str.ofString "add" = S [97, 100, 100] := by decide +kernel
theorem lit_16 : Str.ofString "take" = S [116, 97, 107, 101] := by decide +kernel
theorem lit_17 : Str.ofString "other" = S [111, 116, 104, 101, 114] := by decide +kernel
theorem lit_18 : Str.ofString "presentation" = S [112, 114, 101, 115, 101, 110, 116, 97, 116, 105, 111, 110] := by decide +kernel
theorem lit_19 : Str.ofString "word" = S [119, 111, 114, 100] := by decide +kernel
theorem lit_20 : Str.ofString "move" = S [109, 111, 118, 101] := by decide +kernel
theorem lit_21 : Str.ofString "number" = S [110, 117, 109, 98, 101, 114] := by decide +kernel
theorem lit_22 : Str.ofString "x" = S [120] := by decide +kernel
theorem lit_23 : Str.ofString "d" = S [100] := by decide +kernel
theorem cl_0 : k_sub "CayleyError" "NotWord" = some true := by decide +kernel
theorem cl_1 : k_sub "CayleyError" "BadNumber" = some true := by decide +kernel
theorem cl_2 : k_sub "CayleyError" "NotPresentation" = some true := by decide +kernel
theorem cl_3 : k_sub "CayleyError" "BadMove" = some true := by decide +kernel
theorem cl_4 : k_isx "NotPresentation" "NotWord" = some false := by decide +kernel
theorem cl_5 : k_isx "NotPresentation" "BadNumber" = some false := by decide +kernel
theorem cl_6 : k_isx "NotPresentation" "NotPresentation" = some true := by decide +kernel
theorem cl_7 : k_isx "NotPresentation" "BadMove" = some false := by decide +kernel
theorem cl_8 : k_isx "NotWord" "NotWord" = some true := by decide +kernel
theorem cl_9 : k_isx "NotWord" "BadNumber" = some false := by decide +kernel
theorem cl_10 : k_isx "NotWord" "NotPresentation" = some false := by decide +kernel
theorem cl_11 : k_isx "NotWord" "BadMove" = some false := by decide +kernel
theorem cl_12 : k_isx "BadMove" "NotWord" = some false := by decide +kernel
theorem cl_13 : k_isx "BadMove" "BadNumber" = some false := by decide +kernel
theorem cl_14 : k_isx "BadMove" "NotPresentation" = some false := by decide +kernel
theorem cl_15 : k_isx "BadMove" "BadMove" = some true := by decide +kernel
theorem cl_16 : k_isx "BadNumber" "NotWord" = some false := by decide +kernel
theorem cl_17 : k_isx "BadNumber" "BadNumber" = some true := by decide +kernel
theorem cl_18 : k_isx "BadNumber" "NotPresentation" = some false := by decide +kernel
theorem cl_19 : k_isx "BadNumber" "BadMove" = some false := by decide +kernel
theorem cl_20 : k_isx "CayleyError" "NotWord" = some true := by decide +kernel
theorem cl_21 : k_isx "CayleyError" "BadNumber" = some true := by decide +kernel
theorem cl_22 : k_isx "CayleyError" "NotPresentation" = some true := by decide +kernel
theorem cl_23 : k_isx "CayleyError" "BadMove" = some true := by decide +kernel
end Law

end
end
section
set_option Elab.async false
set_option linter.all false
set_option maxRecDepth 100000
set_option autoImplicit false
set_option maxHeartbeats 4000000
noncomputable section
namespace Law
open PySem DW L2
open SX (S S_tl S_len S_cat)
theorem r__law_number (z : Int) : m__law_number [.int z] = .ok (.int (if z < 0 then 0 - z else z)) := by
  show fin (b__law_number [some (.sh (.int z))]) = _
  unfold b__law_number
  by_cases h : z < 0
  · simp -implicitDefEqProofs only [e_sCons, e_sNil, e_sBreak, e_sCont, e_sRet, e_sRetN, e_sExpr, e_sIf, e_sAsg, e_sOwn, e_sFrz, e_sRaise, e_sFor, e_loop_nil, e_mC, e_m1, e_m2, e_mF, e_mCall, e_mM1, e_aNil, e_aCons, e_aLst, e_mTup, e_mLst, e_mN, e_mT, e_mTru, e_mAndT, e_mOrT, e_mNotT, e_mAnd, e_mOr, e_mNot, e_mIf, e_mChain, e_iSeq, e_iRange1, e_iRange2, e_oNone, e_oSome, e_mSl, e_mYes, e_mLc, e_gN, v0, vS, p0, p0o, pS, f0, f0s, f0n, fS, R.bind_ok, R.bind_err, R.bind_stuck, R.quiet_ok, R.sure_ok, R.sure_err, R.sure_stuck, O.of_ok, O.of_err, O.of_stuck, O.thn_nx, O.thn_rt, O.thn_bk, O.thn_ct, O.thn_err, O.thn_rto, O.lp_nx, O.lp_ct, O.lp_bk, O.lp_rt, O.lp_rto, O.lp_err, fin_nx, fin_rt, fin_err, asB_b, o_add, o_addI, o_sub, o_neg, o_lt, o_le, o_gt, o_ge, o_eqI, o_neI, o_eqS, o_neS, o_inS, o_lenL, o_lenT, o_int, o_itS, o_itL, o_itT, o_truL, o_truB, o_truI, List.set_cons_zero, List.set_cons_succ, List.length_cons, List.length_nil, if_true, if_false, Bool.not_true, Bool.not_false, Bool.false_eq_true, Option.isSome_some, Option.isSome_none, Nat.reduceAdd, Nat.zero_add, decide_true, decide_false, e_gT, e_gsC, e_gsN, e_callR0, e_callN, Nat.reduceEqDiff, lit_0, lit_1, lit_2, lit_3, lit_4, lit_5, lit_6, lit_7, lit_8, lit_9, lit_10, lit_11, lit_12, lit_13, lit_14, lit_15, lit_16, lit_17, lit_18, lit_19, lit_20, lit_21, lit_22, lit_23, cl_0, cl_1, cl_2, cl_3, cl_4, cl_5, cl_6, cl_7, cl_8, cl_9, cl_10, cl_11, cl_12, cl_13, cl_14, cl_15, cl_16, cl_17, cl_18, cl_19, cl_20, cl_21, cl_22, cl_23, decide_eq_true h, if_pos h]
  · simp -implicitDefEqProofs only [e_sCons, e_sNil, e_sBreak, e_sCont, e_sRet, e_sRetN, e_sExpr, e_sIf, e_sAsg, e_sOwn, e_sFrz, e_sRaise, e_sFor, e_loop_nil, e_mC, e_m1, e_m2, e_mF, e_mCall, e_mM1, e_aNil, e_aCons, e_aLst, e_mTup, e_mLst, e_mN, e_mT, e_mTru, e_mAndT, e_mOrT, e_mNotT, e_mAnd, e_mOr, e_mNot, e_mIf, e_mChain, e_iSeq, e_iRange1, e_iRange2, e_oNone, e_oSome, e_mSl, e_mYes, e_mLc, e_gN, v0, vS, p0, p0o, pS, f0, f0s, f0n, fS, R.bind_ok, R.bind_err, R.bind_stuck, R.quiet_ok, R.sure_ok, R.sure_err, R.sure_stuck, O.of_ok, O.of_err, O.of_stuck, O.thn_nx, O.thn_rt, O.thn_bk, O.thn_ct, O.thn_err, O.thn_rto, O.lp_nx, O.lp_ct, O.lp_bk, O.lp_rt, O.lp_rto, O.lp_err, fin_nx, fin_rt, fin_err, asB_b, o_add, o_addI, o_sub, o_neg, o_lt, o_le, o_gt, o_ge, o_eqI, o_neI, o_eqS, o_neS, o_inS, o_lenL, o_lenT, o_int, o_itS, o_itL, o_itT, o_truL, o_truB, o_truI, List.set_cons_zero, List.set_cons_succ, List.length_cons, List.length_nil, if_true, if_false, Bool.not_true, Bool.not_false, Bool.false_eq_true, Option.isSome_some, Option.isSome_none, Nat.reduceAdd, Nat.zero_add, decide_true, decide_false, e_gT, e_gsC, e_gsN, e_callR0, e_callN, Nat.reduceEqDiff, lit_0, lit_1, lit_2, lit_3, lit_4, lit_5, lit_6, lit_7, lit_8, lit_9, lit_10, lit_11, lit_12, lit_13, lit_14, lit_15, lit_16, lit_17, lit_18, lit_19, lit_20, lit_21, lit_22, lit_23, cl_0, cl_1, cl_2, cl_3, cl_4, cl_5, cl_6, cl_7, cl_8, cl_9, cl_10, cl_11, cl_12, cl_13, cl_14, cl_15, cl_16, cl_17, cl_18, cl_19, cl_20, cl_21, cl_22, cl_23, decide_eq_false h, if_neg h]

end Law
end
end
section
set_option Elab.async false
set_option linter.all false
set_option maxRecDepth 100000
set_option autoImplicit false
set_option maxHeartbeats 4000000
noncomputable section
namespace Law
open PySem DW L2
open SX (S S_tl S_len S_cat)
theorem smallD_app {ds : List D} {z : Int} (h : smallD ds = true) (h0 : 0 ≤ z) (h1 : z < 1000) : smallD (ds ++ [.int z]) = true := by
  unfold smallD at h ⊢
  rw [List.all_append, h, List.all_cons, List.all_nil]
  show (true && (decide (0 ≤ z ∧ z < 1000) && true)) = true
  rw [decide_eq_true ⟨h0, h1⟩]
  rfl
theorem mod1000 (z : Int) : 0 ≤ z % 1000 ∧ z % 1000 < 1000 := ⟨Int.emod_nonneg _ (by decide), Int.emod_lt_of_pos _ (by decide)⟩
theorem rg60 : dRange1 [.int 60] = .ok ((List.range 60).map fun (k : Nat) => PyData.int (k : Int)) := rg_int (by decide) (by decide)
def DrawSt (ns : List Int) (L : Nat) (ρ : En) : Prop := ∃ ds o2 o3 o4 o5 o6, ρ = [some (.sh (.list (ns.map PyData.int))), some (.own ds), o2, o3, o4, o5, o6] ∧ smallD ds = true ∧ ds.length ≤ L
theorem smallD_app' {ds es : List D} (h : smallD ds = true) (h2 : smallD es = true) : smallD (ds ++ es) = true := by
  unfold smallD at h h2 ⊢
  rw [List.all_append, h, h2]
  rfl
theorem r__law_draws (ns : List Int) (hl : ns.length ≤ 63) : RP False (m__law_draws [.list (ns.map PyData.int)]) (fun ds => smallD ds = true ∧ ds.length ≤ 3780) NoE := by
  have hz := sizeLine_eq
  show RP False (finN (b__law_draws [some (.sh (.list (ns.map PyData.int))), none, none, none, none, none, none])) _ _
  unfold b__law_draws
  simp -implicitDefEqProofs only [RP_ok, RP_err, RP_stuck, RP_bind, RP_quiet, RP_sure, RP_ite, RP_fin, RP_finN, OP_nx, OP_rt, OP_rto, OP_bk, OP_ct, OP_err, OP_stuck, OP_of, OP_thn, OP_lp, OP_ite, OP_tryN, OP_tryAs, OP_endS, OP_endI, true_implies, false_implies, not_true_eq_false, not_false_eq_true, and_true, true_and, implies_true, wipe_nil, wipe_cons, List.length_map, e_callR, e_callX, e_isX, e_xf, e_sNext, e_sApp, e_sPop, e_sRev, e_sRetOwn, e_sExt, e_sGive, e_sSetIx, e_hdl, hdl_nil, e_hdlAs, ownAt_own, rndAt_rnd, excAt_exc, someD_some, caseB_t, caseB_f, intD_int, clean_nil, clean_sh, clean_no, clean_own, List.getElem?_cons_zero, List.getElem?_cons_succ, decide_eq_true_eq, Bool.not_eq_true', List.length_append, Option.getD_some, ixT0, ixT1, ixT2, ixT3, ixL0, ixL1, ixL2, ixL3, o_isB, o_isL, o_isT, o_isI, o_isS, o_niPM, o_niPL, o_max2, o_min2, o_abs, o_tupL, o_tupT, o_lofL, o_lofT, e_aListOf, e_aRep, sizeLine_eq, decide_eq_false_iff_not, Classical.not_not, Nat.reduceLeDiff, Nat.zero_le, Int.reduceLE, Int.reduceLT, Int.reduceEq, Nat.reduceLT, List.nil_append, List.cons_append, cst0, cst1, cst2, cst3, cst4, cst5, cst6, cst7, cst8, cst9, cst10, cst11, cst12, o_eqB, o_neB, reduceCtorEq, Bool.true_eq_false, e_iEnumS, e_iZipS, o_enum, o_zipL, o_zipT, e_sRaise1, e_sPar, e_sPar3, e_gTL, o_isBB, o_notBB, e_sCons, e_sNil, e_sBreak, e_sCont, e_sRet, e_sRetN, e_sExpr, e_sIf, e_sAsg, e_sOwn, e_sFrz, e_sRaise, e_sFor, e_loop_nil, e_mC, e_m1, e_m2, e_mF, e_mCall, e_mM1, e_aNil, e_aCons, e_aLst, e_mTup, e_mLst, e_mN, e_mT, e_mTru, e_mAndT, e_mOrT, e_mNotT, e_mAnd, e_mOr, e_mNot, e_mIf, e_mChain, e_iSeq, e_iRange1, e_iRange2, e_oNone, e_oSome, e_mSl, e_mYes, e_mLc, e_gN, v0, vS, p0, p0o, pS, f0, f0s, f0n, fS, R.bind_ok, R.bind_err, R.bind_stuck, R.quiet_ok, R.sure_ok, R.sure_err, R.sure_stuck, O.of_ok, O.of_err, O.of_stuck, O.thn_nx, O.thn_rt, O.thn_bk, O.thn_ct, O.thn_err, O.thn_rto, O.lp_nx, O.lp_ct, O.lp_bk, O.lp_rt, O.lp_rto, O.lp_err, fin_nx, fin_rt, fin_err, asB_b, o_add, o_addI, o_sub, o_neg, o_lt, o_le, o_gt, o_ge, o_eqI, o_neI, o_eqS, o_neS, o_inS, o_lenL, o_lenT, o_int, o_itS, o_itL, o_itT, o_truL, o_truB, o_truI, List.set_cons_zero, List.set_cons_succ, List.length_cons, List.length_nil, if_true, if_false, Bool.not_true, Bool.not_false, Bool.false_eq_true, Option.isSome_some, Option.isSome_none, Nat.reduceAdd, Nat.zero_add, decide_true, decide_false, e_gT, e_gsC, e_gsN, e_callR0, e_callN, Nat.reduceEqDiff, lit_0, lit_1, lit_2, lit_3, lit_4, lit_5, lit_6, lit_7, lit_8, lit_9, lit_10, lit_11, lit_12, lit_13, lit_14, lit_15, lit_16, lit_17, lit_18, lit_19, lit_20, lit_21, lit_22, lit_23, cl_0, cl_1, cl_2, cl_3, cl_4, cl_5, cl_6, cl_7, cl_8, cl_9, cl_10, cl_11, cl_12, cl_13, cl_14, cl_15, cl_16, cl_17, cl_18, cl_19, cl_20, cl_21, cl_22, cl_23]
  refine OP_for (I := fun k => DrawSt ns (60 * k)) ⟨[], none, none, none, none, none, rfl, rfl, Nat.zero_le _⟩ ?_ ?_
  · rintro k d ρ hd ⟨ds, o2, o3, o4, o5, o6, rfl, hs, hn⟩
    obtain ⟨z, rfl⟩ : ∃ z : Int, d = .int z := by
      rw [List.getElem?_map] at hd
      cases e : ns[k]? with
      | none => rw [e] at hd; cases hd
      | some z => rw [e] at hd; cases hd; exact ⟨z, rfl⟩
    have hk : k < 63 := by
      have := (List.getElem?_eq_some_iff.mp hd).1
      rw [List.length_map] at this
      omega
    show OP (lb__law_draws_2 [some (.sh (.list (ns.map PyData.int))), some (.own ds), some (.sh (.int z)), o3, o4, o5, o6]) _
    unfold lb__law_draws_2
    simp -implicitDefEqProofs only [RP_ok, RP_err, RP_stuck, RP_bind, RP_quiet, RP_sure, RP_ite, RP_fin, RP_finN, OP_nx, OP_rt, OP_rto, OP_bk, OP_ct, OP_err, OP_stuck, OP_of, OP_thn, OP_lp, OP_ite, OP_tryN, OP_tryAs, OP_endS, OP_endI, true_implies, false_implies, not_true_eq_false, not_false_eq_true, and_true, true_and, implies_true, wipe_nil, wipe_cons, List.length_map, e_callR, e_callX, e_isX, e_xf, e_sNext, e_sApp, e_sPop, e_sRev, e_sRetOwn, e_sExt, e_sGive, e_sSetIx, e_hdl, hdl_nil, e_hdlAs, ownAt_own, rndAt_rnd, excAt_exc, someD_some, caseB_t, caseB_f, intD_int, clean_nil, clean_sh, clean_no, clean_own, List.getElem?_cons_zero, List.getElem?_cons_succ, decide_eq_true_eq, Bool.not_eq_true', List.length_append, Option.getD_some, ixT0, ixT1, ixT2, ixT3, ixL0, ixL1, ixL2, ixL3, o_isB, o_isL, o_isT, o_isI, o_isS, o_niPM, o_niPL, o_max2, o_min2, o_abs, o_tupL, o_tupT, o_lofL, o_lofT, e_aListOf, e_aRep, sizeLine_eq, decide_eq_false_iff_not, Classical.not_not, Nat.reduceLeDiff, Nat.zero_le, Int.reduceLE, Int.reduceLT, Int.reduceEq, Nat.reduceLT, List.nil_append, List.cons_append, cst0, cst1, cst2, cst3, cst4, cst5, cst6, cst7, cst8, cst9, cst10, cst11, cst12, o_eqB, o_neB, reduceCtorEq, Bool.true_eq_false, e_iEnumS, e_iZipS, o_enum, o_zipL, o_zipT, e_sRaise1, e_sPar, e_sPar3, e_gTL, o_isBB, o_notBB, e_sCons, e_sNil, e_sBreak, e_sCont, e_sRet, e_sRetN, e_sExpr, e_sIf, e_sAsg, e_sOwn, e_sFrz, e_sRaise, e_sFor, e_loop_nil, e_mC, e_m1, e_m2, e_mF, e_mCall, e_mM1, e_aNil, e_aCons, e_aLst, e_mTup, e_mLst, e_mN, e_mT, e_mTru, e_mAndT, e_mOrT, e_mNotT, e_mAnd, e_mOr, e_mNot, e_mIf, e_mChain, e_iSeq, e_iRange1, e_iRange2, e_oNone, e_oSome, e_mSl, e_mYes, e_mLc, e_gN, v0, vS, p0, p0o, pS, f0, f0s, f0n, fS, R.bind_ok, R.bind_err, R.bind_stuck, R.quiet_ok, R.sure_ok, R.sure_err, R.sure_stuck, O.of_ok, O.of_err, O.of_stuck, O.thn_nx, O.thn_rt, O.thn_bk, O.thn_ct, O.thn_err, O.thn_rto, O.lp_nx, O.lp_ct, O.lp_bk, O.lp_rt, O.lp_rto, O.lp_err, fin_nx, fin_rt, fin_err, asB_b, o_add, o_addI, o_sub, o_neg, o_lt, o_le, o_gt, o_ge, o_eqI, o_neI, o_eqS, o_neS, o_inS, o_lenL, o_lenT, o_int, o_itS, o_itL, o_itT, o_truL, o_truB, o_truI, List.set_cons_zero, List.set_cons_succ, List.length_cons, List.length_nil, if_true, if_false, Bool.not_true, Bool.not_false, Bool.false_eq_true, Option.isSome_some, Option.isSome_none, Nat.reduceAdd, Nat.zero_add, decide_true, decide_false, e_gT, e_gsC, e_gsN, e_callR0, e_callN, Nat.reduceEqDiff, lit_0, lit_1, lit_2, lit_3, lit_4, lit_5, lit_6, lit_7, lit_8, lit_9, lit_10, lit_11, lit_12, lit_13, lit_14, lit_15, lit_16, lit_17, lit_18, lit_19, lit_20, lit_21, lit_22, lit_23, cl_0, cl_1, cl_2, cl_3, cl_4, cl_5, cl_6, cl_7, cl_8, cl_9, cl_10, cl_11, cl_12, cl_13, cl_14, cl_15, cl_16, cl_17, cl_18, cl_19, cl_20, cl_21, cl_22, cl_23, r__law_number, rg60]
    have y0 : 0 ≤ (if z < 0 then 0 - z else z) := by split <;> omega
    generalize (if z < 0 then 0 - z else z) = y at y0
    refine ⟨fun _ => ?_, fun hy => ?_⟩
    · refine OP_for (I := fun j ρ => ∃ ds y o4, ρ = [some (.sh (.list (ns.map PyData.int))), some (.own ds), some (.sh (.int z)), some (.sh (.int y)), o4, o5, o6] ∧ 0 ≤ y ∧ smallD ds = true ∧ ds.length ≤ 60 * k + j) ⟨ds, y, o4, rfl, y0, hs, hn⟩ ?_ ?_
      · rintro j d ρ hd2 ⟨ds, y, o4, rfl, y0, hs, hn⟩
        have hj : j < 60 := by
          have := (List.getElem?_eq_some_iff.mp hd2).1
          rw [List.length_map, List.length_range] at this
          exact this
        show OP (lb__law_draws_1 [some (.sh (.list (ns.map PyData.int))), some (.own ds), some (.sh (.int z)), some (.sh (.int y)), some (.sh d), o5, o6]) _
        unfold lb__law_draws_1
        simp -implicitDefEqProofs only [RP_ok, RP_err, RP_stuck, RP_bind, RP_quiet, RP_sure, RP_ite, RP_fin, RP_finN, OP_nx, OP_rt, OP_rto, OP_bk, OP_ct, OP_err, OP_stuck, OP_of, OP_thn, OP_lp, OP_ite, OP_tryN, OP_tryAs, OP_endS, OP_endI, true_implies, false_implies, not_true_eq_false, not_false_eq_true, and_true, true_and, implies_true, wipe_nil, wipe_cons, List.length_map, e_callR, e_callX, e_isX, e_xf, e_sNext, e_sApp, e_sPop, e_sRev, e_sRetOwn, e_sExt, e_sGive, e_sSetIx, e_hdl, hdl_nil, e_hdlAs, ownAt_own, rndAt_rnd, excAt_exc, someD_some, caseB_t, caseB_f, intD_int, clean_nil, clean_sh, clean_no, clean_own, List.getElem?_cons_zero, List.getElem?_cons_succ, decide_eq_true_eq, Bool.not_eq_true', List.length_append, Option.getD_some, ixT0, ixT1, ixT2, ixT3, ixL0, ixL1, ixL2, ixL3, o_isB, o_isL, o_isT, o_isI, o_isS, o_niPM, o_niPL, o_max2, o_min2, o_abs, o_tupL, o_tupT, o_lofL, o_lofT, e_aListOf, e_aRep, sizeLine_eq, decide_eq_false_iff_not, Classical.not_not, Nat.reduceLeDiff, Nat.zero_le, Int.reduceLE, Int.reduceLT, Int.reduceEq, Nat.reduceLT, List.nil_append, List.cons_append, cst0, cst1, cst2, cst3, cst4, cst5, cst6, cst7, cst8, cst9, cst10, cst11, cst12, o_eqB, o_neB, reduceCtorEq, Bool.true_eq_false, e_iEnumS, e_iZipS, o_enum, o_zipL, o_zipT, e_sRaise1, e_sPar, e_sPar3, e_gTL, o_isBB, o_notBB, e_sCons, e_sNil, e_sBreak, e_sCont, e_sRet, e_sRetN, e_sExpr, e_sIf, e_sAsg, e_sOwn, e_sFrz, e_sRaise, e_sFor, e_loop_nil, e_mC, e_m1, e_m2, e_mF, e_mCall, e_mM1, e_aNil, e_aCons, e_aLst, e_mTup, e_mLst, e_mN, e_mT, e_mTru, e_mAndT, e_mOrT, e_mNotT, e_mAnd, e_mOr, e_mNot, e_mIf, e_mChain, e_iSeq, e_iRange1, e_iRange2, e_oNone, e_oSome, e_mSl, e_mYes, e_mLc, e_gN, v0, vS, p0, p0o, pS, f0, f0s, f0n, fS, R.bind_ok, R.bind_err, R.bind_stuck, R.quiet_ok, R.sure_ok, R.sure_err, R.sure_stuck, O.of_ok, O.of_err, O.of_stuck, O.thn_nx, O.thn_rt, O.thn_bk, O.thn_ct, O.thn_err, O.thn_rto, O.lp_nx, O.lp_ct, O.lp_bk, O.lp_rt, O.lp_rto, O.lp_err, fin_nx, fin_rt, fin_err, asB_b, o_add, o_addI, o_sub, o_neg, o_lt, o_le, o_gt, o_ge, o_eqI, o_neI, o_eqS, o_neS, o_inS, o_lenL, o_lenT, o_int, o_itS, o_itL, o_itT, o_truL, o_truB, o_truI, List.set_cons_zero, List.set_cons_succ, List.length_cons, List.length_nil, if_true, if_false, Bool.not_true, Bool.not_false, Bool.false_eq_true, Option.isSome_some, Option.isSome_none, Nat.reduceAdd, Nat.zero_add, decide_true, decide_false, e_gT, e_gsC, e_gsN, e_callR0, e_callN, Nat.reduceEqDiff, lit_0, lit_1, lit_2, lit_3, lit_4, lit_5, lit_6, lit_7, lit_8, lit_9, lit_10, lit_11, lit_12, lit_13, lit_14, lit_15, lit_16, lit_17, lit_18, lit_19, lit_20, lit_21, lit_22, lit_23, cl_0, cl_1, cl_2, cl_3, cl_4, cl_5, cl_6, cl_7, cl_8, cl_9, cl_10, cl_11, cl_12, cl_13, cl_14, cl_15, cl_16, cl_17, cl_18, cl_19, cl_20, cl_21, cl_22, cl_23, o_fdiv (show 0 < (1000 : Int) ∧ (1000 : Int).natAbs.log2 < 9000 by decide)]
        refine ⟨fun _ => ⟨ds, _, _, _, _, _, rfl, hs, by omega⟩, fun _ => ?_⟩
        simp -implicitDefEqProofs only [RP_ok, RP_err, RP_stuck, RP_bind, RP_quiet, RP_sure, RP_ite, RP_fin, RP_finN, OP_nx, OP_rt, OP_rto, OP_bk, OP_ct, OP_err, OP_stuck, OP_of, OP_thn, OP_lp, OP_ite, OP_tryN, OP_tryAs, OP_endS, OP_endI, true_implies, false_implies, not_true_eq_false, not_false_eq_true, and_true, true_and, implies_true, wipe_nil, wipe_cons, List.length_map, e_callR, e_callX, e_isX, e_xf, e_sNext, e_sApp, e_sPop, e_sRev, e_sRetOwn, e_sExt, e_sGive, e_sSetIx, e_hdl, hdl_nil, e_hdlAs, ownAt_own, rndAt_rnd, excAt_exc, someD_some, caseB_t, caseB_f, intD_int, clean_nil, clean_sh, clean_no, clean_own, List.getElem?_cons_zero, List.getElem?_cons_succ, decide_eq_true_eq, Bool.not_eq_true', List.length_append, Option.getD_some, ixT0, ixT1, ixT2, ixT3, ixL0, ixL1, ixL2, ixL3, o_isB, o_isL, o_isT, o_isI, o_isS, o_niPM, o_niPL, o_max2, o_min2, o_abs, o_tupL, o_tupT, o_lofL, o_lofT, e_aListOf, e_aRep, sizeLine_eq, decide_eq_false_iff_not, Classical.not_not, Nat.reduceLeDiff, Nat.zero_le, Int.reduceLE, Int.reduceLT, Int.reduceEq, Nat.reduceLT, List.nil_append, List.cons_append, cst0, cst1, cst2, cst3, cst4, cst5, cst6, cst7, cst8, cst9, cst10, cst11, cst12, o_eqB, o_neB, reduceCtorEq, Bool.true_eq_false, e_iEnumS, e_iZipS, o_enum, o_zipL, o_zipT, e_sRaise1, e_sPar, e_sPar3, e_gTL, o_isBB, o_notBB, e_sCons, e_sNil, e_sBreak, e_sCont, e_sRet, e_sRetN, e_sExpr, e_sIf, e_sAsg, e_sOwn, e_sFrz, e_sRaise, e_sFor, e_loop_nil, e_mC, e_m1, e_m2, e_mF, e_mCall, e_mM1, e_aNil, e_aCons, e_aLst, e_mTup, e_mLst, e_mN, e_mT, e_mTru, e_mAndT, e_mOrT, e_mNotT, e_mAnd, e_mOr, e_mNot, e_mIf, e_mChain, e_iSeq, e_iRange1, e_iRange2, e_oNone, e_oSome, e_mSl, e_mYes, e_mLc, e_gN, v0, vS, p0, p0o, pS, f0, f0s, f0n, fS, R.bind_ok, R.bind_err, R.bind_stuck, R.quiet_ok, R.sure_ok, R.sure_err, R.sure_stuck, O.of_ok, O.of_err, O.of_stuck, O.thn_nx, O.thn_rt, O.thn_bk, O.thn_ct, O.thn_err, O.thn_rto, O.lp_nx, O.lp_ct, O.lp_bk, O.lp_rt, O.lp_rto, O.lp_err, fin_nx, fin_rt, fin_err, asB_b, o_add, o_addI, o_sub, o_neg, o_lt, o_le, o_gt, o_ge, o_eqI, o_neI, o_eqS, o_neS, o_inS, o_lenL, o_lenT, o_int, o_itS, o_itL, o_itT, o_truL, o_truB, o_truI, List.set_cons_zero, List.set_cons_succ, List.length_cons, List.length_nil, if_true, if_false, Bool.not_true, Bool.not_false, Bool.false_eq_true, Option.isSome_some, Option.isSome_none, Nat.reduceAdd, Nat.zero_add, decide_true, decide_false, e_gT, e_gsC, e_gsN, e_callR0, e_callN, Nat.reduceEqDiff, lit_0, lit_1, lit_2, lit_3, lit_4, lit_5, lit_6, lit_7, lit_8, lit_9, lit_10, lit_11, lit_12, lit_13, lit_14, lit_15, lit_16, lit_17, lit_18, lit_19, lit_20, lit_21, lit_22, lit_23, cl_0, cl_1, cl_2, cl_3, cl_4, cl_5, cl_6, cl_7, cl_8, cl_9, cl_10, cl_11, cl_12, cl_13, cl_14, cl_15, cl_16, cl_17, cl_18, cl_19, cl_20, cl_21, cl_22, cl_23, o_mod (show (0 : Int) < 1000 by decide)]
        refine ⟨fun _ => ⟨_, _, _, rfl, Int.ediv_nonneg y0 (by decide), smallD_app hs (mod1000 y).1 (mod1000 y).2, by rw [List.length_append, List.length_singleton]; omega⟩, fun h => absurd (show ds.length < 16777216 by omega) h⟩
      · rintro ρ ⟨ds, y, o4, rfl, y0, hs, hn⟩
        rw [List.length_map, List.length_range] at hn
        exact ⟨ds, _, _, _, _, _, rfl, hs, by omega⟩
    · have hy : y < 1000000000000000000 := by omega
      have b1 : 0 ≤ y % 1000 ∧ y % 1000 < 1000 := mod1000 y
      simp -implicitDefEqProofs only [RP_ok, RP_err, RP_stuck, RP_bind, RP_quiet, RP_sure, RP_ite, RP_fin, RP_finN, OP_nx, OP_rt, OP_rto, OP_bk, OP_ct, OP_err, OP_stuck, OP_of, OP_thn, OP_lp, OP_ite, OP_tryN, OP_tryAs, OP_endS, OP_endI, true_implies, false_implies, not_true_eq_false, not_false_eq_true, and_true, true_and, implies_true, wipe_nil, wipe_cons, List.length_map, e_callR, e_callX, e_isX, e_xf, e_sNext, e_sApp, e_sPop, e_sRev, e_sRetOwn, e_sExt, e_sGive, e_sSetIx, e_hdl, hdl_nil, e_hdlAs, ownAt_own, rndAt_rnd, excAt_exc, someD_some, caseB_t, caseB_f, intD_int, clean_nil, clean_sh, clean_no, clean_own, List.getElem?_cons_zero, List.getElem?_cons_succ, decide_eq_true_eq, Bool.not_eq_true', List.length_append, Option.getD_some, ixT0, ixT1, ixT2, ixT3, ixL0, ixL1, ixL2, ixL3, o_isB, o_isL, o_isT, o_isI, o_isS, o_niPM, o_niPL, o_max2, o_min2, o_abs, o_tupL, o_tupT, o_lofL, o_lofT, e_aListOf, e_aRep, sizeLine_eq, decide_eq_false_iff_not, Classical.not_not, Nat.reduceLeDiff, Nat.zero_le, Int.reduceLE, Int.reduceLT, Int.reduceEq, Nat.reduceLT, List.nil_append, List.cons_append, cst0, cst1, cst2, cst3, cst4, cst5, cst6, cst7, cst8, cst9, cst10, cst11, cst12, o_eqB, o_neB, reduceCtorEq, Bool.true_eq_false, e_iEnumS, e_iZipS, o_enum, o_zipL, o_zipT, e_sRaise1, e_sPar, e_sPar3, e_gTL, o_isBB, o_notBB, e_sCons, e_sNil, e_sBreak, e_sCont, e_sRet, e_sRetN, e_sExpr, e_sIf, e_sAsg, e_sOwn, e_sFrz, e_sRaise, e_sFor, e_loop_nil, e_mC, e_m1, e_m2, e_mF, e_mCall, e_mM1, e_aNil, e_aCons, e_aLst, e_mTup, e_mLst, e_mN, e_mT, e_mTru, e_mAndT, e_mOrT, e_mNotT, e_mAnd, e_mOr, e_mNot, e_mIf, e_mChain, e_iSeq, e_iRange1, e_iRange2, e_oNone, e_oSome, e_mSl, e_mYes, e_mLc, e_gN, v0, vS, p0, p0o, pS, f0, f0s, f0n, fS, R.bind_ok, R.bind_err, R.bind_stuck, R.quiet_ok, R.sure_ok, R.sure_err, R.sure_stuck, O.of_ok, O.of_err, O.of_stuck, O.thn_nx, O.thn_rt, O.thn_bk, O.thn_ct, O.thn_err, O.thn_rto, O.lp_nx, O.lp_ct, O.lp_bk, O.lp_rt, O.lp_rto, O.lp_err, fin_nx, fin_rt, fin_err, asB_b, o_add, o_addI, o_sub, o_neg, o_lt, o_le, o_gt, o_ge, o_eqI, o_neI, o_eqS, o_neS, o_inS, o_lenL, o_lenT, o_int, o_itS, o_itL, o_itT, o_truL, o_truB, o_truI, List.set_cons_zero, List.set_cons_succ, List.length_cons, List.length_nil, if_true, if_false, Bool.not_true, Bool.not_false, Bool.false_eq_true, Option.isSome_some, Option.isSome_none, Nat.reduceAdd, Nat.zero_add, decide_true, decide_false, e_gT, e_gsC, e_gsN, e_callR0, e_callN, Nat.reduceEqDiff, lit_0, lit_1, lit_2, lit_3, lit_4, lit_5, lit_6, lit_7, lit_8, lit_9, lit_10, lit_11, lit_12, lit_13, lit_14, lit_15, lit_16, lit_17, lit_18, lit_19, lit_20, lit_21, lit_22, lit_23, cl_0, cl_1, cl_2, cl_3, cl_4, cl_5, cl_6, cl_7, cl_8, cl_9, cl_10, cl_11, cl_12, cl_13, cl_14, cl_15, cl_16, cl_17, cl_18, cl_19, cl_20, cl_21, cl_22, cl_23, o_mulS (show y.natAbs < 2 ^ 64 by omega) (show (48271 : Int).natAbs < 2 ^ 64 by decide), o_mod (show (0 : Int) < 2147483647 by decide)]
      have q1 := Int.emod_nonneg (y * 48271 + 11) (show (2147483647 : Int) ≠ 0 by decide)
      have q2 := Int.emod_lt_of_pos (y * 48271 + 11) (show (0 : Int) < 2147483647 by decide)
      generalize (y * 48271 + 11) % 2147483647 = u at q1 q2
      simp -implicitDefEqProofs only [RP_ok, RP_err, RP_stuck, RP_bind, RP_quiet, RP_sure, RP_ite, RP_fin, RP_finN, OP_nx, OP_rt, OP_rto, OP_bk, OP_ct, OP_err, OP_stuck, OP_of, OP_thn, OP_lp, OP_ite, OP_tryN, OP_tryAs, OP_endS, OP_endI, true_implies, false_implies, not_true_eq_false, not_false_eq_true, and_true, true_and, implies_true, wipe_nil, wipe_cons, List.length_map, e_callR, e_callX, e_isX, e_xf, e_sNext, e_sApp, e_sPop, e_sRev, e_sRetOwn, e_sExt, e_sGive, e_sSetIx, e_hdl, hdl_nil, e_hdlAs, ownAt_own, rndAt_rnd, excAt_exc, someD_some, caseB_t, caseB_f, intD_int, clean_nil, clean_sh, clean_no, clean_own, List.getElem?_cons_zero, List.getElem?_cons_succ, decide_eq_true_eq, Bool.not_eq_true', List.length_append, Option.getD_some, ixT0, ixT1, ixT2, ixT3, ixL0, ixL1, ixL2, ixL3, o_isB, o_isL, o_isT, o_isI, o_isS, o_niPM, o_niPL, o_max2, o_min2, o_abs, o_tupL, o_tupT, o_lofL, o_lofT, e_aListOf, e_aRep, sizeLine_eq, decide_eq_false_iff_not, Classical.not_not, Nat.reduceLeDiff, Nat.zero_le, Int.reduceLE, Int.reduceLT, Int.reduceEq, Nat.reduceLT, List.nil_append, List.cons_append, cst0, cst1, cst2, cst3, cst4, cst5, cst6, cst7, cst8, cst9, cst10, cst11, cst12, o_eqB, o_neB, reduceCtorEq, Bool.true_eq_false, e_iEnumS, e_iZipS, o_enum, o_zipL, o_zipT, e_sRaise1, e_sPar, e_sPar3, e_gTL, o_isBB, o_notBB, e_sCons, e_sNil, e_sBreak, e_sCont, e_sRet, e_sRetN, e_sExpr, e_sIf, e_sAsg, e_sOwn, e_sFrz, e_sRaise, e_sFor, e_loop_nil, e_mC, e_m1, e_m2, e_mF, e_mCall, e_mM1, e_aNil, e_aCons, e_aLst, e_mTup, e_mLst, e_mN, e_mT, e_mTru, e_mAndT, e_mOrT, e_mNotT, e_mAnd, e_mOr, e_mNot, e_mIf, e_mChain, e_iSeq, e_iRange1, e_iRange2, e_oNone, e_oSome, e_mSl, e_mYes, e_mLc, e_gN, v0, vS, p0, p0o, pS, f0, f0s, f0n, fS, R.bind_ok, R.bind_err, R.bind_stuck, R.quiet_ok, R.sure_ok, R.sure_err, R.sure_stuck, O.of_ok, O.of_err, O.of_stuck, O.thn_nx, O.thn_rt, O.thn_bk, O.thn_ct, O.thn_err, O.thn_rto, O.lp_nx, O.lp_ct, O.lp_bk, O.lp_rt, O.lp_rto, O.lp_err, fin_nx, fin_rt, fin_err, asB_b, o_add, o_addI, o_sub, o_neg, o_lt, o_le, o_gt, o_ge, o_eqI, o_neI, o_eqS, o_neS, o_inS, o_lenL, o_lenT, o_int, o_itS, o_itL, o_itT, o_truL, o_truB, o_truI, List.set_cons_zero, List.set_cons_succ, List.length_cons, List.length_nil, if_true, if_false, Bool.not_true, Bool.not_false, Bool.false_eq_true, Option.isSome_some, Option.isSome_none, Nat.reduceAdd, Nat.zero_add, decide_true, decide_false, e_gT, e_gsC, e_gsN, e_callR0, e_callN, Nat.reduceEqDiff, lit_0, lit_1, lit_2, lit_3, lit_4, lit_5, lit_6, lit_7, lit_8, lit_9, lit_10, lit_11, lit_12, lit_13, lit_14, lit_15, lit_16, lit_17, lit_18, lit_19, lit_20, lit_21, lit_22, lit_23, cl_0, cl_1, cl_2, cl_3, cl_4, cl_5, cl_6, cl_7, cl_8, cl_9, cl_10, cl_11, cl_12, cl_13, cl_14, cl_15, cl_16, cl_17, cl_18, cl_19, cl_20, cl_21, cl_22, cl_23, o_mulS (show u.natAbs < 2 ^ 64 by omega) (show (69621 : Int).natAbs < 2 ^ 64 by decide), o_mod (show (0 : Int) < 2147483629 by decide)]
      generalize (u * 69621 + y) % 2147483629 = v
      simp -implicitDefEqProofs only [RP_ok, RP_err, RP_stuck, RP_bind, RP_quiet, RP_sure, RP_ite, RP_fin, RP_finN, OP_nx, OP_rt, OP_rto, OP_bk, OP_ct, OP_err, OP_stuck, OP_of, OP_thn, OP_lp, OP_ite, OP_tryN, OP_tryAs, OP_endS, OP_endI, true_implies, false_implies, not_true_eq_false, not_false_eq_true, and_true, true_and, implies_true, wipe_nil, wipe_cons, List.length_map, e_callR, e_callX, e_isX, e_xf, e_sNext, e_sApp, e_sPop, e_sRev, e_sRetOwn, e_sExt, e_sGive, e_sSetIx, e_hdl, hdl_nil, e_hdlAs, ownAt_own, rndAt_rnd, excAt_exc, someD_some, caseB_t, caseB_f, intD_int, clean_nil, clean_sh, clean_no, clean_own, List.getElem?_cons_zero, List.getElem?_cons_succ, decide_eq_true_eq, Bool.not_eq_true', List.length_append, Option.getD_some, ixT0, ixT1, ixT2, ixT3, ixL0, ixL1, ixL2, ixL3, o_isB, o_isL, o_isT, o_isI, o_isS, o_niPM, o_niPL, o_max2, o_min2, o_abs, o_tupL, o_tupT, o_lofL, o_lofT, e_aListOf, e_aRep, sizeLine_eq, decide_eq_false_iff_not, Classical.not_not, Nat.reduceLeDiff, Nat.zero_le, Int.reduceLE, Int.reduceLT, Int.reduceEq, Nat.reduceLT, List.nil_append, List.cons_append, cst0, cst1, cst2, cst3, cst4, cst5, cst6, cst7, cst8, cst9, cst10, cst11, cst12, o_eqB, o_neB, reduceCtorEq, Bool.true_eq_false, e_iEnumS, e_iZipS, o_enum, o_zipL, o_zipT, e_sRaise1, e_sPar, e_sPar3, e_gTL, o_isBB, o_notBB, e_sCons, e_sNil, e_sBreak, e_sCont, e_sRet, e_sRetN, e_sExpr, e_sIf, e_sAsg, e_sOwn, e_sFrz, e_sRaise, e_sFor, e_loop_nil, e_mC, e_m1, e_m2, e_mF, e_mCall, e_mM1, e_aNil, e_aCons, e_aLst, e_mTup, e_mLst, e_mN, e_mT, e_mTru, e_mAndT, e_mOrT, e_mNotT, e_mAnd, e_mOr, e_mNot, e_mIf, e_mChain, e_iSeq, e_iRange1, e_iRange2, e_oNone, e_oSome, e_mSl, e_mYes, e_mLc, e_gN, v0, vS, p0, p0o, pS, f0, f0s, f0n, fS, R.bind_ok, R.bind_err, R.bind_stuck, R.quiet_ok, R.sure_ok, R.sure_err, R.sure_stuck, O.of_ok, O.of_err, O.of_stuck, O.thn_nx, O.thn_rt, O.thn_bk, O.thn_ct, O.thn_err, O.thn_rto, O.lp_nx, O.lp_ct, O.lp_bk, O.lp_rt, O.lp_rto, O.lp_err, fin_nx, fin_rt, fin_err, asB_b, o_add, o_addI, o_sub, o_neg, o_lt, o_le, o_gt, o_ge, o_eqI, o_neI, o_eqS, o_neS, o_inS, o_lenL, o_lenT, o_int, o_itS, o_itL, o_itT, o_truL, o_truB, o_truI, List.set_cons_zero, List.set_cons_succ, List.length_cons, List.length_nil, if_true, if_false, Bool.not_true, Bool.not_false, Bool.false_eq_true, Option.isSome_some, Option.isSome_none, Nat.reduceAdd, Nat.zero_add, decide_true, decide_false, e_gT, e_gsC, e_gsN, e_callR0, e_callN, Nat.reduceEqDiff, lit_0, lit_1, lit_2, lit_3, lit_4, lit_5, lit_6, lit_7, lit_8, lit_9, lit_10, lit_11, lit_12, lit_13, lit_14, lit_15, lit_16, lit_17, lit_18, lit_19, lit_20, lit_21, lit_22, lit_23, cl_0, cl_1, cl_2, cl_3, cl_4, cl_5, cl_6, cl_7, cl_8, cl_9, cl_10, cl_11, cl_12, cl_13, cl_14, cl_15, cl_16, cl_17, cl_18, cl_19, cl_20, cl_21, cl_22, cl_23, o_mod (show (0 : Int) < 1000 by decide)]
      refine ⟨fun _ => ⟨_, _, _, _, _, _, rfl, smallD_app' hs ?_, ?_⟩, fun h => absurd ?_ h⟩
      · have b2 := mod1000 u
        have b3 := mod1000 v
        show (decide (0 ≤ y % 1000 ∧ y % 1000 < 1000) && (decide (0 ≤ u % 1000 ∧ u % 1000 < 1000) && (decide (0 ≤ v % 1000 ∧ v % 1000 < 1000) && true))) = true
        rw [decide_eq_true b1, decide_eq_true b2, decide_eq_true b3]
        rfl
      · rw [List.length_append]; show ds.length + 3 ≤ _; omega
      · omega
  · rintro ρ ⟨ds, o2, o3, o4, o5, o6, rfl, hs, hn⟩
    rw [List.length_map] at hn
    dsimp only
    simp -implicitDefEqProofs only [RP_ok, RP_err, RP_stuck, RP_bind, RP_quiet, RP_sure, RP_ite, RP_fin, RP_finN, OP_nx, OP_rt, OP_rto, OP_bk, OP_ct, OP_err, OP_stuck, OP_of, OP_thn, OP_lp, OP_ite, OP_tryN, OP_tryAs, OP_endS, OP_endI, true_implies, false_implies, not_true_eq_false, not_false_eq_true, and_true, true_and, implies_true, wipe_nil, wipe_cons, List.length_map, e_callR, e_callX, e_isX, e_xf, e_sNext, e_sApp, e_sPop, e_sRev, e_sRetOwn, e_sExt, e_sGive, e_sSetIx, e_hdl, hdl_nil, e_hdlAs, ownAt_own, rndAt_rnd, excAt_exc, someD_some, caseB_t, caseB_f, intD_int, clean_nil, clean_sh, clean_no, clean_own, List.getElem?_cons_zero, List.getElem?_cons_succ, decide_eq_true_eq, Bool.not_eq_true', List.length_append, Option.getD_some, ixT0, ixT1, ixT2, ixT3, ixL0, ixL1, ixL2, ixL3, o_isB, o_isL, o_isT, o_isI, o_isS, o_niPM, o_niPL, o_max2, o_min2, o_abs, o_tupL, o_tupT, o_lofL, o_lofT, e_aListOf, e_aRep, sizeLine_eq, decide_eq_false_iff_not, Classical.not_not, Nat.reduceLeDiff, Nat.zero_le, Int.reduceLE, Int.reduceLT, Int.reduceEq, Nat.reduceLT, List.nil_append, List.cons_append, cst0, cst1, cst2, cst3, cst4, cst5, cst6, cst7, cst8, cst9, cst10, cst11, cst12, o_eqB, o_neB, reduceCtorEq, Bool.true_eq_false, e_iEnumS, e_iZipS, o_enum, o_zipL, o_zipT, e_sRaise1, e_sPar, e_sPar3, e_gTL, o_isBB, o_notBB, e_sCons, e_sNil, e_sBreak, e_sCont, e_sRet, e_sRetN, e_sExpr, e_sIf, e_sAsg, e_sOwn, e_sFrz, e_sRaise, e_sFor, e_loop_nil, e_mC, e_m1, e_m2, e_mF, e_mCall, e_mM1, e_aNil, e_aCons, e_aLst, e_mTup, e_mLst, e_mN, e_mT, e_mTru, e_mAndT, e_mOrT, e_mNotT, e_mAnd, e_mOr, e_mNot, e_mIf, e_mChain, e_iSeq, e_iRange1, e_iRange2, e_oNone, e_oSome, e_mSl, e_mYes, e_mLc, e_gN, v0, vS, p0, p0o, pS, f0, f0s, f0n, fS, R.bind_ok, R.bind_err, R.bind_stuck, R.quiet_ok, R.sure_ok, R.sure_err, R.sure_stuck, O.of_ok, O.of_err, O.of_stuck, O.thn_nx, O.thn_rt, O.thn_bk, O.thn_ct, O.thn_err, O.thn_rto, O.lp_nx, O.lp_ct, O.lp_bk, O.lp_rt, O.lp_rto, O.lp_err, fin_nx, fin_rt, fin_err, asB_b, o_add, o_addI, o_sub, o_neg, o_lt, o_le, o_gt, o_ge, o_eqI, o_neI, o_eqS, o_neS, o_inS, o_lenL, o_lenT, o_int, o_itS, o_itL, o_itT, o_truL, o_truB, o_truI, List.set_cons_zero, List.set_cons_succ, List.length_cons, List.length_nil, if_true, if_false, Bool.not_true, Bool.not_false, Bool.false_eq_true, Option.isSome_some, Option.isSome_none, Nat.reduceAdd, Nat.zero_add, decide_true, decide_false, e_gT, e_gsC, e_gsN, e_callR0, e_callN, Nat.reduceEqDiff, lit_0, lit_1, lit_2, lit_3, lit_4, lit_5, lit_6, lit_7, lit_8, lit_9, lit_10, lit_11, lit_12, lit_13, lit_14, lit_15, lit_16, lit_17, lit_18, lit_19, lit_20, lit_21, lit_22, lit_23, cl_0, cl_1, cl_2, cl_3, cl_4, cl_5, cl_6, cl_7, cl_8, cl_9, cl_10, cl_11, cl_12, cl_13, cl_14, cl_15, cl_16, cl_17, cl_18, cl_19, cl_20, cl_21, cl_22, cl_23]
    exact ⟨hs, by omega⟩
theorem smallD_rev {ds : List D} (h : smallD ds = true) : smallD ds.reverse = true := by
  unfold smallD at h ⊢
  rw [List.all_reverse]; exact h

end Law
end
end
section
set_option Elab.async false
set_option linter.all false
set_option maxRecDepth 100000
set_option autoImplicit false
set_option maxHeartbeats 4000000
noncomputable section
namespace Law
open PySem DW L2
open SX (S S_tl S_len S_cat)
theorem r__law_next : m__law_next [] = .pick fun n => .ok (.int (n : Int)) := by
  show fin (b__law_next [some .rnd]) = _
  rfl
theorem rp_next {P : Prop} {Q : D → Prop} {E : Exn → Prop} : RP P (m__law_next []) Q E = (P ∧ ∀ n : Nat, n < 1000 → Q (.int (n : Int))) := by
  rw [r__law_next, RP_pick]; simp only [RP_ok]

end Law
end
end
section
set_option Elab.async false
set_option linter.all false
set_option maxRecDepth 100000
set_option autoImplicit false
set_option maxHeartbeats 4000000
noncomputable section
namespace Law
open PySem DW L2
open SX (S S_tl S_len S_cat)
theorem rp__law_word {g : Int} {m : Nat} (h1 : 1 ≤ g) (h2 : g ≤ 3) (hm : m ≤ 200) : RP True (m__law_word [.int g, .int (m : Int)]) (fun d => ∃ w : List Nat, d = sD w ∧ w.length ≤ m ∧ ∀ c ∈ w, c ∈ lt g) NoE := by
  have hz := sizeLine_eq
  show RP True (fin (b__law_word [some .rnd, some (.sh (.int g)), some (.sh (.int (m : Int))), none, none, none])) _ _
  unfold b__law_word
  simp -implicitDefEqProofs only [RP_ok, RP_err, RP_stuck, RP_bind, RP_quiet, RP_sure, RP_ite, RP_fin, RP_finN, OP_nx, OP_rt, OP_rto, OP_bk, OP_ct, OP_err, OP_stuck, OP_of, OP_thn, OP_lp, OP_ite, OP_tryN, OP_tryAs, OP_endS, OP_endI, true_implies, false_implies, not_true_eq_false, not_false_eq_true, and_true, true_and, implies_true, wipe_nil, wipe_cons, List.length_map, e_callR, e_callX, e_isX, e_xf, e_sNext, e_sApp, e_sPop, e_sRev, e_sRetOwn, e_sExt, e_sGive, e_sSetIx, e_hdl, hdl_nil, e_hdlAs, ownAt_own, rndAt_rnd, excAt_exc, someD_some, caseB_t, caseB_f, intD_int, clean_nil, clean_sh, clean_no, clean_own, List.getElem?_cons_zero, List.getElem?_cons_succ, decide_eq_true_eq, Bool.not_eq_true', List.length_append, Option.getD_some, ixT0, ixT1, ixT2, ixT3, ixL0, ixL1, ixL2, ixL3, o_isB, o_isL, o_isT, o_isI, o_isS, o_niPM, o_niPL, o_max2, o_min2, o_abs, o_tupL, o_tupT, o_lofL, o_lofT, e_aListOf, e_aRep, sizeLine_eq, decide_eq_false_iff_not, Classical.not_not, Nat.reduceLeDiff, Nat.zero_le, Int.reduceLE, Int.reduceLT, Int.reduceEq, Nat.reduceLT, List.nil_append, List.cons_append, cst0, cst1, cst2, cst3, cst4, cst5, cst6, cst7, cst8, cst9, cst10, cst11, cst12, o_eqB, o_neB, reduceCtorEq, Bool.true_eq_false, e_iEnumS, e_iZipS, o_enum, o_zipL, o_zipT, e_sRaise1, e_sPar, e_sPar3, e_gTL, o_isBB, o_notBB, e_sCons, e_sNil, e_sBreak, e_sCont, e_sRet, e_sRetN, e_sExpr, e_sIf, e_sAsg, e_sOwn, e_sFrz, e_sRaise, e_sFor, e_loop_nil, e_mC, e_m1, e_m2, e_mF, e_mCall, e_mM1, e_aNil, e_aCons, e_aLst, e_mTup, e_mLst, e_mN, e_mT, e_mTru, e_mAndT, e_mOrT, e_mNotT, e_mAnd, e_mOr, e_mNot, e_mIf, e_mChain, e_iSeq, e_iRange1, e_iRange2, e_oNone, e_oSome, e_mSl, e_mYes, e_mLc, e_gN, v0, vS, p0, p0o, pS, f0, f0s, f0n, fS, R.bind_ok, R.bind_err, R.bind_stuck, R.quiet_ok, R.sure_ok, R.sure_err, R.sure_stuck, O.of_ok, O.of_err, O.of_stuck, O.thn_nx, O.thn_rt, O.thn_bk, O.thn_ct, O.thn_err, O.thn_rto, O.lp_nx, O.lp_ct, O.lp_bk, O.lp_rt, O.lp_rto, O.lp_err, fin_nx, fin_rt, fin_err, asB_b, o_add, o_addI, o_sub, o_neg, o_lt, o_le, o_gt, o_ge, o_eqI, o_neI, o_eqS, o_neS, o_inS, o_lenL, o_lenT, o_int, o_itS, o_itL, o_itT, o_truL, o_truB, o_truI, List.set_cons_zero, List.set_cons_succ, List.length_cons, List.length_nil, if_true, if_false, Bool.not_true, Bool.not_false, Bool.false_eq_true, Option.isSome_some, Option.isSome_none, Nat.reduceAdd, Nat.zero_add, decide_true, decide_false, e_gT, e_gsC, e_gsN, e_callR0, e_callN, Nat.reduceEqDiff, lit_0, lit_1, lit_2, lit_3, lit_4, lit_5, lit_6, lit_7, lit_8, lit_9, lit_10, lit_11, lit_12, lit_13, lit_14, lit_15, lit_16, lit_17, lit_18, lit_19, lit_20, lit_21, lit_22, lit_23, cl_0, cl_1, cl_2, cl_3, cl_4, cl_5, cl_6, cl_7, cl_8, cl_9, cl_10, cl_11, cl_12, cl_13, cl_14, cl_15, cl_16, cl_17, cl_18, cl_19, cl_20, cl_21, cl_22, cl_23, rp_next, o_mod (show (0 : Int) < (m : Int) + 1 by omega)]
  intro n _
  obtain ⟨k, hk, hk2⟩ := nat_of (z := (n : Int)) (n := (m : Int) + 1) (by omega)
  rw [hk, rg_nat (by omega)]
  simp -implicitDefEqProofs only [RP_ok, RP_err, RP_stuck, RP_bind, RP_quiet, RP_sure, RP_ite, RP_fin, RP_finN, OP_nx, OP_rt, OP_rto, OP_bk, OP_ct, OP_err, OP_stuck, OP_of, OP_thn, OP_lp, OP_ite, OP_tryN, OP_tryAs, OP_endS, OP_endI, true_implies, false_implies, not_true_eq_false, not_false_eq_true, and_true, true_and, implies_true, wipe_nil, wipe_cons, List.length_map, e_callR, e_callX, e_isX, e_xf, e_sNext, e_sApp, e_sPop, e_sRev, e_sRetOwn, e_sExt, e_sGive, e_sSetIx, e_hdl, hdl_nil, e_hdlAs, ownAt_own, rndAt_rnd, excAt_exc, someD_some, caseB_t, caseB_f, intD_int, clean_nil, clean_sh, clean_no, clean_own, List.getElem?_cons_zero, List.getElem?_cons_succ, decide_eq_true_eq, Bool.not_eq_true', List.length_append, Option.getD_some, ixT0, ixT1, ixT2, ixT3, ixL0, ixL1, ixL2, ixL3, o_isB, o_isL, o_isT, o_isI, o_isS, o_niPM, o_niPL, o_max2, o_min2, o_abs, o_tupL, o_tupT, o_lofL, o_lofT, e_aListOf, e_aRep, sizeLine_eq, decide_eq_false_iff_not, Classical.not_not, Nat.reduceLeDiff, Nat.zero_le, Int.reduceLE, Int.reduceLT, Int.reduceEq, Nat.reduceLT, List.nil_append, List.cons_append, cst0, cst1, cst2, cst3, cst4, cst5, cst6, cst7, cst8, cst9, cst10, cst11, cst12, o_eqB, o_neB, reduceCtorEq, Bool.true_eq_false, e_iEnumS, e_iZipS, o_enum, o_zipL, o_zipT, e_sRaise1, e_sPar, e_sPar3, e_gTL, o_isBB, o_notBB, e_sCons, e_sNil, e_sBreak, e_sCont, e_sRet, e_sRetN, e_sExpr, e_sIf, e_sAsg, e_sOwn, e_sFrz, e_sRaise, e_sFor, e_loop_nil, e_mC, e_m1, e_m2, e_mF, e_mCall, e_mM1, e_aNil, e_aCons, e_aLst, e_mTup, e_mLst, e_mN, e_mT, e_mTru, e_mAndT, e_mOrT, e_mNotT, e_mAnd, e_mOr, e_mNot, e_mIf, e_mChain, e_iSeq, e_iRange1, e_iRange2, e_oNone, e_oSome, e_mSl, e_mYes, e_mLc, e_gN, v0, vS, p0, p0o, pS, f0, f0s, f0n, fS, R.bind_ok, R.bind_err, R.bind_stuck, R.quiet_ok, R.sure_ok, R.sure_err, R.sure_stuck, O.of_ok, O.of_err, O.of_stuck, O.thn_nx, O.thn_rt, O.thn_bk, O.thn_ct, O.thn_err, O.thn_rto, O.lp_nx, O.lp_ct, O.lp_bk, O.lp_rt, O.lp_rto, O.lp_err, fin_nx, fin_rt, fin_err, asB_b, o_add, o_addI, o_sub, o_neg, o_lt, o_le, o_gt, o_ge, o_eqI, o_neI, o_eqS, o_neS, o_inS, o_lenL, o_lenT, o_int, o_itS, o_itL, o_itT, o_truL, o_truB, o_truI, List.set_cons_zero, List.set_cons_succ, List.length_cons, List.length_nil, if_true, if_false, Bool.not_true, Bool.not_false, Bool.false_eq_true, Option.isSome_some, Option.isSome_none, Nat.reduceAdd, Nat.zero_add, decide_true, decide_false, e_gT, e_gsC, e_gsN, e_callR0, e_callN, Nat.reduceEqDiff, lit_0, lit_1, lit_2, lit_3, lit_4, lit_5, lit_6, lit_7, lit_8, lit_9, lit_10, lit_11, lit_12, lit_13, lit_14, lit_15, lit_16, lit_17, lit_18, lit_19, lit_20, lit_21, lit_22, lit_23, cl_0, cl_1, cl_2, cl_3, cl_4, cl_5, cl_6, cl_7, cl_8, cl_9, cl_10, cl_11, cl_12, cl_13, cl_14, cl_15, cl_16, cl_17, cl_18, cl_19, cl_20, cl_21, cl_22, cl_23]
  refine OP_for (I := fun j ρ => ∃ (w : List Nat) (o5 : Option SD), ρ = [some .rnd, some (.sh (.int g)), some (.sh (.int (m : Int))), some (.sh (sD L6)), some (.sh (sD w)), o5] ∧ w.length = j ∧ ∀ c ∈ w, c ∈ lt g) ⟨[], none, rfl, rfl, fun _ h => nomatch h⟩ ?_ ?_
  · rintro j d ρ hd ⟨w, o5, rfl, hw, hw2⟩
    have hj : j < k := by
      have := (List.getElem?_eq_some_iff.mp hd).1
      rw [List.length_map, List.length_range] at this
      exact this
    show OP (lb__law_word_1 [some .rnd, some (.sh (.int g)), some (.sh (.int (m : Int))), some (.sh (sD L6)), some (.sh (sD w)), some (.sh d)]) _
    unfold lb__law_word_1
    simp -implicitDefEqProofs only [RP_ok, RP_err, RP_stuck, RP_bind, RP_quiet, RP_sure, RP_ite, RP_fin, RP_finN, OP_nx, OP_rt, OP_rto, OP_bk, OP_ct, OP_err, OP_stuck, OP_of, OP_thn, OP_lp, OP_ite, OP_tryN, OP_tryAs, OP_endS, OP_endI, true_implies, false_implies, not_true_eq_false, not_false_eq_true, and_true, true_and, implies_true, wipe_nil, wipe_cons, List.length_map, e_callR, e_callX, e_isX, e_xf, e_sNext, e_sApp, e_sPop, e_sRev, e_sRetOwn, e_sExt, e_sGive, e_sSetIx, e_hdl, hdl_nil, e_hdlAs, ownAt_own, rndAt_rnd, excAt_exc, someD_some, caseB_t, caseB_f, intD_int, clean_nil, clean_sh, clean_no, clean_own, List.getElem?_cons_zero, List.getElem?_cons_succ, decide_eq_true_eq, Bool.not_eq_true', List.length_append, Option.getD_some, ixT0, ixT1, ixT2, ixT3, ixL0, ixL1, ixL2, ixL3, o_isB, o_isL, o_isT, o_isI, o_isS, o_niPM, o_niPL, o_max2, o_min2, o_abs, o_tupL, o_tupT, o_lofL, o_lofT, e_aListOf, e_aRep, sizeLine_eq, decide_eq_false_iff_not, Classical.not_not, Nat.reduceLeDiff, Nat.zero_le, Int.reduceLE, Int.reduceLT, Int.reduceEq, Nat.reduceLT, List.nil_append, List.cons_append, cst0, cst1, cst2, cst3, cst4, cst5, cst6, cst7, cst8, cst9, cst10, cst11, cst12, o_eqB, o_neB, reduceCtorEq, Bool.true_eq_false, e_iEnumS, e_iZipS, o_enum, o_zipL, o_zipT, e_sRaise1, e_sPar, e_sPar3, e_gTL, o_isBB, o_notBB, e_sCons, e_sNil, e_sBreak, e_sCont, e_sRet, e_sRetN, e_sExpr, e_sIf, e_sAsg, e_sOwn, e_sFrz, e_sRaise, e_sFor, e_loop_nil, e_mC, e_m1, e_m2, e_mF, e_mCall, e_mM1, e_aNil, e_aCons, e_aLst, e_mTup, e_mLst, e_mN, e_mT, e_mTru, e_mAndT, e_mOrT, e_mNotT, e_mAnd, e_mOr, e_mNot, e_mIf, e_mChain, e_iSeq, e_iRange1, e_iRange2, e_oNone, e_oSome, e_mSl, e_mYes, e_mLc, e_gN, v0, vS, p0, p0o, pS, f0, f0s, f0n, fS, R.bind_ok, R.bind_err, R.bind_stuck, R.quiet_ok, R.sure_ok, R.sure_err, R.sure_stuck, O.of_ok, O.of_err, O.of_stuck, O.thn_nx, O.thn_rt, O.thn_bk, O.thn_ct, O.thn_err, O.thn_rto, O.lp_nx, O.lp_ct, O.lp_bk, O.lp_rt, O.lp_rto, O.lp_err, fin_nx, fin_rt, fin_err, asB_b, o_add, o_addI, o_sub, o_neg, o_lt, o_le, o_gt, o_ge, o_eqI, o_neI, o_eqS, o_neS, o_inS, o_lenL, o_lenT, o_int, o_itS, o_itL, o_itT, o_truL, o_truB, o_truI, List.set_cons_zero, List.set_cons_succ, List.length_cons, List.length_nil, if_true, if_false, Bool.not_true, Bool.not_false, Bool.false_eq_true, Option.isSome_some, Option.isSome_none, Nat.reduceAdd, Nat.zero_add, decide_true, decide_false, e_gT, e_gsC, e_gsN, e_callR0, e_callN, Nat.reduceEqDiff, lit_0, lit_1, lit_2, lit_3, lit_4, lit_5, lit_6, lit_7, lit_8, lit_9, lit_10, lit_11, lit_12, lit_13, lit_14, lit_15, lit_16, lit_17, lit_18, lit_19, lit_20, lit_21, lit_22, lit_23, cl_0, cl_1, cl_2, cl_3, cl_4, cl_5, cl_6, cl_7, cl_8, cl_9, cl_10, cl_11, cl_12, cl_13, cl_14, cl_15, cl_16, cl_17, cl_18, cl_19, cl_20, cl_21, cl_22, cl_23, rp_next, o_mulS (show (2 : Int).natAbs < 2 ^ 64 by decide) (show g.natAbs < 2 ^ 64 by omega), o_mod (show (0 : Int) < 2 * g by omega)]
    intro n _
    obtain ⟨q, hq, hq2⟩ := nat_of (z := (n : Int)) (n := 2 * g) (by omega)
    rw [hq, RP_of (o_lt6 h1 h2 hq2).2]
    simp -implicitDefEqProofs only [RP_ok, RP_err, RP_stuck, RP_bind, RP_quiet, RP_sure, RP_ite, RP_fin, RP_finN, OP_nx, OP_rt, OP_rto, OP_bk, OP_ct, OP_err, OP_stuck, OP_of, OP_thn, OP_lp, OP_ite, OP_tryN, OP_tryAs, OP_endS, OP_endI, true_implies, false_implies, not_true_eq_false, not_false_eq_true, and_true, true_and, implies_true, wipe_nil, wipe_cons, List.length_map, e_callR, e_callX, e_isX, e_xf, e_sNext, e_sApp, e_sPop, e_sRev, e_sRetOwn, e_sExt, e_sGive, e_sSetIx, e_hdl, hdl_nil, e_hdlAs, ownAt_own, rndAt_rnd, excAt_exc, someD_some, caseB_t, caseB_f, intD_int, clean_nil, clean_sh, clean_no, clean_own, List.getElem?_cons_zero, List.getElem?_cons_succ, decide_eq_true_eq, Bool.not_eq_true', List.length_append, Option.getD_some, ixT0, ixT1, ixT2, ixT3, ixL0, ixL1, ixL2, ixL3, o_isB, o_isL, o_isT, o_isI, o_isS, o_niPM, o_niPL, o_max2, o_min2, o_abs, o_tupL, o_tupT, o_lofL, o_lofT, e_aListOf, e_aRep, sizeLine_eq, decide_eq_false_iff_not, Classical.not_not, Nat.reduceLeDiff, Nat.zero_le, Int.reduceLE, Int.reduceLT, Int.reduceEq, Nat.reduceLT, List.nil_append, List.cons_append, cst0, cst1, cst2, cst3, cst4, cst5, cst6, cst7, cst8, cst9, cst10, cst11, cst12, o_eqB, o_neB, reduceCtorEq, Bool.true_eq_false, e_iEnumS, e_iZipS, o_enum, o_zipL, o_zipT, e_sRaise1, e_sPar, e_sPar3, e_gTL, o_isBB, o_notBB, e_sCons, e_sNil, e_sBreak, e_sCont, e_sRet, e_sRetN, e_sExpr, e_sIf, e_sAsg, e_sOwn, e_sFrz, e_sRaise, e_sFor, e_loop_nil, e_mC, e_m1, e_m2, e_mF, e_mCall, e_mM1, e_aNil, e_aCons, e_aLst, e_mTup, e_mLst, e_mN, e_mT, e_mTru, e_mAndT, e_mOrT, e_mNotT, e_mAnd, e_mOr, e_mNot, e_mIf, e_mChain, e_iSeq, e_iRange1, e_iRange2, e_oNone, e_oSome, e_mSl, e_mYes, e_mLc, e_gN, v0, vS, p0, p0o, pS, f0, f0s, f0n, fS, R.bind_ok, R.bind_err, R.bind_stuck, R.quiet_ok, R.sure_ok, R.sure_err, R.sure_stuck, O.of_ok, O.of_err, O.of_stuck, O.thn_nx, O.thn_rt, O.thn_bk, O.thn_ct, O.thn_err, O.thn_rto, O.lp_nx, O.lp_ct, O.lp_bk, O.lp_rt, O.lp_rto, O.lp_err, fin_nx, fin_rt, fin_err, asB_b, o_add, o_addI, o_sub, o_neg, o_lt, o_le, o_gt, o_ge, o_eqI, o_neI, o_eqS, o_neS, o_inS, o_lenL, o_lenT, o_int, o_itS, o_itL, o_itT, o_truL, o_truB, o_truI, List.set_cons_zero, List.set_cons_succ, List.length_cons, List.length_nil, if_true, if_false, Bool.not_true, Bool.not_false, Bool.false_eq_true, Option.isSome_some, Option.isSome_none, Nat.reduceAdd, Nat.zero_add, decide_true, decide_false, e_gT, e_gsC, e_gsN, e_callR0, e_callN, Nat.reduceEqDiff, lit_0, lit_1, lit_2, lit_3, lit_4, lit_5, lit_6, lit_7, lit_8, lit_9, lit_10, lit_11, lit_12, lit_13, lit_14, lit_15, lit_16, lit_17, lit_18, lit_19, lit_20, lit_21, lit_22, lit_23, cl_0, cl_1, cl_2, cl_3, cl_4, cl_5, cl_6, cl_7, cl_8, cl_9, cl_10, cl_11, cl_12, cl_13, cl_14, cl_15, cl_16, cl_17, cl_18, cl_19, cl_20, cl_21, cl_22, cl_23, o_addS]
    refine ⟨fun _ => ⟨_, _, rfl, ?_, ?_⟩, fun z => absurd ?_ z⟩
    · rw [List.length_append, hw]; rfl
    · intro c hc
      rcases List.mem_append.mp hc with hc | hc
      · exact hw2 c hc
      · rw [List.mem_singleton.mp hc]
        exact (o_lt6 h1 h2 hq2).1
    · omega
  · rintro ρ ⟨w, o5, rfl, hw, hw2⟩
    rw [List.length_map, List.length_range] at hw
    simp -implicitDefEqProofs only [RP_ok, RP_err, RP_stuck, RP_bind, RP_quiet, RP_sure, RP_ite, RP_fin, RP_finN, OP_nx, OP_rt, OP_rto, OP_bk, OP_ct, OP_err, OP_stuck, OP_of, OP_thn, OP_lp, OP_ite, OP_tryN, OP_tryAs, OP_endS, OP_endI, true_implies, false_implies, not_true_eq_false, not_false_eq_true, and_true, true_and, implies_true, wipe_nil, wipe_cons, List.length_map, e_callR, e_callX, e_isX, e_xf, e_sNext, e_sApp, e_sPop, e_sRev, e_sRetOwn, e_sExt, e_sGive, e_sSetIx, e_hdl, hdl_nil, e_hdlAs, ownAt_own, rndAt_rnd, excAt_exc, someD_some, caseB_t, caseB_f, intD_int, clean_nil, clean_sh, clean_no, clean_own, List.getElem?_cons_zero, List.getElem?_cons_succ, decide_eq_true_eq, Bool.not_eq_true', List.length_append, Option.getD_some, ixT0, ixT1, ixT2, ixT3, ixL0, ixL1, ixL2, ixL3, o_isB, o_isL, o_isT, o_isI, o_isS, o_niPM, o_niPL, o_max2, o_min2, o_abs, o_tupL, o_tupT, o_lofL, o_lofT, e_aListOf, e_aRep, sizeLine_eq, decide_eq_false_iff_not, Classical.not_not, Nat.reduceLeDiff, Nat.zero_le, Int.reduceLE, Int.reduceLT, Int.reduceEq, Nat.reduceLT, List.nil_append, List.cons_append, cst0, cst1, cst2, cst3, cst4, cst5, cst6, cst7, cst8, cst9, cst10, cst11, cst12, o_eqB, o_neB, reduceCtorEq, Bool.true_eq_false, e_iEnumS, e_iZipS, o_enum, o_zipL, o_zipT, e_sRaise1, e_sPar, e_sPar3, e_gTL, o_isBB, o_notBB, e_sCons, e_sNil, e_sBreak, e_sCont, e_sRet, e_sRetN, e_sExpr, e_sIf, e_sAsg, e_sOwn, e_sFrz, e_sRaise, e_sFor, e_loop_nil, e_mC, e_m1, e_m2, e_mF, e_mCall, e_mM1, e_aNil, e_aCons, e_aLst, e_mTup, e_mLst, e_mN, e_mT, e_mTru, e_mAndT, e_mOrT, e_mNotT, e_mAnd, e_mOr, e_mNot, e_mIf, e_mChain, e_iSeq, e_iRange1, e_iRange2, e_oNone, e_oSome, e_mSl, e_mYes, e_mLc, e_gN, v0, vS, p0, p0o, pS, f0, f0s, f0n, fS, R.bind_ok, R.bind_err, R.bind_stuck, R.quiet_ok, R.sure_ok, R.sure_err, R.sure_stuck, O.of_ok, O.of_err, O.of_stuck, O.thn_nx, O.thn_rt, O.thn_bk, O.thn_ct, O.thn_err, O.thn_rto, O.lp_nx, O.lp_ct, O.lp_bk, O.lp_rt, O.lp_rto, O.lp_err, fin_nx, fin_rt, fin_err, asB_b, o_add, o_addI, o_sub, o_neg, o_lt, o_le, o_gt, o_ge, o_eqI, o_neI, o_eqS, o_neS, o_inS, o_lenL, o_lenT, o_int, o_itS, o_itL, o_itT, o_truL, o_truB, o_truI, List.set_cons_zero, List.set_cons_succ, List.length_cons, List.length_nil, if_true, if_false, Bool.not_true, Bool.not_false, Bool.false_eq_true, Option.isSome_some, Option.isSome_none, Nat.reduceAdd, Nat.zero_add, decide_true, decide_false, e_gT, e_gsC, e_gsN, e_callR0, e_callN, Nat.reduceEqDiff, lit_0, lit_1, lit_2, lit_3, lit_4, lit_5, lit_6, lit_7, lit_8, lit_9, lit_10, lit_11, lit_12, lit_13, lit_14, lit_15, lit_16, lit_17, lit_18, lit_19, lit_20, lit_21, lit_22, lit_23, cl_0, cl_1, cl_2, cl_3, cl_4, cl_5, cl_6, cl_7, cl_8, cl_9, cl_10, cl_11, cl_12, cl_13, cl_14, cl_15, cl_16, cl_17, cl_18, cl_19, cl_20, cl_21, cl_22, cl_23]
    exact ⟨w, rfl, by omega, hw2⟩

end Law
end
end
section
set_option Elab.async false
set_option linter.all false
set_option maxRecDepth 100000
set_option autoImplicit false
set_option maxHeartbeats 4000000
noncomputable section
namespace Law
open PySem DW L2
open SX (S S_tl S_len S_cat)
def PresP (d : D) : Prop := ∃ (g : Int) (rs : List (List Nat)), d = PV g rs ∧ Pres g rs ∧ rs.length ≤ 3 ∧ ∀ r ∈ rs, r.length ≤ 6
theorem mapS_app {ws : List (List Nat)} {w : List Nat} : ws.map sD ++ [sD w] = (ws ++ [w]).map sD := by rw [List.map_append]; rfl
theorem rp__law_presentation : RP True (m__law_presentation []) PresP NoE := by
  show RP True (fin (b__law_presentation [some .rnd, none, none, none, none])) _ _
  unfold b__law_presentation
  simp -implicitDefEqProofs only [RP_ok, RP_err, RP_stuck, RP_bind, RP_quiet, RP_sure, RP_ite, RP_fin, RP_finN, OP_nx, OP_rt, OP_rto, OP_bk, OP_ct, OP_err, OP_stuck, OP_of, OP_thn, OP_lp, OP_ite, OP_tryN, OP_tryAs, OP_endS, OP_endI, true_implies, false_implies, not_true_eq_false, not_false_eq_true, and_true, true_and, implies_true, wipe_nil, wipe_cons, List.length_map, e_callR, e_callX, e_isX, e_xf, e_sNext, e_sApp, e_sPop, e_sRev, e_sRetOwn, e_sExt, e_sGive, e_sSetIx, e_hdl, hdl_nil, e_hdlAs, ownAt_own, rndAt_rnd, excAt_exc, someD_some, caseB_t, caseB_f, intD_int, clean_nil, clean_sh, clean_no, clean_own, List.getElem?_cons_zero, List.getElem?_cons_succ, decide_eq_true_eq, Bool.not_eq_true', List.length_append, Option.getD_some, ixT0, ixT1, ixT2, ixT3, ixL0, ixL1, ixL2, ixL3, o_isB, o_isL, o_isT, o_isI, o_isS, o_niPM, o_niPL, o_max2, o_min2, o_abs, o_tupL, o_tupT, o_lofL, o_lofT, e_aListOf, e_aRep, sizeLine_eq, decide_eq_false_iff_not, Classical.not_not, Nat.reduceLeDiff, Nat.zero_le, Int.reduceLE, Int.reduceLT, Int.reduceEq, Nat.reduceLT, List.nil_append, List.cons_append, cst0, cst1, cst2, cst3, cst4, cst5, cst6, cst7, cst8, cst9, cst10, cst11, cst12, o_eqB, o_neB, reduceCtorEq, Bool.true_eq_false, e_iEnumS, e_iZipS, o_enum, o_zipL, o_zipT, e_sRaise1, e_sPar, e_sPar3, e_gTL, o_isBB, o_notBB, e_sCons, e_sNil, e_sBreak, e_sCont, e_sRet, e_sRetN, e_sExpr, e_sIf, e_sAsg, e_sOwn, e_sFrz, e_sRaise, e_sFor, e_loop_nil, e_mC, e_m1, e_m2, e_mF, e_mCall, e_mM1, e_aNil, e_aCons, e_aLst, e_mTup, e_mLst, e_mN, e_mT, e_mTru, e_mAndT, e_mOrT, e_mNotT, e_mAnd, e_mOr, e_mNot, e_mIf, e_mChain, e_iSeq, e_iRange1, e_iRange2, e_oNone, e_oSome, e_mSl, e_mYes, e_mLc, e_gN, v0, vS, p0, p0o, pS, f0, f0s, f0n, fS, R.bind_ok, R.bind_err, R.bind_stuck, R.quiet_ok, R.sure_ok, R.sure_err, R.sure_stuck, O.of_ok, O.of_err, O.of_stuck, O.thn_nx, O.thn_rt, O.thn_bk, O.thn_ct, O.thn_err, O.thn_rto, O.lp_nx, O.lp_ct, O.lp_bk, O.lp_rt, O.lp_rto, O.lp_err, fin_nx, fin_rt, fin_err, asB_b, o_add, o_addI, o_sub, o_neg, o_lt, o_le, o_gt, o_ge, o_eqI, o_neI, o_eqS, o_neS, o_inS, o_lenL, o_lenT, o_int, o_itS, o_itL, o_itT, o_truL, o_truB, o_truI, List.set_cons_zero, List.set_cons_succ, List.length_cons, List.length_nil, if_true, if_false, Bool.not_true, Bool.not_false, Bool.false_eq_true, Option.isSome_some, Option.isSome_none, Nat.reduceAdd, Nat.zero_add, decide_true, decide_false, e_gT, e_gsC, e_gsN, e_callR0, e_callN, Nat.reduceEqDiff, lit_0, lit_1, lit_2, lit_3, lit_4, lit_5, lit_6, lit_7, lit_8, lit_9, lit_10, lit_11, lit_12, lit_13, lit_14, lit_15, lit_16, lit_17, lit_18, lit_19, lit_20, lit_21, lit_22, lit_23, cl_0, cl_1, cl_2, cl_3, cl_4, cl_5, cl_6, cl_7, cl_8, cl_9, cl_10, cl_11, cl_12, cl_13, cl_14, cl_15, cl_16, cl_17, cl_18, cl_19, cl_20, cl_21, cl_22, cl_23, rp_next, o_mod (show (0 : Int) < 7 by decide), o_mod (show (0 : Int) < 4 by decide)]
  intro n1 _
  refine rp_ixL (m_nn (by decide)) (m_lt (by decide)) fun gd hgd => ?_
  obtain ⟨g, rfl, hg1, hg2⟩ : ∃ g : Int, gd = .int g ∧ 1 ≤ g ∧ g ≤ 3 := by
    simp only [List.mem_cons, List.not_mem_nil, or_false] at hgd
    rcases hgd with rfl | rfl | rfl | rfl | rfl | rfl | rfl <;> exact ⟨_, rfl, by decide, by decide⟩
  intro n2 _
  obtain ⟨k, hk, hk2⟩ := nat_of (z := (n2 : Int)) (n := 4) (by omega)
  rw [hk, rg_nat (by omega)]
  simp -implicitDefEqProofs only [RP_ok, RP_err, RP_stuck, RP_bind, RP_quiet, RP_sure, RP_ite, RP_fin, RP_finN, OP_nx, OP_rt, OP_rto, OP_bk, OP_ct, OP_err, OP_stuck, OP_of, OP_thn, OP_lp, OP_ite, OP_tryN, OP_tryAs, OP_endS, OP_endI, true_implies, false_implies, not_true_eq_false, not_false_eq_true, and_true, true_and, implies_true, wipe_nil, wipe_cons, List.length_map, e_callR, e_callX, e_isX, e_xf, e_sNext, e_sApp, e_sPop, e_sRev, e_sRetOwn, e_sExt, e_sGive, e_sSetIx, e_hdl, hdl_nil, e_hdlAs, ownAt_own, rndAt_rnd, excAt_exc, someD_some, caseB_t, caseB_f, intD_int, clean_nil, clean_sh, clean_no, clean_own, List.getElem?_cons_zero, List.getElem?_cons_succ, decide_eq_true_eq, Bool.not_eq_true', List.length_append, Option.getD_some, ixT0, ixT1, ixT2, ixT3, ixL0, ixL1, ixL2, ixL3, o_isB, o_isL, o_isT, o_isI, o_isS, o_niPM, o_niPL, o_max2, o_min2, o_abs, o_tupL, o_tupT, o_lofL, o_lofT, e_aListOf, e_aRep, sizeLine_eq, decide_eq_false_iff_not, Classical.not_not, Nat.reduceLeDiff, Nat.zero_le, Int.reduceLE, Int.reduceLT, Int.reduceEq, Nat.reduceLT, List.nil_append, List.cons_append, cst0, cst1, cst2, cst3, cst4, cst5, cst6, cst7, cst8, cst9, cst10, cst11, cst12, o_eqB, o_neB, reduceCtorEq, Bool.true_eq_false, e_iEnumS, e_iZipS, o_enum, o_zipL, o_zipT, e_sRaise1, e_sPar, e_sPar3, e_gTL, o_isBB, o_notBB, e_sCons, e_sNil, e_sBreak, e_sCont, e_sRet, e_sRetN, e_sExpr, e_sIf, e_sAsg, e_sOwn, e_sFrz, e_sRaise, e_sFor, e_loop_nil, e_mC, e_m1, e_m2, e_mF, e_mCall, e_mM1, e_aNil, e_aCons, e_aLst, e_mTup, e_mLst, e_mN, e_mT, e_mTru, e_mAndT, e_mOrT, e_mNotT, e_mAnd, e_mOr, e_mNot, e_mIf, e_mChain, e_iSeq, e_iRange1, e_iRange2, e_oNone, e_oSome, e_mSl, e_mYes, e_mLc, e_gN, v0, vS, p0, p0o, pS, f0, f0s, f0n, fS, R.bind_ok, R.bind_err, R.bind_stuck, R.quiet_ok, R.sure_ok, R.sure_err, R.sure_stuck, O.of_ok, O.of_err, O.of_stuck, O.thn_nx, O.thn_rt, O.thn_bk, O.thn_ct, O.thn_err, O.thn_rto, O.lp_nx, O.lp_ct, O.lp_bk, O.lp_rt, O.lp_rto, O.lp_err, fin_nx, fin_rt, fin_err, asB_b, o_add, o_addI, o_sub, o_neg, o_lt, o_le, o_gt, o_ge, o_eqI, o_neI, o_eqS, o_neS, o_inS, o_lenL, o_lenT, o_int, o_itS, o_itL, o_itT, o_truL, o_truB, o_truI, List.set_cons_zero, List.set_cons_succ, List.length_cons, List.length_nil, if_true, if_false, Bool.not_true, Bool.not_false, Bool.false_eq_true, Option.isSome_some, Option.isSome_none, Nat.reduceAdd, Nat.zero_add, decide_true, decide_false, e_gT, e_gsC, e_gsN, e_callR0, e_callN, Nat.reduceEqDiff, lit_0, lit_1, lit_2, lit_3, lit_4, lit_5, lit_6, lit_7, lit_8, lit_9, lit_10, lit_11, lit_12, lit_13, lit_14, lit_15, lit_16, lit_17, lit_18, lit_19, lit_20, lit_21, lit_22, lit_23, cl_0, cl_1, cl_2, cl_3, cl_4, cl_5, cl_6, cl_7, cl_8, cl_9, cl_10, cl_11, cl_12, cl_13, cl_14, cl_15, cl_16, cl_17, cl_18, cl_19, cl_20, cl_21, cl_22, cl_23]
  refine OP_for (I := fun j ρ => ∃ (ws : List (List Nat)) (o3 o4 : Option SD), ρ = [some .rnd, some (.sh (.int g)), some (.own (ws.map sD)), o3, o4] ∧ ws.length ≤ j ∧ ∀ w ∈ ws, (∀ c ∈ w, c ∈ lt g) ∧ 1 ≤ w.length ∧ w.length ≤ 6) ⟨[], none, none, rfl, Nat.le_refl _, fun _ h => nomatch h⟩ ?_ ?_
  · rintro j d ρ hd ⟨ws, o3, o4, rfl, hn, hw⟩
    have hj : j < k := by
      have := (List.getElem?_eq_some_iff.mp hd).1
      rw [List.length_map, List.length_range] at this
      exact this
    show OP (lb__law_presentation_1 [some .rnd, some (.sh (.int g)), some (.own (ws.map sD)), some (.sh d), o4]) _
    unfold lb__law_presentation_1
    simp -implicitDefEqProofs only [RP_ok, RP_err, RP_stuck, RP_bind, RP_quiet, RP_sure, RP_ite, RP_fin, RP_finN, OP_nx, OP_rt, OP_rto, OP_bk, OP_ct, OP_err, OP_stuck, OP_of, OP_thn, OP_lp, OP_ite, OP_tryN, OP_tryAs, OP_endS, OP_endI, true_implies, false_implies, not_true_eq_false, not_false_eq_true, and_true, true_and, implies_true, wipe_nil, wipe_cons, List.length_map, e_callR, e_callX, e_isX, e_xf, e_sNext, e_sApp, e_sPop, e_sRev, e_sRetOwn, e_sExt, e_sGive, e_sSetIx, e_hdl, hdl_nil, e_hdlAs, ownAt_own, rndAt_rnd, excAt_exc, someD_some, caseB_t, caseB_f, intD_int, clean_nil, clean_sh, clean_no, clean_own, List.getElem?_cons_zero, List.getElem?_cons_succ, decide_eq_true_eq, Bool.not_eq_true', List.length_append, Option.getD_some, ixT0, ixT1, ixT2, ixT3, ixL0, ixL1, ixL2, ixL3, o_isB, o_isL, o_isT, o_isI, o_isS, o_niPM, o_niPL, o_max2, o_min2, o_abs, o_tupL, o_tupT, o_lofL, o_lofT, e_aListOf, e_aRep, sizeLine_eq, decide_eq_false_iff_not, Classical.not_not, Nat.reduceLeDiff, Nat.zero_le, Int.reduceLE, Int.reduceLT, Int.reduceEq, Nat.reduceLT, List.nil_append, List.cons_append, cst0, cst1, cst2, cst3, cst4, cst5, cst6, cst7, cst8, cst9, cst10, cst11, cst12, o_eqB, o_neB, reduceCtorEq, Bool.true_eq_false, e_iEnumS, e_iZipS, o_enum, o_zipL, o_zipT, e_sRaise1, e_sPar, e_sPar3, e_gTL, o_isBB, o_notBB, e_sCons, e_sNil, e_sBreak, e_sCont, e_sRet, e_sRetN, e_sExpr, e_sIf, e_sAsg, e_sOwn, e_sFrz, e_sRaise, e_sFor, e_loop_nil, e_mC, e_m1, e_m2, e_mF, e_mCall, e_mM1, e_aNil, e_aCons, e_aLst, e_mTup, e_mLst, e_mN, e_mT, e_mTru, e_mAndT, e_mOrT, e_mNotT, e_mAnd, e_mOr, e_mNot, e_mIf, e_mChain, e_iSeq, e_iRange1, e_iRange2, e_oNone, e_oSome, e_mSl, e_mYes, e_mLc, e_gN, v0, vS, p0, p0o, pS, f0, f0s, f0n, fS, R.bind_ok, R.bind_err, R.bind_stuck, R.quiet_ok, R.sure_ok, R.sure_err, R.sure_stuck, O.of_ok, O.of_err, O.of_stuck, O.thn_nx, O.thn_rt, O.thn_bk, O.thn_ct, O.thn_err, O.thn_rto, O.lp_nx, O.lp_ct, O.lp_bk, O.lp_rt, O.lp_rto, O.lp_err, fin_nx, fin_rt, fin_err, asB_b, o_add, o_addI, o_sub, o_neg, o_lt, o_le, o_gt, o_ge, o_eqI, o_neI, o_eqS, o_neS, o_inS, o_lenL, o_lenT, o_int, o_itS, o_itL, o_itT, o_truL, o_truB, o_truI, List.set_cons_zero, List.set_cons_succ, List.length_cons, List.length_nil, if_true, if_false, Bool.not_true, Bool.not_false, Bool.false_eq_true, Option.isSome_some, Option.isSome_none, Nat.reduceAdd, Nat.zero_add, decide_true, decide_false, e_gT, e_gsC, e_gsN, e_callR0, e_callN, Nat.reduceEqDiff, lit_0, lit_1, lit_2, lit_3, lit_4, lit_5, lit_6, lit_7, lit_8, lit_9, lit_10, lit_11, lit_12, lit_13, lit_14, lit_15, lit_16, lit_17, lit_18, lit_19, lit_20, lit_21, lit_22, lit_23, cl_0, cl_1, cl_2, cl_3, cl_4, cl_5, cl_6, cl_7, cl_8, cl_9, cl_10, cl_11, cl_12, cl_13, cl_14, cl_15, cl_16, cl_17, cl_18, cl_19, cl_20, cl_21, cl_22, cl_23]
    refine (rp__law_word (m := 6) hg1 hg2 (by omega)).le id fun d hd => ?_
    obtain ⟨w, rfl, hw1, hw2⟩ := hd
    simp -implicitDefEqProofs only [RP_ok, RP_err, RP_stuck, RP_bind, RP_quiet, RP_sure, RP_ite, RP_fin, RP_finN, OP_nx, OP_rt, OP_rto, OP_bk, OP_ct, OP_err, OP_stuck, OP_of, OP_thn, OP_lp, OP_ite, OP_tryN, OP_tryAs, OP_endS, OP_endI, true_implies, false_implies, not_true_eq_false, not_false_eq_true, and_true, true_and, implies_true, wipe_nil, wipe_cons, List.length_map, e_callR, e_callX, e_isX, e_xf, e_sNext, e_sApp, e_sPop, e_sRev, e_sRetOwn, e_sExt, e_sGive, e_sSetIx, e_hdl, hdl_nil, e_hdlAs, ownAt_own, rndAt_rnd, excAt_exc, someD_some, caseB_t, caseB_f, intD_int, clean_nil, clean_sh, clean_no, clean_own, List.getElem?_cons_zero, List.getElem?_cons_succ, decide_eq_true_eq, Bool.not_eq_true', List.length_append, Option.getD_some, ixT0, ixT1, ixT2, ixT3, ixL0, ixL1, ixL2, ixL3, o_isB, o_isL, o_isT, o_isI, o_isS, o_niPM, o_niPL, o_max2, o_min2, o_abs, o_tupL, o_tupT, o_lofL, o_lofT, e_aListOf, e_aRep, sizeLine_eq, decide_eq_false_iff_not, Classical.not_not, Nat.reduceLeDiff, Nat.zero_le, Int.reduceLE, Int.reduceLT, Int.reduceEq, Nat.reduceLT, List.nil_append, List.cons_append, cst0, cst1, cst2, cst3, cst4, cst5, cst6, cst7, cst8, cst9, cst10, cst11, cst12, o_eqB, o_neB, reduceCtorEq, Bool.true_eq_false, e_iEnumS, e_iZipS, o_enum, o_zipL, o_zipT, e_sRaise1, e_sPar, e_sPar3, e_gTL, o_isBB, o_notBB, e_sCons, e_sNil, e_sBreak, e_sCont, e_sRet, e_sRetN, e_sExpr, e_sIf, e_sAsg, e_sOwn, e_sFrz, e_sRaise, e_sFor, e_loop_nil, e_mC, e_m1, e_m2, e_mF, e_mCall, e_mM1, e_aNil, e_aCons, e_aLst, e_mTup, e_mLst, e_mN, e_mT, e_mTru, e_mAndT, e_mOrT, e_mNotT, e_mAnd, e_mOr, e_mNot, e_mIf, e_mChain, e_iSeq, e_iRange1, e_iRange2, e_oNone, e_oSome, e_mSl, e_mYes, e_mLc, e_gN, v0, vS, p0, p0o, pS, f0, f0s, f0n, fS, R.bind_ok, R.bind_err, R.bind_stuck, R.quiet_ok, R.sure_ok, R.sure_err, R.sure_stuck, O.of_ok, O.of_err, O.of_stuck, O.thn_nx, O.thn_rt, O.thn_bk, O.thn_ct, O.thn_err, O.thn_rto, O.lp_nx, O.lp_ct, O.lp_bk, O.lp_rt, O.lp_rto, O.lp_err, fin_nx, fin_rt, fin_err, asB_b, o_add, o_addI, o_sub, o_neg, o_lt, o_le, o_gt, o_ge, o_eqI, o_neI, o_eqS, o_neS, o_inS, o_lenL, o_lenT, o_int, o_itS, o_itL, o_itT, o_truL, o_truB, o_truI, List.set_cons_zero, List.set_cons_succ, List.length_cons, List.length_nil, if_true, if_false, Bool.not_true, Bool.not_false, Bool.false_eq_true, Option.isSome_some, Option.isSome_none, Nat.reduceAdd, Nat.zero_add, decide_true, decide_false, e_gT, e_gsC, e_gsN, e_callR0, e_callN, Nat.reduceEqDiff, lit_0, lit_1, lit_2, lit_3, lit_4, lit_5, lit_6, lit_7, lit_8, lit_9, lit_10, lit_11, lit_12, lit_13, lit_14, lit_15, lit_16, lit_17, lit_18, lit_19, lit_20, lit_21, lit_22, lit_23, cl_0, cl_1, cl_2, cl_3, cl_4, cl_5, cl_6, cl_7, cl_8, cl_9, cl_10, cl_11, cl_12, cl_13, cl_14, cl_15, cl_16, cl_17, cl_18, cl_19, cl_20, cl_21, cl_22, cl_23, o_neS]
    refine ⟨fun h => ⟨fun _ => ⟨ws ++ [w], _, _, by rw [mapS_app], by rw [List.length_append, List.length_singleton]; omega, fun x hx => ?_⟩, fun z => absurd (by omega) z⟩, fun _ => ⟨ws, _, _, rfl, by omega, hw⟩⟩
    rcases List.mem_append.mp hx with hx | hx
    · exact hw x hx
    · rw [List.mem_singleton.mp hx]
      exact ⟨hw2, by cases w with | nil => exact absurd rfl h | cons _ _ => exact Nat.succ_le_succ (Nat.zero_le _), hw1⟩
  · rintro ρ ⟨ws, o3, o4, rfl, hn, hw⟩
    rw [List.length_map, List.length_range] at hn
    simp -implicitDefEqProofs only [RP_ok, RP_err, RP_stuck, RP_bind, RP_quiet, RP_sure, RP_ite, RP_fin, RP_finN, OP_nx, OP_rt, OP_rto, OP_bk, OP_ct, OP_err, OP_stuck, OP_of, OP_thn, OP_lp, OP_ite, OP_tryN, OP_tryAs, OP_endS, OP_endI, true_implies, false_implies, not_true_eq_false, not_false_eq_true, and_true, true_and, implies_true, wipe_nil, wipe_cons, List.length_map, e_callR, e_callX, e_isX, e_xf, e_sNext, e_sApp, e_sPop, e_sRev, e_sRetOwn, e_sExt, e_sGive, e_sSetIx, e_hdl, hdl_nil, e_hdlAs, ownAt_own, rndAt_rnd, excAt_exc, someD_some, caseB_t, caseB_f, intD_int, clean_nil, clean_sh, clean_no, clean_own, List.getElem?_cons_zero, List.getElem?_cons_succ, decide_eq_true_eq, Bool.not_eq_true', List.length_append, Option.getD_some, ixT0, ixT1, ixT2, ixT3, ixL0, ixL1, ixL2, ixL3, o_isB, o_isL, o_isT, o_isI, o_isS, o_niPM, o_niPL, o_max2, o_min2, o_abs, o_tupL, o_tupT, o_lofL, o_lofT, e_aListOf, e_aRep, sizeLine_eq, decide_eq_false_iff_not, Classical.not_not, Nat.reduceLeDiff, Nat.zero_le, Int.reduceLE, Int.reduceLT, Int.reduceEq, Nat.reduceLT, List.nil_append, List.cons_append, cst0, cst1, cst2, cst3, cst4, cst5, cst6, cst7, cst8, cst9, cst10, cst11, cst12, o_eqB, o_neB, reduceCtorEq, Bool.true_eq_false, e_iEnumS, e_iZipS, o_enum, o_zipL, o_zipT, e_sRaise1, e_sPar, e_sPar3, e_gTL, o_isBB, o_notBB, e_sCons, e_sNil, e_sBreak, e_sCont, e_sRet, e_sRetN, e_sExpr, e_sIf, e_sAsg, e_sOwn, e_sFrz, e_sRaise, e_sFor, e_loop_nil, e_mC, e_m1, e_m2, e_mF, e_mCall, e_mM1, e_aNil, e_aCons, e_aLst, e_mTup, e_mLst, e_mN, e_mT, e_mTru, e_mAndT, e_mOrT, e_mNotT, e_mAnd, e_mOr, e_mNot, e_mIf, e_mChain, e_iSeq, e_iRange1, e_iRange2, e_oNone, e_oSome, e_mSl, e_mYes, e_mLc, e_gN, v0, vS, p0, p0o, pS, f0, f0s, f0n, fS, R.bind_ok, R.bind_err, R.bind_stuck, R.quiet_ok, R.sure_ok, R.sure_err, R.sure_stuck, O.of_ok, O.of_err, O.of_stuck, O.thn_nx, O.thn_rt, O.thn_bk, O.thn_ct, O.thn_err, O.thn_rto, O.lp_nx, O.lp_ct, O.lp_bk, O.lp_rt, O.lp_rto, O.lp_err, fin_nx, fin_rt, fin_err, asB_b, o_add, o_addI, o_sub, o_neg, o_lt, o_le, o_gt, o_ge, o_eqI, o_neI, o_eqS, o_neS, o_inS, o_lenL, o_lenT, o_int, o_itS, o_itL, o_itT, o_truL, o_truB, o_truI, List.set_cons_zero, List.set_cons_succ, List.length_cons, List.length_nil, if_true, if_false, Bool.not_true, Bool.not_false, Bool.false_eq_true, Option.isSome_some, Option.isSome_none, Nat.reduceAdd, Nat.zero_add, decide_true, decide_false, e_gT, e_gsC, e_gsN, e_callR0, e_callN, Nat.reduceEqDiff, lit_0, lit_1, lit_2, lit_3, lit_4, lit_5, lit_6, lit_7, lit_8, lit_9, lit_10, lit_11, lit_12, lit_13, lit_14, lit_15, lit_16, lit_17, lit_18, lit_19, lit_20, lit_21, lit_22, lit_23, cl_0, cl_1, cl_2, cl_3, cl_4, cl_5, cl_6, cl_7, cl_8, cl_9, cl_10, cl_11, cl_12, cl_13, cl_14, cl_15, cl_16, cl_17, cl_18, cl_19, cl_20, cl_21, cl_22, cl_23]
    exact ⟨g, ws, rfl, ⟨hg1, hg2, by omega, fun r hr => ⟨(hw r hr).1, (hw r hr).2.1, by have := (hw r hr).2.2; omega⟩⟩, by omega, fun r hr => (hw r hr).2.2⟩

end Law
end
end
section
set_option Elab.async false
set_option linter.all false
set_option maxRecDepth 100000
set_option autoImplicit false
set_option maxHeartbeats 4000000
noncomputable section
namespace Law
open PySem DW L2
open SX (S S_tl S_len S_cat)
theorem r__law_swap : ∀ c ∈ L6, m__law_swap [one c] = .ok (one (inv c)) := L6_all ⟨by rfl, by rfl, by rfl, by rfl, by rfl, by rfl⟩

end Law
end
end
section
set_option Elab.async false
set_option linter.all false
set_option maxRecDepth 100000
set_option autoImplicit false
set_option maxHeartbeats 4000000
noncomputable section
namespace Law
open PySem DW L2
open SX (S S_tl S_len S_cat)
theorem rp__law_padded {g : Int} {w : List Nat} {n : Nat} (h1 : 1 ≤ g) (h2 : g ≤ 3) (hl : w.length ≤ n) (hn : n ≤ 100) (hw : ∀ c ∈ w, c ∈ lt g) : RP True (m__law_padded [.int g, sD w]) (fun d => ∃ v : List Nat, d = sD v ∧ v.length ≤ n + 8 ∧ ∀ c ∈ v, c ∈ lt g) NoE := by
  have hz := sizeLine_eq
  show RP True (fin (b__law_padded [some .rnd, some (.sh (.int g)), some (.sh (sD w)), none, none, none])) _ _
  unfold b__law_padded
  simp -implicitDefEqProofs only [RP_ok, RP_err, RP_stuck, RP_bind, RP_quiet, RP_sure, RP_ite, RP_fin, RP_finN, OP_nx, OP_rt, OP_rto, OP_bk, OP_ct, OP_err, OP_stuck, OP_of, OP_thn, OP_lp, OP_ite, OP_tryN, OP_tryAs, OP_endS, OP_endI, true_implies, false_implies, not_true_eq_false, not_false_eq_true, and_true, true_and, implies_true, wipe_nil, wipe_cons, List.length_map, e_callR, e_callX, e_isX, e_xf, e_sNext, e_sApp, e_sPop, e_sRev, e_sRetOwn, e_sExt, e_sGive, e_sSetIx, e_hdl, hdl_nil, e_hdlAs, ownAt_own, rndAt_rnd, excAt_exc, someD_some, caseB_t, caseB_f, intD_int, clean_nil, clean_sh, clean_no, clean_own, List.getElem?_cons_zero, List.getElem?_cons_succ, decide_eq_true_eq, Bool.not_eq_true', List.length_append, Option.getD_some, ixT0, ixT1, ixT2, ixT3, ixL0, ixL1, ixL2, ixL3, o_isB, o_isL, o_isT, o_isI, o_isS, o_niPM, o_niPL, o_max2, o_min2, o_abs, o_tupL, o_tupT, o_lofL, o_lofT, e_aListOf, e_aRep, sizeLine_eq, decide_eq_false_iff_not, Classical.not_not, Nat.reduceLeDiff, Nat.zero_le, Int.reduceLE, Int.reduceLT, Int.reduceEq, Nat.reduceLT, List.nil_append, List.cons_append, cst0, cst1, cst2, cst3, cst4, cst5, cst6, cst7, cst8, cst9, cst10, cst11, cst12, o_eqB, o_neB, reduceCtorEq, Bool.true_eq_false, e_iEnumS, e_iZipS, o_enum, o_zipL, o_zipT, e_sRaise1, e_sPar, e_sPar3, e_gTL, o_isBB, o_notBB, e_sCons, e_sNil, e_sBreak, e_sCont, e_sRet, e_sRetN, e_sExpr, e_sIf, e_sAsg, e_sOwn, e_sFrz, e_sRaise, e_sFor, e_loop_nil, e_mC, e_m1, e_m2, e_mF, e_mCall, e_mM1, e_aNil, e_aCons, e_aLst, e_mTup, e_mLst, e_mN, e_mT, e_mTru, e_mAndT, e_mOrT, e_mNotT, e_mAnd, e_mOr, e_mNot, e_mIf, e_mChain, e_iSeq, e_iRange1, e_iRange2, e_oNone, e_oSome, e_mSl, e_mYes, e_mLc, e_gN, v0, vS, p0, p0o, pS, f0, f0s, f0n, fS, R.bind_ok, R.bind_err, R.bind_stuck, R.quiet_ok, R.sure_ok, R.sure_err, R.sure_stuck, O.of_ok, O.of_err, O.of_stuck, O.thn_nx, O.thn_rt, O.thn_bk, O.thn_ct, O.thn_err, O.thn_rto, O.lp_nx, O.lp_ct, O.lp_bk, O.lp_rt, O.lp_rto, O.lp_err, fin_nx, fin_rt, fin_err, asB_b, o_add, o_addI, o_sub, o_neg, o_lt, o_le, o_gt, o_ge, o_eqI, o_neI, o_eqS, o_neS, o_inS, o_lenL, o_lenT, o_int, o_itS, o_itL, o_itT, o_truL, o_truB, o_truI, List.set_cons_zero, List.set_cons_succ, List.length_cons, List.length_nil, if_true, if_false, Bool.not_true, Bool.not_false, Bool.false_eq_true, Option.isSome_some, Option.isSome_none, Nat.reduceAdd, Nat.zero_add, decide_true, decide_false, e_gT, e_gsC, e_gsN, e_callR0, e_callN, Nat.reduceEqDiff, lit_0, lit_1, lit_2, lit_3, lit_4, lit_5, lit_6, lit_7, lit_8, lit_9, lit_10, lit_11, lit_12, lit_13, lit_14, lit_15, lit_16, lit_17, lit_18, lit_19, lit_20, lit_21, lit_22, lit_23, cl_0, cl_1, cl_2, cl_3, cl_4, cl_5, cl_6, cl_7, cl_8, cl_9, cl_10, cl_11, cl_12, cl_13, cl_14, cl_15, cl_16, cl_17, cl_18, cl_19, cl_20, cl_21, cl_22, cl_23, rp_next, o_mod (show (0 : Int) < 5 by decide)]
  intro k0 _
  obtain ⟨k, hk, hk2⟩ := nat_of (z := (k0 : Int)) (n := 5) (by decide)
  rw [hk, rg_nat (by omega)]
  simp -implicitDefEqProofs only [RP_ok, RP_err, RP_stuck, RP_bind, RP_quiet, RP_sure, RP_ite, RP_fin, RP_finN, OP_nx, OP_rt, OP_rto, OP_bk, OP_ct, OP_err, OP_stuck, OP_of, OP_thn, OP_lp, OP_ite, OP_tryN, OP_tryAs, OP_endS, OP_endI, true_implies, false_implies, not_true_eq_false, not_false_eq_true, and_true, true_and, implies_true, wipe_nil, wipe_cons, List.length_map, e_callR, e_callX, e_isX, e_xf, e_sNext, e_sApp, e_sPop, e_sRev, e_sRetOwn, e_sExt, e_sGive, e_sSetIx, e_hdl, hdl_nil, e_hdlAs, ownAt_own, rndAt_rnd, excAt_exc, someD_some, caseB_t, caseB_f, intD_int, clean_nil, clean_sh, clean_no, clean_own, List.getElem?_cons_zero, List.getElem?_cons_succ, decide_eq_true_eq, Bool.not_eq_true', List.length_append, Option.getD_some, ixT0, ixT1, ixT2, ixT3, ixL0, ixL1, ixL2, ixL3, o_isB, o_isL, o_isT, o_isI, o_isS, o_niPM, o_niPL, o_max2, o_min2, o_abs, o_tupL, o_tupT, o_lofL, o_lofT, e_aListOf, e_aRep, sizeLine_eq, decide_eq_false_iff_not, Classical.not_not, Nat.reduceLeDiff, Nat.zero_le, Int.reduceLE, Int.reduceLT, Int.reduceEq, Nat.reduceLT, List.nil_append, List.cons_append, cst0, cst1, cst2, cst3, cst4, cst5, cst6, cst7, cst8, cst9, cst10, cst11, cst12, o_eqB, o_neB, reduceCtorEq, Bool.true_eq_false, e_iEnumS, e_iZipS, o_enum, o_zipL, o_zipT, e_sRaise1, e_sPar, e_sPar3, e_gTL, o_isBB, o_notBB, e_sCons, e_sNil, e_sBreak, e_sCont, e_sRet, e_sRetN, e_sExpr, e_sIf, e_sAsg, e_sOwn, e_sFrz, e_sRaise, e_sFor, e_loop_nil, e_mC, e_m1, e_m2, e_mF, e_mCall, e_mM1, e_aNil, e_aCons, e_aLst, e_mTup, e_mLst, e_mN, e_mT, e_mTru, e_mAndT, e_mOrT, e_mNotT, e_mAnd, e_mOr, e_mNot, e_mIf, e_mChain, e_iSeq, e_iRange1, e_iRange2, e_oNone, e_oSome, e_mSl, e_mYes, e_mLc, e_gN, v0, vS, p0, p0o, pS, f0, f0s, f0n, fS, R.bind_ok, R.bind_err, R.bind_stuck, R.quiet_ok, R.sure_ok, R.sure_err, R.sure_stuck, O.of_ok, O.of_err, O.of_stuck, O.thn_nx, O.thn_rt, O.thn_bk, O.thn_ct, O.thn_err, O.thn_rto, O.lp_nx, O.lp_ct, O.lp_bk, O.lp_rt, O.lp_rto, O.lp_err, fin_nx, fin_rt, fin_err, asB_b, o_add, o_addI, o_sub, o_neg, o_lt, o_le, o_gt, o_ge, o_eqI, o_neI, o_eqS, o_neS, o_inS, o_lenL, o_lenT, o_int, o_itS, o_itL, o_itT, o_truL, o_truB, o_truI, List.set_cons_zero, List.set_cons_succ, List.length_cons, List.length_nil, if_true, if_false, Bool.not_true, Bool.not_false, Bool.false_eq_true, Option.isSome_some, Option.isSome_none, Nat.reduceAdd, Nat.zero_add, decide_true, decide_false, e_gT, e_gsC, e_gsN, e_callR0, e_callN, Nat.reduceEqDiff, lit_0, lit_1, lit_2, lit_3, lit_4, lit_5, lit_6, lit_7, lit_8, lit_9, lit_10, lit_11, lit_12, lit_13, lit_14, lit_15, lit_16, lit_17, lit_18, lit_19, lit_20, lit_21, lit_22, lit_23, cl_0, cl_1, cl_2, cl_3, cl_4, cl_5, cl_6, cl_7, cl_8, cl_9, cl_10, cl_11, cl_12, cl_13, cl_14, cl_15, cl_16, cl_17, cl_18, cl_19, cl_20, cl_21, cl_22, cl_23]
  refine OP_for (I := fun j ρ => ∃ (v : List Nat) (o3 o4 o5 : Option SD), ρ = [some .rnd, some (.sh (.int g)), some (.sh (sD v)), o3, o4, o5] ∧ v.length ≤ n + 2 * j ∧ ∀ c ∈ v, c ∈ lt g) ⟨w, none, none, none, rfl, hl, hw⟩ ?_ ?_
  · rintro j d ρ hd ⟨v, o3, o4, o5, rfl, hv, hv2⟩
    obtain ⟨hj, rfl⟩ := loop_lt hd
    show OP (lb__law_padded_1 [some .rnd, some (.sh (.int g)), some (.sh (sD v)), some (.sh (.int (j : Int))), o4, o5]) _
    unfold lb__law_padded_1
    have e1 : (v.length ≤ 16777216) = True := eq_true (by omega)
    simp -implicitDefEqProofs only [RP_ok, RP_err, RP_stuck, RP_bind, RP_quiet, RP_sure, RP_ite, RP_fin, RP_finN, OP_nx, OP_rt, OP_rto, OP_bk, OP_ct, OP_err, OP_stuck, OP_of, OP_thn, OP_lp, OP_ite, OP_tryN, OP_tryAs, OP_endS, OP_endI, true_implies, false_implies, not_true_eq_false, not_false_eq_true, and_true, true_and, implies_true, wipe_nil, wipe_cons, List.length_map, e_callR, e_callX, e_isX, e_xf, e_sNext, e_sApp, e_sPop, e_sRev, e_sRetOwn, e_sExt, e_sGive, e_sSetIx, e_hdl, hdl_nil, e_hdlAs, ownAt_own, rndAt_rnd, excAt_exc, someD_some, caseB_t, caseB_f, intD_int, clean_nil, clean_sh, clean_no, clean_own, List.getElem?_cons_zero, List.getElem?_cons_succ, decide_eq_true_eq, Bool.not_eq_true', List.length_append, Option.getD_some, ixT0, ixT1, ixT2, ixT3, ixL0, ixL1, ixL2, ixL3, o_isB, o_isL, o_isT, o_isI, o_isS, o_niPM, o_niPL, o_max2, o_min2, o_abs, o_tupL, o_tupT, o_lofL, o_lofT, e_aListOf, e_aRep, sizeLine_eq, decide_eq_false_iff_not, Classical.not_not, Nat.reduceLeDiff, Nat.zero_le, Int.reduceLE, Int.reduceLT, Int.reduceEq, Nat.reduceLT, List.nil_append, List.cons_append, cst0, cst1, cst2, cst3, cst4, cst5, cst6, cst7, cst8, cst9, cst10, cst11, cst12, o_eqB, o_neB, reduceCtorEq, Bool.true_eq_false, e_iEnumS, e_iZipS, o_enum, o_zipL, o_zipT, e_sRaise1, e_sPar, e_sPar3, e_gTL, o_isBB, o_notBB, e_sCons, e_sNil, e_sBreak, e_sCont, e_sRet, e_sRetN, e_sExpr, e_sIf, e_sAsg, e_sOwn, e_sFrz, e_sRaise, e_sFor, e_loop_nil, e_mC, e_m1, e_m2, e_mF, e_mCall, e_mM1, e_aNil, e_aCons, e_aLst, e_mTup, e_mLst, e_mN, e_mT, e_mTru, e_mAndT, e_mOrT, e_mNotT, e_mAnd, e_mOr, e_mNot, e_mIf, e_mChain, e_iSeq, e_iRange1, e_iRange2, e_oNone, e_oSome, e_mSl, e_mYes, e_mLc, e_gN, v0, vS, p0, p0o, pS, f0, f0s, f0n, fS, R.bind_ok, R.bind_err, R.bind_stuck, R.quiet_ok, R.sure_ok, R.sure_err, R.sure_stuck, O.of_ok, O.of_err, O.of_stuck, O.thn_nx, O.thn_rt, O.thn_bk, O.thn_ct, O.thn_err, O.thn_rto, O.lp_nx, O.lp_ct, O.lp_bk, O.lp_rt, O.lp_rto, O.lp_err, fin_nx, fin_rt, fin_err, asB_b, o_add, o_addI, o_sub, o_neg, o_lt, o_le, o_gt, o_ge, o_eqI, o_neI, o_eqS, o_neS, o_inS, o_lenL, o_lenT, o_int, o_itS, o_itL, o_itT, o_truL, o_truB, o_truI, List.set_cons_zero, List.set_cons_succ, List.length_cons, List.length_nil, if_true, if_false, Bool.not_true, Bool.not_false, Bool.false_eq_true, Option.isSome_some, Option.isSome_none, Nat.reduceAdd, Nat.zero_add, decide_true, decide_false, e_gT, e_gsC, e_gsN, e_callR0, e_callN, Nat.reduceEqDiff, lit_0, lit_1, lit_2, lit_3, lit_4, lit_5, lit_6, lit_7, lit_8, lit_9, lit_10, lit_11, lit_12, lit_13, lit_14, lit_15, lit_16, lit_17, lit_18, lit_19, lit_20, lit_21, lit_22, lit_23, cl_0, cl_1, cl_2, cl_3, cl_4, cl_5, cl_6, cl_7, cl_8, cl_9, cl_10, cl_11, cl_12, cl_13, cl_14, cl_15, cl_16, cl_17, cl_18, cl_19, cl_20, cl_21, cl_22, cl_23, rp_next, o_lenS, e1, o_mulS (show (2 : Int).natAbs < 2 ^ 64 by decide) (show g.natAbs < 2 ^ 64 by omega), o_mod (show (0 : Int) < 2 * g by omega), o_mod (show (0 : Int) < (v.length : Int) + 1 by omega)]
    intro m1 _ m2 _
    obtain ⟨a, ha, ha2⟩ := nat_of (z := (m1 : Int)) (n := (v.length : Int) + 1) (by omega)
    obtain ⟨q, hq, hq2⟩ := nat_of (z := (m2 : Int)) (n := 2 * g) (by omega)
    obtain ⟨x1, x2⟩ := o_lt6 h1 h2 hq2
    generalize (lt g).getD q 0 = x at x1 x2
    have s1 : dSl (.str (S v)) none (some (a : Int)) = .ok (sD (v.take a)) := by rw [o_slS (by omega), cut_to2]
    have s3 : dSl (.str (S v)) (some (a : Int)) none = .ok (sD (v.drop a)) := by rw [o_slS (by omega), cut_from']
    rw [ha, hq, RP_of x2]
    simp -implicitDefEqProofs only [RP_ok, RP_err, RP_stuck, RP_bind, RP_quiet, RP_sure, RP_ite, RP_fin, RP_finN, OP_nx, OP_rt, OP_rto, OP_bk, OP_ct, OP_err, OP_stuck, OP_of, OP_thn, OP_lp, OP_ite, OP_tryN, OP_tryAs, OP_endS, OP_endI, true_implies, false_implies, not_true_eq_false, not_false_eq_true, and_true, true_and, implies_true, wipe_nil, wipe_cons, List.length_map, e_callR, e_callX, e_isX, e_xf, e_sNext, e_sApp, e_sPop, e_sRev, e_sRetOwn, e_sExt, e_sGive, e_sSetIx, e_hdl, hdl_nil, e_hdlAs, ownAt_own, rndAt_rnd, excAt_exc, someD_some, caseB_t, caseB_f, intD_int, clean_nil, clean_sh, clean_no, clean_own, List.getElem?_cons_zero, List.getElem?_cons_succ, decide_eq_true_eq, Bool.not_eq_true', List.length_append, Option.getD_some, ixT0, ixT1, ixT2, ixT3, ixL0, ixL1, ixL2, ixL3, o_isB, o_isL, o_isT, o_isI, o_isS, o_niPM, o_niPL, o_max2, o_min2, o_abs, o_tupL, o_tupT, o_lofL, o_lofT, e_aListOf, e_aRep, sizeLine_eq, decide_eq_false_iff_not, Classical.not_not, Nat.reduceLeDiff, Nat.zero_le, Int.reduceLE, Int.reduceLT, Int.reduceEq, Nat.reduceLT, List.nil_append, List.cons_append, cst0, cst1, cst2, cst3, cst4, cst5, cst6, cst7, cst8, cst9, cst10, cst11, cst12, o_eqB, o_neB, reduceCtorEq, Bool.true_eq_false, e_iEnumS, e_iZipS, o_enum, o_zipL, o_zipT, e_sRaise1, e_sPar, e_sPar3, e_gTL, o_isBB, o_notBB, e_sCons, e_sNil, e_sBreak, e_sCont, e_sRet, e_sRetN, e_sExpr, e_sIf, e_sAsg, e_sOwn, e_sFrz, e_sRaise, e_sFor, e_loop_nil, e_mC, e_m1, e_m2, e_mF, e_mCall, e_mM1, e_aNil, e_aCons, e_aLst, e_mTup, e_mLst, e_mN, e_mT, e_mTru, e_mAndT, e_mOrT, e_mNotT, e_mAnd, e_mOr, e_mNot, e_mIf, e_mChain, e_iSeq, e_iRange1, e_iRange2, e_oNone, e_oSome, e_mSl, e_mYes, e_mLc, e_gN, v0, vS, p0, p0o, pS, f0, f0s, f0n, fS, R.bind_ok, R.bind_err, R.bind_stuck, R.quiet_ok, R.sure_ok, R.sure_err, R.sure_stuck, O.of_ok, O.of_err, O.of_stuck, O.thn_nx, O.thn_rt, O.thn_bk, O.thn_ct, O.thn_err, O.thn_rto, O.lp_nx, O.lp_ct, O.lp_bk, O.lp_rt, O.lp_rto, O.lp_err, fin_nx, fin_rt, fin_err, asB_b, o_add, o_addI, o_sub, o_neg, o_lt, o_le, o_gt, o_ge, o_eqI, o_neI, o_eqS, o_neS, o_inS, o_lenL, o_lenT, o_int, o_itS, o_itL, o_itT, o_truL, o_truB, o_truI, List.set_cons_zero, List.set_cons_succ, List.length_cons, List.length_nil, if_true, if_false, Bool.not_true, Bool.not_false, Bool.false_eq_true, Option.isSome_some, Option.isSome_none, Nat.reduceAdd, Nat.zero_add, decide_true, decide_false, e_gT, e_gsC, e_gsN, e_callR0, e_callN, Nat.reduceEqDiff, lit_0, lit_1, lit_2, lit_3, lit_4, lit_5, lit_6, lit_7, lit_8, lit_9, lit_10, lit_11, lit_12, lit_13, lit_14, lit_15, lit_16, lit_17, lit_18, lit_19, lit_20, lit_21, lit_22, lit_23, cl_0, cl_1, cl_2, cl_3, cl_4, cl_5, cl_6, cl_7, cl_8, cl_9, cl_10, cl_11, cl_12, cl_13, cl_14, cl_15, cl_16, cl_17, cl_18, cl_19, cl_20, cl_21, cl_22, cl_23, s1, s3, o_addS, r__law_swap x (lt_sub x1)]
    refine ⟨fun _ => ⟨fun _ => ⟨fun _ => ⟨v.take a ++ [x] ++ [inv x] ++ v.drop a, _, _, _, rfl, ?_, ?_⟩, fun z => absurd (by simp only [List.length_append, List.length_take, List.length_drop, List.length_cons, List.length_nil]; omega) z⟩, fun z => absurd (by simp only [List.length_append, List.length_take, List.length_cons, List.length_nil]; omega) z⟩, fun z => absurd (by simp only [List.length_take, List.length_cons, List.length_nil]; omega) z⟩
    · simp only [List.length_append, List.length_take, List.length_drop, List.length_cons, List.length_nil]; omega
    · intro c hc
      rw [List.mem_append, List.mem_append, List.mem_append] at hc
      rcases hc with ((hc | hc) | hc) | hc
      · exact hv2 c (List.mem_of_mem_take hc)
      · rw [List.mem_singleton.mp hc]; exact x1
      · rw [List.mem_singleton.mp hc]; exact inv_lt h1 h2 x x1
      · exact hv2 c (List.mem_of_mem_drop hc)
  · rintro ρ ⟨v, o3, o4, o5, rfl, hv, hv2⟩
    rw [List.length_map, List.length_range] at hv
    simp -implicitDefEqProofs only [RP_ok, RP_err, RP_stuck, RP_bind, RP_quiet, RP_sure, RP_ite, RP_fin, RP_finN, OP_nx, OP_rt, OP_rto, OP_bk, OP_ct, OP_err, OP_stuck, OP_of, OP_thn, OP_lp, OP_ite, OP_tryN, OP_tryAs, OP_endS, OP_endI, true_implies, false_implies, not_true_eq_false, not_false_eq_true, and_true, true_and, implies_true, wipe_nil, wipe_cons, List.length_map, e_callR, e_callX, e_isX, e_xf, e_sNext, e_sApp, e_sPop, e_sRev, e_sRetOwn, e_sExt, e_sGive, e_sSetIx, e_hdl, hdl_nil, e_hdlAs, ownAt_own, rndAt_rnd, excAt_exc, someD_some, caseB_t, caseB_f, intD_int, clean_nil, clean_sh, clean_no, clean_own, List.getElem?_cons_zero, List.getElem?_cons_succ, decide_eq_true_eq, Bool.not_eq_true', List.length_append, Option.getD_some, ixT0, ixT1, ixT2, ixT3, ixL0, ixL1, ixL2, ixL3, o_isB, o_isL, o_isT, o_isI, o_isS, o_niPM, o_niPL, o_max2, o_min2, o_abs, o_tupL, o_tupT, o_lofL, o_lofT, e_aListOf, e_aRep, sizeLine_eq, decide_eq_false_iff_not, Classical.not_not, Nat.reduceLeDiff, Nat.zero_le, Int.reduceLE, Int.reduceLT, Int.reduceEq, Nat.reduceLT, List.nil_append, List.cons_append, cst0, cst1, cst2, cst3, cst4, cst5, cst6, cst7, cst8, cst9, cst10, cst11, cst12, o_eqB, o_neB, reduceCtorEq, Bool.true_eq_false, e_iEnumS, e_iZipS, o_enum, o_zipL, o_zipT, e_sRaise1, e_sPar, e_sPar3, e_gTL, o_isBB, o_notBB, e_sCons, e_sNil, e_sBreak, e_sCont, e_sRet, e_sRetN, e_sExpr, e_sIf, e_sAsg, e_sOwn, e_sFrz, e_sRaise, e_sFor, e_loop_nil, e_mC, e_m1, e_m2, e_mF, e_mCall, e_mM1, e_aNil, e_aCons, e_aLst, e_mTup, e_mLst, e_mN, e_mT, e_mTru, e_mAndT, e_mOrT, e_mNotT, e_mAnd, e_mOr, e_mNot, e_mIf, e_mChain, e_iSeq, e_iRange1, e_iRange2, e_oNone, e_oSome, e_mSl, e_mYes, e_mLc, e_gN, v0, vS, p0, p0o, pS, f0, f0s, f0n, fS, R.bind_ok, R.bind_err, R.bind_stuck, R.quiet_ok, R.sure_ok, R.sure_err, R.sure_stuck, O.of_ok, O.of_err, O.of_stuck, O.thn_nx, O.thn_rt, O.thn_bk, O.thn_ct, O.thn_err, O.thn_rto, O.lp_nx, O.lp_ct, O.lp_bk, O.lp_rt, O.lp_rto, O.lp_err, fin_nx, fin_rt, fin_err, asB_b, o_add, o_addI, o_sub, o_neg, o_lt, o_le, o_gt, o_ge, o_eqI, o_neI, o_eqS, o_neS, o_inS, o_lenL, o_lenT, o_int, o_itS, o_itL, o_itT, o_truL, o_truB, o_truI, List.set_cons_zero, List.set_cons_succ, List.length_cons, List.length_nil, if_true, if_false, Bool.not_true, Bool.not_false, Bool.false_eq_true, Option.isSome_some, Option.isSome_none, Nat.reduceAdd, Nat.zero_add, decide_true, decide_false, e_gT, e_gsC, e_gsN, e_callR0, e_callN, Nat.reduceEqDiff, lit_0, lit_1, lit_2, lit_3, lit_4, lit_5, lit_6, lit_7, lit_8, lit_9, lit_10, lit_11, lit_12, lit_13, lit_14, lit_15, lit_16, lit_17, lit_18, lit_19, lit_20, lit_21, lit_22, lit_23, cl_0, cl_1, cl_2, cl_3, cl_4, cl_5, cl_6, cl_7, cl_8, cl_9, cl_10, cl_11, cl_12, cl_13, cl_14, cl_15, cl_16, cl_17, cl_18, cl_19, cl_20, cl_21, cl_22, cl_23]
    exact ⟨v, rfl, by omega, hv2⟩

end Law
end
end
section
set_option Elab.async false
set_option linter.all false
set_option maxRecDepth 100000
set_option autoImplicit false
set_option maxHeartbeats 4000000
noncomputable section
namespace Law
open PySem DW L2
open SX (S S_tl S_len S_cat)
/-- the first place so far, or -1 -/
def atI (j : Nat) : Option Nat → Int
  | none => -1
  | some i => ((i + j : Nat) : Int)
theorem fp_drop {u : List Nat} {j : Nat} (h : j + 1 < u.length) : fp (u.drop j) = if u.getD (j + 1) 0 = inv (u.getD j 0) then some 0 else (fp (u.drop (j + 1))).map (· + 1) := by
  rw [List.drop_eq_getElem_cons (show j < u.length by omega), List.drop_eq_getElem_cons h, List.getD_eq_getElem?_getD, List.getD_eq_getElem?_getD, List.getElem?_eq_getElem h, List.getElem?_eq_getElem (show j < u.length by omega)]
  rfl
theorem lp__law_cuts_1 {u : List Nat} (hu : Wd u) (hl : u.length ≤ 900) {o1 o2 o3 : Option SD} {W : Ways} (o4 o5 : Option SD) (h4 : o4 = some (.sh (.int (-1))))
    (h : ∀ o5, W.n [some (.sh (sD u)), o1, o2, o3, some (.sh (.int (atI 0 (fp u)))), o5]) :
    OP (mLoop (gN 5) lb__law_cuts_1 ((List.range ((u.length : Int) - 1 - 0).toNat).map fun (k : Nat) => PyData.int ((u.length : Int) - 1 - (k : Int))) [some (.sh (sD u)), o1, o2, o3, o4, o5]) W := by
  refine OP_for (I := fun k ρ => ∃ o5, ρ = [some (.sh (sD u)), o1, o2, o3, some (.sh (.int (atI (u.length - 1 - k) (fp (u.drop (u.length - 1 - k)))))), o5] ∧ k ≤ u.length - 1) ⟨o5, ?_, Nat.zero_le _⟩ ?_ ?_
  · rw [h4]
    have : fp (u.drop (u.length - 1 - 0)) = none := by
      have hl : (u.drop (u.length - 1 - 0)).length ≤ 1 := by rw [List.length_drop]; omega
      match u.drop (u.length - 1 - 0), hl with
      | [], _ => rfl
      | [_], _ => rfl
    rw [this]; rfl
  · rintro k d ρ hd ⟨o5, rfl, hk⟩
    rw [List.getElem?_map] at hd
    have hk2 : k < ((u.length : Int) - 1 - 0).toNat := by
      by_cases hh : k < ((u.length : Int) - 1 - 0).toNat
      · exact hh
      · rw [List.getElem?_eq_none (by rw [List.length_range]; omega)] at hd; cases hd
    rw [List.getElem?_range hk2] at hd
    cases hd
    obtain ⟨j, hj⟩ : ∃ j : Nat, u.length - 1 - k = j + 1 := ⟨u.length - 2 - k, by omega⟩
    have hj2 : u.length - 1 - (k + 1) = j := by omega
    have hj3 : j + 1 < u.length := by omega
    have ei : (u.length : Int) - 1 - (k : Int) = ((j + 1 : Nat) : Int) := by omega
    rw [hj, hj2, fp_drop hj3]
    show OP (lb__law_cuts_1 [some (.sh (sD u)), o1, o2, o3, _, some (.sh (.int ((u.length : Int) - 1 - (k : Int))))]) _
    rw [ei]
    unfold lb__law_cuts_1
    have i1 : dIdx (.str (S u)) (.int ((j + 1 : Nat) : Int)) = .ok (one (u.getD (j + 1) 0)) := ixSD (by omega) (by omega)
    have es : ((j + 1 : Nat) : Int) - 1 = (j : Int) := by omega
    have i2 : dIdx (.str (S u)) (.int (j : Int)) = .ok (one (u.getD j 0)) := ixSD (by omega) (by omega)
    have hm : u.getD j 0 ∈ L6 := hu _ (getD_mem (by omega))
    simp -implicitDefEqProofs only [RP_ok, RP_err, RP_stuck, RP_bind, RP_quiet, RP_sure, RP_ite, RP_fin, RP_finN, OP_nx, OP_rt, OP_rto, OP_bk, OP_ct, OP_err, OP_stuck, OP_of, OP_thn, OP_lp, OP_ite, OP_tryN, OP_tryAs, OP_endS, OP_endI, true_implies, false_implies, not_true_eq_false, not_false_eq_true, and_true, true_and, implies_true, wipe_nil, wipe_cons, List.length_map, e_callR, e_callX, e_isX, e_xf, e_sNext, e_sApp, e_sPop, e_sRev, e_sRetOwn, e_sExt, e_sGive, e_sSetIx, e_hdl, hdl_nil, e_hdlAs, ownAt_own, rndAt_rnd, excAt_exc, someD_some, caseB_t, caseB_f, intD_int, clean_nil, clean_sh, clean_no, clean_own, List.getElem?_cons_zero, List.getElem?_cons_succ, decide_eq_true_eq, Bool.not_eq_true', List.length_append, Option.getD_some, ixT0, ixT1, ixT2, ixT3, ixL0, ixL1, ixL2, ixL3, o_isB, o_isL, o_isT, o_isI, o_isS, o_niPM, o_niPL, o_max2, o_min2, o_abs, o_tupL, o_tupT, o_lofL, o_lofT, e_aListOf, e_aRep, sizeLine_eq, decide_eq_false_iff_not, Classical.not_not, Nat.reduceLeDiff, Nat.zero_le, Int.reduceLE, Int.reduceLT, Int.reduceEq, Nat.reduceLT, List.nil_append, List.cons_append, cst0, cst1, cst2, cst3, cst4, cst5, cst6, cst7, cst8, cst9, cst10, cst11, cst12, o_eqB, o_neB, reduceCtorEq, Bool.true_eq_false, e_iEnumS, e_iZipS, o_enum, o_zipL, o_zipT, e_sRaise1, e_sPar, e_sPar3, e_gTL, o_isBB, o_notBB, e_sCons, e_sNil, e_sBreak, e_sCont, e_sRet, e_sRetN, e_sExpr, e_sIf, e_sAsg, e_sOwn, e_sFrz, e_sRaise, e_sFor, e_loop_nil, e_mC, e_m1, e_m2, e_mF, e_mCall, e_mM1, e_aNil, e_aCons, e_aLst, e_mTup, e_mLst, e_mN, e_mT, e_mTru, e_mAndT, e_mOrT, e_mNotT, e_mAnd, e_mOr, e_mNot, e_mIf, e_mChain, e_iSeq, e_iRange1, e_iRange2, e_oNone, e_oSome, e_mSl, e_mYes, e_mLc, e_gN, v0, vS, p0, p0o, pS, f0, f0s, f0n, fS, R.bind_ok, R.bind_err, R.bind_stuck, R.quiet_ok, R.sure_ok, R.sure_err, R.sure_stuck, O.of_ok, O.of_err, O.of_stuck, O.thn_nx, O.thn_rt, O.thn_bk, O.thn_ct, O.thn_err, O.thn_rto, O.lp_nx, O.lp_ct, O.lp_bk, O.lp_rt, O.lp_rto, O.lp_err, fin_nx, fin_rt, fin_err, asB_b, o_add, o_addI, o_sub, o_neg, o_lt, o_le, o_gt, o_ge, o_eqI, o_neI, o_eqS, o_neS, o_inS, o_lenL, o_lenT, o_int, o_itS, o_itL, o_itT, o_truL, o_truB, o_truI, List.set_cons_zero, List.set_cons_succ, List.length_cons, List.length_nil, if_true, if_false, Bool.not_true, Bool.not_false, Bool.false_eq_true, Option.isSome_some, Option.isSome_none, Nat.reduceAdd, Nat.zero_add, decide_true, decide_false, e_gT, e_gsC, e_gsN, e_callR0, e_callN, Nat.reduceEqDiff, lit_0, lit_1, lit_2, lit_3, lit_4, lit_5, lit_6, lit_7, lit_8, lit_9, lit_10, lit_11, lit_12, lit_13, lit_14, lit_15, lit_16, lit_17, lit_18, lit_19, lit_20, lit_21, lit_22, lit_23, cl_0, cl_1, cl_2, cl_3, cl_4, cl_5, cl_6, cl_7, cl_8, cl_9, cl_10, cl_11, cl_12, cl_13, cl_14, cl_15, cl_16, cl_17, cl_18, cl_19, cl_20, cl_21, cl_22, cl_23, i1, es, i2, r__law_swap _ hm, one_eq]
    refine ⟨fun e => ⟨some (.sh (.int ((j + 1 : Nat) : Int))), ?_, by omega⟩, fun e => ⟨some (.sh (.int ((j + 1 : Nat) : Int))), ?_, by omega⟩⟩
    · rw [if_pos e]
      have : atI j (some 0) = (j : Int) := by show ((0 + j : Nat) : Int) = _; rw [Nat.zero_add]
      rw [this]
    · rw [if_neg e]
      have : atI j ((fp (u.drop (j + 1))).map (· + 1)) = atI (j + 1) (fp (u.drop (j + 1))) := by
        cases fp (u.drop (j + 1)) with
        | none => rfl
        | some i => show ((i + 1 + j : Nat) : Int) = ((i + (j + 1) : Nat) : Int); omega
      rw [this]
  · rintro ρ ⟨o5, rfl, hk⟩
    rw [List.length_map, List.length_range]
    have : u.length - 1 - ((u.length : Int) - 1 - 0).toNat = 0 := by omega
    rw [this]
    exact h o5
theorem r__law_cuts {w : List Nat} (hw : Wd w) (hl : w.length ≤ 900) : m__law_cuts [sD w] = .ok (.list [.list ((cutS [] w).map cutD), sD (red w), .list ((cutS [] w).map fun p => one p.2)]) := by
  have hz := sizeLine_eq
  refine eq_ok ?_
  show RP False (fin (b__law_cuts [some (.sh (sD w)), none, none, none, none, none])) _ _
  unfold b__law_cuts
  have e1 : (w.length ≤ 16777216) = True := eq_true (by omega)
  simp -implicitDefEqProofs only [RP_ok, RP_err, RP_stuck, RP_bind, RP_quiet, RP_sure, RP_ite, RP_fin, RP_finN, OP_nx, OP_rt, OP_rto, OP_bk, OP_ct, OP_err, OP_stuck, OP_of, OP_thn, OP_lp, OP_ite, OP_tryN, OP_tryAs, OP_endS, OP_endI, true_implies, false_implies, not_true_eq_false, not_false_eq_true, and_true, true_and, implies_true, wipe_nil, wipe_cons, List.length_map, e_callR, e_callX, e_isX, e_xf, e_sNext, e_sApp, e_sPop, e_sRev, e_sRetOwn, e_sExt, e_sGive, e_sSetIx, e_hdl, hdl_nil, e_hdlAs, ownAt_own, rndAt_rnd, excAt_exc, someD_some, caseB_t, caseB_f, intD_int, clean_nil, clean_sh, clean_no, clean_own, List.getElem?_cons_zero, List.getElem?_cons_succ, decide_eq_true_eq, Bool.not_eq_true', List.length_append, Option.getD_some, ixT0, ixT1, ixT2, ixT3, ixL0, ixL1, ixL2, ixL3, o_isB, o_isL, o_isT, o_isI, o_isS, o_niPM, o_niPL, o_max2, o_min2, o_abs, o_tupL, o_tupT, o_lofL, o_lofT, e_aListOf, e_aRep, sizeLine_eq, decide_eq_false_iff_not, Classical.not_not, Nat.reduceLeDiff, Nat.zero_le, Int.reduceLE, Int.reduceLT, Int.reduceEq, Nat.reduceLT, List.nil_append, List.cons_append, cst0, cst1, cst2, cst3, cst4, cst5, cst6, cst7, cst8, cst9, cst10, cst11, cst12, o_eqB, o_neB, reduceCtorEq, Bool.true_eq_false, e_iEnumS, e_iZipS, o_enum, o_zipL, o_zipT, e_sRaise1, e_sPar, e_sPar3, e_gTL, o_isBB, o_notBB, e_sCons, e_sNil, e_sBreak, e_sCont, e_sRet, e_sRetN, e_sExpr, e_sIf, e_sAsg, e_sOwn, e_sFrz, e_sRaise, e_sFor, e_loop_nil, e_mC, e_m1, e_m2, e_mF, e_mCall, e_mM1, e_aNil, e_aCons, e_aLst, e_mTup, e_mLst, e_mN, e_mT, e_mTru, e_mAndT, e_mOrT, e_mNotT, e_mAnd, e_mOr, e_mNot, e_mIf, e_mChain, e_iSeq, e_iRange1, e_iRange2, e_oNone, e_oSome, e_mSl, e_mYes, e_mLc, e_gN, v0, vS, p0, p0o, pS, f0, f0s, f0n, fS, R.bind_ok, R.bind_err, R.bind_stuck, R.quiet_ok, R.sure_ok, R.sure_err, R.sure_stuck, O.of_ok, O.of_err, O.of_stuck, O.thn_nx, O.thn_rt, O.thn_bk, O.thn_ct, O.thn_err, O.thn_rto, O.lp_nx, O.lp_ct, O.lp_bk, O.lp_rt, O.lp_rto, O.lp_err, fin_nx, fin_rt, fin_err, asB_b, o_add, o_addI, o_sub, o_neg, o_lt, o_le, o_gt, o_ge, o_eqI, o_neI, o_eqS, o_neS, o_inS, o_lenL, o_lenT, o_int, o_itS, o_itL, o_itT, o_truL, o_truB, o_truI, List.set_cons_zero, List.set_cons_succ, List.length_cons, List.length_nil, if_true, if_false, Bool.not_true, Bool.not_false, Bool.false_eq_true, Option.isSome_some, Option.isSome_none, Nat.reduceAdd, Nat.zero_add, decide_true, decide_false, e_gT, e_gsC, e_gsN, e_callR0, e_callN, Nat.reduceEqDiff, lit_0, lit_1, lit_2, lit_3, lit_4, lit_5, lit_6, lit_7, lit_8, lit_9, lit_10, lit_11, lit_12, lit_13, lit_14, lit_15, lit_16, lit_17, lit_18, lit_19, lit_20, lit_21, lit_22, lit_23, cl_0, cl_1, cl_2, cl_3, cl_4, cl_5, cl_6, cl_7, cl_8, cl_9, cl_10, cl_11, cl_12, cl_13, cl_14, cl_15, cl_16, cl_17, cl_18, cl_19, cl_20, cl_21, cl_22, cl_23, o_lenS, e1, rg_nat (show w.length ≤ 1000 by omega)]
  have fine : ∀ (st u : List Nat) (fs : List (Nat × Nat)) (ρ : En), Irr st → Wd st → Wd u → fp (st.reverse ++ u) = none → fs ++ cutS st u = cutS [] w → redS st u = redS [] w → fs = cutS [] w ∧ st.reverse ++ u = red w := by
    intro st u fs ρ h hs hu hf h1 h2
    rcases cut_step u st h hs hu with ⟨a1, a2, a3⟩ | ⟨s, t, c, w', a1, _, _, _, _, _, _, a8, _⟩
    · rw [a1, List.append_nil] at h1
      refine ⟨h1, ?_⟩
      rw [a3] at h2
      unfold red
      rw [← h2, List.reverse_reverse]
    · rw [hf] at a8; cases a8
  refine OP_for (I := fun k ρ => ∃ (st u : List Nat) (fs : List (Nat × Nat)) (o3 o4 o5 : Option SD), ρ = [some (.sh (sD (st.reverse ++ u))), some (.own (fs.map cutD)), some (.own (fs.map fun p => one p.2)), o3, o4, o5] ∧ Irr st ∧ Wd st ∧ Wd u ∧ fs ++ cutS st u = cutS [] w ∧ redS st u = redS [] w ∧ fs.length = k ∧ (st.reverse ++ u).length + 2 * k ≤ w.length) ⟨[], w, [], none, none, none, rfl, trivial, nil_wd, hw, rfl, rfl, rfl, Nat.le_refl _⟩ ?_ ?_
  · rintro k d ρ hd ⟨st, u, fs, o3, o4, o5, rfl, h1, h2, h3, h4, h5, h6, h7⟩
    have hvw : Wd (st.reverse ++ u) := app_wd (fun c hc => h2 c (List.mem_reverse.mp hc)) h3
    have hvl : (st.reverse ++ u).length ≤ 900 := by omega
    have stp := cut_step u st h1 h2 h3
    have fn := fun hf => fine st u fs [] h1 h2 h3 hf h4 h5
    generalize hv : st.reverse ++ u = v at *
    show OP (lb__law_cuts_2 [some (.sh (sD v)), some (.own (fs.map cutD)), some (.own (fs.map fun p => one p.2)), some (.sh d), o4, o5]) _
    unfold lb__law_cuts_2
    have e2 : (v.length ≤ 16777216) = True := eq_true (by omega)
    simp -implicitDefEqProofs only [RP_ok, RP_err, RP_stuck, RP_bind, RP_quiet, RP_sure, RP_ite, RP_fin, RP_finN, OP_nx, OP_rt, OP_rto, OP_bk, OP_ct, OP_err, OP_stuck, OP_of, OP_thn, OP_lp, OP_ite, OP_tryN, OP_tryAs, OP_endS, OP_endI, true_implies, false_implies, not_true_eq_false, not_false_eq_true, and_true, true_and, implies_true, wipe_nil, wipe_cons, List.length_map, e_callR, e_callX, e_isX, e_xf, e_sNext, e_sApp, e_sPop, e_sRev, e_sRetOwn, e_sExt, e_sGive, e_sSetIx, e_hdl, hdl_nil, e_hdlAs, ownAt_own, rndAt_rnd, excAt_exc, someD_some, caseB_t, caseB_f, intD_int, clean_nil, clean_sh, clean_no, clean_own, List.getElem?_cons_zero, List.getElem?_cons_succ, decide_eq_true_eq, Bool.not_eq_true', List.length_append, Option.getD_some, ixT0, ixT1, ixT2, ixT3, ixL0, ixL1, ixL2, ixL3, o_isB, o_isL, o_isT, o_isI, o_isS, o_niPM, o_niPL, o_max2, o_min2, o_abs, o_tupL, o_tupT, o_lofL, o_lofT, e_aListOf, e_aRep, sizeLine_eq, decide_eq_false_iff_not, Classical.not_not, Nat.reduceLeDiff, Nat.zero_le, Int.reduceLE, Int.reduceLT, Int.reduceEq, Nat.reduceLT, List.nil_append, List.cons_append, cst0, cst1, cst2, cst3, cst4, cst5, cst6, cst7, cst8, cst9, cst10, cst11, cst12, o_eqB, o_neB, reduceCtorEq, Bool.true_eq_false, e_iEnumS, e_iZipS, o_enum, o_zipL, o_zipT, e_sRaise1, e_sPar, e_sPar3, e_gTL, o_isBB, o_notBB, e_sCons, e_sNil, e_sBreak, e_sCont, e_sRet, e_sRetN, e_sExpr, e_sIf, e_sAsg, e_sOwn, e_sFrz, e_sRaise, e_sFor, e_loop_nil, e_mC, e_m1, e_m2, e_mF, e_mCall, e_mM1, e_aNil, e_aCons, e_aLst, e_mTup, e_mLst, e_mN, e_mT, e_mTru, e_mAndT, e_mOrT, e_mNotT, e_mAnd, e_mOr, e_mNot, e_mIf, e_mChain, e_iSeq, e_iRange1, e_iRange2, e_oNone, e_oSome, e_mSl, e_mYes, e_mLc, e_gN, v0, vS, p0, p0o, pS, f0, f0s, f0n, fS, R.bind_ok, R.bind_err, R.bind_stuck, R.quiet_ok, R.sure_ok, R.sure_err, R.sure_stuck, O.of_ok, O.of_err, O.of_stuck, O.thn_nx, O.thn_rt, O.thn_bk, O.thn_ct, O.thn_err, O.thn_rto, O.lp_nx, O.lp_ct, O.lp_bk, O.lp_rt, O.lp_rto, O.lp_err, fin_nx, fin_rt, fin_err, asB_b, o_add, o_addI, o_sub, o_neg, o_lt, o_le, o_gt, o_ge, o_eqI, o_neI, o_eqS, o_neS, o_inS, o_lenL, o_lenT, o_int, o_itS, o_itL, o_itT, o_truL, o_truB, o_truI, List.set_cons_zero, List.set_cons_succ, List.length_cons, List.length_nil, if_true, if_false, Bool.not_true, Bool.not_false, Bool.false_eq_true, Option.isSome_some, Option.isSome_none, Nat.reduceAdd, Nat.zero_add, decide_true, decide_false, e_gT, e_gsC, e_gsN, e_callR0, e_callN, Nat.reduceEqDiff, lit_0, lit_1, lit_2, lit_3, lit_4, lit_5, lit_6, lit_7, lit_8, lit_9, lit_10, lit_11, lit_12, lit_13, lit_14, lit_15, lit_16, lit_17, lit_18, lit_19, lit_20, lit_21, lit_22, lit_23, cl_0, cl_1, cl_2, cl_3, cl_4, cl_5, cl_6, cl_7, cl_8, cl_9, cl_10, cl_11, cl_12, cl_13, cl_14, cl_15, cl_16, cl_17, cl_18, cl_19, cl_20, cl_21, cl_22, cl_23, o_lenS, e2, e_iRange3, rgD_nat (n := v.length) (j := 0) (by omega) (by decide) (by decide)]
    refine lp__law_cuts_1 (u := v) hvw hvl _ _ rfl fun o5 => ?_
    rcases stp with ⟨a1, a2, a3⟩ | ⟨s, t, c, w', a1, a2, a3, a4, a5, a6, a7, a8, a9⟩
    · obtain ⟨b1, b2⟩ := fn a2
      rw [a2]
      simp -implicitDefEqProofs only [RP_ok, RP_err, RP_stuck, RP_bind, RP_quiet, RP_sure, RP_ite, RP_fin, RP_finN, OP_nx, OP_rt, OP_rto, OP_bk, OP_ct, OP_err, OP_stuck, OP_of, OP_thn, OP_lp, OP_ite, OP_tryN, OP_tryAs, OP_endS, OP_endI, true_implies, false_implies, not_true_eq_false, not_false_eq_true, and_true, true_and, implies_true, wipe_nil, wipe_cons, List.length_map, e_callR, e_callX, e_isX, e_xf, e_sNext, e_sApp, e_sPop, e_sRev, e_sRetOwn, e_sExt, e_sGive, e_sSetIx, e_hdl, hdl_nil, e_hdlAs, ownAt_own, rndAt_rnd, excAt_exc, someD_some, caseB_t, caseB_f, intD_int, clean_nil, clean_sh, clean_no, clean_own, List.getElem?_cons_zero, List.getElem?_cons_succ, decide_eq_true_eq, Bool.not_eq_true', List.length_append, Option.getD_some, ixT0, ixT1, ixT2, ixT3, ixL0, ixL1, ixL2, ixL3, o_isB, o_isL, o_isT, o_isI, o_isS, o_niPM, o_niPL, o_max2, o_min2, o_abs, o_tupL, o_tupT, o_lofL, o_lofT, e_aListOf, e_aRep, sizeLine_eq, decide_eq_false_iff_not, Classical.not_not, Nat.reduceLeDiff, Nat.zero_le, Int.reduceLE, Int.reduceLT, Int.reduceEq, Nat.reduceLT, List.nil_append, List.cons_append, cst0, cst1, cst2, cst3, cst4, cst5, cst6, cst7, cst8, cst9, cst10, cst11, cst12, o_eqB, o_neB, reduceCtorEq, Bool.true_eq_false, e_iEnumS, e_iZipS, o_enum, o_zipL, o_zipT, e_sRaise1, e_sPar, e_sPar3, e_gTL, o_isBB, o_notBB, e_sCons, e_sNil, e_sBreak, e_sCont, e_sRet, e_sRetN, e_sExpr, e_sIf, e_sAsg, e_sOwn, e_sFrz, e_sRaise, e_sFor, e_loop_nil, e_mC, e_m1, e_m2, e_mF, e_mCall, e_mM1, e_aNil, e_aCons, e_aLst, e_mTup, e_mLst, e_mN, e_mT, e_mTru, e_mAndT, e_mOrT, e_mNotT, e_mAnd, e_mOr, e_mNot, e_mIf, e_mChain, e_iSeq, e_iRange1, e_iRange2, e_oNone, e_oSome, e_mSl, e_mYes, e_mLc, e_gN, v0, vS, p0, p0o, pS, f0, f0s, f0n, fS, R.bind_ok, R.bind_err, R.bind_stuck, R.quiet_ok, R.sure_ok, R.sure_err, R.sure_stuck, O.of_ok, O.of_err, O.of_stuck, O.thn_nx, O.thn_rt, O.thn_bk, O.thn_ct, O.thn_err, O.thn_rto, O.lp_nx, O.lp_ct, O.lp_bk, O.lp_rt, O.lp_rto, O.lp_err, fin_nx, fin_rt, fin_err, asB_b, o_add, o_addI, o_sub, o_neg, o_lt, o_le, o_gt, o_ge, o_eqI, o_neI, o_eqS, o_neS, o_inS, o_lenL, o_lenT, o_int, o_itS, o_itL, o_itT, o_truL, o_truB, o_truI, List.set_cons_zero, List.set_cons_succ, List.length_cons, List.length_nil, if_true, if_false, Bool.not_true, Bool.not_false, Bool.false_eq_true, Option.isSome_some, Option.isSome_none, Nat.reduceAdd, Nat.zero_add, decide_true, decide_false, e_gT, e_gsC, e_gsN, e_callR0, e_callN, Nat.reduceEqDiff, lit_0, lit_1, lit_2, lit_3, lit_4, lit_5, lit_6, lit_7, lit_8, lit_9, lit_10, lit_11, lit_12, lit_13, lit_14, lit_15, lit_16, lit_17, lit_18, lit_19, lit_20, lit_21, lit_22, lit_23, cl_0, cl_1, cl_2, cl_3, cl_4, cl_5, cl_6, cl_7, cl_8, cl_9, cl_10, cl_11, cl_12, cl_13, cl_14, cl_15, cl_16, cl_17, cl_18, cl_19, cl_20, cl_21, cl_22, cl_23, show atI 0 none = -1 from rfl]
      rw [b1, b2]
    · rw [a8]
      have ea : atI 0 (some s.length) = (s.length : Int) := rfl
      have e0 : s.length = s.reverse.length := List.length_reverse.symm
      have hlen : v.length = s.length + 2 + w'.length := by rw [a7, List.length_append, List.length_cons, List.length_cons, List.length_reverse]; omega
      have ix : dIdx (.str (S v)) (.int (s.length : Int)) = .ok (one t) := by
        have : v.getD s.length 0 = t := by rw [a7, e0]; exact getD_app
        rw [← this]; exact ixSD (by omega) (by omega)
      have s1 : dSl (.str (S v)) none (some (s.length : Int)) = .ok (sD s.reverse) := by
        rw [o_slS (by omega), cut_to2, a7, e0, List.take_append_of_le_length (Nat.le_refl _), List.take_length]
      have s3 : dSl (.str (S v)) (some ((s.length : Int) + 2)) none = .ok (sD w') := by
        have : (s.length : Int) + 2 = ((s.length + 2 : Nat) : Int) := by omega
        have d1 : (s.reverse ++ t :: c :: w').drop s.length = t :: c :: w' := by rw [e0, List.drop_append_of_le_length (Nat.le_refl _), List.drop_length]; rfl
        rw [this, o_slS (by omega), cut_from', a7, ← List.drop_drop, d1]; rfl
      simp -implicitDefEqProofs only [RP_ok, RP_err, RP_stuck, RP_bind, RP_quiet, RP_sure, RP_ite, RP_fin, RP_finN, OP_nx, OP_rt, OP_rto, OP_bk, OP_ct, OP_err, OP_stuck, OP_of, OP_thn, OP_lp, OP_ite, OP_tryN, OP_tryAs, OP_endS, OP_endI, true_implies, false_implies, not_true_eq_false, not_false_eq_true, and_true, true_and, implies_true, wipe_nil, wipe_cons, List.length_map, e_callR, e_callX, e_isX, e_xf, e_sNext, e_sApp, e_sPop, e_sRev, e_sRetOwn, e_sExt, e_sGive, e_sSetIx, e_hdl, hdl_nil, e_hdlAs, ownAt_own, rndAt_rnd, excAt_exc, someD_some, caseB_t, caseB_f, intD_int, clean_nil, clean_sh, clean_no, clean_own, List.getElem?_cons_zero, List.getElem?_cons_succ, decide_eq_true_eq, Bool.not_eq_true', List.length_append, Option.getD_some, ixT0, ixT1, ixT2, ixT3, ixL0, ixL1, ixL2, ixL3, o_isB, o_isL, o_isT, o_isI, o_isS, o_niPM, o_niPL, o_max2, o_min2, o_abs, o_tupL, o_tupT, o_lofL, o_lofT, e_aListOf, e_aRep, sizeLine_eq, decide_eq_false_iff_not, Classical.not_not, Nat.reduceLeDiff, Nat.zero_le, Int.reduceLE, Int.reduceLT, Int.reduceEq, Nat.reduceLT, List.nil_append, List.cons_append, cst0, cst1, cst2, cst3, cst4, cst5, cst6, cst7, cst8, cst9, cst10, cst11, cst12, o_eqB, o_neB, reduceCtorEq, Bool.true_eq_false, e_iEnumS, e_iZipS, o_enum, o_zipL, o_zipT, e_sRaise1, e_sPar, e_sPar3, e_gTL, o_isBB, o_notBB, e_sCons, e_sNil, e_sBreak, e_sCont, e_sRet, e_sRetN, e_sExpr, e_sIf, e_sAsg, e_sOwn, e_sFrz, e_sRaise, e_sFor, e_loop_nil, e_mC, e_m1, e_m2, e_mF, e_mCall, e_mM1, e_aNil, e_aCons, e_aLst, e_mTup, e_mLst, e_mN, e_mT, e_mTru, e_mAndT, e_mOrT, e_mNotT, e_mAnd, e_mOr, e_mNot, e_mIf, e_mChain, e_iSeq, e_iRange1, e_iRange2, e_oNone, e_oSome, e_mSl, e_mYes, e_mLc, e_gN, v0, vS, p0, p0o, pS, f0, f0s, f0n, fS, R.bind_ok, R.bind_err, R.bind_stuck, R.quiet_ok, R.sure_ok, R.sure_err, R.sure_stuck, O.of_ok, O.of_err, O.of_stuck, O.thn_nx, O.thn_rt, O.thn_bk, O.thn_ct, O.thn_err, O.thn_rto, O.lp_nx, O.lp_ct, O.lp_bk, O.lp_rt, O.lp_rto, O.lp_err, fin_nx, fin_rt, fin_err, asB_b, o_add, o_addI, o_sub, o_neg, o_lt, o_le, o_gt, o_ge, o_eqI, o_neI, o_eqS, o_neS, o_inS, o_lenL, o_lenT, o_int, o_itS, o_itL, o_itT, o_truL, o_truB, o_truI, List.set_cons_zero, List.set_cons_succ, List.length_cons, List.length_nil, if_true, if_false, Bool.not_true, Bool.not_false, Bool.false_eq_true, Option.isSome_some, Option.isSome_none, Nat.reduceAdd, Nat.zero_add, decide_true, decide_false, e_gT, e_gsC, e_gsN, e_callR0, e_callN, Nat.reduceEqDiff, lit_0, lit_1, lit_2, lit_3, lit_4, lit_5, lit_6, lit_7, lit_8, lit_9, lit_10, lit_11, lit_12, lit_13, lit_14, lit_15, lit_16, lit_17, lit_18, lit_19, lit_20, lit_21, lit_22, lit_23, cl_0, cl_1, cl_2, cl_3, cl_4, cl_5, cl_6, cl_7, cl_8, cl_9, cl_10, cl_11, cl_12, cl_13, cl_14, cl_15, cl_16, cl_17, cl_18, cl_19, cl_20, cl_21, cl_22, cl_23, ea, ix, s1, s3, o_addS]
      have l0 : s.reverse.length = s.length := List.length_reverse
      refine ⟨fun z => absurd z (by omega), fun _ => ⟨fun _ => ⟨fun _ => ⟨fun _ => ⟨s, w', fs ++ [(s.length, t)], some (.sh d), some (.sh (.int (s.length : Int))), o5, by rw [List.map_append, List.map_append]; rfl, a2, a3, a4, ?_, ?_, ?_, ?_⟩, fun z => absurd (by omega) z⟩, fun z => absurd (by omega) z⟩, fun z => absurd (by omega) z⟩⟩
      · rw [List.append_assoc, ← h4, a1]; rfl
      · rw [← a9]; exact h5
      · rw [List.length_append, h6]; rfl
      · omega
  · rintro ρ ⟨st, u, fs, o3, o4, o5, rfl, h1, h2, h3, h4, h5, h6, h7⟩
    rw [List.length_map, List.length_range] at h7
    have hv : st.reverse ++ u = [] := List.eq_nil_of_length_eq_zero (by omega)
    obtain ⟨b1, b2⟩ := fine st u fs [] h1 h2 h3 (by rw [hv]; rfl) h4 h5
    simp -implicitDefEqProofs only [RP_ok, RP_err, RP_stuck, RP_bind, RP_quiet, RP_sure, RP_ite, RP_fin, RP_finN, OP_nx, OP_rt, OP_rto, OP_bk, OP_ct, OP_err, OP_stuck, OP_of, OP_thn, OP_lp, OP_ite, OP_tryN, OP_tryAs, OP_endS, OP_endI, true_implies, false_implies, not_true_eq_false, not_false_eq_true, and_true, true_and, implies_true, wipe_nil, wipe_cons, List.length_map, e_callR, e_callX, e_isX, e_xf, e_sNext, e_sApp, e_sPop, e_sRev, e_sRetOwn, e_sExt, e_sGive, e_sSetIx, e_hdl, hdl_nil, e_hdlAs, ownAt_own, rndAt_rnd, excAt_exc, someD_some, caseB_t, caseB_f, intD_int, clean_nil, clean_sh, clean_no, clean_own, List.getElem?_cons_zero, List.getElem?_cons_succ, decide_eq_true_eq, Bool.not_eq_true', List.length_append, Option.getD_some, ixT0, ixT1, ixT2, ixT3, ixL0, ixL1, ixL2, ixL3, o_isB, o_isL, o_isT, o_isI, o_isS, o_niPM, o_niPL, o_max2, o_min2, o_abs, o_tupL, o_tupT, o_lofL, o_lofT, e_aListOf, e_aRep, sizeLine_eq, decide_eq_false_iff_not, Classical.not_not, Nat.reduceLeDiff, Nat.zero_le, Int.reduceLE, Int.reduceLT, Int.reduceEq, Nat.reduceLT, List.nil_append, List.cons_append, cst0, cst1, cst2, cst3, cst4, cst5, cst6, cst7, cst8, cst9, cst10, cst11, cst12, o_eqB, o_neB, reduceCtorEq, Bool.true_eq_false, e_iEnumS, e_iZipS, o_enum, o_zipL, o_zipT, e_sRaise1, e_sPar, e_sPar3, e_gTL, o_isBB, o_notBB, e_sCons, e_sNil, e_sBreak, e_sCont, e_sRet, e_sRetN, e_sExpr, e_sIf, e_sAsg, e_sOwn, e_sFrz, e_sRaise, e_sFor, e_loop_nil, e_mC, e_m1, e_m2, e_mF, e_mCall, e_mM1, e_aNil, e_aCons, e_aLst, e_mTup, e_mLst, e_mN, e_mT, e_mTru, e_mAndT, e_mOrT, e_mNotT, e_mAnd, e_mOr, e_mNot, e_mIf, e_mChain, e_iSeq, e_iRange1, e_iRange2, e_oNone, e_oSome, e_mSl, e_mYes, e_mLc, e_gN, v0, vS, p0, p0o, pS, f0, f0s, f0n, fS, R.bind_ok, R.bind_err, R.bind_stuck, R.quiet_ok, R.sure_ok, R.sure_err, R.sure_stuck, O.of_ok, O.of_err, O.of_stuck, O.thn_nx, O.thn_rt, O.thn_bk, O.thn_ct, O.thn_err, O.thn_rto, O.lp_nx, O.lp_ct, O.lp_bk, O.lp_rt, O.lp_rto, O.lp_err, fin_nx, fin_rt, fin_err, asB_b, o_add, o_addI, o_sub, o_neg, o_lt, o_le, o_gt, o_ge, o_eqI, o_neI, o_eqS, o_neS, o_inS, o_lenL, o_lenT, o_int, o_itS, o_itL, o_itT, o_truL, o_truB, o_truI, List.set_cons_zero, List.set_cons_succ, List.length_cons, List.length_nil, if_true, if_false, Bool.not_true, Bool.not_false, Bool.false_eq_true, Option.isSome_some, Option.isSome_none, Nat.reduceAdd, Nat.zero_add, decide_true, decide_false, e_gT, e_gsC, e_gsN, e_callR0, e_callN, Nat.reduceEqDiff, lit_0, lit_1, lit_2, lit_3, lit_4, lit_5, lit_6, lit_7, lit_8, lit_9, lit_10, lit_11, lit_12, lit_13, lit_14, lit_15, lit_16, lit_17, lit_18, lit_19, lit_20, lit_21, lit_22, lit_23, cl_0, cl_1, cl_2, cl_3, cl_4, cl_5, cl_6, cl_7, cl_8, cl_9, cl_10, cl_11, cl_12, cl_13, cl_14, cl_15, cl_16, cl_17, cl_18, cl_19, cl_20, cl_21, cl_22, cl_23]
    rw [b1, b2]

end Law
end
end
section
set_option Elab.async false
set_option linter.all false
set_option maxRecDepth 100000
set_option autoImplicit false
set_option maxHeartbeats 4000000
noncomputable section
namespace Law
open PySem DW L2
open SX (S S_tl S_len S_cat)
theorem tb_L6 : ∀ c ∈ L6, tb_INVERSES.lookup (S [c]) = some (one (inv c)) := L6_all ⟨by rfl, by rfl, by rfl, by rfl, by rfl, by rfl⟩
theorem tb_no (z : Str) (h : ∀ c ∈ L6, z ≠ S [c]) : tb_INVERSES.lookup z = none := by
  have key : ∀ c ∈ L6, (z == S [c]) = false := fun c hc => beq_false_of_ne (h c hc)
  show List.lookup z [(S [97], one 65), (S [65], one 97), (S [98], one 66), (S [66], one 98), (S [99], one 67), (S [67], one 99)] = none
  simp only [List.lookup_cons, key 97 (by decide), key 65 (by decide), key 98 (by decide), key 66 (by decide), key 99 (by decide), key 67 (by decide), List.lookup_nil]
theorem r_inverse_letter (c : Nat) (h : c ∈ L6) : m_inverse_letter [one c] = .ok (one (inv c)) := by
  have e := tb_L6 c h
  show fin (sCons _ _ [some (.sh (one c))]) = _
  simp -implicitDefEqProofs only [e_sCons, e_sNil, e_sBreak, e_sCont, e_sRet, e_sRetN, e_sExpr, e_sIf, e_sAsg, e_sOwn, e_sFrz, e_sRaise, e_sFor, e_loop_nil, e_mC, e_m1, e_m2, e_mF, e_mCall, e_mM1, e_aNil, e_aCons, e_aLst, e_mTup, e_mLst, e_mN, e_mT, e_mTru, e_mAndT, e_mOrT, e_mNotT, e_mAnd, e_mOr, e_mNot, e_mIf, e_mChain, e_iSeq, e_iRange1, e_iRange2, e_oNone, e_oSome, e_mSl, e_mYes, e_mLc, e_gN, v0, vS, p0, p0o, pS, f0, f0s, f0n, fS, R.bind_ok, R.bind_err, R.bind_stuck, R.quiet_ok, R.sure_ok, R.sure_err, R.sure_stuck, O.of_ok, O.of_err, O.of_stuck, O.thn_nx, O.thn_rt, O.thn_bk, O.thn_ct, O.thn_err, O.thn_rto, O.lp_nx, O.lp_ct, O.lp_bk, O.lp_rt, O.lp_rto, O.lp_err, fin_nx, fin_rt, fin_err, asB_b, o_add, o_addI, o_sub, o_neg, o_lt, o_le, o_gt, o_ge, o_eqI, o_neI, o_eqS, o_neS, o_inS, o_lenL, o_lenT, o_int, o_itS, o_itL, o_itT, o_truL, o_truB, o_truI, List.set_cons_zero, List.set_cons_succ, List.length_cons, List.length_nil, if_true, if_false, Bool.not_true, Bool.not_false, Bool.false_eq_true, Option.isSome_some, Option.isSome_none, Nat.reduceAdd, Nat.zero_add, decide_true, decide_false, e_gT, e_gsC, e_gsN, e_callR0, e_callN, Nat.reduceEqDiff, lit_0, lit_1, lit_2, lit_3, lit_4, lit_5, lit_6, lit_7, lit_8, lit_9, lit_10, lit_11, lit_12, lit_13, lit_14, lit_15, lit_16, lit_17, lit_18, lit_19, lit_20, lit_21, lit_22, lit_23, cl_0, cl_1, cl_2, cl_3, cl_4, cl_5, cl_6, cl_7, cl_8, cl_9, cl_10, cl_11, cl_12, cl_13, cl_14, cl_15, cl_16, cl_17, cl_18, cl_19, cl_20, cl_21, cl_22, cl_23, o_tNi, e, o_tAt e]

theorem r_inverse_letter_bad (z : Str) (h : ∀ c ∈ L6, z ≠ S [c]) : m_inverse_letter [.str z] = .err ("NotWord", []) := by
  have e := tb_no z h
  show fin (sCons _ _ [some (.sh (.str z))]) = _
  simp -implicitDefEqProofs only [e_sCons, e_sNil, e_sBreak, e_sCont, e_sRet, e_sRetN, e_sExpr, e_sIf, e_sAsg, e_sOwn, e_sFrz, e_sRaise, e_sFor, e_loop_nil, e_mC, e_m1, e_m2, e_mF, e_mCall, e_mM1, e_aNil, e_aCons, e_aLst, e_mTup, e_mLst, e_mN, e_mT, e_mTru, e_mAndT, e_mOrT, e_mNotT, e_mAnd, e_mOr, e_mNot, e_mIf, e_mChain, e_iSeq, e_iRange1, e_iRange2, e_oNone, e_oSome, e_mSl, e_mYes, e_mLc, e_gN, v0, vS, p0, p0o, pS, f0, f0s, f0n, fS, R.bind_ok, R.bind_err, R.bind_stuck, R.quiet_ok, R.sure_ok, R.sure_err, R.sure_stuck, O.of_ok, O.of_err, O.of_stuck, O.thn_nx, O.thn_rt, O.thn_bk, O.thn_ct, O.thn_err, O.thn_rto, O.lp_nx, O.lp_ct, O.lp_bk, O.lp_rt, O.lp_rto, O.lp_err, fin_nx, fin_rt, fin_err, asB_b, o_add, o_addI, o_sub, o_neg, o_lt, o_le, o_gt, o_ge, o_eqI, o_neI, o_eqS, o_neS, o_inS, o_lenL, o_lenT, o_int, o_itS, o_itL, o_itT, o_truL, o_truB, o_truI, List.set_cons_zero, List.set_cons_succ, List.length_cons, List.length_nil, if_true, if_false, Bool.not_true, Bool.not_false, Bool.false_eq_true, Option.isSome_some, Option.isSome_none, Nat.reduceAdd, Nat.zero_add, decide_true, decide_false, e_gT, e_gsC, e_gsN, e_callR0, e_callN, Nat.reduceEqDiff, lit_0, lit_1, lit_2, lit_3, lit_4, lit_5, lit_6, lit_7, lit_8, lit_9, lit_10, lit_11, lit_12, lit_13, lit_14, lit_15, lit_16, lit_17, lit_18, lit_19, lit_20, lit_21, lit_22, lit_23, cl_0, cl_1, cl_2, cl_3, cl_4, cl_5, cl_6, cl_7, cl_8, cl_9, cl_10, cl_11, cl_12, cl_13, cl_14, cl_15, cl_16, cl_17, cl_18, cl_19, cl_20, cl_21, cl_22, cl_23, o_tNi, e]


end Law
end
end
section
set_option Elab.async false
set_option linter.all false
set_option maxRecDepth 100000
set_option autoImplicit false
set_option maxHeartbeats 4000000
noncomputable section
namespace Law
open PySem DW L2
open SX (S S_tl S_len S_cat)
theorem lp_cuts {X : Option SD} : ∀ (cs st : List Nat) (fs : List (Nat × Nat)) (o3 o4 : Option SD) (W : Ways), Wd cs → Wd st → st.length + cs.length < 1000000 → fs.length + cs.length < 1000000 →
    (∀ o3 o4, W.n [X, some (.own ((fs ++ cutS st cs).map cutD)), some (.own ((redS st cs).reverse.map one)), o3, o4]) →
    OP (mLoop (gN 3) lb_cuts_1 (cs.map one) [X, some (.own (fs.map cutD)), some (.own (st.reverse.map one)), o3, o4]) W
  | [], st, fs, o3, o4, W, _, _, _, _, h => by
    show OP (.nx _) W
    rw [OP_nx]
    have e : cutS st [] = [] := by cases st <;> rfl
    have := h o3 o4
    rw [e, List.append_nil] at this
    exact this
  | c :: cs, st, fs, o3, o4, W, hw, hs, hl, hl2, h => by
    have hz := sizeLine_eq
    have hc := hw c List.mem_cons_self
    have hw2 : Wd cs := fun x hx => hw x (List.mem_cons_of_mem _ hx)
    rw [List.length_cons] at hl hl2
    rw [List.map_cons, e_loop_c]
    unfold lb_cuts_1
    cases st with
    | nil =>
      simp -implicitDefEqProofs only [RP_ok, RP_err, RP_stuck, RP_bind, RP_quiet, RP_sure, RP_ite, RP_fin, RP_finN, OP_nx, OP_rt, OP_rto, OP_bk, OP_ct, OP_err, OP_stuck, OP_of, OP_thn, OP_lp, OP_ite, OP_tryN, OP_tryAs, OP_endS, OP_endI, true_implies, false_implies, not_true_eq_false, not_false_eq_true, and_true, true_and, implies_true, wipe_nil, wipe_cons, List.length_map, e_callR, e_callX, e_isX, e_xf, e_sNext, e_sApp, e_sPop, e_sRev, e_sRetOwn, e_sExt, e_sGive, e_sSetIx, e_hdl, hdl_nil, e_hdlAs, ownAt_own, rndAt_rnd, excAt_exc, someD_some, caseB_t, caseB_f, intD_int, clean_nil, clean_sh, clean_no, clean_own, List.getElem?_cons_zero, List.getElem?_cons_succ, decide_eq_true_eq, Bool.not_eq_true', List.length_append, Option.getD_some, ixT0, ixT1, ixT2, ixT3, ixL0, ixL1, ixL2, ixL3, o_isB, o_isL, o_isT, o_isI, o_isS, o_niPM, o_niPL, o_max2, o_min2, o_abs, o_tupL, o_tupT, o_lofL, o_lofT, e_aListOf, e_aRep, sizeLine_eq, decide_eq_false_iff_not, Classical.not_not, Nat.reduceLeDiff, Nat.zero_le, Int.reduceLE, Int.reduceLT, Int.reduceEq, Nat.reduceLT, List.nil_append, List.cons_append, cst0, cst1, cst2, cst3, cst4, cst5, cst6, cst7, cst8, cst9, cst10, cst11, cst12, o_eqB, o_neB, reduceCtorEq, Bool.true_eq_false, e_iEnumS, e_iZipS, o_enum, o_zipL, o_zipT, e_sRaise1, e_sPar, e_sPar3, e_gTL, o_isBB, o_notBB, e_sCons, e_sNil, e_sBreak, e_sCont, e_sRet, e_sRetN, e_sExpr, e_sIf, e_sAsg, e_sOwn, e_sFrz, e_sRaise, e_sFor, e_loop_nil, e_mC, e_m1, e_m2, e_mF, e_mCall, e_mM1, e_aNil, e_aCons, e_aLst, e_mTup, e_mLst, e_mN, e_mT, e_mTru, e_mAndT, e_mOrT, e_mNotT, e_mAnd, e_mOr, e_mNot, e_mIf, e_mChain, e_iSeq, e_iRange1, e_iRange2, e_oNone, e_oSome, e_mSl, e_mYes, e_mLc, e_gN, v0, vS, p0, p0o, pS, f0, f0s, f0n, fS, R.bind_ok, R.bind_err, R.bind_stuck, R.quiet_ok, R.sure_ok, R.sure_err, R.sure_stuck, O.of_ok, O.of_err, O.of_stuck, O.thn_nx, O.thn_rt, O.thn_bk, O.thn_ct, O.thn_err, O.thn_rto, O.lp_nx, O.lp_ct, O.lp_bk, O.lp_rt, O.lp_rto, O.lp_err, fin_nx, fin_rt, fin_err, asB_b, o_add, o_addI, o_sub, o_neg, o_lt, o_le, o_gt, o_ge, o_eqI, o_neI, o_eqS, o_neS, o_inS, o_lenL, o_lenT, o_int, o_itS, o_itL, o_itT, o_truL, o_truB, o_truI, List.set_cons_zero, List.set_cons_succ, List.length_cons, List.length_nil, if_true, if_false, Bool.not_true, Bool.not_false, Bool.false_eq_true, Option.isSome_some, Option.isSome_none, Nat.reduceAdd, Nat.zero_add, decide_true, decide_false, e_gT, e_gsC, e_gsN, e_callR0, e_callN, Nat.reduceEqDiff, lit_0, lit_1, lit_2, lit_3, lit_4, lit_5, lit_6, lit_7, lit_8, lit_9, lit_10, lit_11, lit_12, lit_13, lit_14, lit_15, lit_16, lit_17, lit_18, lit_19, lit_20, lit_21, lit_22, lit_23, cl_0, cl_1, cl_2, cl_3, cl_4, cl_5, cl_6, cl_7, cl_8, cl_9, cl_10, cl_11, cl_12, cl_13, cl_14, cl_15, cl_16, cl_17, cl_18, cl_19, cl_20, cl_21, cl_22, cl_23, r_inverse_letter c hc, List.reverse_nil, List.map_nil, List.isEmpty_nil]
      have := lp_cuts (X := X) cs [c] fs (some (.sh (one c))) (some (.sh (one (inv c)))) W hw2 (fun x hx => by rw [List.mem_singleton.mp hx]; exact hc) (by rw [List.length_singleton]; omega) (by omega) h
      exact this
    | cons t s =>
      have ht := hs t List.mem_cons_self
      have hs2 : Wd s := fun x hx => hs x (List.mem_cons_of_mem _ hx)
      have ie : (s.reverse.map one ++ [one t]).isEmpty = false := by
        cases s.reverse.map one <;> rfl
      rw [List.length_cons] at hl
      rw [ones_snoc]
      have gl : (s.reverse.map one ++ [one t])[s.reverse.length + 1 - 1]? = some (one t) := by
        have : s.reverse.length + 1 - 1 = (s.reverse.map one).length := by rw [List.length_map]; rfl
        rw [this, List.getElem?_append_right (Nat.le_refl _), Nat.sub_self]; rfl
      simp -implicitDefEqProofs only [RP_ok, RP_err, RP_stuck, RP_bind, RP_quiet, RP_sure, RP_ite, RP_fin, RP_finN, OP_nx, OP_rt, OP_rto, OP_bk, OP_ct, OP_err, OP_stuck, OP_of, OP_thn, OP_lp, OP_ite, OP_tryN, OP_tryAs, OP_endS, OP_endI, true_implies, false_implies, not_true_eq_false, not_false_eq_true, and_true, true_and, implies_true, wipe_nil, wipe_cons, List.length_map, e_callR, e_callX, e_isX, e_xf, e_sNext, e_sApp, e_sPop, e_sRev, e_sRetOwn, e_sExt, e_sGive, e_sSetIx, e_hdl, hdl_nil, e_hdlAs, ownAt_own, rndAt_rnd, excAt_exc, someD_some, caseB_t, caseB_f, intD_int, clean_nil, clean_sh, clean_no, clean_own, List.getElem?_cons_zero, List.getElem?_cons_succ, decide_eq_true_eq, Bool.not_eq_true', List.length_append, Option.getD_some, ixT0, ixT1, ixT2, ixT3, ixL0, ixL1, ixL2, ixL3, o_isB, o_isL, o_isT, o_isI, o_isS, o_niPM, o_niPL, o_max2, o_min2, o_abs, o_tupL, o_tupT, o_lofL, o_lofT, e_aListOf, e_aRep, sizeLine_eq, decide_eq_false_iff_not, Classical.not_not, Nat.reduceLeDiff, Nat.zero_le, Int.reduceLE, Int.reduceLT, Int.reduceEq, Nat.reduceLT, List.nil_append, List.cons_append, cst0, cst1, cst2, cst3, cst4, cst5, cst6, cst7, cst8, cst9, cst10, cst11, cst12, o_eqB, o_neB, reduceCtorEq, Bool.true_eq_false, e_iEnumS, e_iZipS, o_enum, o_zipL, o_zipT, e_sRaise1, e_sPar, e_sPar3, e_gTL, o_isBB, o_notBB, e_sCons, e_sNil, e_sBreak, e_sCont, e_sRet, e_sRetN, e_sExpr, e_sIf, e_sAsg, e_sOwn, e_sFrz, e_sRaise, e_sFor, e_loop_nil, e_mC, e_m1, e_m2, e_mF, e_mCall, e_mM1, e_aNil, e_aCons, e_aLst, e_mTup, e_mLst, e_mN, e_mT, e_mTru, e_mAndT, e_mOrT, e_mNotT, e_mAnd, e_mOr, e_mNot, e_mIf, e_mChain, e_iSeq, e_iRange1, e_iRange2, e_oNone, e_oSome, e_mSl, e_mYes, e_mLc, e_gN, v0, vS, p0, p0o, pS, f0, f0s, f0n, fS, R.bind_ok, R.bind_err, R.bind_stuck, R.quiet_ok, R.sure_ok, R.sure_err, R.sure_stuck, O.of_ok, O.of_err, O.of_stuck, O.thn_nx, O.thn_rt, O.thn_bk, O.thn_ct, O.thn_err, O.thn_rto, O.lp_nx, O.lp_ct, O.lp_bk, O.lp_rt, O.lp_rto, O.lp_err, fin_nx, fin_rt, fin_err, asB_b, o_add, o_addI, o_sub, o_neg, o_lt, o_le, o_gt, o_ge, o_eqI, o_neI, o_eqS, o_neS, o_inS, o_lenL, o_lenT, o_int, o_itS, o_itL, o_itT, o_truL, o_truB, o_truI, List.set_cons_zero, List.set_cons_succ, List.length_cons, List.length_nil, if_true, if_false, Bool.not_true, Bool.not_false, Bool.false_eq_true, Option.isSome_some, Option.isSome_none, Nat.reduceAdd, Nat.zero_add, decide_true, decide_false, e_gT, e_gsC, e_gsN, e_callR0, e_callN, Nat.reduceEqDiff, lit_0, lit_1, lit_2, lit_3, lit_4, lit_5, lit_6, lit_7, lit_8, lit_9, lit_10, lit_11, lit_12, lit_13, lit_14, lit_15, lit_16, lit_17, lit_18, lit_19, lit_20, lit_21, lit_22, lit_23, cl_0, cl_1, cl_2, cl_3, cl_4, cl_5, cl_6, cl_7, cl_8, cl_9, cl_10, cl_11, cl_12, cl_13, cl_14, cl_15, cl_16, cl_17, cl_18, cl_19, cl_20, cl_21, cl_22, cl_23, r_inverse_letter c hc, ie, o_ixLast, one_eq, gl, List.dropLast_concat]
      refine ⟨fun e => ?_, fun e => ?_⟩
      · have q : cutS (t :: s) (c :: cs) = (s.length, t) :: cutS s cs := if_pos e
        have q2 : redS (t :: s) (c :: cs) = redS s cs := by rw [redS_cons, rstep_cut e]
        rw [q, q2] at h
        have := lp_cuts (X := X) cs s (fs ++ [(s.length, t)]) (some (.sh (one c))) (some (.sh (one (inv c)))) W hw2 hs2 (by omega) (by rw [List.length_append]; show _ + 1 + _ < _; omega) (fun o3 o4 => by rw [List.append_assoc]; exact h o3 o4)
        rw [List.map_append] at this
        rw [show s.reverse.length = s.length from List.length_reverse]
        exact ⟨fun _ => this, fun z => absurd (by omega) z⟩
      · have q : cutS (t :: s) (c :: cs) = cutS (c :: t :: s) cs := if_neg e
        have q2 : redS (t :: s) (c :: cs) = redS (c :: t :: s) cs := by rw [redS_cons, rstep_add e]
        rw [q, q2] at h
        have := lp_cuts (X := X) cs (c :: t :: s) fs (some (.sh (one c))) (some (.sh (one (inv c)))) W hw2 (fun x hx => (List.mem_cons.mp hx).elim (fun z => z ▸ hc) (hs x)) (by simp only [List.length_cons]; omega) (by omega) h
        rw [ones_snoc, ones_snoc] at this
        exact ⟨fun _ => this, fun z => absurd (by rw [List.length_reverse]; omega) z⟩
theorem r_cuts {w : List Nat} (hw : Wd w) (hl : w.length < 100000) : m_cuts [sD w] = .ok (.list ((cutS [] w).map cutD)) := by
  refine eq_ok ?_
  show RP False (fin (b_cuts [some (.sh (sD w)), none, none, none, none])) _ _
  unfold b_cuts
  simp -implicitDefEqProofs only [RP_ok, RP_err, RP_stuck, RP_bind, RP_quiet, RP_sure, RP_ite, RP_fin, RP_finN, OP_nx, OP_rt, OP_rto, OP_bk, OP_ct, OP_err, OP_stuck, OP_of, OP_thn, OP_lp, OP_ite, OP_tryN, OP_tryAs, OP_endS, OP_endI, true_implies, false_implies, not_true_eq_false, not_false_eq_true, and_true, true_and, implies_true, wipe_nil, wipe_cons, List.length_map, e_callR, e_callX, e_isX, e_xf, e_sNext, e_sApp, e_sPop, e_sRev, e_sRetOwn, e_sExt, e_sGive, e_sSetIx, e_hdl, hdl_nil, e_hdlAs, ownAt_own, rndAt_rnd, excAt_exc, someD_some, caseB_t, caseB_f, intD_int, clean_nil, clean_sh, clean_no, clean_own, List.getElem?_cons_zero, List.getElem?_cons_succ, decide_eq_true_eq, Bool.not_eq_true', List.length_append, Option.getD_some, ixT0, ixT1, ixT2, ixT3, ixL0, ixL1, ixL2, ixL3, o_isB, o_isL, o_isT, o_isI, o_isS, o_niPM, o_niPL, o_max2, o_min2, o_abs, o_tupL, o_tupT, o_lofL, o_lofT, e_aListOf, e_aRep, sizeLine_eq, decide_eq_false_iff_not, Classical.not_not, Nat.reduceLeDiff, Nat.zero_le, Int.reduceLE, Int.reduceLT, Int.reduceEq, Nat.reduceLT, List.nil_append, List.cons_append, cst0, cst1, cst2, cst3, cst4, cst5, cst6, cst7, cst8, cst9, cst10, cst11, cst12, o_eqB, o_neB, reduceCtorEq, Bool.true_eq_false, e_iEnumS, e_iZipS, o_enum, o_zipL, o_zipT, e_sRaise1, e_sPar, e_sPar3, e_gTL, o_isBB, o_notBB, e_sCons, e_sNil, e_sBreak, e_sCont, e_sRet, e_sRetN, e_sExpr, e_sIf, e_sAsg, e_sOwn, e_sFrz, e_sRaise, e_sFor, e_loop_nil, e_mC, e_m1, e_m2, e_mF, e_mCall, e_mM1, e_aNil, e_aCons, e_aLst, e_mTup, e_mLst, e_mN, e_mT, e_mTru, e_mAndT, e_mOrT, e_mNotT, e_mAnd, e_mOr, e_mNot, e_mIf, e_mChain, e_iSeq, e_iRange1, e_iRange2, e_oNone, e_oSome, e_mSl, e_mYes, e_mLc, e_gN, v0, vS, p0, p0o, pS, f0, f0s, f0n, fS, R.bind_ok, R.bind_err, R.bind_stuck, R.quiet_ok, R.sure_ok, R.sure_err, R.sure_stuck, O.of_ok, O.of_err, O.of_stuck, O.thn_nx, O.thn_rt, O.thn_bk, O.thn_ct, O.thn_err, O.thn_rto, O.lp_nx, O.lp_ct, O.lp_bk, O.lp_rt, O.lp_rto, O.lp_err, fin_nx, fin_rt, fin_err, asB_b, o_add, o_addI, o_sub, o_neg, o_lt, o_le, o_gt, o_ge, o_eqI, o_neI, o_eqS, o_neS, o_inS, o_lenL, o_lenT, o_int, o_itS, o_itL, o_itT, o_truL, o_truB, o_truI, List.set_cons_zero, List.set_cons_succ, List.length_cons, List.length_nil, if_true, if_false, Bool.not_true, Bool.not_false, Bool.false_eq_true, Option.isSome_some, Option.isSome_none, Nat.reduceAdd, Nat.zero_add, decide_true, decide_false, e_gT, e_gsC, e_gsN, e_callR0, e_callN, Nat.reduceEqDiff, lit_0, lit_1, lit_2, lit_3, lit_4, lit_5, lit_6, lit_7, lit_8, lit_9, lit_10, lit_11, lit_12, lit_13, lit_14, lit_15, lit_16, lit_17, lit_18, lit_19, lit_20, lit_21, lit_22, lit_23, cl_0, cl_1, cl_2, cl_3, cl_4, cl_5, cl_6, cl_7, cl_8, cl_9, cl_10, cl_11, cl_12, cl_13, cl_14, cl_15, cl_16, cl_17, cl_18, cl_19, cl_20, cl_21, cl_22, cl_23]
  refine lp_cuts w [] [] none none _ hw nil_wd (by show 0 + _ < _; omega) (by show 0 + _ < _; omega) fun o3 o4 => ?_
  simp -implicitDefEqProofs only [RP_ok, RP_err, RP_stuck, RP_bind, RP_quiet, RP_sure, RP_ite, RP_fin, RP_finN, OP_nx, OP_rt, OP_rto, OP_bk, OP_ct, OP_err, OP_stuck, OP_of, OP_thn, OP_lp, OP_ite, OP_tryN, OP_tryAs, OP_endS, OP_endI, true_implies, false_implies, not_true_eq_false, not_false_eq_true, and_true, true_and, implies_true, wipe_nil, wipe_cons, List.length_map, e_callR, e_callX, e_isX, e_xf, e_sNext, e_sApp, e_sPop, e_sRev, e_sRetOwn, e_sExt, e_sGive, e_sSetIx, e_hdl, hdl_nil, e_hdlAs, ownAt_own, rndAt_rnd, excAt_exc, someD_some, caseB_t, caseB_f, intD_int, clean_nil, clean_sh, clean_no, clean_own, List.getElem?_cons_zero, List.getElem?_cons_succ, decide_eq_true_eq, Bool.not_eq_true', List.length_append, Option.getD_some, ixT0, ixT1, ixT2, ixT3, ixL0, ixL1, ixL2, ixL3, o_isB, o_isL, o_isT, o_isI, o_isS, o_niPM, o_niPL, o_max2, o_min2, o_abs, o_tupL, o_tupT, o_lofL, o_lofT, e_aListOf, e_aRep, sizeLine_eq, decide_eq_false_iff_not, Classical.not_not, Nat.reduceLeDiff, Nat.zero_le, Int.reduceLE, Int.reduceLT, Int.reduceEq, Nat.reduceLT, List.nil_append, List.cons_append, cst0, cst1, cst2, cst3, cst4, cst5, cst6, cst7, cst8, cst9, cst10, cst11, cst12, o_eqB, o_neB, reduceCtorEq, Bool.true_eq_false, e_iEnumS, e_iZipS, o_enum, o_zipL, o_zipT, e_sRaise1, e_sPar, e_sPar3, e_gTL, o_isBB, o_notBB, e_sCons, e_sNil, e_sBreak, e_sCont, e_sRet, e_sRetN, e_sExpr, e_sIf, e_sAsg, e_sOwn, e_sFrz, e_sRaise, e_sFor, e_loop_nil, e_mC, e_m1, e_m2, e_mF, e_mCall, e_mM1, e_aNil, e_aCons, e_aLst, e_mTup, e_mLst, e_mN, e_mT, e_mTru, e_mAndT, e_mOrT, e_mNotT, e_mAnd, e_mOr, e_mNot, e_mIf, e_mChain, e_iSeq, e_iRange1, e_iRange2, e_oNone, e_oSome, e_mSl, e_mYes, e_mLc, e_gN, v0, vS, p0, p0o, pS, f0, f0s, f0n, fS, R.bind_ok, R.bind_err, R.bind_stuck, R.quiet_ok, R.sure_ok, R.sure_err, R.sure_stuck, O.of_ok, O.of_err, O.of_stuck, O.thn_nx, O.thn_rt, O.thn_bk, O.thn_ct, O.thn_err, O.thn_rto, O.lp_nx, O.lp_ct, O.lp_bk, O.lp_rt, O.lp_rto, O.lp_err, fin_nx, fin_rt, fin_err, asB_b, o_add, o_addI, o_sub, o_neg, o_lt, o_le, o_gt, o_ge, o_eqI, o_neI, o_eqS, o_neS, o_inS, o_lenL, o_lenT, o_int, o_itS, o_itL, o_itT, o_truL, o_truB, o_truI, List.set_cons_zero, List.set_cons_succ, List.length_cons, List.length_nil, if_true, if_false, Bool.not_true, Bool.not_false, Bool.false_eq_true, Option.isSome_some, Option.isSome_none, Nat.reduceAdd, Nat.zero_add, decide_true, decide_false, e_gT, e_gsC, e_gsN, e_callR0, e_callN, Nat.reduceEqDiff, lit_0, lit_1, lit_2, lit_3, lit_4, lit_5, lit_6, lit_7, lit_8, lit_9, lit_10, lit_11, lit_12, lit_13, lit_14, lit_15, lit_16, lit_17, lit_18, lit_19, lit_20, lit_21, lit_22, lit_23, cl_0, cl_1, cl_2, cl_3, cl_4, cl_5, cl_6, cl_7, cl_8, cl_9, cl_10, cl_11, cl_12, cl_13, cl_14, cl_15, cl_16, cl_17, cl_18, cl_19, cl_20, cl_21, cl_22, cl_23, List.nil_append]

end Law
end
end
section
set_option Elab.async false
set_option linter.all false
set_option maxRecDepth 100000
set_option autoImplicit false
set_option maxHeartbeats 4000000
noncomputable section
namespace Law
open PySem DW L2
open SX (S S_tl S_len S_cat)
theorem r_letters_of {g : Int} (h1 : 1 ≤ g) (h2 : g ≤ 3) : m_letters_of [.int g] = .ok (.str (S (lt g))) := by
  show fin (b_letters_of [some (.sh (.int g))]) = _
  unfold b_letters_of
  have e1 : decide (g < 1) = false := decide_eq_false (by omega)
  have e2 : decide (3 < g) = false := decide_eq_false (by omega)
  simp -implicitDefEqProofs only [e_sCons, e_sNil, e_sBreak, e_sCont, e_sRet, e_sRetN, e_sExpr, e_sIf, e_sAsg, e_sOwn, e_sFrz, e_sRaise, e_sFor, e_loop_nil, e_mC, e_m1, e_m2, e_mF, e_mCall, e_mM1, e_aNil, e_aCons, e_aLst, e_mTup, e_mLst, e_mN, e_mT, e_mTru, e_mAndT, e_mOrT, e_mNotT, e_mAnd, e_mOr, e_mNot, e_mIf, e_mChain, e_iSeq, e_iRange1, e_iRange2, e_oNone, e_oSome, e_mSl, e_mYes, e_mLc, e_gN, v0, vS, p0, p0o, pS, f0, f0s, f0n, fS, R.bind_ok, R.bind_err, R.bind_stuck, R.quiet_ok, R.sure_ok, R.sure_err, R.sure_stuck, O.of_ok, O.of_err, O.of_stuck, O.thn_nx, O.thn_rt, O.thn_bk, O.thn_ct, O.thn_err, O.thn_rto, O.lp_nx, O.lp_ct, O.lp_bk, O.lp_rt, O.lp_rto, O.lp_err, fin_nx, fin_rt, fin_err, asB_b, o_add, o_addI, o_sub, o_neg, o_lt, o_le, o_gt, o_ge, o_eqI, o_neI, o_eqS, o_neS, o_inS, o_lenL, o_lenT, o_int, o_itS, o_itL, o_itT, o_truL, o_truB, o_truI, List.set_cons_zero, List.set_cons_succ, List.length_cons, List.length_nil, if_true, if_false, Bool.not_true, Bool.not_false, Bool.false_eq_true, Option.isSome_some, Option.isSome_none, Nat.reduceAdd, Nat.zero_add, decide_true, decide_false, e_gT, e_gsC, e_gsN, e_callR0, e_callN, Nat.reduceEqDiff, lit_0, lit_1, lit_2, lit_3, lit_4, lit_5, lit_6, lit_7, lit_8, lit_9, lit_10, lit_11, lit_12, lit_13, lit_14, lit_15, lit_16, lit_17, lit_18, lit_19, lit_20, lit_21, lit_22, lit_23, cl_0, cl_1, cl_2, cl_3, cl_4, cl_5, cl_6, cl_7, cl_8, cl_9, cl_10, cl_11, cl_12, cl_13, cl_14, cl_15, cl_16, cl_17, cl_18, cl_19, cl_20, cl_21, cl_22, cl_23, e1, e2, o_mulS (show (2 : Int).natAbs < 2 ^ 64 by decide) (show g.natAbs < 2 ^ 64 by omega), o_slS (show L6.length ≤ 16777216 by decide), cut_lt h1 h2]
theorem r_letters_of_bad {g : Int} (h : g < 1 ∨ 3 < g) : m_letters_of [.int g] = .err ("BadNumber", []) := by
  show fin (b_letters_of [some (.sh (.int g))]) = _
  unfold b_letters_of
  rcases h with h | h
  · simp -implicitDefEqProofs only [e_sCons, e_sNil, e_sBreak, e_sCont, e_sRet, e_sRetN, e_sExpr, e_sIf, e_sAsg, e_sOwn, e_sFrz, e_sRaise, e_sFor, e_loop_nil, e_mC, e_m1, e_m2, e_mF, e_mCall, e_mM1, e_aNil, e_aCons, e_aLst, e_mTup, e_mLst, e_mN, e_mT, e_mTru, e_mAndT, e_mOrT, e_mNotT, e_mAnd, e_mOr, e_mNot, e_mIf, e_mChain, e_iSeq, e_iRange1, e_iRange2, e_oNone, e_oSome, e_mSl, e_mYes, e_mLc, e_gN, v0, vS, p0, p0o, pS, f0, f0s, f0n, fS, R.bind_ok, R.bind_err, R.bind_stuck, R.quiet_ok, R.sure_ok, R.sure_err, R.sure_stuck, O.of_ok, O.of_err, O.of_stuck, O.thn_nx, O.thn_rt, O.thn_bk, O.thn_ct, O.thn_err, O.thn_rto, O.lp_nx, O.lp_ct, O.lp_bk, O.lp_rt, O.lp_rto, O.lp_err, fin_nx, fin_rt, fin_err, asB_b, o_add, o_addI, o_sub, o_neg, o_lt, o_le, o_gt, o_ge, o_eqI, o_neI, o_eqS, o_neS, o_inS, o_lenL, o_lenT, o_int, o_itS, o_itL, o_itT, o_truL, o_truB, o_truI, List.set_cons_zero, List.set_cons_succ, List.length_cons, List.length_nil, if_true, if_false, Bool.not_true, Bool.not_false, Bool.false_eq_true, Option.isSome_some, Option.isSome_none, Nat.reduceAdd, Nat.zero_add, decide_true, decide_false, e_gT, e_gsC, e_gsN, e_callR0, e_callN, Nat.reduceEqDiff, lit_0, lit_1, lit_2, lit_3, lit_4, lit_5, lit_6, lit_7, lit_8, lit_9, lit_10, lit_11, lit_12, lit_13, lit_14, lit_15, lit_16, lit_17, lit_18, lit_19, lit_20, lit_21, lit_22, lit_23, cl_0, cl_1, cl_2, cl_3, cl_4, cl_5, cl_6, cl_7, cl_8, cl_9, cl_10, cl_11, cl_12, cl_13, cl_14, cl_15, cl_16, cl_17, cl_18, cl_19, cl_20, cl_21, cl_22, cl_23, decide_eq_true h]
  · by_cases h2 : g < 1
    · simp -implicitDefEqProofs only [e_sCons, e_sNil, e_sBreak, e_sCont, e_sRet, e_sRetN, e_sExpr, e_sIf, e_sAsg, e_sOwn, e_sFrz, e_sRaise, e_sFor, e_loop_nil, e_mC, e_m1, e_m2, e_mF, e_mCall, e_mM1, e_aNil, e_aCons, e_aLst, e_mTup, e_mLst, e_mN, e_mT, e_mTru, e_mAndT, e_mOrT, e_mNotT, e_mAnd, e_mOr, e_mNot, e_mIf, e_mChain, e_iSeq, e_iRange1, e_iRange2, e_oNone, e_oSome, e_mSl, e_mYes, e_mLc, e_gN, v0, vS, p0, p0o, pS, f0, f0s, f0n, fS, R.bind_ok, R.bind_err, R.bind_stuck, R.quiet_ok, R.sure_ok, R.sure_err, R.sure_stuck, O.of_ok, O.of_err, O.of_stuck, O.thn_nx, O.thn_rt, O.thn_bk, O.thn_ct, O.thn_err, O.thn_rto, O.lp_nx, O.lp_ct, O.lp_bk, O.lp_rt, O.lp_rto, O.lp_err, fin_nx, fin_rt, fin_err, asB_b, o_add, o_addI, o_sub, o_neg, o_lt, o_le, o_gt, o_ge, o_eqI, o_neI, o_eqS, o_neS, o_inS, o_lenL, o_lenT, o_int, o_itS, o_itL, o_itT, o_truL, o_truB, o_truI, List.set_cons_zero, List.set_cons_succ, List.length_cons, List.length_nil, if_true, if_false, Bool.not_true, Bool.not_false, Bool.false_eq_true, Option.isSome_some, Option.isSome_none, Nat.reduceAdd, Nat.zero_add, decide_true, decide_false, e_gT, e_gsC, e_gsN, e_callR0, e_callN, Nat.reduceEqDiff, lit_0, lit_1, lit_2, lit_3, lit_4, lit_5, lit_6, lit_7, lit_8, lit_9, lit_10, lit_11, lit_12, lit_13, lit_14, lit_15, lit_16, lit_17, lit_18, lit_19, lit_20, lit_21, lit_22, lit_23, cl_0, cl_1, cl_2, cl_3, cl_4, cl_5, cl_6, cl_7, cl_8, cl_9, cl_10, cl_11, cl_12, cl_13, cl_14, cl_15, cl_16, cl_17, cl_18, cl_19, cl_20, cl_21, cl_22, cl_23, decide_eq_true h2]
    · simp -implicitDefEqProofs only [e_sCons, e_sNil, e_sBreak, e_sCont, e_sRet, e_sRetN, e_sExpr, e_sIf, e_sAsg, e_sOwn, e_sFrz, e_sRaise, e_sFor, e_loop_nil, e_mC, e_m1, e_m2, e_mF, e_mCall, e_mM1, e_aNil, e_aCons, e_aLst, e_mTup, e_mLst, e_mN, e_mT, e_mTru, e_mAndT, e_mOrT, e_mNotT, e_mAnd, e_mOr, e_mNot, e_mIf, e_mChain, e_iSeq, e_iRange1, e_iRange2, e_oNone, e_oSome, e_mSl, e_mYes, e_mLc, e_gN, v0, vS, p0, p0o, pS, f0, f0s, f0n, fS, R.bind_ok, R.bind_err, R.bind_stuck, R.quiet_ok, R.sure_ok, R.sure_err, R.sure_stuck, O.of_ok, O.of_err, O.of_stuck, O.thn_nx, O.thn_rt, O.thn_bk, O.thn_ct, O.thn_err, O.thn_rto, O.lp_nx, O.lp_ct, O.lp_bk, O.lp_rt, O.lp_rto, O.lp_err, fin_nx, fin_rt, fin_err, asB_b, o_add, o_addI, o_sub, o_neg, o_lt, o_le, o_gt, o_ge, o_eqI, o_neI, o_eqS, o_neS, o_inS, o_lenL, o_lenT, o_int, o_itS, o_itL, o_itT, o_truL, o_truB, o_truI, List.set_cons_zero, List.set_cons_succ, List.length_cons, List.length_nil, if_true, if_false, Bool.not_true, Bool.not_false, Bool.false_eq_true, Option.isSome_some, Option.isSome_none, Nat.reduceAdd, Nat.zero_add, decide_true, decide_false, e_gT, e_gsC, e_gsN, e_callR0, e_callN, Nat.reduceEqDiff, lit_0, lit_1, lit_2, lit_3, lit_4, lit_5, lit_6, lit_7, lit_8, lit_9, lit_10, lit_11, lit_12, lit_13, lit_14, lit_15, lit_16, lit_17, lit_18, lit_19, lit_20, lit_21, lit_22, lit_23, cl_0, cl_1, cl_2, cl_3, cl_4, cl_5, cl_6, cl_7, cl_8, cl_9, cl_10, cl_11, cl_12, cl_13, cl_14, cl_15, cl_16, cl_17, cl_18, cl_19, cl_20, cl_21, cl_22, cl_23, decide_eq_true h, decide_eq_false h2]

end Law
end
end
section
set_option Elab.async false
set_option linter.all false
set_option maxRecDepth 100000
set_option autoImplicit false
set_option maxHeartbeats 4000000
noncomputable section
namespace Law
open PySem DW L2
open SX (S S_tl S_len S_cat)
theorem r_is_word {g : Int} {t : List Nat} (h1 : 1 ≤ g) (h2 : g ≤ 3) (hl : t.length ≤ 1000000) : m_is_word [.int g, .str (S t)] = .ok (.bool (okw g t)) := by
  have hz := sizeLine_eq
  show fin (b_is_word [some (.sh (.int g)), some (.sh (.str (S t))), none, none]) = _
  unfold b_is_word
  simp -implicitDefEqProofs only [e_sCons, e_sNil, e_sBreak, e_sCont, e_sRet, e_sRetN, e_sExpr, e_sIf, e_sAsg, e_sOwn, e_sFrz, e_sRaise, e_sFor, e_loop_nil, e_mC, e_m1, e_m2, e_mF, e_mCall, e_mM1, e_aNil, e_aCons, e_aLst, e_mTup, e_mLst, e_mN, e_mT, e_mTru, e_mAndT, e_mOrT, e_mNotT, e_mAnd, e_mOr, e_mNot, e_mIf, e_mChain, e_iSeq, e_iRange1, e_iRange2, e_oNone, e_oSome, e_mSl, e_mYes, e_mLc, e_gN, v0, vS, p0, p0o, pS, f0, f0s, f0n, fS, R.bind_ok, R.bind_err, R.bind_stuck, R.quiet_ok, R.sure_ok, R.sure_err, R.sure_stuck, O.of_ok, O.of_err, O.of_stuck, O.thn_nx, O.thn_rt, O.thn_bk, O.thn_ct, O.thn_err, O.thn_rto, O.lp_nx, O.lp_ct, O.lp_bk, O.lp_rt, O.lp_rto, O.lp_err, fin_nx, fin_rt, fin_err, asB_b, o_add, o_addI, o_sub, o_neg, o_lt, o_le, o_gt, o_ge, o_eqI, o_neI, o_eqS, o_neS, o_inS, o_lenL, o_lenT, o_int, o_itS, o_itL, o_itT, o_truL, o_truB, o_truI, List.set_cons_zero, List.set_cons_succ, List.length_cons, List.length_nil, if_true, if_false, Bool.not_true, Bool.not_false, Bool.false_eq_true, Option.isSome_some, Option.isSome_none, Nat.reduceAdd, Nat.zero_add, decide_true, decide_false, e_gT, e_gsC, e_gsN, e_callR0, e_callN, Nat.reduceEqDiff, lit_0, lit_1, lit_2, lit_3, lit_4, lit_5, lit_6, lit_7, lit_8, lit_9, lit_10, lit_11, lit_12, lit_13, lit_14, lit_15, lit_16, lit_17, lit_18, lit_19, lit_20, lit_21, lit_22, lit_23, cl_0, cl_1, cl_2, cl_3, cl_4, cl_5, cl_6, cl_7, cl_8, cl_9, cl_10, cl_11, cl_12, cl_13, cl_14, cl_15, cl_16, cl_17, cl_18, cl_19, cl_20, cl_21, cl_22, cl_23, r_letters_of h1 h2]
  have e : lcLoop (gN 3) mYes ce_is_word_1 (wipeD (clean [some (.sh (.int g)), some (.sh (.str (S t))), some (.sh (.str (S (lt g)))), none]) [3]) (t.map one') = .ok ((t.map one').map fun d => match d with | .str z => .bool (decide (z.cps.toList.getD 0 0 ∈ lt g)) | _ => .none) := by
    refine lc_map _ fun d hd => ?_
    obtain ⟨c, _, rfl⟩ := List.mem_map.mp hd
    show ce_is_word_1 [some (.sh (.int g)), some (.sh (.str (S t))), some (.sh (.str (S (lt g)))), some (.sh (one c))] = _
    unfold ce_is_word_1
    simp -implicitDefEqProofs only [e_sCons, e_sNil, e_sBreak, e_sCont, e_sRet, e_sRetN, e_sExpr, e_sIf, e_sAsg, e_sOwn, e_sFrz, e_sRaise, e_sFor, e_loop_nil, e_mC, e_m1, e_m2, e_mF, e_mCall, e_mM1, e_aNil, e_aCons, e_aLst, e_mTup, e_mLst, e_mN, e_mT, e_mTru, e_mAndT, e_mOrT, e_mNotT, e_mAnd, e_mOr, e_mNot, e_mIf, e_mChain, e_iSeq, e_iRange1, e_iRange2, e_oNone, e_oSome, e_mSl, e_mYes, e_mLc, e_gN, v0, vS, p0, p0o, pS, f0, f0s, f0n, fS, R.bind_ok, R.bind_err, R.bind_stuck, R.quiet_ok, R.sure_ok, R.sure_err, R.sure_stuck, O.of_ok, O.of_err, O.of_stuck, O.thn_nx, O.thn_rt, O.thn_bk, O.thn_ct, O.thn_err, O.thn_rto, O.lp_nx, O.lp_ct, O.lp_bk, O.lp_rt, O.lp_rto, O.lp_err, fin_nx, fin_rt, fin_err, asB_b, o_add, o_addI, o_sub, o_neg, o_lt, o_le, o_gt, o_ge, o_eqI, o_neI, o_eqS, o_neS, o_inS, o_lenL, o_lenT, o_int, o_itS, o_itL, o_itT, o_truL, o_truB, o_truI, List.set_cons_zero, List.set_cons_succ, List.length_cons, List.length_nil, if_true, if_false, Bool.not_true, Bool.not_false, Bool.false_eq_true, Option.isSome_some, Option.isSome_none, Nat.reduceAdd, Nat.zero_add, decide_true, decide_false, e_gT, e_gsC, e_gsN, e_callR0, e_callN, Nat.reduceEqDiff, lit_0, lit_1, lit_2, lit_3, lit_4, lit_5, lit_6, lit_7, lit_8, lit_9, lit_10, lit_11, lit_12, lit_13, lit_14, lit_15, lit_16, lit_17, lit_18, lit_19, lit_20, lit_21, lit_22, lit_23, cl_0, cl_1, cl_2, cl_3, cl_4, cl_5, cl_6, cl_7, cl_8, cl_9, cl_10, cl_11, cl_12, cl_13, cl_14, cl_15, cl_16, cl_17, cl_18, cl_19, cl_20, cl_21, cl_22, cl_23]
    rfl
  rw [if_pos (by rw [List.length_map, hz]; omega), e]
  simp -implicitDefEqProofs only [e_sCons, e_sNil, e_sBreak, e_sCont, e_sRet, e_sRetN, e_sExpr, e_sIf, e_sAsg, e_sOwn, e_sFrz, e_sRaise, e_sFor, e_loop_nil, e_mC, e_m1, e_m2, e_mF, e_mCall, e_mM1, e_aNil, e_aCons, e_aLst, e_mTup, e_mLst, e_mN, e_mT, e_mTru, e_mAndT, e_mOrT, e_mNotT, e_mAnd, e_mOr, e_mNot, e_mIf, e_mChain, e_iSeq, e_iRange1, e_iRange2, e_oNone, e_oSome, e_mSl, e_mYes, e_mLc, e_gN, v0, vS, p0, p0o, pS, f0, f0s, f0n, fS, R.bind_ok, R.bind_err, R.bind_stuck, R.quiet_ok, R.sure_ok, R.sure_err, R.sure_stuck, O.of_ok, O.of_err, O.of_stuck, O.thn_nx, O.thn_rt, O.thn_bk, O.thn_ct, O.thn_err, O.thn_rto, O.lp_nx, O.lp_ct, O.lp_bk, O.lp_rt, O.lp_rto, O.lp_err, fin_nx, fin_rt, fin_err, asB_b, o_add, o_addI, o_sub, o_neg, o_lt, o_le, o_gt, o_ge, o_eqI, o_neI, o_eqS, o_neS, o_inS, o_lenL, o_lenT, o_int, o_itS, o_itL, o_itT, o_truL, o_truB, o_truI, List.set_cons_zero, List.set_cons_succ, List.length_cons, List.length_nil, if_true, if_false, Bool.not_true, Bool.not_false, Bool.false_eq_true, Option.isSome_some, Option.isSome_none, Nat.reduceAdd, Nat.zero_add, decide_true, decide_false, e_gT, e_gsC, e_gsN, e_callR0, e_callN, Nat.reduceEqDiff, lit_0, lit_1, lit_2, lit_3, lit_4, lit_5, lit_6, lit_7, lit_8, lit_9, lit_10, lit_11, lit_12, lit_13, lit_14, lit_15, lit_16, lit_17, lit_18, lit_19, lit_20, lit_21, lit_22, lit_23, cl_0, cl_1, cl_2, cl_3, cl_4, cl_5, cl_6, cl_7, cl_8, cl_9, cl_10, cl_11, cl_12, cl_13, cl_14, cl_15, cl_16, cl_17, cl_18, cl_19, cl_20, cl_21, cl_22, cl_23]
  have e2 : ((t.map one').map fun d => match d with | .str z => PyData.bool (decide (z.cps.toList.getD 0 0 ∈ lt g)) | _ => .none) = (t.map fun c => decide (c ∈ lt g)).map PyData.bool := by
    rw [List.map_map, List.map_map]
    rfl
  rw [e2, o_all]
  simp -implicitDefEqProofs only [e_sCons, e_sNil, e_sBreak, e_sCont, e_sRet, e_sRetN, e_sExpr, e_sIf, e_sAsg, e_sOwn, e_sFrz, e_sRaise, e_sFor, e_loop_nil, e_mC, e_m1, e_m2, e_mF, e_mCall, e_mM1, e_aNil, e_aCons, e_aLst, e_mTup, e_mLst, e_mN, e_mT, e_mTru, e_mAndT, e_mOrT, e_mNotT, e_mAnd, e_mOr, e_mNot, e_mIf, e_mChain, e_iSeq, e_iRange1, e_iRange2, e_oNone, e_oSome, e_mSl, e_mYes, e_mLc, e_gN, v0, vS, p0, p0o, pS, f0, f0s, f0n, fS, R.bind_ok, R.bind_err, R.bind_stuck, R.quiet_ok, R.sure_ok, R.sure_err, R.sure_stuck, O.of_ok, O.of_err, O.of_stuck, O.thn_nx, O.thn_rt, O.thn_bk, O.thn_ct, O.thn_err, O.thn_rto, O.lp_nx, O.lp_ct, O.lp_bk, O.lp_rt, O.lp_rto, O.lp_err, fin_nx, fin_rt, fin_err, asB_b, o_add, o_addI, o_sub, o_neg, o_lt, o_le, o_gt, o_ge, o_eqI, o_neI, o_eqS, o_neS, o_inS, o_lenL, o_lenT, o_int, o_itS, o_itL, o_itT, o_truL, o_truB, o_truI, List.set_cons_zero, List.set_cons_succ, List.length_cons, List.length_nil, if_true, if_false, Bool.not_true, Bool.not_false, Bool.false_eq_true, Option.isSome_some, Option.isSome_none, Nat.reduceAdd, Nat.zero_add, decide_true, decide_false, e_gT, e_gsC, e_gsN, e_callR0, e_callN, Nat.reduceEqDiff, lit_0, lit_1, lit_2, lit_3, lit_4, lit_5, lit_6, lit_7, lit_8, lit_9, lit_10, lit_11, lit_12, lit_13, lit_14, lit_15, lit_16, lit_17, lit_18, lit_19, lit_20, lit_21, lit_22, lit_23, cl_0, cl_1, cl_2, cl_3, cl_4, cl_5, cl_6, cl_7, cl_8, cl_9, cl_10, cl_11, cl_12, cl_13, cl_14, cl_15, cl_16, cl_17, cl_18, cl_19, cl_20, cl_21, cl_22, cl_23]
  rw [List.all_map]
  rfl
theorem r_is_word_bad {g : Int} {t : Str} (h : g < 1 ∨ 3 < g) : m_is_word [.int g, .str t] = .err ("BadNumber", []) := by
  show fin (b_is_word [some (.sh (.int g)), some (.sh (.str t)), none, none]) = _
  unfold b_is_word
  simp -implicitDefEqProofs only [e_sCons, e_sNil, e_sBreak, e_sCont, e_sRet, e_sRetN, e_sExpr, e_sIf, e_sAsg, e_sOwn, e_sFrz, e_sRaise, e_sFor, e_loop_nil, e_mC, e_m1, e_m2, e_mF, e_mCall, e_mM1, e_aNil, e_aCons, e_aLst, e_mTup, e_mLst, e_mN, e_mT, e_mTru, e_mAndT, e_mOrT, e_mNotT, e_mAnd, e_mOr, e_mNot, e_mIf, e_mChain, e_iSeq, e_iRange1, e_iRange2, e_oNone, e_oSome, e_mSl, e_mYes, e_mLc, e_gN, v0, vS, p0, p0o, pS, f0, f0s, f0n, fS, R.bind_ok, R.bind_err, R.bind_stuck, R.quiet_ok, R.sure_ok, R.sure_err, R.sure_stuck, O.of_ok, O.of_err, O.of_stuck, O.thn_nx, O.thn_rt, O.thn_bk, O.thn_ct, O.thn_err, O.thn_rto, O.lp_nx, O.lp_ct, O.lp_bk, O.lp_rt, O.lp_rto, O.lp_err, fin_nx, fin_rt, fin_err, asB_b, o_add, o_addI, o_sub, o_neg, o_lt, o_le, o_gt, o_ge, o_eqI, o_neI, o_eqS, o_neS, o_inS, o_lenL, o_lenT, o_int, o_itS, o_itL, o_itT, o_truL, o_truB, o_truI, List.set_cons_zero, List.set_cons_succ, List.length_cons, List.length_nil, if_true, if_false, Bool.not_true, Bool.not_false, Bool.false_eq_true, Option.isSome_some, Option.isSome_none, Nat.reduceAdd, Nat.zero_add, decide_true, decide_false, e_gT, e_gsC, e_gsN, e_callR0, e_callN, Nat.reduceEqDiff, lit_0, lit_1, lit_2, lit_3, lit_4, lit_5, lit_6, lit_7, lit_8, lit_9, lit_10, lit_11, lit_12, lit_13, lit_14, lit_15, lit_16, lit_17, lit_18, lit_19, lit_20, lit_21, lit_22, lit_23, cl_0, cl_1, cl_2, cl_3, cl_4, cl_5, cl_6, cl_7, cl_8, cl_9, cl_10, cl_11, cl_12, cl_13, cl_14, cl_15, cl_16, cl_17, cl_18, cl_19, cl_20, cl_21, cl_22, cl_23, r_letters_of_bad h]

end Law
end
end
section
set_option Elab.async false
set_option linter.all false
set_option maxRecDepth 100000
set_option autoImplicit false
set_option maxHeartbeats 4000000
noncomputable section
namespace Law
open PySem DW L2
open SX (S S_tl S_len S_cat)
theorem r__is_relator {g : Int} {r : List Nat} (h1 : 1 ≤ g) (h2 : g ≤ 3) (hl : r.length ≤ 1000000) : m__is_relator [.int g, sD r] = .ok (.bool (relB g r)) := by
  have hz := sizeLine_eq
  refine eq_ok ?_
  show RP False (fin (b__is_relator [some (.sh (.int g)), some (.sh (sD r))])) _ _
  unfold b__is_relator relB
  simp -implicitDefEqProofs only [RP_ok, RP_err, RP_stuck, RP_bind, RP_quiet, RP_sure, RP_ite, RP_fin, RP_finN, OP_nx, OP_rt, OP_rto, OP_bk, OP_ct, OP_err, OP_stuck, OP_of, OP_thn, OP_lp, OP_ite, OP_tryN, OP_tryAs, OP_endS, OP_endI, true_implies, false_implies, not_true_eq_false, not_false_eq_true, and_true, true_and, implies_true, wipe_nil, wipe_cons, List.length_map, e_callR, e_callX, e_isX, e_xf, e_sNext, e_sApp, e_sPop, e_sRev, e_sRetOwn, e_sExt, e_sGive, e_sSetIx, e_hdl, hdl_nil, e_hdlAs, ownAt_own, rndAt_rnd, excAt_exc, someD_some, caseB_t, caseB_f, intD_int, clean_nil, clean_sh, clean_no, clean_own, List.getElem?_cons_zero, List.getElem?_cons_succ, decide_eq_true_eq, Bool.not_eq_true', List.length_append, Option.getD_some, ixT0, ixT1, ixT2, ixT3, ixL0, ixL1, ixL2, ixL3, o_isB, o_isL, o_isT, o_isI, o_isS, o_niPM, o_niPL, o_max2, o_min2, o_abs, o_tupL, o_tupT, o_lofL, o_lofT, e_aListOf, e_aRep, sizeLine_eq, decide_eq_false_iff_not, Classical.not_not, Nat.reduceLeDiff, Nat.zero_le, Int.reduceLE, Int.reduceLT, Int.reduceEq, Nat.reduceLT, List.nil_append, List.cons_append, cst0, cst1, cst2, cst3, cst4, cst5, cst6, cst7, cst8, cst9, cst10, cst11, cst12, o_eqB, o_neB, reduceCtorEq, Bool.true_eq_false, e_iEnumS, e_iZipS, o_enum, o_zipL, o_zipT, e_sRaise1, e_sPar, e_sPar3, e_gTL, o_isBB, o_notBB, e_sCons, e_sNil, e_sBreak, e_sCont, e_sRet, e_sRetN, e_sExpr, e_sIf, e_sAsg, e_sOwn, e_sFrz, e_sRaise, e_sFor, e_loop_nil, e_mC, e_m1, e_m2, e_mF, e_mCall, e_mM1, e_aNil, e_aCons, e_aLst, e_mTup, e_mLst, e_mN, e_mT, e_mTru, e_mAndT, e_mOrT, e_mNotT, e_mAnd, e_mOr, e_mNot, e_mIf, e_mChain, e_iSeq, e_iRange1, e_iRange2, e_oNone, e_oSome, e_mSl, e_mYes, e_mLc, e_gN, v0, vS, p0, p0o, pS, f0, f0s, f0n, fS, R.bind_ok, R.bind_err, R.bind_stuck, R.quiet_ok, R.sure_ok, R.sure_err, R.sure_stuck, O.of_ok, O.of_err, O.of_stuck, O.thn_nx, O.thn_rt, O.thn_bk, O.thn_ct, O.thn_err, O.thn_rto, O.lp_nx, O.lp_ct, O.lp_bk, O.lp_rt, O.lp_rto, O.lp_err, fin_nx, fin_rt, fin_err, asB_b, o_add, o_addI, o_sub, o_neg, o_lt, o_le, o_gt, o_ge, o_eqI, o_neI, o_eqS, o_neS, o_inS, o_lenL, o_lenT, o_int, o_itS, o_itL, o_itT, o_truL, o_truB, o_truI, List.set_cons_zero, List.set_cons_succ, List.length_cons, List.length_nil, if_true, if_false, Bool.not_true, Bool.not_false, Bool.false_eq_true, Option.isSome_some, Option.isSome_none, Nat.reduceAdd, Nat.zero_add, decide_true, decide_false, e_gT, e_gsC, e_gsN, e_callR0, e_callN, Nat.reduceEqDiff, lit_0, lit_1, lit_2, lit_3, lit_4, lit_5, lit_6, lit_7, lit_8, lit_9, lit_10, lit_11, lit_12, lit_13, lit_14, lit_15, lit_16, lit_17, lit_18, lit_19, lit_20, lit_21, lit_22, lit_23, cl_0, cl_1, cl_2, cl_3, cl_4, cl_5, cl_6, cl_7, cl_8, cl_9, cl_10, cl_11, cl_12, cl_13, cl_14, cl_15, cl_16, cl_17, cl_18, cl_19, cl_20, cl_21, cl_22, cl_23, o_lenS, r_is_word h1 h2 hl]
  grind

end Law
end
end
section
set_option Elab.async false
set_option linter.all false
set_option maxRecDepth 100000
set_option autoImplicit false
set_option maxHeartbeats 4000000
noncomputable section
namespace Law
open PySem DW L2
open SX (S S_tl S_len S_cat)
theorem r_is_presentation {g : Int} {rs : List (List Nat)} (hl : ∀ r ∈ rs, r.length ≤ 1000000) (hn : rs.length ≤ 1000000) : m_is_presentation [PV g rs] = .ok (.bool (presB g rs)) := by
  have hz := sizeLine_eq
  refine eq_ok ?_
  show RP False (fin (b_is_presentation [some (.sh (PV g rs)), none, none, none])) _ _
  unfold b_is_presentation presB
  simp -implicitDefEqProofs only [RP_ok, RP_err, RP_stuck, RP_bind, RP_quiet, RP_sure, RP_ite, RP_fin, RP_finN, OP_nx, OP_rt, OP_rto, OP_bk, OP_ct, OP_err, OP_stuck, OP_of, OP_thn, OP_lp, OP_ite, OP_tryN, OP_tryAs, OP_endS, OP_endI, true_implies, false_implies, not_true_eq_false, not_false_eq_true, and_true, true_and, implies_true, wipe_nil, wipe_cons, List.length_map, e_callR, e_callX, e_isX, e_xf, e_sNext, e_sApp, e_sPop, e_sRev, e_sRetOwn, e_sExt, e_sGive, e_sSetIx, e_hdl, hdl_nil, e_hdlAs, ownAt_own, rndAt_rnd, excAt_exc, someD_some, caseB_t, caseB_f, intD_int, clean_nil, clean_sh, clean_no, clean_own, List.getElem?_cons_zero, List.getElem?_cons_succ, decide_eq_true_eq, Bool.not_eq_true', List.length_append, Option.getD_some, ixT0, ixT1, ixT2, ixT3, ixL0, ixL1, ixL2, ixL3, o_isB, o_isL, o_isT, o_isI, o_isS, o_niPM, o_niPL, o_max2, o_min2, o_abs, o_tupL, o_tupT, o_lofL, o_lofT, e_aListOf, e_aRep, sizeLine_eq, decide_eq_false_iff_not, Classical.not_not, Nat.reduceLeDiff, Nat.zero_le, Int.reduceLE, Int.reduceLT, Int.reduceEq, Nat.reduceLT, List.nil_append, List.cons_append, cst0, cst1, cst2, cst3, cst4, cst5, cst6, cst7, cst8, cst9, cst10, cst11, cst12, o_eqB, o_neB, reduceCtorEq, Bool.true_eq_false, e_iEnumS, e_iZipS, o_enum, o_zipL, o_zipT, e_sRaise1, e_sPar, e_sPar3, e_gTL, o_isBB, o_notBB, e_sCons, e_sNil, e_sBreak, e_sCont, e_sRet, e_sRetN, e_sExpr, e_sIf, e_sAsg, e_sOwn, e_sFrz, e_sRaise, e_sFor, e_loop_nil, e_mC, e_m1, e_m2, e_mF, e_mCall, e_mM1, e_aNil, e_aCons, e_aLst, e_mTup, e_mLst, e_mN, e_mT, e_mTru, e_mAndT, e_mOrT, e_mNotT, e_mAnd, e_mOr, e_mNot, e_mIf, e_mChain, e_iSeq, e_iRange1, e_iRange2, e_oNone, e_oSome, e_mSl, e_mYes, e_mLc, e_gN, v0, vS, p0, p0o, pS, f0, f0s, f0n, fS, R.bind_ok, R.bind_err, R.bind_stuck, R.quiet_ok, R.sure_ok, R.sure_err, R.sure_stuck, O.of_ok, O.of_err, O.of_stuck, O.thn_nx, O.thn_rt, O.thn_bk, O.thn_ct, O.thn_err, O.thn_rto, O.lp_nx, O.lp_ct, O.lp_bk, O.lp_rt, O.lp_rto, O.lp_err, fin_nx, fin_rt, fin_err, asB_b, o_add, o_addI, o_sub, o_neg, o_lt, o_le, o_gt, o_ge, o_eqI, o_neI, o_eqS, o_neS, o_inS, o_lenL, o_lenT, o_int, o_itS, o_itL, o_itT, o_truL, o_truB, o_truI, List.set_cons_zero, List.set_cons_succ, List.length_cons, List.length_nil, if_true, if_false, Bool.not_true, Bool.not_false, Bool.false_eq_true, Option.isSome_some, Option.isSome_none, Nat.reduceAdd, Nat.zero_add, decide_true, decide_false, e_gT, e_gsC, e_gsN, e_callR0, e_callN, Nat.reduceEqDiff, lit_0, lit_1, lit_2, lit_3, lit_4, lit_5, lit_6, lit_7, lit_8, lit_9, lit_10, lit_11, lit_12, lit_13, lit_14, lit_15, lit_16, lit_17, lit_18, lit_19, lit_20, lit_21, lit_22, lit_23, cl_0, cl_1, cl_2, cl_3, cl_4, cl_5, cl_6, cl_7, cl_8, cl_9, cl_10, cl_11, cl_12, cl_13, cl_14, cl_15, cl_16, cl_17, cl_18, cl_19, cl_20, cl_21, cl_22, cl_23, o_itT]
  have h8 : (rs.length ≤ 16777216) = True := eq_true (by omega)
  simp only [h8, true_implies, not_true_eq_false, false_implies, and_true]
  refine ⟨fun _ => by grind, fun h1 => ⟨fun _ => by grind, fun h2 => ⟨fun _ => by grind, fun h3 => ?_⟩⟩⟩
  rw [RP_lc (f := fun r => .bool (relB g r)) ?_]
  · rw [o_allM]
    simp -implicitDefEqProofs only [RP_ok, RP_err, RP_stuck, RP_bind, RP_quiet, RP_sure, RP_ite, RP_fin, RP_finN, OP_nx, OP_rt, OP_rto, OP_bk, OP_ct, OP_err, OP_stuck, OP_of, OP_thn, OP_lp, OP_ite, OP_tryN, OP_tryAs, OP_endS, OP_endI, true_implies, false_implies, not_true_eq_false, not_false_eq_true, and_true, true_and, implies_true, wipe_nil, wipe_cons, List.length_map, e_callR, e_callX, e_isX, e_xf, e_sNext, e_sApp, e_sPop, e_sRev, e_sRetOwn, e_sExt, e_sGive, e_sSetIx, e_hdl, hdl_nil, e_hdlAs, ownAt_own, rndAt_rnd, excAt_exc, someD_some, caseB_t, caseB_f, intD_int, clean_nil, clean_sh, clean_no, clean_own, List.getElem?_cons_zero, List.getElem?_cons_succ, decide_eq_true_eq, Bool.not_eq_true', List.length_append, Option.getD_some, ixT0, ixT1, ixT2, ixT3, ixL0, ixL1, ixL2, ixL3, o_isB, o_isL, o_isT, o_isI, o_isS, o_niPM, o_niPL, o_max2, o_min2, o_abs, o_tupL, o_tupT, o_lofL, o_lofT, e_aListOf, e_aRep, sizeLine_eq, decide_eq_false_iff_not, Classical.not_not, Nat.reduceLeDiff, Nat.zero_le, Int.reduceLE, Int.reduceLT, Int.reduceEq, Nat.reduceLT, List.nil_append, List.cons_append, cst0, cst1, cst2, cst3, cst4, cst5, cst6, cst7, cst8, cst9, cst10, cst11, cst12, o_eqB, o_neB, reduceCtorEq, Bool.true_eq_false, e_iEnumS, e_iZipS, o_enum, o_zipL, o_zipT, e_sRaise1, e_sPar, e_sPar3, e_gTL, o_isBB, o_notBB, e_sCons, e_sNil, e_sBreak, e_sCont, e_sRet, e_sRetN, e_sExpr, e_sIf, e_sAsg, e_sOwn, e_sFrz, e_sRaise, e_sFor, e_loop_nil, e_mC, e_m1, e_m2, e_mF, e_mCall, e_mM1, e_aNil, e_aCons, e_aLst, e_mTup, e_mLst, e_mN, e_mT, e_mTru, e_mAndT, e_mOrT, e_mNotT, e_mAnd, e_mOr, e_mNot, e_mIf, e_mChain, e_iSeq, e_iRange1, e_iRange2, e_oNone, e_oSome, e_mSl, e_mYes, e_mLc, e_gN, v0, vS, p0, p0o, pS, f0, f0s, f0n, fS, R.bind_ok, R.bind_err, R.bind_stuck, R.quiet_ok, R.sure_ok, R.sure_err, R.sure_stuck, O.of_ok, O.of_err, O.of_stuck, O.thn_nx, O.thn_rt, O.thn_bk, O.thn_ct, O.thn_err, O.thn_rto, O.lp_nx, O.lp_ct, O.lp_bk, O.lp_rt, O.lp_rto, O.lp_err, fin_nx, fin_rt, fin_err, asB_b, o_add, o_addI, o_sub, o_neg, o_lt, o_le, o_gt, o_ge, o_eqI, o_neI, o_eqS, o_neS, o_inS, o_lenL, o_lenT, o_int, o_itS, o_itL, o_itT, o_truL, o_truB, o_truI, List.set_cons_zero, List.set_cons_succ, List.length_cons, List.length_nil, if_true, if_false, Bool.not_true, Bool.not_false, Bool.false_eq_true, Option.isSome_some, Option.isSome_none, Nat.reduceAdd, Nat.zero_add, decide_true, decide_false, e_gT, e_gsC, e_gsN, e_callR0, e_callN, Nat.reduceEqDiff, lit_0, lit_1, lit_2, lit_3, lit_4, lit_5, lit_6, lit_7, lit_8, lit_9, lit_10, lit_11, lit_12, lit_13, lit_14, lit_15, lit_16, lit_17, lit_18, lit_19, lit_20, lit_21, lit_22, lit_23, cl_0, cl_1, cl_2, cl_3, cl_4, cl_5, cl_6, cl_7, cl_8, cl_9, cl_10, cl_11, cl_12, cl_13, cl_14, cl_15, cl_16, cl_17, cl_18, cl_19, cl_20, cl_21, cl_22, cl_23]
    grind
  · intro r hr
    show ce_is_presentation_1 [_, _, _, some (.sh (sD r))] = _
    unfold ce_is_presentation_1
    simp -implicitDefEqProofs only [e_callR, e_callX, e_isX, e_xf, e_sNext, e_sApp, e_sPop, e_sRev, e_sRetOwn, e_sExt, e_sGive, e_sSetIx, e_hdl, hdl_nil, e_hdlAs, ownAt_own, rndAt_rnd, excAt_exc, someD_some, caseB_t, caseB_f, intD_int, clean_nil, clean_sh, clean_no, clean_own, List.getElem?_cons_zero, List.getElem?_cons_succ, decide_eq_true_eq, Bool.not_eq_true', List.length_append, Option.getD_some, ixT0, ixT1, ixT2, ixT3, ixL0, ixL1, ixL2, ixL3, o_isB, o_isL, o_isT, o_isI, o_isS, o_niPM, o_niPL, o_max2, o_min2, o_abs, o_tupL, o_tupT, o_lofL, o_lofT, e_aListOf, e_aRep, sizeLine_eq, decide_eq_false_iff_not, Classical.not_not, Nat.reduceLeDiff, Nat.zero_le, Int.reduceLE, Int.reduceLT, Int.reduceEq, Nat.reduceLT, List.nil_append, List.cons_append, cst0, cst1, cst2, cst3, cst4, cst5, cst6, cst7, cst8, cst9, cst10, cst11, cst12, o_eqB, o_neB, reduceCtorEq, Bool.true_eq_false, e_iEnumS, e_iZipS, o_enum, o_zipL, o_zipT, e_sRaise1, e_sPar, e_sPar3, e_gTL, o_isBB, o_notBB, e_sCons, e_sNil, e_sBreak, e_sCont, e_sRet, e_sRetN, e_sExpr, e_sIf, e_sAsg, e_sOwn, e_sFrz, e_sRaise, e_sFor, e_loop_nil, e_mC, e_m1, e_m2, e_mF, e_mCall, e_mM1, e_aNil, e_aCons, e_aLst, e_mTup, e_mLst, e_mN, e_mT, e_mTru, e_mAndT, e_mOrT, e_mNotT, e_mAnd, e_mOr, e_mNot, e_mIf, e_mChain, e_iSeq, e_iRange1, e_iRange2, e_oNone, e_oSome, e_mSl, e_mYes, e_mLc, e_gN, v0, vS, p0, p0o, pS, f0, f0s, f0n, fS, R.bind_ok, R.bind_err, R.bind_stuck, R.quiet_ok, R.sure_ok, R.sure_err, R.sure_stuck, O.of_ok, O.of_err, O.of_stuck, O.thn_nx, O.thn_rt, O.thn_bk, O.thn_ct, O.thn_err, O.thn_rto, O.lp_nx, O.lp_ct, O.lp_bk, O.lp_rt, O.lp_rto, O.lp_err, fin_nx, fin_rt, fin_err, asB_b, o_add, o_addI, o_sub, o_neg, o_lt, o_le, o_gt, o_ge, o_eqI, o_neI, o_eqS, o_neS, o_inS, o_lenL, o_lenT, o_int, o_itS, o_itL, o_itT, o_truL, o_truB, o_truI, List.set_cons_zero, List.set_cons_succ, List.length_cons, List.length_nil, if_true, if_false, Bool.not_true, Bool.not_false, Bool.false_eq_true, Option.isSome_some, Option.isSome_none, Nat.reduceAdd, Nat.zero_add, decide_true, decide_false, e_gT, e_gsC, e_gsN, e_callR0, e_callN, Nat.reduceEqDiff, lit_0, lit_1, lit_2, lit_3, lit_4, lit_5, lit_6, lit_7, lit_8, lit_9, lit_10, lit_11, lit_12, lit_13, lit_14, lit_15, lit_16, lit_17, lit_18, lit_19, lit_20, lit_21, lit_22, lit_23, cl_0, cl_1, cl_2, cl_3, cl_4, cl_5, cl_6, cl_7, cl_8, cl_9, cl_10, cl_11, cl_12, cl_13, cl_14, cl_15, cl_16, cl_17, cl_18, cl_19, cl_20, cl_21, cl_22, cl_23, r__is_relator (show 1 ≤ g by omega) (show g ≤ 3 by omega) (hl r hr)]

end Law
end
end
section
set_option Elab.async false
set_option linter.all false
set_option maxRecDepth 100000
set_option autoImplicit false
set_option maxHeartbeats 4000000
noncomputable section
namespace Law
open PySem DW L2
open SX (S S_tl S_len S_cat)
theorem r_check_presentation {g : Int} {rs : List (List Nat)} (hl : ∀ r ∈ rs, r.length ≤ 1000000) (hn : rs.length ≤ 1000000) (h : presB g rs = true) : m_check_presentation [PV g rs] = .ok .none := by
  show fin (b_check_presentation [some (.sh (PV g rs))]) = _
  unfold b_check_presentation
  simp -implicitDefEqProofs only [e_callR, e_callX, e_isX, e_xf, e_sNext, e_sApp, e_sPop, e_sRev, e_sRetOwn, e_sExt, e_sGive, e_sSetIx, e_hdl, hdl_nil, e_hdlAs, ownAt_own, rndAt_rnd, excAt_exc, someD_some, caseB_t, caseB_f, intD_int, clean_nil, clean_sh, clean_no, clean_own, List.getElem?_cons_zero, List.getElem?_cons_succ, decide_eq_true_eq, Bool.not_eq_true', List.length_append, Option.getD_some, ixT0, ixT1, ixT2, ixT3, ixL0, ixL1, ixL2, ixL3, o_isB, o_isL, o_isT, o_isI, o_isS, o_niPM, o_niPL, o_max2, o_min2, o_abs, o_tupL, o_tupT, o_lofL, o_lofT, e_aListOf, e_aRep, sizeLine_eq, decide_eq_false_iff_not, Classical.not_not, Nat.reduceLeDiff, Nat.zero_le, Int.reduceLE, Int.reduceLT, Int.reduceEq, Nat.reduceLT, List.nil_append, List.cons_append, cst0, cst1, cst2, cst3, cst4, cst5, cst6, cst7, cst8, cst9, cst10, cst11, cst12, o_eqB, o_neB, reduceCtorEq, Bool.true_eq_false, e_iEnumS, e_iZipS, o_enum, o_zipL, o_zipT, e_sRaise1, e_sPar, e_sPar3, e_gTL, o_isBB, o_notBB, e_sCons, e_sNil, e_sBreak, e_sCont, e_sRet, e_sRetN, e_sExpr, e_sIf, e_sAsg, e_sOwn, e_sFrz, e_sRaise, e_sFor, e_loop_nil, e_mC, e_m1, e_m2, e_mF, e_mCall, e_mM1, e_aNil, e_aCons, e_aLst, e_mTup, e_mLst, e_mN, e_mT, e_mTru, e_mAndT, e_mOrT, e_mNotT, e_mAnd, e_mOr, e_mNot, e_mIf, e_mChain, e_iSeq, e_iRange1, e_iRange2, e_oNone, e_oSome, e_mSl, e_mYes, e_mLc, e_gN, v0, vS, p0, p0o, pS, f0, f0s, f0n, fS, R.bind_ok, R.bind_err, R.bind_stuck, R.quiet_ok, R.sure_ok, R.sure_err, R.sure_stuck, O.of_ok, O.of_err, O.of_stuck, O.thn_nx, O.thn_rt, O.thn_bk, O.thn_ct, O.thn_err, O.thn_rto, O.lp_nx, O.lp_ct, O.lp_bk, O.lp_rt, O.lp_rto, O.lp_err, fin_nx, fin_rt, fin_err, asB_b, o_add, o_addI, o_sub, o_neg, o_lt, o_le, o_gt, o_ge, o_eqI, o_neI, o_eqS, o_neS, o_inS, o_lenL, o_lenT, o_int, o_itS, o_itL, o_itT, o_truL, o_truB, o_truI, List.set_cons_zero, List.set_cons_succ, List.length_cons, List.length_nil, if_true, if_false, Bool.not_true, Bool.not_false, Bool.false_eq_true, Option.isSome_some, Option.isSome_none, Nat.reduceAdd, Nat.zero_add, decide_true, decide_false, e_gT, e_gsC, e_gsN, e_callR0, e_callN, Nat.reduceEqDiff, lit_0, lit_1, lit_2, lit_3, lit_4, lit_5, lit_6, lit_7, lit_8, lit_9, lit_10, lit_11, lit_12, lit_13, lit_14, lit_15, lit_16, lit_17, lit_18, lit_19, lit_20, lit_21, lit_22, lit_23, cl_0, cl_1, cl_2, cl_3, cl_4, cl_5, cl_6, cl_7, cl_8, cl_9, cl_10, cl_11, cl_12, cl_13, cl_14, cl_15, cl_16, cl_17, cl_18, cl_19, cl_20, cl_21, cl_22, cl_23, r_is_presentation hl hn, h]
theorem r_check_presentation_bad {g : Int} {rs : List (List Nat)} (hl : ∀ r ∈ rs, r.length ≤ 1000000) (hn : rs.length ≤ 1000000) (h : presB g rs = false) : m_check_presentation [PV g rs] = .err ("NotPresentation", []) := by
  show fin (b_check_presentation [some (.sh (PV g rs))]) = _
  unfold b_check_presentation
  simp -implicitDefEqProofs only [e_callR, e_callX, e_isX, e_xf, e_sNext, e_sApp, e_sPop, e_sRev, e_sRetOwn, e_sExt, e_sGive, e_sSetIx, e_hdl, hdl_nil, e_hdlAs, ownAt_own, rndAt_rnd, excAt_exc, someD_some, caseB_t, caseB_f, intD_int, clean_nil, clean_sh, clean_no, clean_own, List.getElem?_cons_zero, List.getElem?_cons_succ, decide_eq_true_eq, Bool.not_eq_true', List.length_append, Option.getD_some, ixT0, ixT1, ixT2, ixT3, ixL0, ixL1, ixL2, ixL3, o_isB, o_isL, o_isT, o_isI, o_isS, o_niPM, o_niPL, o_max2, o_min2, o_abs, o_tupL, o_tupT, o_lofL, o_lofT, e_aListOf, e_aRep, sizeLine_eq, decide_eq_false_iff_not, Classical.not_not, Nat.reduceLeDiff, Nat.zero_le, Int.reduceLE, Int.reduceLT, Int.reduceEq, Nat.reduceLT, List.nil_append, List.cons_append, cst0, cst1, cst2, cst3, cst4, cst5, cst6, cst7, cst8, cst9, cst10, cst11, cst12, o_eqB, o_neB, reduceCtorEq, Bool.true_eq_false, e_iEnumS, e_iZipS, o_enum, o_zipL, o_zipT, e_sRaise1, e_sPar, e_sPar3, e_gTL, o_isBB, o_notBB, e_sCons, e_sNil, e_sBreak, e_sCont, e_sRet, e_sRetN, e_sExpr, e_sIf, e_sAsg, e_sOwn, e_sFrz, e_sRaise, e_sFor, e_loop_nil, e_mC, e_m1, e_m2, e_mF, e_mCall, e_mM1, e_aNil, e_aCons, e_aLst, e_mTup, e_mLst, e_mN, e_mT, e_mTru, e_mAndT, e_mOrT, e_mNotT, e_mAnd, e_mOr, e_mNot, e_mIf, e_mChain, e_iSeq, e_iRange1, e_iRange2, e_oNone, e_oSome, e_mSl, e_mYes, e_mLc, e_gN, v0, vS, p0, p0o, pS, f0, f0s, f0n, fS, R.bind_ok, R.bind_err, R.bind_stuck, R.quiet_ok, R.sure_ok, R.sure_err, R.sure_stuck, O.of_ok, O.of_err, O.of_stuck, O.thn_nx, O.thn_rt, O.thn_bk, O.thn_ct, O.thn_err, O.thn_rto, O.lp_nx, O.lp_ct, O.lp_bk, O.lp_rt, O.lp_rto, O.lp_err, fin_nx, fin_rt, fin_err, asB_b, o_add, o_addI, o_sub, o_neg, o_lt, o_le, o_gt, o_ge, o_eqI, o_neI, o_eqS, o_neS, o_inS, o_lenL, o_lenT, o_int, o_itS, o_itL, o_itT, o_truL, o_truB, o_truI, List.set_cons_zero, List.set_cons_succ, List.length_cons, List.length_nil, if_true, if_false, Bool.not_true, Bool.not_false, Bool.false_eq_true, Option.isSome_some, Option.isSome_none, Nat.reduceAdd, Nat.zero_add, decide_true, decide_false, e_gT, e_gsC, e_gsN, e_callR0, e_callN, Nat.reduceEqDiff, lit_0, lit_1, lit_2, lit_3, lit_4, lit_5, lit_6, lit_7, lit_8, lit_9, lit_10, lit_11, lit_12, lit_13, lit_14, lit_15, lit_16, lit_17, lit_18, lit_19, lit_20, lit_21, lit_22, lit_23, cl_0, cl_1, cl_2, cl_3, cl_4, cl_5, cl_6, cl_7, cl_8, cl_9, cl_10, cl_11, cl_12, cl_13, cl_14, cl_15, cl_16, cl_17, cl_18, cl_19, cl_20, cl_21, cl_22, cl_23, r_is_presentation hl hn, h]

end Law
end
end
section
set_option Elab.async false
set_option linter.all false
set_option maxRecDepth 100000
set_option autoImplicit false
set_option maxHeartbeats 4000000
noncomputable section
namespace Law
open PySem DW L2
open SX (S S_tl S_len S_cat)
def okWd (g : Int) (w : List Nat) : Bool := okw g w && decide (w.length ≤ 200)
theorem r_check_words {g : Int} {rs : List (List Nat)} (hp : Pres g rs) : ∀ (ws : List (List Nat)), (∀ w ∈ ws, w.length ≤ 1000000) → (∀ w ∈ ws, okWd g w = true) → m_check_words [PV g rs, .list (ws.map sD)] = .ok .none := by
  intro ws hl hk
  refine eq_ok ?_
  show RP False (fin (b_check_words [some (.sh (PV g rs)), some (.sh (.list (ws.map sD))), none])) _ _
  unfold b_check_words
  simp -implicitDefEqProofs only [RP_ok, RP_err, RP_stuck, RP_bind, RP_quiet, RP_sure, RP_ite, RP_fin, RP_finN, OP_nx, OP_rt, OP_rto, OP_bk, OP_ct, OP_err, OP_stuck, OP_of, OP_thn, OP_lp, OP_ite, OP_tryN, OP_tryAs, OP_endS, OP_endI, true_implies, false_implies, not_true_eq_false, not_false_eq_true, and_true, true_and, implies_true, wipe_nil, wipe_cons, List.length_map, e_callR, e_callX, e_isX, e_xf, e_sNext, e_sApp, e_sPop, e_sRev, e_sRetOwn, e_sExt, e_sGive, e_sSetIx, e_hdl, hdl_nil, e_hdlAs, ownAt_own, rndAt_rnd, excAt_exc, someD_some, caseB_t, caseB_f, intD_int, clean_nil, clean_sh, clean_no, clean_own, List.getElem?_cons_zero, List.getElem?_cons_succ, decide_eq_true_eq, Bool.not_eq_true', List.length_append, Option.getD_some, ixT0, ixT1, ixT2, ixT3, ixL0, ixL1, ixL2, ixL3, o_isB, o_isL, o_isT, o_isI, o_isS, o_niPM, o_niPL, o_max2, o_min2, o_abs, o_tupL, o_tupT, o_lofL, o_lofT, e_aListOf, e_aRep, sizeLine_eq, decide_eq_false_iff_not, Classical.not_not, Nat.reduceLeDiff, Nat.zero_le, Int.reduceLE, Int.reduceLT, Int.reduceEq, Nat.reduceLT, List.nil_append, List.cons_append, cst0, cst1, cst2, cst3, cst4, cst5, cst6, cst7, cst8, cst9, cst10, cst11, cst12, o_eqB, o_neB, reduceCtorEq, Bool.true_eq_false, e_iEnumS, e_iZipS, o_enum, o_zipL, o_zipT, e_sRaise1, e_sPar, e_sPar3, e_gTL, o_isBB, o_notBB, e_sCons, e_sNil, e_sBreak, e_sCont, e_sRet, e_sRetN, e_sExpr, e_sIf, e_sAsg, e_sOwn, e_sFrz, e_sRaise, e_sFor, e_loop_nil, e_mC, e_m1, e_m2, e_mF, e_mCall, e_mM1, e_aNil, e_aCons, e_aLst, e_mTup, e_mLst, e_mN, e_mT, e_mTru, e_mAndT, e_mOrT, e_mNotT, e_mAnd, e_mOr, e_mNot, e_mIf, e_mChain, e_iSeq, e_iRange1, e_iRange2, e_oNone, e_oSome, e_mSl, e_mYes, e_mLc, e_gN, v0, vS, p0, p0o, pS, f0, f0s, f0n, fS, R.bind_ok, R.bind_err, R.bind_stuck, R.quiet_ok, R.sure_ok, R.sure_err, R.sure_stuck, O.of_ok, O.of_err, O.of_stuck, O.thn_nx, O.thn_rt, O.thn_bk, O.thn_ct, O.thn_err, O.thn_rto, O.lp_nx, O.lp_ct, O.lp_bk, O.lp_rt, O.lp_rto, O.lp_err, fin_nx, fin_rt, fin_err, asB_b, o_add, o_addI, o_sub, o_neg, o_lt, o_le, o_gt, o_ge, o_eqI, o_neI, o_eqS, o_neS, o_inS, o_lenL, o_lenT, o_int, o_itS, o_itL, o_itT, o_truL, o_truB, o_truI, List.set_cons_zero, List.set_cons_succ, List.length_cons, List.length_nil, if_true, if_false, Bool.not_true, Bool.not_false, Bool.false_eq_true, Option.isSome_some, Option.isSome_none, Nat.reduceAdd, Nat.zero_add, decide_true, decide_false, e_gT, e_gsC, e_gsN, e_callR0, e_callN, Nat.reduceEqDiff, lit_0, lit_1, lit_2, lit_3, lit_4, lit_5, lit_6, lit_7, lit_8, lit_9, lit_10, lit_11, lit_12, lit_13, lit_14, lit_15, lit_16, lit_17, lit_18, lit_19, lit_20, lit_21, lit_22, lit_23, cl_0, cl_1, cl_2, cl_3, cl_4, cl_5, cl_6, cl_7, cl_8, cl_9, cl_10, cl_11, cl_12, cl_13, cl_14, cl_15, cl_16, cl_17, cl_18, cl_19, cl_20, cl_21, cl_22, cl_23, r_check_presentation hp.len (show rs.length ≤ 1000000 by have := hp.n; omega) hp.ok]
  refine OP_for (I := fun j ρ => ∃ o, ρ = [some (.sh (PV g rs)), some (.sh (.list (ws.map sD))), o]) ⟨none, rfl⟩ ?_ (fun ρ _ => trivial)
  rintro j d ρ hd ⟨o, rfl⟩
  rw [List.getElem?_map] at hd
  obtain ⟨w, hw, rfl⟩ : ∃ w, ws[j]? = some w ∧ d = sD w := by
    cases e : ws[j]? with
    | none => rw [e] at hd; cases hd
    | some c => rw [e] at hd; cases hd; exact ⟨c, rfl, rfl⟩
  have hm := List.mem_of_getElem? hw
  have h1 := hl w hm
  have h2 := hk w hm
  unfold okWd at h2
  rw [Bool.and_eq_true, decide_eq_true_eq] at h2
  show OP (lb_check_words_1 [some (.sh (PV g rs)), some (.sh (.list (ws.map sD))), some (.sh (sD w))]) _
  unfold lb_check_words_1
  have e1 : (w.length ≤ 16777216) = True := eq_true (by omega)
  simp -implicitDefEqProofs only [RP_ok, RP_err, RP_stuck, RP_bind, RP_quiet, RP_sure, RP_ite, RP_fin, RP_finN, OP_nx, OP_rt, OP_rto, OP_bk, OP_ct, OP_err, OP_stuck, OP_of, OP_thn, OP_lp, OP_ite, OP_tryN, OP_tryAs, OP_endS, OP_endI, true_implies, false_implies, not_true_eq_false, not_false_eq_true, and_true, true_and, implies_true, wipe_nil, wipe_cons, List.length_map, e_callR, e_callX, e_isX, e_xf, e_sNext, e_sApp, e_sPop, e_sRev, e_sRetOwn, e_sExt, e_sGive, e_sSetIx, e_hdl, hdl_nil, e_hdlAs, ownAt_own, rndAt_rnd, excAt_exc, someD_some, caseB_t, caseB_f, intD_int, clean_nil, clean_sh, clean_no, clean_own, List.getElem?_cons_zero, List.getElem?_cons_succ, decide_eq_true_eq, Bool.not_eq_true', List.length_append, Option.getD_some, ixT0, ixT1, ixT2, ixT3, ixL0, ixL1, ixL2, ixL3, o_isB, o_isL, o_isT, o_isI, o_isS, o_niPM, o_niPL, o_max2, o_min2, o_abs, o_tupL, o_tupT, o_lofL, o_lofT, e_aListOf, e_aRep, sizeLine_eq, decide_eq_false_iff_not, Classical.not_not, Nat.reduceLeDiff, Nat.zero_le, Int.reduceLE, Int.reduceLT, Int.reduceEq, Nat.reduceLT, List.nil_append, List.cons_append, cst0, cst1, cst2, cst3, cst4, cst5, cst6, cst7, cst8, cst9, cst10, cst11, cst12, o_eqB, o_neB, reduceCtorEq, Bool.true_eq_false, e_iEnumS, e_iZipS, o_enum, o_zipL, o_zipT, e_sRaise1, e_sPar, e_sPar3, e_gTL, o_isBB, o_notBB, e_sCons, e_sNil, e_sBreak, e_sCont, e_sRet, e_sRetN, e_sExpr, e_sIf, e_sAsg, e_sOwn, e_sFrz, e_sRaise, e_sFor, e_loop_nil, e_mC, e_m1, e_m2, e_mF, e_mCall, e_mM1, e_aNil, e_aCons, e_aLst, e_mTup, e_mLst, e_mN, e_mT, e_mTru, e_mAndT, e_mOrT, e_mNotT, e_mAnd, e_mOr, e_mNot, e_mIf, e_mChain, e_iSeq, e_iRange1, e_iRange2, e_oNone, e_oSome, e_mSl, e_mYes, e_mLc, e_gN, v0, vS, p0, p0o, pS, f0, f0s, f0n, fS, R.bind_ok, R.bind_err, R.bind_stuck, R.quiet_ok, R.sure_ok, R.sure_err, R.sure_stuck, O.of_ok, O.of_err, O.of_stuck, O.thn_nx, O.thn_rt, O.thn_bk, O.thn_ct, O.thn_err, O.thn_rto, O.lp_nx, O.lp_ct, O.lp_bk, O.lp_rt, O.lp_rto, O.lp_err, fin_nx, fin_rt, fin_err, asB_b, o_add, o_addI, o_sub, o_neg, o_lt, o_le, o_gt, o_ge, o_eqI, o_neI, o_eqS, o_neS, o_inS, o_lenL, o_lenT, o_int, o_itS, o_itL, o_itT, o_truL, o_truB, o_truI, List.set_cons_zero, List.set_cons_succ, List.length_cons, List.length_nil, if_true, if_false, Bool.not_true, Bool.not_false, Bool.false_eq_true, Option.isSome_some, Option.isSome_none, Nat.reduceAdd, Nat.zero_add, decide_true, decide_false, e_gT, e_gsC, e_gsN, e_callR0, e_callN, Nat.reduceEqDiff, lit_0, lit_1, lit_2, lit_3, lit_4, lit_5, lit_6, lit_7, lit_8, lit_9, lit_10, lit_11, lit_12, lit_13, lit_14, lit_15, lit_16, lit_17, lit_18, lit_19, lit_20, lit_21, lit_22, lit_23, cl_0, cl_1, cl_2, cl_3, cl_4, cl_5, cl_6, cl_7, cl_8, cl_9, cl_10, cl_11, cl_12, cl_13, cl_14, cl_15, cl_16, cl_17, cl_18, cl_19, cl_20, cl_21, cl_22, cl_23, r_is_word hp.h1 hp.h2 h1, h2.1, o_lenS, e1]
  exact ⟨fun z => by omega, fun _ => ⟨_, rfl⟩⟩
theorem r_check_words_pres {g : Int} {rs : List (List Nat)} (hl : ∀ r ∈ rs, r.length ≤ 1000000) (hn : rs.length ≤ 1000000) (h : presB g rs = false) {d : D} : m_check_words [PV g rs, d] = .err ("NotPresentation", []) := by
  show fin (b_check_words [some (.sh (PV g rs)), some (.sh d), none]) = _
  unfold b_check_words
  simp -implicitDefEqProofs only [e_callR, e_callX, e_isX, e_xf, e_sNext, e_sApp, e_sPop, e_sRev, e_sRetOwn, e_sExt, e_sGive, e_sSetIx, e_hdl, hdl_nil, e_hdlAs, ownAt_own, rndAt_rnd, excAt_exc, someD_some, caseB_t, caseB_f, intD_int, clean_nil, clean_sh, clean_no, clean_own, List.getElem?_cons_zero, List.getElem?_cons_succ, decide_eq_true_eq, Bool.not_eq_true', List.length_append, Option.getD_some, ixT0, ixT1, ixT2, ixT3, ixL0, ixL1, ixL2, ixL3, o_isB, o_isL, o_isT, o_isI, o_isS, o_niPM, o_niPL, o_max2, o_min2, o_abs, o_tupL, o_tupT, o_lofL, o_lofT, e_aListOf, e_aRep, sizeLine_eq, decide_eq_false_iff_not, Classical.not_not, Nat.reduceLeDiff, Nat.zero_le, Int.reduceLE, Int.reduceLT, Int.reduceEq, Nat.reduceLT, List.nil_append, List.cons_append, cst0, cst1, cst2, cst3, cst4, cst5, cst6, cst7, cst8, cst9, cst10, cst11, cst12, o_eqB, o_neB, reduceCtorEq, Bool.true_eq_false, e_iEnumS, e_iZipS, o_enum, o_zipL, o_zipT, e_sRaise1, e_sPar, e_sPar3, e_gTL, o_isBB, o_notBB, e_sCons, e_sNil, e_sBreak, e_sCont, e_sRet, e_sRetN, e_sExpr, e_sIf, e_sAsg, e_sOwn, e_sFrz, e_sRaise, e_sFor, e_loop_nil, e_mC, e_m1, e_m2, e_mF, e_mCall, e_mM1, e_aNil, e_aCons, e_aLst, e_mTup, e_mLst, e_mN, e_mT, e_mTru, e_mAndT, e_mOrT, e_mNotT, e_mAnd, e_mOr, e_mNot, e_mIf, e_mChain, e_iSeq, e_iRange1, e_iRange2, e_oNone, e_oSome, e_mSl, e_mYes, e_mLc, e_gN, v0, vS, p0, p0o, pS, f0, f0s, f0n, fS, R.bind_ok, R.bind_err, R.bind_stuck, R.quiet_ok, R.sure_ok, R.sure_err, R.sure_stuck, O.of_ok, O.of_err, O.of_stuck, O.thn_nx, O.thn_rt, O.thn_bk, O.thn_ct, O.thn_err, O.thn_rto, O.lp_nx, O.lp_ct, O.lp_bk, O.lp_rt, O.lp_rto, O.lp_err, fin_nx, fin_rt, fin_err, asB_b, o_add, o_addI, o_sub, o_neg, o_lt, o_le, o_gt, o_ge, o_eqI, o_neI, o_eqS, o_neS, o_inS, o_lenL, o_lenT, o_int, o_itS, o_itL, o_itT, o_truL, o_truB, o_truI, List.set_cons_zero, List.set_cons_succ, List.length_cons, List.length_nil, if_true, if_false, Bool.not_true, Bool.not_false, Bool.false_eq_true, Option.isSome_some, Option.isSome_none, Nat.reduceAdd, Nat.zero_add, decide_true, decide_false, e_gT, e_gsC, e_gsN, e_callR0, e_callN, Nat.reduceEqDiff, lit_0, lit_1, lit_2, lit_3, lit_4, lit_5, lit_6, lit_7, lit_8, lit_9, lit_10, lit_11, lit_12, lit_13, lit_14, lit_15, lit_16, lit_17, lit_18, lit_19, lit_20, lit_21, lit_22, lit_23, cl_0, cl_1, cl_2, cl_3, cl_4, cl_5, cl_6, cl_7, cl_8, cl_9, cl_10, cl_11, cl_12, cl_13, cl_14, cl_15, cl_16, cl_17, cl_18, cl_19, cl_20, cl_21, cl_22, cl_23, r_check_presentation_bad hl hn h]
/-- the first word that is none -/
theorem r_check_words_bad {g : Int} {rs : List (List Nat)} (hp : Pres g rs) : ∀ (ws : List (List Nat)), (∀ w ∈ ws, w.length ≤ 1000000) → (∃ w ∈ ws, okWd g w = false) → m_check_words [PV g rs, .list (ws.map sD)] = .err ("NotWord", []) := by
  intro ws hl hk
  refine eq_err ?_
  show RP False (fin (b_check_words [some (.sh (PV g rs)), some (.sh (.list (ws.map sD))), none])) _ _
  unfold b_check_words
  simp -implicitDefEqProofs only [RP_ok, RP_err, RP_stuck, RP_bind, RP_quiet, RP_sure, RP_ite, RP_fin, RP_finN, OP_nx, OP_rt, OP_rto, OP_bk, OP_ct, OP_err, OP_stuck, OP_of, OP_thn, OP_lp, OP_ite, OP_tryN, OP_tryAs, OP_endS, OP_endI, true_implies, false_implies, not_true_eq_false, not_false_eq_true, and_true, true_and, implies_true, wipe_nil, wipe_cons, List.length_map, e_callR, e_callX, e_isX, e_xf, e_sNext, e_sApp, e_sPop, e_sRev, e_sRetOwn, e_sExt, e_sGive, e_sSetIx, e_hdl, hdl_nil, e_hdlAs, ownAt_own, rndAt_rnd, excAt_exc, someD_some, caseB_t, caseB_f, intD_int, clean_nil, clean_sh, clean_no, clean_own, List.getElem?_cons_zero, List.getElem?_cons_succ, decide_eq_true_eq, Bool.not_eq_true', List.length_append, Option.getD_some, ixT0, ixT1, ixT2, ixT3, ixL0, ixL1, ixL2, ixL3, o_isB, o_isL, o_isT, o_isI, o_isS, o_niPM, o_niPL, o_max2, o_min2, o_abs, o_tupL, o_tupT, o_lofL, o_lofT, e_aListOf, e_aRep, sizeLine_eq, decide_eq_false_iff_not, Classical.not_not, Nat.reduceLeDiff, Nat.zero_le, Int.reduceLE, Int.reduceLT, Int.reduceEq, Nat.reduceLT, List.nil_append, List.cons_append, cst0, cst1, cst2, cst3, cst4, cst5, cst6, cst7, cst8, cst9, cst10, cst11, cst12, o_eqB, o_neB, reduceCtorEq, Bool.true_eq_false, e_iEnumS, e_iZipS, o_enum, o_zipL, o_zipT, e_sRaise1, e_sPar, e_sPar3, e_gTL, o_isBB, o_notBB, e_sCons, e_sNil, e_sBreak, e_sCont, e_sRet, e_sRetN, e_sExpr, e_sIf, e_sAsg, e_sOwn, e_sFrz, e_sRaise, e_sFor, e_loop_nil, e_mC, e_m1, e_m2, e_mF, e_mCall, e_mM1, e_aNil, e_aCons, e_aLst, e_mTup, e_mLst, e_mN, e_mT, e_mTru, e_mAndT, e_mOrT, e_mNotT, e_mAnd, e_mOr, e_mNot, e_mIf, e_mChain, e_iSeq, e_iRange1, e_iRange2, e_oNone, e_oSome, e_mSl, e_mYes, e_mLc, e_gN, v0, vS, p0, p0o, pS, f0, f0s, f0n, fS, R.bind_ok, R.bind_err, R.bind_stuck, R.quiet_ok, R.sure_ok, R.sure_err, R.sure_stuck, O.of_ok, O.of_err, O.of_stuck, O.thn_nx, O.thn_rt, O.thn_bk, O.thn_ct, O.thn_err, O.thn_rto, O.lp_nx, O.lp_ct, O.lp_bk, O.lp_rt, O.lp_rto, O.lp_err, fin_nx, fin_rt, fin_err, asB_b, o_add, o_addI, o_sub, o_neg, o_lt, o_le, o_gt, o_ge, o_eqI, o_neI, o_eqS, o_neS, o_inS, o_lenL, o_lenT, o_int, o_itS, o_itL, o_itT, o_truL, o_truB, o_truI, List.set_cons_zero, List.set_cons_succ, List.length_cons, List.length_nil, if_true, if_false, Bool.not_true, Bool.not_false, Bool.false_eq_true, Option.isSome_some, Option.isSome_none, Nat.reduceAdd, Nat.zero_add, decide_true, decide_false, e_gT, e_gsC, e_gsN, e_callR0, e_callN, Nat.reduceEqDiff, lit_0, lit_1, lit_2, lit_3, lit_4, lit_5, lit_6, lit_7, lit_8, lit_9, lit_10, lit_11, lit_12, lit_13, lit_14, lit_15, lit_16, lit_17, lit_18, lit_19, lit_20, lit_21, lit_22, lit_23, cl_0, cl_1, cl_2, cl_3, cl_4, cl_5, cl_6, cl_7, cl_8, cl_9, cl_10, cl_11, cl_12, cl_13, cl_14, cl_15, cl_16, cl_17, cl_18, cl_19, cl_20, cl_21, cl_22, cl_23, r_check_presentation hp.len (show rs.length ≤ 1000000 by have := hp.n; omega) hp.ok]
  refine OP_for (I := fun j ρ => ∃ o, ρ = [some (.sh (PV g rs)), some (.sh (.list (ws.map sD))), o] ∧ ∀ w ∈ ws.take j, okWd g w = true) ⟨none, rfl, fun _ h => nomatch h⟩ ?_ ?_
  · rintro j d ρ hd ⟨o, rfl, ha⟩
    rw [List.getElem?_map] at hd
    obtain ⟨w, hw, rfl⟩ : ∃ w, ws[j]? = some w ∧ d = sD w := by
      cases e : ws[j]? with
      | none => rw [e] at hd; cases hd
      | some c => rw [e] at hd; cases hd; exact ⟨c, rfl, rfl⟩
    have hm := List.mem_of_getElem? hw
    have h1 := hl w hm
    show OP (lb_check_words_1 [some (.sh (PV g rs)), some (.sh (.list (ws.map sD))), some (.sh (sD w))]) _
    unfold lb_check_words_1
    have e1 : (w.length ≤ 16777216) = True := eq_true (by omega)
    cases q : okw g w with
    | false => simp -implicitDefEqProofs only [RP_ok, RP_err, RP_stuck, RP_bind, RP_quiet, RP_sure, RP_ite, RP_fin, RP_finN, OP_nx, OP_rt, OP_rto, OP_bk, OP_ct, OP_err, OP_stuck, OP_of, OP_thn, OP_lp, OP_ite, OP_tryN, OP_tryAs, OP_endS, OP_endI, true_implies, false_implies, not_true_eq_false, not_false_eq_true, and_true, true_and, implies_true, wipe_nil, wipe_cons, List.length_map, e_callR, e_callX, e_isX, e_xf, e_sNext, e_sApp, e_sPop, e_sRev, e_sRetOwn, e_sExt, e_sGive, e_sSetIx, e_hdl, hdl_nil, e_hdlAs, ownAt_own, rndAt_rnd, excAt_exc, someD_some, caseB_t, caseB_f, intD_int, clean_nil, clean_sh, clean_no, clean_own, List.getElem?_cons_zero, List.getElem?_cons_succ, decide_eq_true_eq, Bool.not_eq_true', List.length_append, Option.getD_some, ixT0, ixT1, ixT2, ixT3, ixL0, ixL1, ixL2, ixL3, o_isB, o_isL, o_isT, o_isI, o_isS, o_niPM, o_niPL, o_max2, o_min2, o_abs, o_tupL, o_tupT, o_lofL, o_lofT, e_aListOf, e_aRep, sizeLine_eq, decide_eq_false_iff_not, Classical.not_not, Nat.reduceLeDiff, Nat.zero_le, Int.reduceLE, Int.reduceLT, Int.reduceEq, Nat.reduceLT, List.nil_append, List.cons_append, cst0, cst1, cst2, cst3, cst4, cst5, cst6, cst7, cst8, cst9, cst10, cst11, cst12, o_eqB, o_neB, reduceCtorEq, Bool.true_eq_false, e_iEnumS, e_iZipS, o_enum, o_zipL, o_zipT, e_sRaise1, e_sPar, e_sPar3, e_gTL, o_isBB, o_notBB, e_sCons, e_sNil, e_sBreak, e_sCont, e_sRet, e_sRetN, e_sExpr, e_sIf, e_sAsg, e_sOwn, e_sFrz, e_sRaise, e_sFor, e_loop_nil, e_mC, e_m1, e_m2, e_mF, e_mCall, e_mM1, e_aNil, e_aCons, e_aLst, e_mTup, e_mLst, e_mN, e_mT, e_mTru, e_mAndT, e_mOrT, e_mNotT, e_mAnd, e_mOr, e_mNot, e_mIf, e_mChain, e_iSeq, e_iRange1, e_iRange2, e_oNone, e_oSome, e_mSl, e_mYes, e_mLc, e_gN, v0, vS, p0, p0o, pS, f0, f0s, f0n, fS, R.bind_ok, R.bind_err, R.bind_stuck, R.quiet_ok, R.sure_ok, R.sure_err, R.sure_stuck, O.of_ok, O.of_err, O.of_stuck, O.thn_nx, O.thn_rt, O.thn_bk, O.thn_ct, O.thn_err, O.thn_rto, O.lp_nx, O.lp_ct, O.lp_bk, O.lp_rt, O.lp_rto, O.lp_err, fin_nx, fin_rt, fin_err, asB_b, o_add, o_addI, o_sub, o_neg, o_lt, o_le, o_gt, o_ge, o_eqI, o_neI, o_eqS, o_neS, o_inS, o_lenL, o_lenT, o_int, o_itS, o_itL, o_itT, o_truL, o_truB, o_truI, List.set_cons_zero, List.set_cons_succ, List.length_cons, List.length_nil, if_true, if_false, Bool.not_true, Bool.not_false, Bool.false_eq_true, Option.isSome_some, Option.isSome_none, Nat.reduceAdd, Nat.zero_add, decide_true, decide_false, e_gT, e_gsC, e_gsN, e_callR0, e_callN, Nat.reduceEqDiff, lit_0, lit_1, lit_2, lit_3, lit_4, lit_5, lit_6, lit_7, lit_8, lit_9, lit_10, lit_11, lit_12, lit_13, lit_14, lit_15, lit_16, lit_17, lit_18, lit_19, lit_20, lit_21, lit_22, lit_23, cl_0, cl_1, cl_2, cl_3, cl_4, cl_5, cl_6, cl_7, cl_8, cl_9, cl_10, cl_11, cl_12, cl_13, cl_14, cl_15, cl_16, cl_17, cl_18, cl_19, cl_20, cl_21, cl_22, cl_23, r_is_word hp.h1 hp.h2 h1, q]
    | true =>
      simp -implicitDefEqProofs only [RP_ok, RP_err, RP_stuck, RP_bind, RP_quiet, RP_sure, RP_ite, RP_fin, RP_finN, OP_nx, OP_rt, OP_rto, OP_bk, OP_ct, OP_err, OP_stuck, OP_of, OP_thn, OP_lp, OP_ite, OP_tryN, OP_tryAs, OP_endS, OP_endI, true_implies, false_implies, not_true_eq_false, not_false_eq_true, and_true, true_and, implies_true, wipe_nil, wipe_cons, List.length_map, e_callR, e_callX, e_isX, e_xf, e_sNext, e_sApp, e_sPop, e_sRev, e_sRetOwn, e_sExt, e_sGive, e_sSetIx, e_hdl, hdl_nil, e_hdlAs, ownAt_own, rndAt_rnd, excAt_exc, someD_some, caseB_t, caseB_f, intD_int, clean_nil, clean_sh, clean_no, clean_own, List.getElem?_cons_zero, List.getElem?_cons_succ, decide_eq_true_eq, Bool.not_eq_true', List.length_append, Option.getD_some, ixT0, ixT1, ixT2, ixT3, ixL0, ixL1, ixL2, ixL3, o_isB, o_isL, o_isT, o_isI, o_isS, o_niPM, o_niPL, o_max2, o_min2, o_abs, o_tupL, o_tupT, o_lofL, o_lofT, e_aListOf, e_aRep, sizeLine_eq, decide_eq_false_iff_not, Classical.not_not, Nat.reduceLeDiff, Nat.zero_le, Int.reduceLE, Int.reduceLT, Int.reduceEq, Nat.reduceLT, List.nil_append, List.cons_append, cst0, cst1, cst2, cst3, cst4, cst5, cst6, cst7, cst8, cst9, cst10, cst11, cst12, o_eqB, o_neB, reduceCtorEq, Bool.true_eq_false, e_iEnumS, e_iZipS, o_enum, o_zipL, o_zipT, e_sRaise1, e_sPar, e_sPar3, e_gTL, o_isBB, o_notBB, e_sCons, e_sNil, e_sBreak, e_sCont, e_sRet, e_sRetN, e_sExpr, e_sIf, e_sAsg, e_sOwn, e_sFrz, e_sRaise, e_sFor, e_loop_nil, e_mC, e_m1, e_m2, e_mF, e_mCall, e_mM1, e_aNil, e_aCons, e_aLst, e_mTup, e_mLst, e_mN, e_mT, e_mTru, e_mAndT, e_mOrT, e_mNotT, e_mAnd, e_mOr, e_mNot, e_mIf, e_mChain, e_iSeq, e_iRange1, e_iRange2, e_oNone, e_oSome, e_mSl, e_mYes, e_mLc, e_gN, v0, vS, p0, p0o, pS, f0, f0s, f0n, fS, R.bind_ok, R.bind_err, R.bind_stuck, R.quiet_ok, R.sure_ok, R.sure_err, R.sure_stuck, O.of_ok, O.of_err, O.of_stuck, O.thn_nx, O.thn_rt, O.thn_bk, O.thn_ct, O.thn_err, O.thn_rto, O.lp_nx, O.lp_ct, O.lp_bk, O.lp_rt, O.lp_rto, O.lp_err, fin_nx, fin_rt, fin_err, asB_b, o_add, o_addI, o_sub, o_neg, o_lt, o_le, o_gt, o_ge, o_eqI, o_neI, o_eqS, o_neS, o_inS, o_lenL, o_lenT, o_int, o_itS, o_itL, o_itT, o_truL, o_truB, o_truI, List.set_cons_zero, List.set_cons_succ, List.length_cons, List.length_nil, if_true, if_false, Bool.not_true, Bool.not_false, Bool.false_eq_true, Option.isSome_some, Option.isSome_none, Nat.reduceAdd, Nat.zero_add, decide_true, decide_false, e_gT, e_gsC, e_gsN, e_callR0, e_callN, Nat.reduceEqDiff, lit_0, lit_1, lit_2, lit_3, lit_4, lit_5, lit_6, lit_7, lit_8, lit_9, lit_10, lit_11, lit_12, lit_13, lit_14, lit_15, lit_16, lit_17, lit_18, lit_19, lit_20, lit_21, lit_22, lit_23, cl_0, cl_1, cl_2, cl_3, cl_4, cl_5, cl_6, cl_7, cl_8, cl_9, cl_10, cl_11, cl_12, cl_13, cl_14, cl_15, cl_16, cl_17, cl_18, cl_19, cl_20, cl_21, cl_22, cl_23, r_is_word hp.h1 hp.h2 h1, q, o_lenS, e1]
      refine fun z => ⟨_, rfl, fun x hx => ?_⟩
      rw [List.take_succ, hw] at hx
      rcases List.mem_append.mp hx with hx | hx
      · exact ha x hx
      · have : x = w := by simpa using hx
        rw [this]
        unfold okWd
        rw [q, decide_eq_true (by omega)]; rfl
  · rintro ρ ⟨o, rfl, ha⟩
    rw [List.length_map, List.take_length] at ha
    obtain ⟨w, hw, hb⟩ := hk
    rw [ha w hw] at hb
    cases hb
theorem okWd_of {g : Int} {w : List Nat} (h : ∀ c ∈ w, c ∈ lt g) (hl : w.length ≤ 200) : okWd g w = true := by unfold okWd; rw [okw_iff.mpr h, decide_eq_true hl]; rfl
theorem chk1 {g : Int} {rs : List (List Nat)} (hp : Pres g rs) {w : List Nat} (hw : ∀ c ∈ w, c ∈ lt g) (hl : w.length ≤ 200) : m_check_words [PV g rs, .list [sD w]] = .ok .none :=
  r_check_words hp [w] (fun x hx => by rw [List.mem_singleton.mp hx]; omega) (fun x hx => by rw [List.mem_singleton.mp hx]; exact okWd_of hw hl)
theorem chk2 {g : Int} {rs : List (List Nat)} (hp : Pres g rs) {w v : List Nat} (hw : ∀ c ∈ w, c ∈ lt g) (hl : w.length ≤ 200) (hv : ∀ c ∈ v, c ∈ lt g) (hl2 : v.length ≤ 200) : m_check_words [PV g rs, .list [sD w, sD v]] = .ok .none :=
  r_check_words hp [w, v] (fun x hx => by
    rcases List.mem_cons.mp hx with rfl | hx
    · omega
    · rw [List.mem_singleton.mp hx]; omega) (fun x hx => by
    rcases List.mem_cons.mp hx with rfl | hx
    · exact okWd_of hw hl
    · rw [List.mem_singleton.mp hx]; exact okWd_of hv hl2)
theorem chk1_bad {g : Int} {rs : List (List Nat)} (hp : Pres g rs) {w : List Nat} (hl : w.length ≤ 1000000) (h : okWd g w = false) : m_check_words [PV g rs, .list [sD w]] = .err ("NotWord", []) :=
  r_check_words_bad hp [w] (fun x hx => by rw [List.mem_singleton.mp hx]; exact hl) ⟨w, List.mem_singleton.mpr rfl, h⟩
theorem okWd_d {g : Int} (h1 : 1 ≤ g) (h2 : g ≤ 3) {w : List Nat} : okWd g (w ++ [100]) = false := by
  unfold okWd
  have : okw g (w ++ [100]) = false := by
    rw [Bool.eq_false_iff]
    intro z
    have h := okw_iff.mp z 100 (List.mem_append_right _ List.mem_cons_self)
    have h := lt_sub h
    revert h
    decide
  rw [this]; rfl
theorem presB_nil {g : Int} {rs : List (List Nat)} : presB g (rs ++ [[]]) = false := by
  unfold presB
  rw [List.all_append]
  have : ([[]] : List (List Nat)).all (relB g) = false := by
    show (relB g [] && true) = false
    unfold relB
    rfl
  rw [this, Bool.and_false, Bool.and_false]
theorem okWd_long {g : Int} {w : List Nat} (h : 200 < w.length) : okWd g w = false := by
  unfold okWd
  rw [decide_eq_false (by omega), Bool.and_false]

end Law
end
end
section
set_option Elab.async false
set_option linter.all false
set_option maxRecDepth 100000
set_option autoImplicit false
set_option maxHeartbeats 4000000
noncomputable section
namespace Law
open PySem DW L2
open SX (S S_tl S_len S_cat)
theorem o_opt {o : Option (List Nat)} : dIsN (optD o) .none = .ok (.bool o.isNone) := by cases o <;> rfl
theorem r__with {w : List Nat} {a : Int} {o : Option (List Nat)} (hw : w.length ≤ 1000) (ho : ∀ t, o = some t → t.length ≤ 1000) : m__with [sD w, .int a, optD o] = .ok (optD (o.bind (insW w a))) := by
  have hz := sizeLine_eq
  refine eq_ok ?_
  show RP False (fin (b__with [some (.sh (sD w)), some (.sh (.int a)), some (.sh (optD o))])) _ _
  unfold b__with
  cases o with
  | none => simp -implicitDefEqProofs only [RP_ok, RP_err, RP_stuck, RP_bind, RP_quiet, RP_sure, RP_ite, RP_fin, RP_finN, OP_nx, OP_rt, OP_rto, OP_bk, OP_ct, OP_err, OP_stuck, OP_of, OP_thn, OP_lp, OP_ite, OP_tryN, OP_tryAs, OP_endS, OP_endI, true_implies, false_implies, not_true_eq_false, not_false_eq_true, and_true, true_and, implies_true, wipe_nil, wipe_cons, List.length_map, e_callR, e_callX, e_isX, e_xf, e_sNext, e_sApp, e_sPop, e_sRev, e_sRetOwn, e_sExt, e_sGive, e_sSetIx, e_hdl, hdl_nil, e_hdlAs, ownAt_own, rndAt_rnd, excAt_exc, someD_some, caseB_t, caseB_f, intD_int, clean_nil, clean_sh, clean_no, clean_own, List.getElem?_cons_zero, List.getElem?_cons_succ, decide_eq_true_eq, Bool.not_eq_true', List.length_append, Option.getD_some, ixT0, ixT1, ixT2, ixT3, ixL0, ixL1, ixL2, ixL3, o_isB, o_isL, o_isT, o_isI, o_isS, o_niPM, o_niPL, o_max2, o_min2, o_abs, o_tupL, o_tupT, o_lofL, o_lofT, e_aListOf, e_aRep, sizeLine_eq, decide_eq_false_iff_not, Classical.not_not, Nat.reduceLeDiff, Nat.zero_le, Int.reduceLE, Int.reduceLT, Int.reduceEq, Nat.reduceLT, List.nil_append, List.cons_append, cst0, cst1, cst2, cst3, cst4, cst5, cst6, cst7, cst8, cst9, cst10, cst11, cst12, o_eqB, o_neB, reduceCtorEq, Bool.true_eq_false, e_iEnumS, e_iZipS, o_enum, o_zipL, o_zipT, e_sRaise1, e_sPar, e_sPar3, e_gTL, o_isBB, o_notBB, e_sCons, e_sNil, e_sBreak, e_sCont, e_sRet, e_sRetN, e_sExpr, e_sIf, e_sAsg, e_sOwn, e_sFrz, e_sRaise, e_sFor, e_loop_nil, e_mC, e_m1, e_m2, e_mF, e_mCall, e_mM1, e_aNil, e_aCons, e_aLst, e_mTup, e_mLst, e_mN, e_mT, e_mTru, e_mAndT, e_mOrT, e_mNotT, e_mAnd, e_mOr, e_mNot, e_mIf, e_mChain, e_iSeq, e_iRange1, e_iRange2, e_oNone, e_oSome, e_mSl, e_mYes, e_mLc, e_gN, v0, vS, p0, p0o, pS, f0, f0s, f0n, fS, R.bind_ok, R.bind_err, R.bind_stuck, R.quiet_ok, R.sure_ok, R.sure_err, R.sure_stuck, O.of_ok, O.of_err, O.of_stuck, O.thn_nx, O.thn_rt, O.thn_bk, O.thn_ct, O.thn_err, O.thn_rto, O.lp_nx, O.lp_ct, O.lp_bk, O.lp_rt, O.lp_rto, O.lp_err, fin_nx, fin_rt, fin_err, asB_b, o_add, o_addI, o_sub, o_neg, o_lt, o_le, o_gt, o_ge, o_eqI, o_neI, o_eqS, o_neS, o_inS, o_lenL, o_lenT, o_int, o_itS, o_itL, o_itT, o_truL, o_truB, o_truI, List.set_cons_zero, List.set_cons_succ, List.length_cons, List.length_nil, if_true, if_false, Bool.not_true, Bool.not_false, Bool.false_eq_true, Option.isSome_some, Option.isSome_none, Nat.reduceAdd, Nat.zero_add, decide_true, decide_false, e_gT, e_gsC, e_gsN, e_callR0, e_callN, Nat.reduceEqDiff, lit_0, lit_1, lit_2, lit_3, lit_4, lit_5, lit_6, lit_7, lit_8, lit_9, lit_10, lit_11, lit_12, lit_13, lit_14, lit_15, lit_16, lit_17, lit_18, lit_19, lit_20, lit_21, lit_22, lit_23, cl_0, cl_1, cl_2, cl_3, cl_4, cl_5, cl_6, cl_7, cl_8, cl_9, cl_10, cl_11, cl_12, cl_13, cl_14, cl_15, cl_16, cl_17, cl_18, cl_19, cl_20, cl_21, cl_22, cl_23, optD, o_isNn]; rfl
  | some t =>
    have ht := ho t rfl
    have e1 : (w.length ≤ 16777216) = True := eq_true (by omega)
    have e2 : (t.length ≤ 16777216) = True := eq_true (by omega)
    simp -implicitDefEqProofs only [RP_ok, RP_err, RP_stuck, RP_bind, RP_quiet, RP_sure, RP_ite, RP_fin, RP_finN, OP_nx, OP_rt, OP_rto, OP_bk, OP_ct, OP_err, OP_stuck, OP_of, OP_thn, OP_lp, OP_ite, OP_tryN, OP_tryAs, OP_endS, OP_endI, true_implies, false_implies, not_true_eq_false, not_false_eq_true, and_true, true_and, implies_true, wipe_nil, wipe_cons, List.length_map, e_callR, e_callX, e_isX, e_xf, e_sNext, e_sApp, e_sPop, e_sRev, e_sRetOwn, e_sExt, e_sGive, e_sSetIx, e_hdl, hdl_nil, e_hdlAs, ownAt_own, rndAt_rnd, excAt_exc, someD_some, caseB_t, caseB_f, intD_int, clean_nil, clean_sh, clean_no, clean_own, List.getElem?_cons_zero, List.getElem?_cons_succ, decide_eq_true_eq, Bool.not_eq_true', List.length_append, Option.getD_some, ixT0, ixT1, ixT2, ixT3, ixL0, ixL1, ixL2, ixL3, o_isB, o_isL, o_isT, o_isI, o_isS, o_niPM, o_niPL, o_max2, o_min2, o_abs, o_tupL, o_tupT, o_lofL, o_lofT, e_aListOf, e_aRep, sizeLine_eq, decide_eq_false_iff_not, Classical.not_not, Nat.reduceLeDiff, Nat.zero_le, Int.reduceLE, Int.reduceLT, Int.reduceEq, Nat.reduceLT, List.nil_append, List.cons_append, cst0, cst1, cst2, cst3, cst4, cst5, cst6, cst7, cst8, cst9, cst10, cst11, cst12, o_eqB, o_neB, reduceCtorEq, Bool.true_eq_false, e_iEnumS, e_iZipS, o_enum, o_zipL, o_zipT, e_sRaise1, e_sPar, e_sPar3, e_gTL, o_isBB, o_notBB, e_sCons, e_sNil, e_sBreak, e_sCont, e_sRet, e_sRetN, e_sExpr, e_sIf, e_sAsg, e_sOwn, e_sFrz, e_sRaise, e_sFor, e_loop_nil, e_mC, e_m1, e_m2, e_mF, e_mCall, e_mM1, e_aNil, e_aCons, e_aLst, e_mTup, e_mLst, e_mN, e_mT, e_mTru, e_mAndT, e_mOrT, e_mNotT, e_mAnd, e_mOr, e_mNot, e_mIf, e_mChain, e_iSeq, e_iRange1, e_iRange2, e_oNone, e_oSome, e_mSl, e_mYes, e_mLc, e_gN, v0, vS, p0, p0o, pS, f0, f0s, f0n, fS, R.bind_ok, R.bind_err, R.bind_stuck, R.quiet_ok, R.sure_ok, R.sure_err, R.sure_stuck, O.of_ok, O.of_err, O.of_stuck, O.thn_nx, O.thn_rt, O.thn_bk, O.thn_ct, O.thn_err, O.thn_rto, O.lp_nx, O.lp_ct, O.lp_bk, O.lp_rt, O.lp_rto, O.lp_err, fin_nx, fin_rt, fin_err, asB_b, o_add, o_addI, o_sub, o_neg, o_lt, o_le, o_gt, o_ge, o_eqI, o_neI, o_eqS, o_neS, o_inS, o_lenL, o_lenT, o_int, o_itS, o_itL, o_itT, o_truL, o_truB, o_truI, List.set_cons_zero, List.set_cons_succ, List.length_cons, List.length_nil, if_true, if_false, Bool.not_true, Bool.not_false, Bool.false_eq_true, Option.isSome_some, Option.isSome_none, Nat.reduceAdd, Nat.zero_add, decide_true, decide_false, e_gT, e_gsC, e_gsN, e_callR0, e_callN, Nat.reduceEqDiff, lit_0, lit_1, lit_2, lit_3, lit_4, lit_5, lit_6, lit_7, lit_8, lit_9, lit_10, lit_11, lit_12, lit_13, lit_14, lit_15, lit_16, lit_17, lit_18, lit_19, lit_20, lit_21, lit_22, lit_23, cl_0, cl_1, cl_2, cl_3, cl_4, cl_5, cl_6, cl_7, cl_8, cl_9, cl_10, cl_11, cl_12, cl_13, cl_14, cl_15, cl_16, cl_17, cl_18, cl_19, cl_20, cl_21, cl_22, cl_23, optD, o_isNs, o_lenS, e1, e2]
    show _ ∧ _
    have none : (¬ (0 ≤ a ∧ a ≤ w.length ∧ w.length + t.length ≤ 200)) → PyData.none = optD ((some t).bind (insW w a)) := fun h => by
      show PyData.none = optD (insW w a t)
      unfold insW
      rw [if_neg h]; rfl
    refine ⟨fun h => none (by omega), fun h1 => ⟨fun h => none (by omega), fun h2 => ⟨fun h => none (by omega), fun h3 => ?_⟩⟩⟩
    obtain ⟨k, rfl⟩ : ∃ k : Nat, a = (k : Int) := ⟨a.toNat, by omega⟩
    have s1 : dSl (.str (S w)) Option.none (some (k : Int)) = .ok (sD (w.take k)) := by rw [o_slS (by omega), cut_to2]
    have s2 : dSl (.str (S w)) (some (k : Int)) Option.none = .ok (sD (w.drop k)) := by rw [o_slS (by omega), cut_from']
    simp -implicitDefEqProofs only [RP_ok, RP_err, RP_stuck, RP_bind, RP_quiet, RP_sure, RP_ite, RP_fin, RP_finN, OP_nx, OP_rt, OP_rto, OP_bk, OP_ct, OP_err, OP_stuck, OP_of, OP_thn, OP_lp, OP_ite, OP_tryN, OP_tryAs, OP_endS, OP_endI, true_implies, false_implies, not_true_eq_false, not_false_eq_true, and_true, true_and, implies_true, wipe_nil, wipe_cons, List.length_map, e_callR, e_callX, e_isX, e_xf, e_sNext, e_sApp, e_sPop, e_sRev, e_sRetOwn, e_sExt, e_sGive, e_sSetIx, e_hdl, hdl_nil, e_hdlAs, ownAt_own, rndAt_rnd, excAt_exc, someD_some, caseB_t, caseB_f, intD_int, clean_nil, clean_sh, clean_no, clean_own, List.getElem?_cons_zero, List.getElem?_cons_succ, decide_eq_true_eq, Bool.not_eq_true', List.length_append, Option.getD_some, ixT0, ixT1, ixT2, ixT3, ixL0, ixL1, ixL2, ixL3, o_isB, o_isL, o_isT, o_isI, o_isS, o_niPM, o_niPL, o_max2, o_min2, o_abs, o_tupL, o_tupT, o_lofL, o_lofT, e_aListOf, e_aRep, sizeLine_eq, decide_eq_false_iff_not, Classical.not_not, Nat.reduceLeDiff, Nat.zero_le, Int.reduceLE, Int.reduceLT, Int.reduceEq, Nat.reduceLT, List.nil_append, List.cons_append, cst0, cst1, cst2, cst3, cst4, cst5, cst6, cst7, cst8, cst9, cst10, cst11, cst12, o_eqB, o_neB, reduceCtorEq, Bool.true_eq_false, e_iEnumS, e_iZipS, o_enum, o_zipL, o_zipT, e_sRaise1, e_sPar, e_sPar3, e_gTL, o_isBB, o_notBB, e_sCons, e_sNil, e_sBreak, e_sCont, e_sRet, e_sRetN, e_sExpr, e_sIf, e_sAsg, e_sOwn, e_sFrz, e_sRaise, e_sFor, e_loop_nil, e_mC, e_m1, e_m2, e_mF, e_mCall, e_mM1, e_aNil, e_aCons, e_aLst, e_mTup, e_mLst, e_mN, e_mT, e_mTru, e_mAndT, e_mOrT, e_mNotT, e_mAnd, e_mOr, e_mNot, e_mIf, e_mChain, e_iSeq, e_iRange1, e_iRange2, e_oNone, e_oSome, e_mSl, e_mYes, e_mLc, e_gN, v0, vS, p0, p0o, pS, f0, f0s, f0n, fS, R.bind_ok, R.bind_err, R.bind_stuck, R.quiet_ok, R.sure_ok, R.sure_err, R.sure_stuck, O.of_ok, O.of_err, O.of_stuck, O.thn_nx, O.thn_rt, O.thn_bk, O.thn_ct, O.thn_err, O.thn_rto, O.lp_nx, O.lp_ct, O.lp_bk, O.lp_rt, O.lp_rto, O.lp_err, fin_nx, fin_rt, fin_err, asB_b, o_add, o_addI, o_sub, o_neg, o_lt, o_le, o_gt, o_ge, o_eqI, o_neI, o_eqS, o_neS, o_inS, o_lenL, o_lenT, o_int, o_itS, o_itL, o_itT, o_truL, o_truB, o_truI, List.set_cons_zero, List.set_cons_succ, List.length_cons, List.length_nil, if_true, if_false, Bool.not_true, Bool.not_false, Bool.false_eq_true, Option.isSome_some, Option.isSome_none, Nat.reduceAdd, Nat.zero_add, decide_true, decide_false, e_gT, e_gsC, e_gsN, e_callR0, e_callN, Nat.reduceEqDiff, lit_0, lit_1, lit_2, lit_3, lit_4, lit_5, lit_6, lit_7, lit_8, lit_9, lit_10, lit_11, lit_12, lit_13, lit_14, lit_15, lit_16, lit_17, lit_18, lit_19, lit_20, lit_21, lit_22, lit_23, cl_0, cl_1, cl_2, cl_3, cl_4, cl_5, cl_6, cl_7, cl_8, cl_9, cl_10, cl_11, cl_12, cl_13, cl_14, cl_15, cl_16, cl_17, cl_18, cl_19, cl_20, cl_21, cl_22, cl_23, s1, s2, o_addS]
    refine ⟨fun _ => ⟨fun _ => ?_, fun z => absurd ?_ z⟩, fun z => absurd ?_ z⟩
    · show _ = optD (insW w (k : Int) t)
      unfold insW
      rw [if_pos (by omega), Int.toNat_natCast]; rfl
    · rw [List.length_take, List.length_drop]; omega
    · rw [List.length_take]; omega

end Law
end
end
section
set_option Elab.async false
set_option linter.all false
set_option maxRecDepth 100000
set_option autoImplicit false
set_option maxHeartbeats 4000000
noncomputable section
namespace Law
open PySem DW L2
open SX (S S_tl S_len S_cat)
theorem r__without {w : List Nat} {a : Int} {o : Option (List Nat)} (hw : w.length ≤ 1000) (ho : ∀ t, o = some t → t.length ≤ 1000) : m__without [sD w, .int a, optD o] = .ok (optD (o.bind (rmvW w a))) := by
  have hz := sizeLine_eq
  refine eq_ok ?_
  show RP False (fin (b__without [some (.sh (sD w)), some (.sh (.int a)), some (.sh (optD o))])) _ _
  unfold b__without
  cases o with
  | none => simp -implicitDefEqProofs only [RP_ok, RP_err, RP_stuck, RP_bind, RP_quiet, RP_sure, RP_ite, RP_fin, RP_finN, OP_nx, OP_rt, OP_rto, OP_bk, OP_ct, OP_err, OP_stuck, OP_of, OP_thn, OP_lp, OP_ite, OP_tryN, OP_tryAs, OP_endS, OP_endI, true_implies, false_implies, not_true_eq_false, not_false_eq_true, and_true, true_and, implies_true, wipe_nil, wipe_cons, List.length_map, e_callR, e_callX, e_isX, e_xf, e_sNext, e_sApp, e_sPop, e_sRev, e_sRetOwn, e_sExt, e_sGive, e_sSetIx, e_hdl, hdl_nil, e_hdlAs, ownAt_own, rndAt_rnd, excAt_exc, someD_some, caseB_t, caseB_f, intD_int, clean_nil, clean_sh, clean_no, clean_own, List.getElem?_cons_zero, List.getElem?_cons_succ, decide_eq_true_eq, Bool.not_eq_true', List.length_append, Option.getD_some, ixT0, ixT1, ixT2, ixT3, ixL0, ixL1, ixL2, ixL3, o_isB, o_isL, o_isT, o_isI, o_isS, o_niPM, o_niPL, o_max2, o_min2, o_abs, o_tupL, o_tupT, o_lofL, o_lofT, e_aListOf, e_aRep, sizeLine_eq, decide_eq_false_iff_not, Classical.not_not, Nat.reduceLeDiff, Nat.zero_le, Int.reduceLE, Int.reduceLT, Int.reduceEq, Nat.reduceLT, List.nil_append, List.cons_append, cst0, cst1, cst2, cst3, cst4, cst5, cst6, cst7, cst8, cst9, cst10, cst11, cst12, o_eqB, o_neB, reduceCtorEq, Bool.true_eq_false, e_iEnumS, e_iZipS, o_enum, o_zipL, o_zipT, e_sRaise1, e_sPar, e_sPar3, e_gTL, o_isBB, o_notBB, e_sCons, e_sNil, e_sBreak, e_sCont, e_sRet, e_sRetN, e_sExpr, e_sIf, e_sAsg, e_sOwn, e_sFrz, e_sRaise, e_sFor, e_loop_nil, e_mC, e_m1, e_m2, e_mF, e_mCall, e_mM1, e_aNil, e_aCons, e_aLst, e_mTup, e_mLst, e_mN, e_mT, e_mTru, e_mAndT, e_mOrT, e_mNotT, e_mAnd, e_mOr, e_mNot, e_mIf, e_mChain, e_iSeq, e_iRange1, e_iRange2, e_oNone, e_oSome, e_mSl, e_mYes, e_mLc, e_gN, v0, vS, p0, p0o, pS, f0, f0s, f0n, fS, R.bind_ok, R.bind_err, R.bind_stuck, R.quiet_ok, R.sure_ok, R.sure_err, R.sure_stuck, O.of_ok, O.of_err, O.of_stuck, O.thn_nx, O.thn_rt, O.thn_bk, O.thn_ct, O.thn_err, O.thn_rto, O.lp_nx, O.lp_ct, O.lp_bk, O.lp_rt, O.lp_rto, O.lp_err, fin_nx, fin_rt, fin_err, asB_b, o_add, o_addI, o_sub, o_neg, o_lt, o_le, o_gt, o_ge, o_eqI, o_neI, o_eqS, o_neS, o_inS, o_lenL, o_lenT, o_int, o_itS, o_itL, o_itT, o_truL, o_truB, o_truI, List.set_cons_zero, List.set_cons_succ, List.length_cons, List.length_nil, if_true, if_false, Bool.not_true, Bool.not_false, Bool.false_eq_true, Option.isSome_some, Option.isSome_none, Nat.reduceAdd, Nat.zero_add, decide_true, decide_false, e_gT, e_gsC, e_gsN, e_callR0, e_callN, Nat.reduceEqDiff, lit_0, lit_1, lit_2, lit_3, lit_4, lit_5, lit_6, lit_7, lit_8, lit_9, lit_10, lit_11, lit_12, lit_13, lit_14, lit_15, lit_16, lit_17, lit_18, lit_19, lit_20, lit_21, lit_22, lit_23, cl_0, cl_1, cl_2, cl_3, cl_4, cl_5, cl_6, cl_7, cl_8, cl_9, cl_10, cl_11, cl_12, cl_13, cl_14, cl_15, cl_16, cl_17, cl_18, cl_19, cl_20, cl_21, cl_22, cl_23, optD, o_isNn]; rfl
  | some t =>
    have ht := ho t rfl
    have e1 : (w.length ≤ 16777216) = True := eq_true (by omega)
    have e2 : (t.length ≤ 16777216) = True := eq_true (by omega)
    simp -implicitDefEqProofs only [RP_ok, RP_err, RP_stuck, RP_bind, RP_quiet, RP_sure, RP_ite, RP_fin, RP_finN, OP_nx, OP_rt, OP_rto, OP_bk, OP_ct, OP_err, OP_stuck, OP_of, OP_thn, OP_lp, OP_ite, OP_tryN, OP_tryAs, OP_endS, OP_endI, true_implies, false_implies, not_true_eq_false, not_false_eq_true, and_true, true_and, implies_true, wipe_nil, wipe_cons, List.length_map, e_callR, e_callX, e_isX, e_xf, e_sNext, e_sApp, e_sPop, e_sRev, e_sRetOwn, e_sExt, e_sGive, e_sSetIx, e_hdl, hdl_nil, e_hdlAs, ownAt_own, rndAt_rnd, excAt_exc, someD_some, caseB_t, caseB_f, intD_int, clean_nil, clean_sh, clean_no, clean_own, List.getElem?_cons_zero, List.getElem?_cons_succ, decide_eq_true_eq, Bool.not_eq_true', List.length_append, Option.getD_some, ixT0, ixT1, ixT2, ixT3, ixL0, ixL1, ixL2, ixL3, o_isB, o_isL, o_isT, o_isI, o_isS, o_niPM, o_niPL, o_max2, o_min2, o_abs, o_tupL, o_tupT, o_lofL, o_lofT, e_aListOf, e_aRep, sizeLine_eq, decide_eq_false_iff_not, Classical.not_not, Nat.reduceLeDiff, Nat.zero_le, Int.reduceLE, Int.reduceLT, Int.reduceEq, Nat.reduceLT, List.nil_append, List.cons_append, cst0, cst1, cst2, cst3, cst4, cst5, cst6, cst7, cst8, cst9, cst10, cst11, cst12, o_eqB, o_neB, reduceCtorEq, Bool.true_eq_false, e_iEnumS, e_iZipS, o_enum, o_zipL, o_zipT, e_sRaise1, e_sPar, e_sPar3, e_gTL, o_isBB, o_notBB, e_sCons, e_sNil, e_sBreak, e_sCont, e_sRet, e_sRetN, e_sExpr, e_sIf, e_sAsg, e_sOwn, e_sFrz, e_sRaise, e_sFor, e_loop_nil, e_mC, e_m1, e_m2, e_mF, e_mCall, e_mM1, e_aNil, e_aCons, e_aLst, e_mTup, e_mLst, e_mN, e_mT, e_mTru, e_mAndT, e_mOrT, e_mNotT, e_mAnd, e_mOr, e_mNot, e_mIf, e_mChain, e_iSeq, e_iRange1, e_iRange2, e_oNone, e_oSome, e_mSl, e_mYes, e_mLc, e_gN, v0, vS, p0, p0o, pS, f0, f0s, f0n, fS, R.bind_ok, R.bind_err, R.bind_stuck, R.quiet_ok, R.sure_ok, R.sure_err, R.sure_stuck, O.of_ok, O.of_err, O.of_stuck, O.thn_nx, O.thn_rt, O.thn_bk, O.thn_ct, O.thn_err, O.thn_rto, O.lp_nx, O.lp_ct, O.lp_bk, O.lp_rt, O.lp_rto, O.lp_err, fin_nx, fin_rt, fin_err, asB_b, o_add, o_addI, o_sub, o_neg, o_lt, o_le, o_gt, o_ge, o_eqI, o_neI, o_eqS, o_neS, o_inS, o_lenL, o_lenT, o_int, o_itS, o_itL, o_itT, o_truL, o_truB, o_truI, List.set_cons_zero, List.set_cons_succ, List.length_cons, List.length_nil, if_true, if_false, Bool.not_true, Bool.not_false, Bool.false_eq_true, Option.isSome_some, Option.isSome_none, Nat.reduceAdd, Nat.zero_add, decide_true, decide_false, e_gT, e_gsC, e_gsN, e_callR0, e_callN, Nat.reduceEqDiff, lit_0, lit_1, lit_2, lit_3, lit_4, lit_5, lit_6, lit_7, lit_8, lit_9, lit_10, lit_11, lit_12, lit_13, lit_14, lit_15, lit_16, lit_17, lit_18, lit_19, lit_20, lit_21, lit_22, lit_23, cl_0, cl_1, cl_2, cl_3, cl_4, cl_5, cl_6, cl_7, cl_8, cl_9, cl_10, cl_11, cl_12, cl_13, cl_14, cl_15, cl_16, cl_17, cl_18, cl_19, cl_20, cl_21, cl_22, cl_23, optD, o_isNs, o_lenS, e1, e2]
    have none : (¬ (0 ≤ a ∧ (w.drop a.toNat).take t.length = t)) → PyData.none = optD ((some t).bind (rmvW w a)) := fun h => by
      show PyData.none = optD (rmvW w a t)
      unfold rmvW
      rw [if_neg h]; rfl
    refine ⟨fun h => none (by omega), fun h1 => ?_⟩
    obtain ⟨k, rfl⟩ : ∃ k : Nat, a = (k : Int) := ⟨a.toNat, by omega⟩
    have s1 : dSl (.str (S w)) Option.none (some (k : Int)) = .ok (sD (w.take k)) := by rw [o_slS (by omega), cut_to2]
    have s2 : dSl (.str (S w)) (some (k : Int)) (some ((k : Int) + (t.length : Int))) = .ok (sD ((w.drop k).take t.length)) := by rw [o_slS (by omega), cut_mid]
    have s3 : dSl (.str (S w)) (some ((k : Int) + (t.length : Int))) Option.none = .ok (sD (w.drop (k + t.length))) := by
      have : (k : Int) + (t.length : Int) = ((k + t.length : Nat) : Int) := by omega
      rw [this, o_slS (by omega), cut_from']
    simp -implicitDefEqProofs only [RP_ok, RP_err, RP_stuck, RP_bind, RP_quiet, RP_sure, RP_ite, RP_fin, RP_finN, OP_nx, OP_rt, OP_rto, OP_bk, OP_ct, OP_err, OP_stuck, OP_of, OP_thn, OP_lp, OP_ite, OP_tryN, OP_tryAs, OP_endS, OP_endI, true_implies, false_implies, not_true_eq_false, not_false_eq_true, and_true, true_and, implies_true, wipe_nil, wipe_cons, List.length_map, e_callR, e_callX, e_isX, e_xf, e_sNext, e_sApp, e_sPop, e_sRev, e_sRetOwn, e_sExt, e_sGive, e_sSetIx, e_hdl, hdl_nil, e_hdlAs, ownAt_own, rndAt_rnd, excAt_exc, someD_some, caseB_t, caseB_f, intD_int, clean_nil, clean_sh, clean_no, clean_own, List.getElem?_cons_zero, List.getElem?_cons_succ, decide_eq_true_eq, Bool.not_eq_true', List.length_append, Option.getD_some, ixT0, ixT1, ixT2, ixT3, ixL0, ixL1, ixL2, ixL3, o_isB, o_isL, o_isT, o_isI, o_isS, o_niPM, o_niPL, o_max2, o_min2, o_abs, o_tupL, o_tupT, o_lofL, o_lofT, e_aListOf, e_aRep, sizeLine_eq, decide_eq_false_iff_not, Classical.not_not, Nat.reduceLeDiff, Nat.zero_le, Int.reduceLE, Int.reduceLT, Int.reduceEq, Nat.reduceLT, List.nil_append, List.cons_append, cst0, cst1, cst2, cst3, cst4, cst5, cst6, cst7, cst8, cst9, cst10, cst11, cst12, o_eqB, o_neB, reduceCtorEq, Bool.true_eq_false, e_iEnumS, e_iZipS, o_enum, o_zipL, o_zipT, e_sRaise1, e_sPar, e_sPar3, e_gTL, o_isBB, o_notBB, e_sCons, e_sNil, e_sBreak, e_sCont, e_sRet, e_sRetN, e_sExpr, e_sIf, e_sAsg, e_sOwn, e_sFrz, e_sRaise, e_sFor, e_loop_nil, e_mC, e_m1, e_m2, e_mF, e_mCall, e_mM1, e_aNil, e_aCons, e_aLst, e_mTup, e_mLst, e_mN, e_mT, e_mTru, e_mAndT, e_mOrT, e_mNotT, e_mAnd, e_mOr, e_mNot, e_mIf, e_mChain, e_iSeq, e_iRange1, e_iRange2, e_oNone, e_oSome, e_mSl, e_mYes, e_mLc, e_gN, v0, vS, p0, p0o, pS, f0, f0s, f0n, fS, R.bind_ok, R.bind_err, R.bind_stuck, R.quiet_ok, R.sure_ok, R.sure_err, R.sure_stuck, O.of_ok, O.of_err, O.of_stuck, O.thn_nx, O.thn_rt, O.thn_bk, O.thn_ct, O.thn_err, O.thn_rto, O.lp_nx, O.lp_ct, O.lp_bk, O.lp_rt, O.lp_rto, O.lp_err, fin_nx, fin_rt, fin_err, asB_b, o_add, o_addI, o_sub, o_neg, o_lt, o_le, o_gt, o_ge, o_eqI, o_neI, o_eqS, o_neS, o_inS, o_lenL, o_lenT, o_int, o_itS, o_itL, o_itT, o_truL, o_truB, o_truI, List.set_cons_zero, List.set_cons_succ, List.length_cons, List.length_nil, if_true, if_false, Bool.not_true, Bool.not_false, Bool.false_eq_true, Option.isSome_some, Option.isSome_none, Nat.reduceAdd, Nat.zero_add, decide_true, decide_false, e_gT, e_gsC, e_gsN, e_callR0, e_callN, Nat.reduceEqDiff, lit_0, lit_1, lit_2, lit_3, lit_4, lit_5, lit_6, lit_7, lit_8, lit_9, lit_10, lit_11, lit_12, lit_13, lit_14, lit_15, lit_16, lit_17, lit_18, lit_19, lit_20, lit_21, lit_22, lit_23, cl_0, cl_1, cl_2, cl_3, cl_4, cl_5, cl_6, cl_7, cl_8, cl_9, cl_10, cl_11, cl_12, cl_13, cl_14, cl_15, cl_16, cl_17, cl_18, cl_19, cl_20, cl_21, cl_22, cl_23, s1, s2, s3, o_addS, o_neS]
    refine ⟨fun h => none (fun z => h (by rw [Int.toNat_natCast] at z; exact z.2)), fun h2 => ⟨fun _ => ?_, fun z => absurd ?_ z⟩⟩
    · show _ = optD (rmvW w (k : Int) t)
      unfold rmvW
      rw [if_pos (by rw [Int.toNat_natCast]; exact ⟨by omega, h2⟩), Int.toNat_natCast]; rfl
    · rw [List.length_take, List.length_drop]; omega

end Law
end
end
section
set_option Elab.async false
set_option linter.all false
set_option maxRecDepth 100000
set_option autoImplicit false
set_option maxHeartbeats 4000000
noncomputable section
namespace Law
open PySem DW L2
open SX (S S_tl S_len S_cat)
theorem r__letter_pair {g : Int} {rs : List (List Nat)} {c : List Nat} (h1 : 1 ≤ g) (h2 : g ≤ 3) (hl : c.length ≤ 1000) : m__letter_pair [PV g rs, sD c] = .ok (optD (ltP g c)) := by
  have hz := sizeLine_eq
  refine eq_ok ?_
  show RP False (fin (b__letter_pair [some (.sh (PV g rs)), some (.sh (sD c))])) _ _
  unfold b__letter_pair
  have e1 : (c.length ≤ 16777216) = True := eq_true (by omega)
  simp -implicitDefEqProofs only [RP_ok, RP_err, RP_stuck, RP_bind, RP_quiet, RP_sure, RP_ite, RP_fin, RP_finN, OP_nx, OP_rt, OP_rto, OP_bk, OP_ct, OP_err, OP_stuck, OP_of, OP_thn, OP_lp, OP_ite, OP_tryN, OP_tryAs, OP_endS, OP_endI, true_implies, false_implies, not_true_eq_false, not_false_eq_true, and_true, true_and, implies_true, wipe_nil, wipe_cons, List.length_map, e_callR, e_callX, e_isX, e_xf, e_sNext, e_sApp, e_sPop, e_sRev, e_sRetOwn, e_sExt, e_sGive, e_sSetIx, e_hdl, hdl_nil, e_hdlAs, ownAt_own, rndAt_rnd, excAt_exc, someD_some, caseB_t, caseB_f, intD_int, clean_nil, clean_sh, clean_no, clean_own, List.getElem?_cons_zero, List.getElem?_cons_succ, decide_eq_true_eq, Bool.not_eq_true', List.length_append, Option.getD_some, ixT0, ixT1, ixT2, ixT3, ixL0, ixL1, ixL2, ixL3, o_isB, o_isL, o_isT, o_isI, o_isS, o_niPM, o_niPL, o_max2, o_min2, o_abs, o_tupL, o_tupT, o_lofL, o_lofT, e_aListOf, e_aRep, sizeLine_eq, decide_eq_false_iff_not, Classical.not_not, Nat.reduceLeDiff, Nat.zero_le, Int.reduceLE, Int.reduceLT, Int.reduceEq, Nat.reduceLT, List.nil_append, List.cons_append, cst0, cst1, cst2, cst3, cst4, cst5, cst6, cst7, cst8, cst9, cst10, cst11, cst12, o_eqB, o_neB, reduceCtorEq, Bool.true_eq_false, e_iEnumS, e_iZipS, o_enum, o_zipL, o_zipT, e_sRaise1, e_sPar, e_sPar3, e_gTL, o_isBB, o_notBB, e_sCons, e_sNil, e_sBreak, e_sCont, e_sRet, e_sRetN, e_sExpr, e_sIf, e_sAsg, e_sOwn, e_sFrz, e_sRaise, e_sFor, e_loop_nil, e_mC, e_m1, e_m2, e_mF, e_mCall, e_mM1, e_aNil, e_aCons, e_aLst, e_mTup, e_mLst, e_mN, e_mT, e_mTru, e_mAndT, e_mOrT, e_mNotT, e_mAnd, e_mOr, e_mNot, e_mIf, e_mChain, e_iSeq, e_iRange1, e_iRange2, e_oNone, e_oSome, e_mSl, e_mYes, e_mLc, e_gN, v0, vS, p0, p0o, pS, f0, f0s, f0n, fS, R.bind_ok, R.bind_err, R.bind_stuck, R.quiet_ok, R.sure_ok, R.sure_err, R.sure_stuck, O.of_ok, O.of_err, O.of_stuck, O.thn_nx, O.thn_rt, O.thn_bk, O.thn_ct, O.thn_err, O.thn_rto, O.lp_nx, O.lp_ct, O.lp_bk, O.lp_rt, O.lp_rto, O.lp_err, fin_nx, fin_rt, fin_err, asB_b, o_add, o_addI, o_sub, o_neg, o_lt, o_le, o_gt, o_ge, o_eqI, o_neI, o_eqS, o_neS, o_inS, o_lenL, o_lenT, o_int, o_itS, o_itL, o_itT, o_truL, o_truB, o_truI, List.set_cons_zero, List.set_cons_succ, List.length_cons, List.length_nil, if_true, if_false, Bool.not_true, Bool.not_false, Bool.false_eq_true, Option.isSome_some, Option.isSome_none, Nat.reduceAdd, Nat.zero_add, decide_true, decide_false, e_gT, e_gsC, e_gsN, e_callR0, e_callN, Nat.reduceEqDiff, lit_0, lit_1, lit_2, lit_3, lit_4, lit_5, lit_6, lit_7, lit_8, lit_9, lit_10, lit_11, lit_12, lit_13, lit_14, lit_15, lit_16, lit_17, lit_18, lit_19, lit_20, lit_21, lit_22, lit_23, cl_0, cl_1, cl_2, cl_3, cl_4, cl_5, cl_6, cl_7, cl_8, cl_9, cl_10, cl_11, cl_12, cl_13, cl_14, cl_15, cl_16, cl_17, cl_18, cl_19, cl_20, cl_21, cl_22, cl_23, o_lenS, e1, r_is_word h1 h2 (show c.length ≤ 1000000 by omega)]
  match c with
  | [] => exact ⟨fun _ => rfl, fun z => by simp at z⟩
  | x :: y :: c => exact ⟨fun _ => rfl, fun z => by simp only [List.length_cons] at z; omega⟩
  | [x] =>
    by_cases hx : x ∈ lt g
    · have e2 : okw g [x] = true := okw_iff.mpr fun c hc => by rw [List.mem_singleton.mp hc]; exact hx
      have e3 : ltP g [x] = some [x, inv x] := if_pos hx
      simp -implicitDefEqProofs only [RP_ok, RP_err, RP_stuck, RP_bind, RP_quiet, RP_sure, RP_ite, RP_fin, RP_finN, OP_nx, OP_rt, OP_rto, OP_bk, OP_ct, OP_err, OP_stuck, OP_of, OP_thn, OP_lp, OP_ite, OP_tryN, OP_tryAs, OP_endS, OP_endI, true_implies, false_implies, not_true_eq_false, not_false_eq_true, and_true, true_and, implies_true, wipe_nil, wipe_cons, List.length_map, e_callR, e_callX, e_isX, e_xf, e_sNext, e_sApp, e_sPop, e_sRev, e_sRetOwn, e_sExt, e_sGive, e_sSetIx, e_hdl, hdl_nil, e_hdlAs, ownAt_own, rndAt_rnd, excAt_exc, someD_some, caseB_t, caseB_f, intD_int, clean_nil, clean_sh, clean_no, clean_own, List.getElem?_cons_zero, List.getElem?_cons_succ, decide_eq_true_eq, Bool.not_eq_true', List.length_append, Option.getD_some, ixT0, ixT1, ixT2, ixT3, ixL0, ixL1, ixL2, ixL3, o_isB, o_isL, o_isT, o_isI, o_isS, o_niPM, o_niPL, o_max2, o_min2, o_abs, o_tupL, o_tupT, o_lofL, o_lofT, e_aListOf, e_aRep, sizeLine_eq, decide_eq_false_iff_not, Classical.not_not, Nat.reduceLeDiff, Nat.zero_le, Int.reduceLE, Int.reduceLT, Int.reduceEq, Nat.reduceLT, List.nil_append, List.cons_append, cst0, cst1, cst2, cst3, cst4, cst5, cst6, cst7, cst8, cst9, cst10, cst11, cst12, o_eqB, o_neB, reduceCtorEq, Bool.true_eq_false, e_iEnumS, e_iZipS, o_enum, o_zipL, o_zipT, e_sRaise1, e_sPar, e_sPar3, e_gTL, o_isBB, o_notBB, e_sCons, e_sNil, e_sBreak, e_sCont, e_sRet, e_sRetN, e_sExpr, e_sIf, e_sAsg, e_sOwn, e_sFrz, e_sRaise, e_sFor, e_loop_nil, e_mC, e_m1, e_m2, e_mF, e_mCall, e_mM1, e_aNil, e_aCons, e_aLst, e_mTup, e_mLst, e_mN, e_mT, e_mTru, e_mAndT, e_mOrT, e_mNotT, e_mAnd, e_mOr, e_mNot, e_mIf, e_mChain, e_iSeq, e_iRange1, e_iRange2, e_oNone, e_oSome, e_mSl, e_mYes, e_mLc, e_gN, v0, vS, p0, p0o, pS, f0, f0s, f0n, fS, R.bind_ok, R.bind_err, R.bind_stuck, R.quiet_ok, R.sure_ok, R.sure_err, R.sure_stuck, O.of_ok, O.of_err, O.of_stuck, O.thn_nx, O.thn_rt, O.thn_bk, O.thn_ct, O.thn_err, O.thn_rto, O.lp_nx, O.lp_ct, O.lp_bk, O.lp_rt, O.lp_rto, O.lp_err, fin_nx, fin_rt, fin_err, asB_b, o_add, o_addI, o_sub, o_neg, o_lt, o_le, o_gt, o_ge, o_eqI, o_neI, o_eqS, o_neS, o_inS, o_lenL, o_lenT, o_int, o_itS, o_itL, o_itT, o_truL, o_truB, o_truI, List.set_cons_zero, List.set_cons_succ, List.length_cons, List.length_nil, if_true, if_false, Bool.not_true, Bool.not_false, Bool.false_eq_true, Option.isSome_some, Option.isSome_none, Nat.reduceAdd, Nat.zero_add, decide_true, decide_false, e_gT, e_gsC, e_gsN, e_callR0, e_callN, Nat.reduceEqDiff, lit_0, lit_1, lit_2, lit_3, lit_4, lit_5, lit_6, lit_7, lit_8, lit_9, lit_10, lit_11, lit_12, lit_13, lit_14, lit_15, lit_16, lit_17, lit_18, lit_19, lit_20, lit_21, lit_22, lit_23, cl_0, cl_1, cl_2, cl_3, cl_4, cl_5, cl_6, cl_7, cl_8, cl_9, cl_10, cl_11, cl_12, cl_13, cl_14, cl_15, cl_16, cl_17, cl_18, cl_19, cl_20, cl_21, cl_22, cl_23, e2, e3, r_inverse_letter x (lt_sub hx), o_addS]
      rfl
    · have e2 : okw g [x] = false := by
        rw [Bool.eq_false_iff]; exact fun z => hx (okw_iff.mp z x List.mem_cons_self)
      have e3 : ltP g [x] = none := if_neg hx
      simp -implicitDefEqProofs only [RP_ok, RP_err, RP_stuck, RP_bind, RP_quiet, RP_sure, RP_ite, RP_fin, RP_finN, OP_nx, OP_rt, OP_rto, OP_bk, OP_ct, OP_err, OP_stuck, OP_of, OP_thn, OP_lp, OP_ite, OP_tryN, OP_tryAs, OP_endS, OP_endI, true_implies, false_implies, not_true_eq_false, not_false_eq_true, and_true, true_and, implies_true, wipe_nil, wipe_cons, List.length_map, e_callR, e_callX, e_isX, e_xf, e_sNext, e_sApp, e_sPop, e_sRev, e_sRetOwn, e_sExt, e_sGive, e_sSetIx, e_hdl, hdl_nil, e_hdlAs, ownAt_own, rndAt_rnd, excAt_exc, someD_some, caseB_t, caseB_f, intD_int, clean_nil, clean_sh, clean_no, clean_own, List.getElem?_cons_zero, List.getElem?_cons_succ, decide_eq_true_eq, Bool.not_eq_true', List.length_append, Option.getD_some, ixT0, ixT1, ixT2, ixT3, ixL0, ixL1, ixL2, ixL3, o_isB, o_isL, o_isT, o_isI, o_isS, o_niPM, o_niPL, o_max2, o_min2, o_abs, o_tupL, o_tupT, o_lofL, o_lofT, e_aListOf, e_aRep, sizeLine_eq, decide_eq_false_iff_not, Classical.not_not, Nat.reduceLeDiff, Nat.zero_le, Int.reduceLE, Int.reduceLT, Int.reduceEq, Nat.reduceLT, List.nil_append, List.cons_append, cst0, cst1, cst2, cst3, cst4, cst5, cst6, cst7, cst8, cst9, cst10, cst11, cst12, o_eqB, o_neB, reduceCtorEq, Bool.true_eq_false, e_iEnumS, e_iZipS, o_enum, o_zipL, o_zipT, e_sRaise1, e_sPar, e_sPar3, e_gTL, o_isBB, o_notBB, e_sCons, e_sNil, e_sBreak, e_sCont, e_sRet, e_sRetN, e_sExpr, e_sIf, e_sAsg, e_sOwn, e_sFrz, e_sRaise, e_sFor, e_loop_nil, e_mC, e_m1, e_m2, e_mF, e_mCall, e_mM1, e_aNil, e_aCons, e_aLst, e_mTup, e_mLst, e_mN, e_mT, e_mTru, e_mAndT, e_mOrT, e_mNotT, e_mAnd, e_mOr, e_mNot, e_mIf, e_mChain, e_iSeq, e_iRange1, e_iRange2, e_oNone, e_oSome, e_mSl, e_mYes, e_mLc, e_gN, v0, vS, p0, p0o, pS, f0, f0s, f0n, fS, R.bind_ok, R.bind_err, R.bind_stuck, R.quiet_ok, R.sure_ok, R.sure_err, R.sure_stuck, O.of_ok, O.of_err, O.of_stuck, O.thn_nx, O.thn_rt, O.thn_bk, O.thn_ct, O.thn_err, O.thn_rto, O.lp_nx, O.lp_ct, O.lp_bk, O.lp_rt, O.lp_rto, O.lp_err, fin_nx, fin_rt, fin_err, asB_b, o_add, o_addI, o_sub, o_neg, o_lt, o_le, o_gt, o_ge, o_eqI, o_neI, o_eqS, o_neS, o_inS, o_lenL, o_lenT, o_int, o_itS, o_itL, o_itT, o_truL, o_truB, o_truI, List.set_cons_zero, List.set_cons_succ, List.length_cons, List.length_nil, if_true, if_false, Bool.not_true, Bool.not_false, Bool.false_eq_true, Option.isSome_some, Option.isSome_none, Nat.reduceAdd, Nat.zero_add, decide_true, decide_false, e_gT, e_gsC, e_gsN, e_callR0, e_callN, Nat.reduceEqDiff, lit_0, lit_1, lit_2, lit_3, lit_4, lit_5, lit_6, lit_7, lit_8, lit_9, lit_10, lit_11, lit_12, lit_13, lit_14, lit_15, lit_16, lit_17, lit_18, lit_19, lit_20, lit_21, lit_22, lit_23, cl_0, cl_1, cl_2, cl_3, cl_4, cl_5, cl_6, cl_7, cl_8, cl_9, cl_10, cl_11, cl_12, cl_13, cl_14, cl_15, cl_16, cl_17, cl_18, cl_19, cl_20, cl_21, cl_22, cl_23, e2, e3]
      rfl

end Law
end
end
section
set_option Elab.async false
set_option linter.all false
set_option maxRecDepth 100000
set_option autoImplicit false
set_option maxHeartbeats 4000000
noncomputable section
namespace Law
open PySem DW L2
open SX (S S_tl S_len S_cat)
theorem r__pair_at {w : List Nat} {a : Int} (hw : Wd w) (hl : w.length ≤ 1000) : m__pair_at [sD w, .int a] = .ok (optD (pairA w a)) := by
  have hz := sizeLine_eq
  refine eq_ok ?_
  show RP False (fin (b__pair_at [some (.sh (sD w)), some (.sh (.int a))])) _ _
  unfold b__pair_at
  have e1 : (w.length ≤ 16777216) = True := eq_true (by omega)
  simp -implicitDefEqProofs only [RP_ok, RP_err, RP_stuck, RP_bind, RP_quiet, RP_sure, RP_ite, RP_fin, RP_finN, OP_nx, OP_rt, OP_rto, OP_bk, OP_ct, OP_err, OP_stuck, OP_of, OP_thn, OP_lp, OP_ite, OP_tryN, OP_tryAs, OP_endS, OP_endI, true_implies, false_implies, not_true_eq_false, not_false_eq_true, and_true, true_and, implies_true, wipe_nil, wipe_cons, List.length_map, e_callR, e_callX, e_isX, e_xf, e_sNext, e_sApp, e_sPop, e_sRev, e_sRetOwn, e_sExt, e_sGive, e_sSetIx, e_hdl, hdl_nil, e_hdlAs, ownAt_own, rndAt_rnd, excAt_exc, someD_some, caseB_t, caseB_f, intD_int, clean_nil, clean_sh, clean_no, clean_own, List.getElem?_cons_zero, List.getElem?_cons_succ, decide_eq_true_eq, Bool.not_eq_true', List.length_append, Option.getD_some, ixT0, ixT1, ixT2, ixT3, ixL0, ixL1, ixL2, ixL3, o_isB, o_isL, o_isT, o_isI, o_isS, o_niPM, o_niPL, o_max2, o_min2, o_abs, o_tupL, o_tupT, o_lofL, o_lofT, e_aListOf, e_aRep, sizeLine_eq, decide_eq_false_iff_not, Classical.not_not, Nat.reduceLeDiff, Nat.zero_le, Int.reduceLE, Int.reduceLT, Int.reduceEq, Nat.reduceLT, List.nil_append, List.cons_append, cst0, cst1, cst2, cst3, cst4, cst5, cst6, cst7, cst8, cst9, cst10, cst11, cst12, o_eqB, o_neB, reduceCtorEq, Bool.true_eq_false, e_iEnumS, e_iZipS, o_enum, o_zipL, o_zipT, e_sRaise1, e_sPar, e_sPar3, e_gTL, o_isBB, o_notBB, e_sCons, e_sNil, e_sBreak, e_sCont, e_sRet, e_sRetN, e_sExpr, e_sIf, e_sAsg, e_sOwn, e_sFrz, e_sRaise, e_sFor, e_loop_nil, e_mC, e_m1, e_m2, e_mF, e_mCall, e_mM1, e_aNil, e_aCons, e_aLst, e_mTup, e_mLst, e_mN, e_mT, e_mTru, e_mAndT, e_mOrT, e_mNotT, e_mAnd, e_mOr, e_mNot, e_mIf, e_mChain, e_iSeq, e_iRange1, e_iRange2, e_oNone, e_oSome, e_mSl, e_mYes, e_mLc, e_gN, v0, vS, p0, p0o, pS, f0, f0s, f0n, fS, R.bind_ok, R.bind_err, R.bind_stuck, R.quiet_ok, R.sure_ok, R.sure_err, R.sure_stuck, O.of_ok, O.of_err, O.of_stuck, O.thn_nx, O.thn_rt, O.thn_bk, O.thn_ct, O.thn_err, O.thn_rto, O.lp_nx, O.lp_ct, O.lp_bk, O.lp_rt, O.lp_rto, O.lp_err, fin_nx, fin_rt, fin_err, asB_b, o_add, o_addI, o_sub, o_neg, o_lt, o_le, o_gt, o_ge, o_eqI, o_neI, o_eqS, o_neS, o_inS, o_lenL, o_lenT, o_int, o_itS, o_itL, o_itT, o_truL, o_truB, o_truI, List.set_cons_zero, List.set_cons_succ, List.length_cons, List.length_nil, if_true, if_false, Bool.not_true, Bool.not_false, Bool.false_eq_true, Option.isSome_some, Option.isSome_none, Nat.reduceAdd, Nat.zero_add, decide_true, decide_false, e_gT, e_gsC, e_gsN, e_callR0, e_callN, Nat.reduceEqDiff, lit_0, lit_1, lit_2, lit_3, lit_4, lit_5, lit_6, lit_7, lit_8, lit_9, lit_10, lit_11, lit_12, lit_13, lit_14, lit_15, lit_16, lit_17, lit_18, lit_19, lit_20, lit_21, lit_22, lit_23, cl_0, cl_1, cl_2, cl_3, cl_4, cl_5, cl_6, cl_7, cl_8, cl_9, cl_10, cl_11, cl_12, cl_13, cl_14, cl_15, cl_16, cl_17, cl_18, cl_19, cl_20, cl_21, cl_22, cl_23, o_lenS, e1]
  have none : (¬ (0 ≤ a ∧ a + 1 < w.length ∧ w.getD (a.toNat + 1) 0 = inv (w.getD a.toNat 0))) → PyData.none = optD (pairA w a) := fun h => by
    unfold pairA
    rw [if_neg h]; rfl
  refine ⟨fun h => none (by omega), fun h1 => ⟨fun h => none (by omega), fun h2 => ?_⟩⟩
  obtain ⟨k, rfl⟩ : ∃ k : Nat, a = (k : Int) := ⟨a.toNat, by omega⟩
  have i1 : dIdx (.str (S w)) (.int ((k : Int) + 1)) = .ok (one (w.getD (k + 1) 0)) := by
    have : (k : Int) + 1 = ((k + 1 : Nat) : Int) := by omega
    rw [this, ixSD (by omega) (by omega)]
  have i2 : dIdx (.str (S w)) (.int (k : Int)) = .ok (one (w.getD k 0)) := ixSD (by omega) (by omega)
  have s2 : dSl (.str (S w)) (some (k : Int)) (some ((k : Int) + 2)) = .ok (sD ((w.drop k).take 2)) := by
    have := cut_mid (l := w) (a := k) (n := 2)
    rw [o_slS (by omega)]
    exact congrArg (fun l => R.ok (sD l)) this
  have hk : w.getD k 0 ∈ L6 := hw _ (getD_mem (by omega))
  simp -implicitDefEqProofs only [RP_ok, RP_err, RP_stuck, RP_bind, RP_quiet, RP_sure, RP_ite, RP_fin, RP_finN, OP_nx, OP_rt, OP_rto, OP_bk, OP_ct, OP_err, OP_stuck, OP_of, OP_thn, OP_lp, OP_ite, OP_tryN, OP_tryAs, OP_endS, OP_endI, true_implies, false_implies, not_true_eq_false, not_false_eq_true, and_true, true_and, implies_true, wipe_nil, wipe_cons, List.length_map, e_callR, e_callX, e_isX, e_xf, e_sNext, e_sApp, e_sPop, e_sRev, e_sRetOwn, e_sExt, e_sGive, e_sSetIx, e_hdl, hdl_nil, e_hdlAs, ownAt_own, rndAt_rnd, excAt_exc, someD_some, caseB_t, caseB_f, intD_int, clean_nil, clean_sh, clean_no, clean_own, List.getElem?_cons_zero, List.getElem?_cons_succ, decide_eq_true_eq, Bool.not_eq_true', List.length_append, Option.getD_some, ixT0, ixT1, ixT2, ixT3, ixL0, ixL1, ixL2, ixL3, o_isB, o_isL, o_isT, o_isI, o_isS, o_niPM, o_niPL, o_max2, o_min2, o_abs, o_tupL, o_tupT, o_lofL, o_lofT, e_aListOf, e_aRep, sizeLine_eq, decide_eq_false_iff_not, Classical.not_not, Nat.reduceLeDiff, Nat.zero_le, Int.reduceLE, Int.reduceLT, Int.reduceEq, Nat.reduceLT, List.nil_append, List.cons_append, cst0, cst1, cst2, cst3, cst4, cst5, cst6, cst7, cst8, cst9, cst10, cst11, cst12, o_eqB, o_neB, reduceCtorEq, Bool.true_eq_false, e_iEnumS, e_iZipS, o_enum, o_zipL, o_zipT, e_sRaise1, e_sPar, e_sPar3, e_gTL, o_isBB, o_notBB, e_sCons, e_sNil, e_sBreak, e_sCont, e_sRet, e_sRetN, e_sExpr, e_sIf, e_sAsg, e_sOwn, e_sFrz, e_sRaise, e_sFor, e_loop_nil, e_mC, e_m1, e_m2, e_mF, e_mCall, e_mM1, e_aNil, e_aCons, e_aLst, e_mTup, e_mLst, e_mN, e_mT, e_mTru, e_mAndT, e_mOrT, e_mNotT, e_mAnd, e_mOr, e_mNot, e_mIf, e_mChain, e_iSeq, e_iRange1, e_iRange2, e_oNone, e_oSome, e_mSl, e_mYes, e_mLc, e_gN, v0, vS, p0, p0o, pS, f0, f0s, f0n, fS, R.bind_ok, R.bind_err, R.bind_stuck, R.quiet_ok, R.sure_ok, R.sure_err, R.sure_stuck, O.of_ok, O.of_err, O.of_stuck, O.thn_nx, O.thn_rt, O.thn_bk, O.thn_ct, O.thn_err, O.thn_rto, O.lp_nx, O.lp_ct, O.lp_bk, O.lp_rt, O.lp_rto, O.lp_err, fin_nx, fin_rt, fin_err, asB_b, o_add, o_addI, o_sub, o_neg, o_lt, o_le, o_gt, o_ge, o_eqI, o_neI, o_eqS, o_neS, o_inS, o_lenL, o_lenT, o_int, o_itS, o_itL, o_itT, o_truL, o_truB, o_truI, List.set_cons_zero, List.set_cons_succ, List.length_cons, List.length_nil, if_true, if_false, Bool.not_true, Bool.not_false, Bool.false_eq_true, Option.isSome_some, Option.isSome_none, Nat.reduceAdd, Nat.zero_add, decide_true, decide_false, e_gT, e_gsC, e_gsN, e_callR0, e_callN, Nat.reduceEqDiff, lit_0, lit_1, lit_2, lit_3, lit_4, lit_5, lit_6, lit_7, lit_8, lit_9, lit_10, lit_11, lit_12, lit_13, lit_14, lit_15, lit_16, lit_17, lit_18, lit_19, lit_20, lit_21, lit_22, lit_23, cl_0, cl_1, cl_2, cl_3, cl_4, cl_5, cl_6, cl_7, cl_8, cl_9, cl_10, cl_11, cl_12, cl_13, cl_14, cl_15, cl_16, cl_17, cl_18, cl_19, cl_20, cl_21, cl_22, cl_23, i1, i2, r_inverse_letter _ hk, s2, o_neS, one_eq]
  refine ⟨fun h => none (fun z => h (by rw [Int.toNat_natCast] at z; rw [z.2.2])), fun h => ?_⟩
  unfold pairA
  rw [if_pos (by rw [Int.toNat_natCast]; exact ⟨by omega, by omega, h⟩), Int.toNat_natCast]
  rfl

end Law
end
end
section
set_option Elab.async false
set_option linter.all false
set_option maxRecDepth 100000
set_option autoImplicit false
set_option maxHeartbeats 4000000
noncomputable section
namespace Law
open PySem DW L2
open SX (S S_tl S_len S_cat)
theorem r_flipped {w : List Nat} (h : Wd w) (hl : w.length ≤ 1000000) : m_flipped [.str (S w)] = .ok (.str (S (invw w))) := by
  have hz := sizeLine_eq
  show fin (b_flipped [some (.sh (.str (S w))), none]) = _
  unfold b_flipped
  simp -implicitDefEqProofs only [e_sCons, e_sNil, e_sBreak, e_sCont, e_sRet, e_sRetN, e_sExpr, e_sIf, e_sAsg, e_sOwn, e_sFrz, e_sRaise, e_sFor, e_loop_nil, e_mC, e_m1, e_m2, e_mF, e_mCall, e_mM1, e_aNil, e_aCons, e_aLst, e_mTup, e_mLst, e_mN, e_mT, e_mTru, e_mAndT, e_mOrT, e_mNotT, e_mAnd, e_mOr, e_mNot, e_mIf, e_mChain, e_iSeq, e_iRange1, e_iRange2, e_oNone, e_oSome, e_mSl, e_mYes, e_mLc, e_gN, v0, vS, p0, p0o, pS, f0, f0s, f0n, fS, R.bind_ok, R.bind_err, R.bind_stuck, R.quiet_ok, R.sure_ok, R.sure_err, R.sure_stuck, O.of_ok, O.of_err, O.of_stuck, O.thn_nx, O.thn_rt, O.thn_bk, O.thn_ct, O.thn_err, O.thn_rto, O.lp_nx, O.lp_ct, O.lp_bk, O.lp_rt, O.lp_rto, O.lp_err, fin_nx, fin_rt, fin_err, asB_b, o_add, o_addI, o_sub, o_neg, o_lt, o_le, o_gt, o_ge, o_eqI, o_neI, o_eqS, o_neS, o_inS, o_lenL, o_lenT, o_int, o_itS, o_itL, o_itT, o_truL, o_truB, o_truI, List.set_cons_zero, List.set_cons_succ, List.length_cons, List.length_nil, if_true, if_false, Bool.not_true, Bool.not_false, Bool.false_eq_true, Option.isSome_some, Option.isSome_none, Nat.reduceAdd, Nat.zero_add, decide_true, decide_false, e_gT, e_gsC, e_gsN, e_callR0, e_callN, Nat.reduceEqDiff, lit_0, lit_1, lit_2, lit_3, lit_4, lit_5, lit_6, lit_7, lit_8, lit_9, lit_10, lit_11, lit_12, lit_13, lit_14, lit_15, lit_16, lit_17, lit_18, lit_19, lit_20, lit_21, lit_22, lit_23, cl_0, cl_1, cl_2, cl_3, cl_4, cl_5, cl_6, cl_7, cl_8, cl_9, cl_10, cl_11, cl_12, cl_13, cl_14, cl_15, cl_16, cl_17, cl_18, cl_19, cl_20, cl_21, cl_22, cl_23, o_revS (show w.length ≤ 16777216 by omega)]
  have e : lcLoop (gN 1) mYes ce_flipped_1 (wipeD (clean [some (.sh (.str (S w))), none]) [1]) (w.reverse.map one') = .ok ((w.reverse.map one').map fun d => match d with | .str z => one (inv (z.cps.toList.getD 0 0)) | _ => .none) := by
    refine lc_map _ fun d hd => ?_
    obtain ⟨c, hc, rfl⟩ := List.mem_map.mp hd
    show ce_flipped_1 [some (.sh (.str (S w))), some (.sh (one c))] = _
    unfold ce_flipped_1
    simp -implicitDefEqProofs only [e_sCons, e_sNil, e_sBreak, e_sCont, e_sRet, e_sRetN, e_sExpr, e_sIf, e_sAsg, e_sOwn, e_sFrz, e_sRaise, e_sFor, e_loop_nil, e_mC, e_m1, e_m2, e_mF, e_mCall, e_mM1, e_aNil, e_aCons, e_aLst, e_mTup, e_mLst, e_mN, e_mT, e_mTru, e_mAndT, e_mOrT, e_mNotT, e_mAnd, e_mOr, e_mNot, e_mIf, e_mChain, e_iSeq, e_iRange1, e_iRange2, e_oNone, e_oSome, e_mSl, e_mYes, e_mLc, e_gN, v0, vS, p0, p0o, pS, f0, f0s, f0n, fS, R.bind_ok, R.bind_err, R.bind_stuck, R.quiet_ok, R.sure_ok, R.sure_err, R.sure_stuck, O.of_ok, O.of_err, O.of_stuck, O.thn_nx, O.thn_rt, O.thn_bk, O.thn_ct, O.thn_err, O.thn_rto, O.lp_nx, O.lp_ct, O.lp_bk, O.lp_rt, O.lp_rto, O.lp_err, fin_nx, fin_rt, fin_err, asB_b, o_add, o_addI, o_sub, o_neg, o_lt, o_le, o_gt, o_ge, o_eqI, o_neI, o_eqS, o_neS, o_inS, o_lenL, o_lenT, o_int, o_itS, o_itL, o_itT, o_truL, o_truB, o_truI, List.set_cons_zero, List.set_cons_succ, List.length_cons, List.length_nil, if_true, if_false, Bool.not_true, Bool.not_false, Bool.false_eq_true, Option.isSome_some, Option.isSome_none, Nat.reduceAdd, Nat.zero_add, decide_true, decide_false, e_gT, e_gsC, e_gsN, e_callR0, e_callN, Nat.reduceEqDiff, lit_0, lit_1, lit_2, lit_3, lit_4, lit_5, lit_6, lit_7, lit_8, lit_9, lit_10, lit_11, lit_12, lit_13, lit_14, lit_15, lit_16, lit_17, lit_18, lit_19, lit_20, lit_21, lit_22, lit_23, cl_0, cl_1, cl_2, cl_3, cl_4, cl_5, cl_6, cl_7, cl_8, cl_9, cl_10, cl_11, cl_12, cl_13, cl_14, cl_15, cl_16, cl_17, cl_18, cl_19, cl_20, cl_21, cl_22, cl_23, r_inverse_letter c (h c (List.mem_reverse.mp hc))]
    rfl
  rw [if_pos (by rw [List.length_map, List.length_reverse, hz]; omega), e]
  simp -implicitDefEqProofs only [e_sCons, e_sNil, e_sBreak, e_sCont, e_sRet, e_sRetN, e_sExpr, e_sIf, e_sAsg, e_sOwn, e_sFrz, e_sRaise, e_sFor, e_loop_nil, e_mC, e_m1, e_m2, e_mF, e_mCall, e_mM1, e_aNil, e_aCons, e_aLst, e_mTup, e_mLst, e_mN, e_mT, e_mTru, e_mAndT, e_mOrT, e_mNotT, e_mAnd, e_mOr, e_mNot, e_mIf, e_mChain, e_iSeq, e_iRange1, e_iRange2, e_oNone, e_oSome, e_mSl, e_mYes, e_mLc, e_gN, v0, vS, p0, p0o, pS, f0, f0s, f0n, fS, R.bind_ok, R.bind_err, R.bind_stuck, R.quiet_ok, R.sure_ok, R.sure_err, R.sure_stuck, O.of_ok, O.of_err, O.of_stuck, O.thn_nx, O.thn_rt, O.thn_bk, O.thn_ct, O.thn_err, O.thn_rto, O.lp_nx, O.lp_ct, O.lp_bk, O.lp_rt, O.lp_rto, O.lp_err, fin_nx, fin_rt, fin_err, asB_b, o_add, o_addI, o_sub, o_neg, o_lt, o_le, o_gt, o_ge, o_eqI, o_neI, o_eqS, o_neS, o_inS, o_lenL, o_lenT, o_int, o_itS, o_itL, o_itT, o_truL, o_truB, o_truI, List.set_cons_zero, List.set_cons_succ, List.length_cons, List.length_nil, if_true, if_false, Bool.not_true, Bool.not_false, Bool.false_eq_true, Option.isSome_some, Option.isSome_none, Nat.reduceAdd, Nat.zero_add, decide_true, decide_false, e_gT, e_gsC, e_gsN, e_callR0, e_callN, Nat.reduceEqDiff, lit_0, lit_1, lit_2, lit_3, lit_4, lit_5, lit_6, lit_7, lit_8, lit_9, lit_10, lit_11, lit_12, lit_13, lit_14, lit_15, lit_16, lit_17, lit_18, lit_19, lit_20, lit_21, lit_22, lit_23, cl_0, cl_1, cl_2, cl_3, cl_4, cl_5, cl_6, cl_7, cl_8, cl_9, cl_10, cl_11, cl_12, cl_13, cl_14, cl_15, cl_16, cl_17, cl_18, cl_19, cl_20, cl_21, cl_22, cl_23]
  have e2 : ((w.reverse.map one').map fun d => match d with | .str z => one (inv (z.cps.toList.getD 0 0)) | _ => .none) = (invw w).map one' := by
    unfold invw
    rw [List.map_map, List.map_map]
    rfl
  rw [e2, o_join (by rw [invw_len]; omega)]
  simp -implicitDefEqProofs only [e_sCons, e_sNil, e_sBreak, e_sCont, e_sRet, e_sRetN, e_sExpr, e_sIf, e_sAsg, e_sOwn, e_sFrz, e_sRaise, e_sFor, e_loop_nil, e_mC, e_m1, e_m2, e_mF, e_mCall, e_mM1, e_aNil, e_aCons, e_aLst, e_mTup, e_mLst, e_mN, e_mT, e_mTru, e_mAndT, e_mOrT, e_mNotT, e_mAnd, e_mOr, e_mNot, e_mIf, e_mChain, e_iSeq, e_iRange1, e_iRange2, e_oNone, e_oSome, e_mSl, e_mYes, e_mLc, e_gN, v0, vS, p0, p0o, pS, f0, f0s, f0n, fS, R.bind_ok, R.bind_err, R.bind_stuck, R.quiet_ok, R.sure_ok, R.sure_err, R.sure_stuck, O.of_ok, O.of_err, O.of_stuck, O.thn_nx, O.thn_rt, O.thn_bk, O.thn_ct, O.thn_err, O.thn_rto, O.lp_nx, O.lp_ct, O.lp_bk, O.lp_rt, O.lp_rto, O.lp_err, fin_nx, fin_rt, fin_err, asB_b, o_add, o_addI, o_sub, o_neg, o_lt, o_le, o_gt, o_ge, o_eqI, o_neI, o_eqS, o_neS, o_inS, o_lenL, o_lenT, o_int, o_itS, o_itL, o_itT, o_truL, o_truB, o_truI, List.set_cons_zero, List.set_cons_succ, List.length_cons, List.length_nil, if_true, if_false, Bool.not_true, Bool.not_false, Bool.false_eq_true, Option.isSome_some, Option.isSome_none, Nat.reduceAdd, Nat.zero_add, decide_true, decide_false, e_gT, e_gsC, e_gsN, e_callR0, e_callN, Nat.reduceEqDiff, lit_0, lit_1, lit_2, lit_3, lit_4, lit_5, lit_6, lit_7, lit_8, lit_9, lit_10, lit_11, lit_12, lit_13, lit_14, lit_15, lit_16, lit_17, lit_18, lit_19, lit_20, lit_21, lit_22, lit_23, cl_0, cl_1, cl_2, cl_3, cl_4, cl_5, cl_6, cl_7, cl_8, cl_9, cl_10, cl_11, cl_12, cl_13, cl_14, cl_15, cl_16, cl_17, cl_18, cl_19, cl_20, cl_21, cl_22, cl_23]

end Law
end
end
section
set_option Elab.async false
set_option linter.all false
set_option maxRecDepth 100000
set_option autoImplicit false
set_option maxHeartbeats 4000000
noncomputable section
namespace Law
open PySem DW L2
open SX (S S_tl S_len S_cat)
theorem r_signed_relator {g k s : Int} {rs : List (List Nat)} (hw : ∀ r ∈ rs, Wd r ∧ r.length ≤ 1000000) : m_signed_relator [PV g rs, .int k, .int s] = .ok (optD (sigR rs k s)) := by
  have hz := sizeLine_eq
  refine eq_ok ?_
  show RP False (fin (b_signed_relator [some (.sh (PV g rs)), some (.sh (.int k)), some (.sh (.int s)), none])) _ _
  unfold b_signed_relator
  simp -implicitDefEqProofs only [RP_ok, RP_err, RP_stuck, RP_bind, RP_quiet, RP_sure, RP_ite, RP_fin, RP_finN, OP_nx, OP_rt, OP_rto, OP_bk, OP_ct, OP_err, OP_stuck, OP_of, OP_thn, OP_lp, OP_ite, OP_tryN, OP_tryAs, OP_endS, OP_endI, true_implies, false_implies, not_true_eq_false, not_false_eq_true, and_true, true_and, implies_true, wipe_nil, wipe_cons, List.length_map, e_callR, e_callX, e_isX, e_xf, e_sNext, e_sApp, e_sPop, e_sRev, e_sRetOwn, e_sExt, e_sGive, e_sSetIx, e_hdl, hdl_nil, e_hdlAs, ownAt_own, rndAt_rnd, excAt_exc, someD_some, caseB_t, caseB_f, intD_int, clean_nil, clean_sh, clean_no, clean_own, List.getElem?_cons_zero, List.getElem?_cons_succ, decide_eq_true_eq, Bool.not_eq_true', List.length_append, Option.getD_some, ixT0, ixT1, ixT2, ixT3, ixL0, ixL1, ixL2, ixL3, o_isB, o_isL, o_isT, o_isI, o_isS, o_niPM, o_niPL, o_max2, o_min2, o_abs, o_tupL, o_tupT, o_lofL, o_lofT, e_aListOf, e_aRep, sizeLine_eq, decide_eq_false_iff_not, Classical.not_not, Nat.reduceLeDiff, Nat.zero_le, Int.reduceLE, Int.reduceLT, Int.reduceEq, Nat.reduceLT, List.nil_append, List.cons_append, cst0, cst1, cst2, cst3, cst4, cst5, cst6, cst7, cst8, cst9, cst10, cst11, cst12, o_eqB, o_neB, reduceCtorEq, Bool.true_eq_false, e_iEnumS, e_iZipS, o_enum, o_zipL, o_zipT, e_sRaise1, e_sPar, e_sPar3, e_gTL, o_isBB, o_notBB, e_sCons, e_sNil, e_sBreak, e_sCont, e_sRet, e_sRetN, e_sExpr, e_sIf, e_sAsg, e_sOwn, e_sFrz, e_sRaise, e_sFor, e_loop_nil, e_mC, e_m1, e_m2, e_mF, e_mCall, e_mM1, e_aNil, e_aCons, e_aLst, e_mTup, e_mLst, e_mN, e_mT, e_mTru, e_mAndT, e_mOrT, e_mNotT, e_mAnd, e_mOr, e_mNot, e_mIf, e_mChain, e_iSeq, e_iRange1, e_iRange2, e_oNone, e_oSome, e_mSl, e_mYes, e_mLc, e_gN, v0, vS, p0, p0o, pS, f0, f0s, f0n, fS, R.bind_ok, R.bind_err, R.bind_stuck, R.quiet_ok, R.sure_ok, R.sure_err, R.sure_stuck, O.of_ok, O.of_err, O.of_stuck, O.thn_nx, O.thn_rt, O.thn_bk, O.thn_ct, O.thn_err, O.thn_rto, O.lp_nx, O.lp_ct, O.lp_bk, O.lp_rt, O.lp_rto, O.lp_err, fin_nx, fin_rt, fin_err, asB_b, o_add, o_addI, o_sub, o_neg, o_lt, o_le, o_gt, o_ge, o_eqI, o_neI, o_eqS, o_neS, o_inS, o_lenL, o_lenT, o_int, o_itS, o_itL, o_itT, o_truL, o_truB, o_truI, List.set_cons_zero, List.set_cons_succ, List.length_cons, List.length_nil, if_true, if_false, Bool.not_true, Bool.not_false, Bool.false_eq_true, Option.isSome_some, Option.isSome_none, Nat.reduceAdd, Nat.zero_add, decide_true, decide_false, e_gT, e_gsC, e_gsN, e_callR0, e_callN, Nat.reduceEqDiff, lit_0, lit_1, lit_2, lit_3, lit_4, lit_5, lit_6, lit_7, lit_8, lit_9, lit_10, lit_11, lit_12, lit_13, lit_14, lit_15, lit_16, lit_17, lit_18, lit_19, lit_20, lit_21, lit_22, lit_23, cl_0, cl_1, cl_2, cl_3, cl_4, cl_5, cl_6, cl_7, cl_8, cl_9, cl_10, cl_11, cl_12, cl_13, cl_14, cl_15, cl_16, cl_17, cl_18, cl_19, cl_20, cl_21, cl_22, cl_23]
  unfold sigR
  refine ⟨fun h => ?_, fun h => ⟨fun h3 => ?_, fun h3 => ⟨fun h4 => ?_, fun h4 => ?_⟩⟩⟩
  · rw [if_neg (by omega)]; rfl
  · rw [if_neg (by omega)]; rfl
  · rw [if_neg (by omega)]; rfl
  · obtain ⟨j, rfl⟩ : ∃ j : Nat, k = (j : Int) := ⟨k.toNat, by omega⟩
    have hj : j < rs.length := by omega
    have e : dIdx (.tuple (rs.map sD)) (.int (j : Int)) = .ok (sD (rs.getD j [])) := o_ixT (by rw [List.getElem?_map, List.getElem?_eq_getElem hj, List.getD_eq_getElem?_getD, List.getElem?_eq_getElem hj]; rfl)
    have hm : rs.getD j [] ∈ rs := by rw [List.getD_eq_getElem?_getD, List.getElem?_eq_getElem hj]; exact List.getElem_mem hj
    rw [if_pos (by omega), Int.toNat_natCast]
    simp only [RP_of e]
    refine ⟨fun h5 => by rw [if_pos h5]; rfl, fun h5 => ?_⟩
    rw [if_neg h5, RP_of (r_flipped (hw _ hm).1 (hw _ hm).2)]
    rfl

end Law
end
end
section
set_option Elab.async false
set_option linter.all false
set_option maxRecDepth 100000
set_option autoImplicit false
set_option maxHeartbeats 4000000
noncomputable section
namespace Law
open PySem DW L2
open SX (S S_tl S_len S_cat)
theorem r_word_after {g : Int} {rs : List (List Nat)} {w : List Nat} {m : Mv} (hp : Pres g rs) (hw : Wd w) (hl : w.length ≤ 200) (hm : ∀ a c, m = .put a c → c.length ≤ 1000) : m_word_after [PV g rs, sD w, mvD m] = .ok (optD (aft g rs w m)) := by
  show fin (b_word_after [some (.sh (PV g rs)), some (.sh (sD w)), some (.sh (mvD m)), none, none]) = _
  unfold b_word_after st_word_after_1 st_word_after_2 st_word_after_3 st_word_after_4 st_word_after_5 st_word_after_6
  have hs : ∀ k s t, sigR rs k s = some t → t.length ≤ 1000 := fun k s t e => by have := (sigR_mem hp e).2.2; omega
  cases m with
  | put a c =>
    have hc := hm a c rfl
    have hlt : ∀ t, ltP g c = some t → t.length ≤ 1000 := fun t e => by
      match c, e with
      | [x], e =>
        by_cases hx : x ∈ lt g
        · have q : ltP g [x] = some [x, inv x] := if_pos hx
          rw [q] at e; cases e; show 2 ≤ 1000; decide
        · have q : ltP g [x] = none := if_neg hx
          rw [q] at e; cases e
      | [], e => cases e
      | _ :: _ :: _, e => cases e
    simp -implicitDefEqProofs only [e_callR, e_callX, e_isX, e_xf, e_sNext, e_sApp, e_sPop, e_sRev, e_sRetOwn, e_sExt, e_sGive, e_sSetIx, e_hdl, hdl_nil, e_hdlAs, ownAt_own, rndAt_rnd, excAt_exc, someD_some, caseB_t, caseB_f, intD_int, clean_nil, clean_sh, clean_no, clean_own, List.getElem?_cons_zero, List.getElem?_cons_succ, decide_eq_true_eq, Bool.not_eq_true', List.length_append, Option.getD_some, ixT0, ixT1, ixT2, ixT3, ixL0, ixL1, ixL2, ixL3, o_isB, o_isL, o_isT, o_isI, o_isS, o_niPM, o_niPL, o_max2, o_min2, o_abs, o_tupL, o_tupT, o_lofL, o_lofT, e_aListOf, e_aRep, sizeLine_eq, decide_eq_false_iff_not, Classical.not_not, Nat.reduceLeDiff, Nat.zero_le, Int.reduceLE, Int.reduceLT, Int.reduceEq, Nat.reduceLT, List.nil_append, List.cons_append, cst0, cst1, cst2, cst3, cst4, cst5, cst6, cst7, cst8, cst9, cst10, cst11, cst12, o_eqB, o_neB, reduceCtorEq, Bool.true_eq_false, e_iEnumS, e_iZipS, o_enum, o_zipL, o_zipT, e_sRaise1, e_sPar, e_sPar3, e_gTL, o_isBB, o_notBB, e_sCons, e_sNil, e_sBreak, e_sCont, e_sRet, e_sRetN, e_sExpr, e_sIf, e_sAsg, e_sOwn, e_sFrz, e_sRaise, e_sFor, e_loop_nil, e_mC, e_m1, e_m2, e_mF, e_mCall, e_mM1, e_aNil, e_aCons, e_aLst, e_mTup, e_mLst, e_mN, e_mT, e_mTru, e_mAndT, e_mOrT, e_mNotT, e_mAnd, e_mOr, e_mNot, e_mIf, e_mChain, e_iSeq, e_iRange1, e_iRange2, e_oNone, e_oSome, e_mSl, e_mYes, e_mLc, e_gN, v0, vS, p0, p0o, pS, f0, f0s, f0n, fS, R.bind_ok, R.bind_err, R.bind_stuck, R.quiet_ok, R.sure_ok, R.sure_err, R.sure_stuck, O.of_ok, O.of_err, O.of_stuck, O.thn_nx, O.thn_rt, O.thn_bk, O.thn_ct, O.thn_err, O.thn_rto, O.lp_nx, O.lp_ct, O.lp_bk, O.lp_rt, O.lp_rto, O.lp_err, fin_nx, fin_rt, fin_err, asB_b, o_add, o_addI, o_sub, o_neg, o_lt, o_le, o_gt, o_ge, o_eqI, o_neI, o_eqS, o_neS, o_inS, o_lenL, o_lenT, o_int, o_itS, o_itL, o_itT, o_truL, o_truB, o_truI, List.set_cons_zero, List.set_cons_succ, List.length_cons, List.length_nil, if_true, if_false, Bool.not_true, Bool.not_false, Bool.false_eq_true, Option.isSome_some, Option.isSome_none, Nat.reduceAdd, Nat.zero_add, decide_true, decide_false, e_gT, e_gsC, e_gsN, e_callR0, e_callN, Nat.reduceEqDiff, lit_0, lit_1, lit_2, lit_3, lit_4, lit_5, lit_6, lit_7, lit_8, lit_9, lit_10, lit_11, lit_12, lit_13, lit_14, lit_15, lit_16, lit_17, lit_18, lit_19, lit_20, lit_21, lit_22, lit_23, cl_0, cl_1, cl_2, cl_3, cl_4, cl_5, cl_6, cl_7, cl_8, cl_9, cl_10, cl_11, cl_12, cl_13, cl_14, cl_15, cl_16, cl_17, cl_18, cl_19, cl_20, cl_21, cl_22, cl_23, mvD, List.cons.injEq, Nat.reduceEqDiff, decide_true, decide_false, and_self, r__letter_pair hp.h1 hp.h2 hc, r__with (w := w) (a := a) (show w.length ≤ 1000 by omega) hlt]
    rfl
  | cut a =>
    simp -implicitDefEqProofs only [e_callR, e_callX, e_isX, e_xf, e_sNext, e_sApp, e_sPop, e_sRev, e_sRetOwn, e_sExt, e_sGive, e_sSetIx, e_hdl, hdl_nil, e_hdlAs, ownAt_own, rndAt_rnd, excAt_exc, someD_some, caseB_t, caseB_f, intD_int, clean_nil, clean_sh, clean_no, clean_own, List.getElem?_cons_zero, List.getElem?_cons_succ, decide_eq_true_eq, Bool.not_eq_true', List.length_append, Option.getD_some, ixT0, ixT1, ixT2, ixT3, ixL0, ixL1, ixL2, ixL3, o_isB, o_isL, o_isT, o_isI, o_isS, o_niPM, o_niPL, o_max2, o_min2, o_abs, o_tupL, o_tupT, o_lofL, o_lofT, e_aListOf, e_aRep, sizeLine_eq, decide_eq_false_iff_not, Classical.not_not, Nat.reduceLeDiff, Nat.zero_le, Int.reduceLE, Int.reduceLT, Int.reduceEq, Nat.reduceLT, List.nil_append, List.cons_append, cst0, cst1, cst2, cst3, cst4, cst5, cst6, cst7, cst8, cst9, cst10, cst11, cst12, o_eqB, o_neB, reduceCtorEq, Bool.true_eq_false, e_iEnumS, e_iZipS, o_enum, o_zipL, o_zipT, e_sRaise1, e_sPar, e_sPar3, e_gTL, o_isBB, o_notBB, e_sCons, e_sNil, e_sBreak, e_sCont, e_sRet, e_sRetN, e_sExpr, e_sIf, e_sAsg, e_sOwn, e_sFrz, e_sRaise, e_sFor, e_loop_nil, e_mC, e_m1, e_m2, e_mF, e_mCall, e_mM1, e_aNil, e_aCons, e_aLst, e_mTup, e_mLst, e_mN, e_mT, e_mTru, e_mAndT, e_mOrT, e_mNotT, e_mAnd, e_mOr, e_mNot, e_mIf, e_mChain, e_iSeq, e_iRange1, e_iRange2, e_oNone, e_oSome, e_mSl, e_mYes, e_mLc, e_gN, v0, vS, p0, p0o, pS, f0, f0s, f0n, fS, R.bind_ok, R.bind_err, R.bind_stuck, R.quiet_ok, R.sure_ok, R.sure_err, R.sure_stuck, O.of_ok, O.of_err, O.of_stuck, O.thn_nx, O.thn_rt, O.thn_bk, O.thn_ct, O.thn_err, O.thn_rto, O.lp_nx, O.lp_ct, O.lp_bk, O.lp_rt, O.lp_rto, O.lp_err, fin_nx, fin_rt, fin_err, asB_b, o_add, o_addI, o_sub, o_neg, o_lt, o_le, o_gt, o_ge, o_eqI, o_neI, o_eqS, o_neS, o_inS, o_lenL, o_lenT, o_int, o_itS, o_itL, o_itT, o_truL, o_truB, o_truI, List.set_cons_zero, List.set_cons_succ, List.length_cons, List.length_nil, if_true, if_false, Bool.not_true, Bool.not_false, Bool.false_eq_true, Option.isSome_some, Option.isSome_none, Nat.reduceAdd, Nat.zero_add, decide_true, decide_false, e_gT, e_gsC, e_gsN, e_callR0, e_callN, Nat.reduceEqDiff, lit_0, lit_1, lit_2, lit_3, lit_4, lit_5, lit_6, lit_7, lit_8, lit_9, lit_10, lit_11, lit_12, lit_13, lit_14, lit_15, lit_16, lit_17, lit_18, lit_19, lit_20, lit_21, lit_22, lit_23, cl_0, cl_1, cl_2, cl_3, cl_4, cl_5, cl_6, cl_7, cl_8, cl_9, cl_10, cl_11, cl_12, cl_13, cl_14, cl_15, cl_16, cl_17, cl_18, cl_19, cl_20, cl_21, cl_22, cl_23, mvD, List.cons.injEq, Nat.reduceEqDiff, decide_true, decide_false, and_self, false_and, and_false, r__pair_at hw (show w.length ≤ 1000 by omega), r__without (w := w) (a := a) (o := pairA w a) (show w.length ≤ 1000 by omega) (fun t e => by
      unfold pairA at e
      split at e
      · cases e; rw [List.length_take]; omega
      · cases e)]
    rfl
  | add a k s =>
    simp -implicitDefEqProofs only [e_callR, e_callX, e_isX, e_xf, e_sNext, e_sApp, e_sPop, e_sRev, e_sRetOwn, e_sExt, e_sGive, e_sSetIx, e_hdl, hdl_nil, e_hdlAs, ownAt_own, rndAt_rnd, excAt_exc, someD_some, caseB_t, caseB_f, intD_int, clean_nil, clean_sh, clean_no, clean_own, List.getElem?_cons_zero, List.getElem?_cons_succ, decide_eq_true_eq, Bool.not_eq_true', List.length_append, Option.getD_some, ixT0, ixT1, ixT2, ixT3, ixL0, ixL1, ixL2, ixL3, o_isB, o_isL, o_isT, o_isI, o_isS, o_niPM, o_niPL, o_max2, o_min2, o_abs, o_tupL, o_tupT, o_lofL, o_lofT, e_aListOf, e_aRep, sizeLine_eq, decide_eq_false_iff_not, Classical.not_not, Nat.reduceLeDiff, Nat.zero_le, Int.reduceLE, Int.reduceLT, Int.reduceEq, Nat.reduceLT, List.nil_append, List.cons_append, cst0, cst1, cst2, cst3, cst4, cst5, cst6, cst7, cst8, cst9, cst10, cst11, cst12, o_eqB, o_neB, reduceCtorEq, Bool.true_eq_false, e_iEnumS, e_iZipS, o_enum, o_zipL, o_zipT, e_sRaise1, e_sPar, e_sPar3, e_gTL, o_isBB, o_notBB, e_sCons, e_sNil, e_sBreak, e_sCont, e_sRet, e_sRetN, e_sExpr, e_sIf, e_sAsg, e_sOwn, e_sFrz, e_sRaise, e_sFor, e_loop_nil, e_mC, e_m1, e_m2, e_mF, e_mCall, e_mM1, e_aNil, e_aCons, e_aLst, e_mTup, e_mLst, e_mN, e_mT, e_mTru, e_mAndT, e_mOrT, e_mNotT, e_mAnd, e_mOr, e_mNot, e_mIf, e_mChain, e_iSeq, e_iRange1, e_iRange2, e_oNone, e_oSome, e_mSl, e_mYes, e_mLc, e_gN, v0, vS, p0, p0o, pS, f0, f0s, f0n, fS, R.bind_ok, R.bind_err, R.bind_stuck, R.quiet_ok, R.sure_ok, R.sure_err, R.sure_stuck, O.of_ok, O.of_err, O.of_stuck, O.thn_nx, O.thn_rt, O.thn_bk, O.thn_ct, O.thn_err, O.thn_rto, O.lp_nx, O.lp_ct, O.lp_bk, O.lp_rt, O.lp_rto, O.lp_err, fin_nx, fin_rt, fin_err, asB_b, o_add, o_addI, o_sub, o_neg, o_lt, o_le, o_gt, o_ge, o_eqI, o_neI, o_eqS, o_neS, o_inS, o_lenL, o_lenT, o_int, o_itS, o_itL, o_itT, o_truL, o_truB, o_truI, List.set_cons_zero, List.set_cons_succ, List.length_cons, List.length_nil, if_true, if_false, Bool.not_true, Bool.not_false, Bool.false_eq_true, Option.isSome_some, Option.isSome_none, Nat.reduceAdd, Nat.zero_add, decide_true, decide_false, e_gT, e_gsC, e_gsN, e_callR0, e_callN, Nat.reduceEqDiff, lit_0, lit_1, lit_2, lit_3, lit_4, lit_5, lit_6, lit_7, lit_8, lit_9, lit_10, lit_11, lit_12, lit_13, lit_14, lit_15, lit_16, lit_17, lit_18, lit_19, lit_20, lit_21, lit_22, lit_23, cl_0, cl_1, cl_2, cl_3, cl_4, cl_5, cl_6, cl_7, cl_8, cl_9, cl_10, cl_11, cl_12, cl_13, cl_14, cl_15, cl_16, cl_17, cl_18, cl_19, cl_20, cl_21, cl_22, cl_23, mvD, List.cons.injEq, Nat.reduceEqDiff, decide_true, decide_false, and_self, false_and, and_false, r_signed_relator hp.wd, r__with (w := w) (a := a) (o := sigR rs k s) (show w.length ≤ 1000 by omega) (hs k s)]
    rfl
  | take a k s =>
    simp -implicitDefEqProofs only [e_callR, e_callX, e_isX, e_xf, e_sNext, e_sApp, e_sPop, e_sRev, e_sRetOwn, e_sExt, e_sGive, e_sSetIx, e_hdl, hdl_nil, e_hdlAs, ownAt_own, rndAt_rnd, excAt_exc, someD_some, caseB_t, caseB_f, intD_int, clean_nil, clean_sh, clean_no, clean_own, List.getElem?_cons_zero, List.getElem?_cons_succ, decide_eq_true_eq, Bool.not_eq_true', List.length_append, Option.getD_some, ixT0, ixT1, ixT2, ixT3, ixL0, ixL1, ixL2, ixL3, o_isB, o_isL, o_isT, o_isI, o_isS, o_niPM, o_niPL, o_max2, o_min2, o_abs, o_tupL, o_tupT, o_lofL, o_lofT, e_aListOf, e_aRep, sizeLine_eq, decide_eq_false_iff_not, Classical.not_not, Nat.reduceLeDiff, Nat.zero_le, Int.reduceLE, Int.reduceLT, Int.reduceEq, Nat.reduceLT, List.nil_append, List.cons_append, cst0, cst1, cst2, cst3, cst4, cst5, cst6, cst7, cst8, cst9, cst10, cst11, cst12, o_eqB, o_neB, reduceCtorEq, Bool.true_eq_false, e_iEnumS, e_iZipS, o_enum, o_zipL, o_zipT, e_sRaise1, e_sPar, e_sPar3, e_gTL, o_isBB, o_notBB, e_sCons, e_sNil, e_sBreak, e_sCont, e_sRet, e_sRetN, e_sExpr, e_sIf, e_sAsg, e_sOwn, e_sFrz, e_sRaise, e_sFor, e_loop_nil, e_mC, e_m1, e_m2, e_mF, e_mCall, e_mM1, e_aNil, e_aCons, e_aLst, e_mTup, e_mLst, e_mN, e_mT, e_mTru, e_mAndT, e_mOrT, e_mNotT, e_mAnd, e_mOr, e_mNot, e_mIf, e_mChain, e_iSeq, e_iRange1, e_iRange2, e_oNone, e_oSome, e_mSl, e_mYes, e_mLc, e_gN, v0, vS, p0, p0o, pS, f0, f0s, f0n, fS, R.bind_ok, R.bind_err, R.bind_stuck, R.quiet_ok, R.sure_ok, R.sure_err, R.sure_stuck, O.of_ok, O.of_err, O.of_stuck, O.thn_nx, O.thn_rt, O.thn_bk, O.thn_ct, O.thn_err, O.thn_rto, O.lp_nx, O.lp_ct, O.lp_bk, O.lp_rt, O.lp_rto, O.lp_err, fin_nx, fin_rt, fin_err, asB_b, o_add, o_addI, o_sub, o_neg, o_lt, o_le, o_gt, o_ge, o_eqI, o_neI, o_eqS, o_neS, o_inS, o_lenL, o_lenT, o_int, o_itS, o_itL, o_itT, o_truL, o_truB, o_truI, List.set_cons_zero, List.set_cons_succ, List.length_cons, List.length_nil, if_true, if_false, Bool.not_true, Bool.not_false, Bool.false_eq_true, Option.isSome_some, Option.isSome_none, Nat.reduceAdd, Nat.zero_add, decide_true, decide_false, e_gT, e_gsC, e_gsN, e_callR0, e_callN, Nat.reduceEqDiff, lit_0, lit_1, lit_2, lit_3, lit_4, lit_5, lit_6, lit_7, lit_8, lit_9, lit_10, lit_11, lit_12, lit_13, lit_14, lit_15, lit_16, lit_17, lit_18, lit_19, lit_20, lit_21, lit_22, lit_23, cl_0, cl_1, cl_2, cl_3, cl_4, cl_5, cl_6, cl_7, cl_8, cl_9, cl_10, cl_11, cl_12, cl_13, cl_14, cl_15, cl_16, cl_17, cl_18, cl_19, cl_20, cl_21, cl_22, cl_23, mvD, List.cons.injEq, Nat.reduceEqDiff, decide_true, decide_false, and_self, false_and, and_false, r_signed_relator hp.wd, r__without (w := w) (a := a) (o := sigR rs k s) (show w.length ≤ 1000 by omega) (hs k s)]
    rfl

end Law
end
end
section
set_option Elab.async false
set_option linter.all false
set_option maxRecDepth 100000
set_option autoImplicit false
set_option maxHeartbeats 4000000
noncomputable section
namespace Law
open PySem DW L2
open SX (S S_tl S_len S_cat)
theorem ixLastS {ws : List (List Nat)} {w : List Nat} : dIdx (.list ((ws ++ [w]).map sD)) (.int (-1)) = .ok (sD w) := by
  rw [List.map_append]; exact o_ixLast
theorem lp__trail {g : Int} {rs : List (List Nat)} (hp : Pres g rs) (P0 W0 M0 : D) (hP : P0 = PV g rs) : ∀ (ms : List Mv) (k : Nat) (ws : List (List Nat)) (w : List Nat) (o4 o5 o6 : Option SD) (W : Ways), (∀ c ∈ w, c ∈ lt g) → w.length ≤ 200 → (∀ m ∈ ms, MvC m) → ws.length + ms.length < 1000000 →
    (badAt g rs k w ms = none → ∀ o4 o5 o6, W.n [some (.sh P0), some (.sh W0), some (.sh M0), some (.own ((ws ++ w :: wordsM g rs w ms).map sD)), o4, o5, o6]) →
    (∀ i, badAt g rs k w ms = some i → ∀ ρ, W.e ("BadMove", [("at", .int (i : Int))]) ρ) →
    OP (mLoop (gT 2 (gsC (gN 4) (gsC (gN 5) gsN))) lb__trail_1 (enumD k (ms.map mvD)) [some (.sh P0), some (.sh W0), some (.sh M0), some (.own ((ws ++ [w]).map sD)), o4, o5, o6]) W
  | [], k, ws, w, o4, o5, o6, W, hw, hl, hm, hn, h1, h2 => by
    show OP (.nx _) W
    rw [OP_nx]
    exact h1 rfl _ _ _
  | m :: ms, k, ws, w, o4, o5, o6, W, hw, hl, hm, hn, h1, h2 => by
    rw [List.map_cons, enumD, e_loop_c]
    unfold lb__trail_1
    subst hP
    rw [List.length_cons] at hn
    have e1 : ((ws ++ [w]).map sD).length = ws.length + 1 := by rw [List.length_map, List.length_append]; rfl
    have e2 : ((ws ++ [w]).map sD).length < 16777216 := by omega
    simp -implicitDefEqProofs only [RP_ok, RP_err, RP_stuck, RP_bind, RP_quiet, RP_sure, RP_ite, RP_fin, RP_finN, OP_nx, OP_rt, OP_rto, OP_bk, OP_ct, OP_err, OP_stuck, OP_of, OP_thn, OP_lp, OP_ite, OP_tryN, OP_tryAs, OP_endS, OP_endI, true_implies, false_implies, not_true_eq_false, not_false_eq_true, and_true, true_and, implies_true, wipe_nil, wipe_cons, List.length_map, e_callR, e_callX, e_isX, e_xf, e_sNext, e_sApp, e_sPop, e_sRev, e_sRetOwn, e_sExt, e_sGive, e_sSetIx, e_hdl, hdl_nil, e_hdlAs, ownAt_own, rndAt_rnd, excAt_exc, someD_some, caseB_t, caseB_f, intD_int, clean_nil, clean_sh, clean_no, clean_own, List.getElem?_cons_zero, List.getElem?_cons_succ, decide_eq_true_eq, Bool.not_eq_true', List.length_append, Option.getD_some, ixT0, ixT1, ixT2, ixT3, ixL0, ixL1, ixL2, ixL3, o_isB, o_isL, o_isT, o_isI, o_isS, o_niPM, o_niPL, o_max2, o_min2, o_abs, o_tupL, o_tupT, o_lofL, o_lofT, e_aListOf, e_aRep, sizeLine_eq, decide_eq_false_iff_not, Classical.not_not, Nat.reduceLeDiff, Nat.zero_le, Int.reduceLE, Int.reduceLT, Int.reduceEq, Nat.reduceLT, List.nil_append, List.cons_append, cst0, cst1, cst2, cst3, cst4, cst5, cst6, cst7, cst8, cst9, cst10, cst11, cst12, o_eqB, o_neB, reduceCtorEq, Bool.true_eq_false, e_iEnumS, e_iZipS, o_enum, o_zipL, o_zipT, e_sRaise1, e_sPar, e_sPar3, e_gTL, o_isBB, o_notBB, e_sCons, e_sNil, e_sBreak, e_sCont, e_sRet, e_sRetN, e_sExpr, e_sIf, e_sAsg, e_sOwn, e_sFrz, e_sRaise, e_sFor, e_loop_nil, e_mC, e_m1, e_m2, e_mF, e_mCall, e_mM1, e_aNil, e_aCons, e_aLst, e_mTup, e_mLst, e_mN, e_mT, e_mTru, e_mAndT, e_mOrT, e_mNotT, e_mAnd, e_mOr, e_mNot, e_mIf, e_mChain, e_iSeq, e_iRange1, e_iRange2, e_oNone, e_oSome, e_mSl, e_mYes, e_mLc, e_gN, v0, vS, p0, p0o, pS, f0, f0s, f0n, fS, R.bind_ok, R.bind_err, R.bind_stuck, R.quiet_ok, R.sure_ok, R.sure_err, R.sure_stuck, O.of_ok, O.of_err, O.of_stuck, O.thn_nx, O.thn_rt, O.thn_bk, O.thn_ct, O.thn_err, O.thn_rto, O.lp_nx, O.lp_ct, O.lp_bk, O.lp_rt, O.lp_rto, O.lp_err, fin_nx, fin_rt, fin_err, asB_b, o_add, o_addI, o_sub, o_neg, o_lt, o_le, o_gt, o_ge, o_eqI, o_neI, o_eqS, o_neS, o_inS, o_lenL, o_lenT, o_int, o_itS, o_itL, o_itT, o_truL, o_truB, o_truI, List.set_cons_zero, List.set_cons_succ, List.length_cons, List.length_nil, if_true, if_false, Bool.not_true, Bool.not_false, Bool.false_eq_true, Option.isSome_some, Option.isSome_none, Nat.reduceAdd, Nat.zero_add, decide_true, decide_false, e_gT, e_gsC, e_gsN, e_callR0, e_callN, Nat.reduceEqDiff, lit_0, lit_1, lit_2, lit_3, lit_4, lit_5, lit_6, lit_7, lit_8, lit_9, lit_10, lit_11, lit_12, lit_13, lit_14, lit_15, lit_16, lit_17, lit_18, lit_19, lit_20, lit_21, lit_22, lit_23, cl_0, cl_1, cl_2, cl_3, cl_4, cl_5, cl_6, cl_7, cl_8, cl_9, cl_10, cl_11, cl_12, cl_13, cl_14, cl_15, cl_16, cl_17, cl_18, cl_19, cl_20, cl_21, cl_22, cl_23, ixLastS, r_word_after hp (lt_wd hw) hl (hm m List.mem_cons_self)]
    cases q : aft g rs w m with
    | none =>
      simp -implicitDefEqProofs only [RP_ok, RP_err, RP_stuck, RP_bind, RP_quiet, RP_sure, RP_ite, RP_fin, RP_finN, OP_nx, OP_rt, OP_rto, OP_bk, OP_ct, OP_err, OP_stuck, OP_of, OP_thn, OP_lp, OP_ite, OP_tryN, OP_tryAs, OP_endS, OP_endI, true_implies, false_implies, not_true_eq_false, not_false_eq_true, and_true, true_and, implies_true, wipe_nil, wipe_cons, List.length_map, e_callR, e_callX, e_isX, e_xf, e_sNext, e_sApp, e_sPop, e_sRev, e_sRetOwn, e_sExt, e_sGive, e_sSetIx, e_hdl, hdl_nil, e_hdlAs, ownAt_own, rndAt_rnd, excAt_exc, someD_some, caseB_t, caseB_f, intD_int, clean_nil, clean_sh, clean_no, clean_own, List.getElem?_cons_zero, List.getElem?_cons_succ, decide_eq_true_eq, Bool.not_eq_true', List.length_append, Option.getD_some, ixT0, ixT1, ixT2, ixT3, ixL0, ixL1, ixL2, ixL3, o_isB, o_isL, o_isT, o_isI, o_isS, o_niPM, o_niPL, o_max2, o_min2, o_abs, o_tupL, o_tupT, o_lofL, o_lofT, e_aListOf, e_aRep, sizeLine_eq, decide_eq_false_iff_not, Classical.not_not, Nat.reduceLeDiff, Nat.zero_le, Int.reduceLE, Int.reduceLT, Int.reduceEq, Nat.reduceLT, List.nil_append, List.cons_append, cst0, cst1, cst2, cst3, cst4, cst5, cst6, cst7, cst8, cst9, cst10, cst11, cst12, o_eqB, o_neB, reduceCtorEq, Bool.true_eq_false, e_iEnumS, e_iZipS, o_enum, o_zipL, o_zipT, e_sRaise1, e_sPar, e_sPar3, e_gTL, o_isBB, o_notBB, e_sCons, e_sNil, e_sBreak, e_sCont, e_sRet, e_sRetN, e_sExpr, e_sIf, e_sAsg, e_sOwn, e_sFrz, e_sRaise, e_sFor, e_loop_nil, e_mC, e_m1, e_m2, e_mF, e_mCall, e_mM1, e_aNil, e_aCons, e_aLst, e_mTup, e_mLst, e_mN, e_mT, e_mTru, e_mAndT, e_mOrT, e_mNotT, e_mAnd, e_mOr, e_mNot, e_mIf, e_mChain, e_iSeq, e_iRange1, e_iRange2, e_oNone, e_oSome, e_mSl, e_mYes, e_mLc, e_gN, v0, vS, p0, p0o, pS, f0, f0s, f0n, fS, R.bind_ok, R.bind_err, R.bind_stuck, R.quiet_ok, R.sure_ok, R.sure_err, R.sure_stuck, O.of_ok, O.of_err, O.of_stuck, O.thn_nx, O.thn_rt, O.thn_bk, O.thn_ct, O.thn_err, O.thn_rto, O.lp_nx, O.lp_ct, O.lp_bk, O.lp_rt, O.lp_rto, O.lp_err, fin_nx, fin_rt, fin_err, asB_b, o_add, o_addI, o_sub, o_neg, o_lt, o_le, o_gt, o_ge, o_eqI, o_neI, o_eqS, o_neS, o_inS, o_lenL, o_lenT, o_int, o_itS, o_itL, o_itT, o_truL, o_truB, o_truI, List.set_cons_zero, List.set_cons_succ, List.length_cons, List.length_nil, if_true, if_false, Bool.not_true, Bool.not_false, Bool.false_eq_true, Option.isSome_some, Option.isSome_none, Nat.reduceAdd, Nat.zero_add, decide_true, decide_false, e_gT, e_gsC, e_gsN, e_callR0, e_callN, Nat.reduceEqDiff, lit_0, lit_1, lit_2, lit_3, lit_4, lit_5, lit_6, lit_7, lit_8, lit_9, lit_10, lit_11, lit_12, lit_13, lit_14, lit_15, lit_16, lit_17, lit_18, lit_19, lit_20, lit_21, lit_22, lit_23, cl_0, cl_1, cl_2, cl_3, cl_4, cl_5, cl_6, cl_7, cl_8, cl_9, cl_10, cl_11, cl_12, cl_13, cl_14, cl_15, cl_16, cl_17, cl_18, cl_19, cl_20, cl_21, cl_22, cl_23, optD, o_isNn]
      exact h2 k (badAt_n q) _
    | some v =>
      have hv := aft_lt hp hw hl q
      simp -implicitDefEqProofs only [RP_ok, RP_err, RP_stuck, RP_bind, RP_quiet, RP_sure, RP_ite, RP_fin, RP_finN, OP_nx, OP_rt, OP_rto, OP_bk, OP_ct, OP_err, OP_stuck, OP_of, OP_thn, OP_lp, OP_ite, OP_tryN, OP_tryAs, OP_endS, OP_endI, true_implies, false_implies, not_true_eq_false, not_false_eq_true, and_true, true_and, implies_true, wipe_nil, wipe_cons, List.length_map, e_callR, e_callX, e_isX, e_xf, e_sNext, e_sApp, e_sPop, e_sRev, e_sRetOwn, e_sExt, e_sGive, e_sSetIx, e_hdl, hdl_nil, e_hdlAs, ownAt_own, rndAt_rnd, excAt_exc, someD_some, caseB_t, caseB_f, intD_int, clean_nil, clean_sh, clean_no, clean_own, List.getElem?_cons_zero, List.getElem?_cons_succ, decide_eq_true_eq, Bool.not_eq_true', List.length_append, Option.getD_some, ixT0, ixT1, ixT2, ixT3, ixL0, ixL1, ixL2, ixL3, o_isB, o_isL, o_isT, o_isI, o_isS, o_niPM, o_niPL, o_max2, o_min2, o_abs, o_tupL, o_tupT, o_lofL, o_lofT, e_aListOf, e_aRep, sizeLine_eq, decide_eq_false_iff_not, Classical.not_not, Nat.reduceLeDiff, Nat.zero_le, Int.reduceLE, Int.reduceLT, Int.reduceEq, Nat.reduceLT, List.nil_append, List.cons_append, cst0, cst1, cst2, cst3, cst4, cst5, cst6, cst7, cst8, cst9, cst10, cst11, cst12, o_eqB, o_neB, reduceCtorEq, Bool.true_eq_false, e_iEnumS, e_iZipS, o_enum, o_zipL, o_zipT, e_sRaise1, e_sPar, e_sPar3, e_gTL, o_isBB, o_notBB, e_sCons, e_sNil, e_sBreak, e_sCont, e_sRet, e_sRetN, e_sExpr, e_sIf, e_sAsg, e_sOwn, e_sFrz, e_sRaise, e_sFor, e_loop_nil, e_mC, e_m1, e_m2, e_mF, e_mCall, e_mM1, e_aNil, e_aCons, e_aLst, e_mTup, e_mLst, e_mN, e_mT, e_mTru, e_mAndT, e_mOrT, e_mNotT, e_mAnd, e_mOr, e_mNot, e_mIf, e_mChain, e_iSeq, e_iRange1, e_iRange2, e_oNone, e_oSome, e_mSl, e_mYes, e_mLc, e_gN, v0, vS, p0, p0o, pS, f0, f0s, f0n, fS, R.bind_ok, R.bind_err, R.bind_stuck, R.quiet_ok, R.sure_ok, R.sure_err, R.sure_stuck, O.of_ok, O.of_err, O.of_stuck, O.thn_nx, O.thn_rt, O.thn_bk, O.thn_ct, O.thn_err, O.thn_rto, O.lp_nx, O.lp_ct, O.lp_bk, O.lp_rt, O.lp_rto, O.lp_err, fin_nx, fin_rt, fin_err, asB_b, o_add, o_addI, o_sub, o_neg, o_lt, o_le, o_gt, o_ge, o_eqI, o_neI, o_eqS, o_neS, o_inS, o_lenL, o_lenT, o_int, o_itS, o_itL, o_itT, o_truL, o_truB, o_truI, List.set_cons_zero, List.set_cons_succ, List.length_cons, List.length_nil, if_true, if_false, Bool.not_true, Bool.not_false, Bool.false_eq_true, Option.isSome_some, Option.isSome_none, Nat.reduceAdd, Nat.zero_add, decide_true, decide_false, e_gT, e_gsC, e_gsN, e_callR0, e_callN, Nat.reduceEqDiff, lit_0, lit_1, lit_2, lit_3, lit_4, lit_5, lit_6, lit_7, lit_8, lit_9, lit_10, lit_11, lit_12, lit_13, lit_14, lit_15, lit_16, lit_17, lit_18, lit_19, lit_20, lit_21, lit_22, lit_23, cl_0, cl_1, cl_2, cl_3, cl_4, cl_5, cl_6, cl_7, cl_8, cl_9, cl_10, cl_11, cl_12, cl_13, cl_14, cl_15, cl_16, cl_17, cl_18, cl_19, cl_20, cl_21, cl_22, cl_23, optD, o_isNs]
      refine ⟨fun _ => ?_, fun z => absurd (by omega) z⟩
      have e3 : (ws ++ [w]).map sD ++ [sD v] = ((ws ++ [w]) ++ [v]).map sD := by rw [List.map_append (l₂ := [v])]; rfl
      have e3 : (ws ++ [w]).map sD ++ [PyData.str (S v)] = ((ws ++ [w]) ++ [v]).map sD := e3
      rw [e3]
      refine lp__trail hp (PV g rs) W0 M0 rfl ms (k + 1) (ws ++ [w]) v _ _ _ W hv.1 hv.2 (fun x hx => hm x (List.mem_cons_of_mem _ hx)) (by rw [List.length_append]; show ws.length + 1 + _ < _; omega) (fun h => ?_) (fun i h => h2 i (by rw [badAt_s q]; exact h))
      have := h1 (by rw [badAt_s q]; exact h)
      rw [wordsM_s q] at this
      rw [List.append_assoc]
      exact this
theorem r__trail {g : Int} {rs : List (List Nat)} (hp : Pres g rs) {w : List Nat} {ms : List Mv} (hw : ∀ c ∈ w, c ∈ lt g) (hl : w.length ≤ 200) (hm : ∀ m ∈ ms, MvC m) (hn : ms.length < 1000) : m__trail [PV g rs, sD w, .list (ms.map mvD)] = match badAt g rs 0 w ms with | none => .ok (.list ((w :: wordsM g rs w ms).map sD)) | some i => .err ("BadMove", [("at", .int (i : Int))]) := by
  have main : ∀ (Q : D → Prop) (E : Exn → Prop), (badAt g rs 0 w ms = none → Q (.list ((w :: wordsM g rs w ms).map sD))) → (∀ i, badAt g rs 0 w ms = some i → E ("BadMove", [("at", .int (i : Int))])) → RP False (m__trail [PV g rs, sD w, .list (ms.map mvD)]) Q E := by
    intro Q E h1 h2
    show RP False (fin (b__trail [some (.sh (PV g rs)), some (.sh (sD w)), some (.sh (.list (ms.map mvD))), none, none, none, none])) _ _
    unfold b__trail
    simp -implicitDefEqProofs only [RP_ok, RP_err, RP_stuck, RP_bind, RP_quiet, RP_sure, RP_ite, RP_fin, RP_finN, OP_nx, OP_rt, OP_rto, OP_bk, OP_ct, OP_err, OP_stuck, OP_of, OP_thn, OP_lp, OP_ite, OP_tryN, OP_tryAs, OP_endS, OP_endI, true_implies, false_implies, not_true_eq_false, not_false_eq_true, and_true, true_and, implies_true, wipe_nil, wipe_cons, List.length_map, e_callR, e_callX, e_isX, e_xf, e_sNext, e_sApp, e_sPop, e_sRev, e_sRetOwn, e_sExt, e_sGive, e_sSetIx, e_hdl, hdl_nil, e_hdlAs, ownAt_own, rndAt_rnd, excAt_exc, someD_some, caseB_t, caseB_f, intD_int, clean_nil, clean_sh, clean_no, clean_own, List.getElem?_cons_zero, List.getElem?_cons_succ, decide_eq_true_eq, Bool.not_eq_true', List.length_append, Option.getD_some, ixT0, ixT1, ixT2, ixT3, ixL0, ixL1, ixL2, ixL3, o_isB, o_isL, o_isT, o_isI, o_isS, o_niPM, o_niPL, o_max2, o_min2, o_abs, o_tupL, o_tupT, o_lofL, o_lofT, e_aListOf, e_aRep, sizeLine_eq, decide_eq_false_iff_not, Classical.not_not, Nat.reduceLeDiff, Nat.zero_le, Int.reduceLE, Int.reduceLT, Int.reduceEq, Nat.reduceLT, List.nil_append, List.cons_append, cst0, cst1, cst2, cst3, cst4, cst5, cst6, cst7, cst8, cst9, cst10, cst11, cst12, o_eqB, o_neB, reduceCtorEq, Bool.true_eq_false, e_iEnumS, e_iZipS, o_enum, o_zipL, o_zipT, e_sRaise1, e_sPar, e_sPar3, e_gTL, o_isBB, o_notBB, e_sCons, e_sNil, e_sBreak, e_sCont, e_sRet, e_sRetN, e_sExpr, e_sIf, e_sAsg, e_sOwn, e_sFrz, e_sRaise, e_sFor, e_loop_nil, e_mC, e_m1, e_m2, e_mF, e_mCall, e_mM1, e_aNil, e_aCons, e_aLst, e_mTup, e_mLst, e_mN, e_mT, e_mTru, e_mAndT, e_mOrT, e_mNotT, e_mAnd, e_mOr, e_mNot, e_mIf, e_mChain, e_iSeq, e_iRange1, e_iRange2, e_oNone, e_oSome, e_mSl, e_mYes, e_mLc, e_gN, v0, vS, p0, p0o, pS, f0, f0s, f0n, fS, R.bind_ok, R.bind_err, R.bind_stuck, R.quiet_ok, R.sure_ok, R.sure_err, R.sure_stuck, O.of_ok, O.of_err, O.of_stuck, O.thn_nx, O.thn_rt, O.thn_bk, O.thn_ct, O.thn_err, O.thn_rto, O.lp_nx, O.lp_ct, O.lp_bk, O.lp_rt, O.lp_rto, O.lp_err, fin_nx, fin_rt, fin_err, asB_b, o_add, o_addI, o_sub, o_neg, o_lt, o_le, o_gt, o_ge, o_eqI, o_neI, o_eqS, o_neS, o_inS, o_lenL, o_lenT, o_int, o_itS, o_itL, o_itT, o_truL, o_truB, o_truI, List.set_cons_zero, List.set_cons_succ, List.length_cons, List.length_nil, if_true, if_false, Bool.not_true, Bool.not_false, Bool.false_eq_true, Option.isSome_some, Option.isSome_none, Nat.reduceAdd, Nat.zero_add, decide_true, decide_false, e_gT, e_gsC, e_gsN, e_callR0, e_callN, Nat.reduceEqDiff, lit_0, lit_1, lit_2, lit_3, lit_4, lit_5, lit_6, lit_7, lit_8, lit_9, lit_10, lit_11, lit_12, lit_13, lit_14, lit_15, lit_16, lit_17, lit_18, lit_19, lit_20, lit_21, lit_22, lit_23, cl_0, cl_1, cl_2, cl_3, cl_4, cl_5, cl_6, cl_7, cl_8, cl_9, cl_10, cl_11, cl_12, cl_13, cl_14, cl_15, cl_16, cl_17, cl_18, cl_19, cl_20, cl_21, cl_22, cl_23]
    refine lp__trail hp (PV g rs) (sD w) (.list (ms.map mvD)) rfl ms 0 [] w none none none _ hw hl hm (by show 0 + _ < _; omega) (fun h o4 o5 o6 => ?_) (fun i h ρ => h2 i h)
    simp -implicitDefEqProofs only [RP_ok, RP_err, RP_stuck, RP_bind, RP_quiet, RP_sure, RP_ite, RP_fin, RP_finN, OP_nx, OP_rt, OP_rto, OP_bk, OP_ct, OP_err, OP_stuck, OP_of, OP_thn, OP_lp, OP_ite, OP_tryN, OP_tryAs, OP_endS, OP_endI, true_implies, false_implies, not_true_eq_false, not_false_eq_true, and_true, true_and, implies_true, wipe_nil, wipe_cons, List.length_map, e_callR, e_callX, e_isX, e_xf, e_sNext, e_sApp, e_sPop, e_sRev, e_sRetOwn, e_sExt, e_sGive, e_sSetIx, e_hdl, hdl_nil, e_hdlAs, ownAt_own, rndAt_rnd, excAt_exc, someD_some, caseB_t, caseB_f, intD_int, clean_nil, clean_sh, clean_no, clean_own, List.getElem?_cons_zero, List.getElem?_cons_succ, decide_eq_true_eq, Bool.not_eq_true', List.length_append, Option.getD_some, ixT0, ixT1, ixT2, ixT3, ixL0, ixL1, ixL2, ixL3, o_isB, o_isL, o_isT, o_isI, o_isS, o_niPM, o_niPL, o_max2, o_min2, o_abs, o_tupL, o_tupT, o_lofL, o_lofT, e_aListOf, e_aRep, sizeLine_eq, decide_eq_false_iff_not, Classical.not_not, Nat.reduceLeDiff, Nat.zero_le, Int.reduceLE, Int.reduceLT, Int.reduceEq, Nat.reduceLT, List.nil_append, List.cons_append, cst0, cst1, cst2, cst3, cst4, cst5, cst6, cst7, cst8, cst9, cst10, cst11, cst12, o_eqB, o_neB, reduceCtorEq, Bool.true_eq_false, e_iEnumS, e_iZipS, o_enum, o_zipL, o_zipT, e_sRaise1, e_sPar, e_sPar3, e_gTL, o_isBB, o_notBB, e_sCons, e_sNil, e_sBreak, e_sCont, e_sRet, e_sRetN, e_sExpr, e_sIf, e_sAsg, e_sOwn, e_sFrz, e_sRaise, e_sFor, e_loop_nil, e_mC, e_m1, e_m2, e_mF, e_mCall, e_mM1, e_aNil, e_aCons, e_aLst, e_mTup, e_mLst, e_mN, e_mT, e_mTru, e_mAndT, e_mOrT, e_mNotT, e_mAnd, e_mOr, e_mNot, e_mIf, e_mChain, e_iSeq, e_iRange1, e_iRange2, e_oNone, e_oSome, e_mSl, e_mYes, e_mLc, e_gN, v0, vS, p0, p0o, pS, f0, f0s, f0n, fS, R.bind_ok, R.bind_err, R.bind_stuck, R.quiet_ok, R.sure_ok, R.sure_err, R.sure_stuck, O.of_ok, O.of_err, O.of_stuck, O.thn_nx, O.thn_rt, O.thn_bk, O.thn_ct, O.thn_err, O.thn_rto, O.lp_nx, O.lp_ct, O.lp_bk, O.lp_rt, O.lp_rto, O.lp_err, fin_nx, fin_rt, fin_err, asB_b, o_add, o_addI, o_sub, o_neg, o_lt, o_le, o_gt, o_ge, o_eqI, o_neI, o_eqS, o_neS, o_inS, o_lenL, o_lenT, o_int, o_itS, o_itL, o_itT, o_truL, o_truB, o_truI, List.set_cons_zero, List.set_cons_succ, List.length_cons, List.length_nil, if_true, if_false, Bool.not_true, Bool.not_false, Bool.false_eq_true, Option.isSome_some, Option.isSome_none, Nat.reduceAdd, Nat.zero_add, decide_true, decide_false, e_gT, e_gsC, e_gsN, e_callR0, e_callN, Nat.reduceEqDiff, lit_0, lit_1, lit_2, lit_3, lit_4, lit_5, lit_6, lit_7, lit_8, lit_9, lit_10, lit_11, lit_12, lit_13, lit_14, lit_15, lit_16, lit_17, lit_18, lit_19, lit_20, lit_21, lit_22, lit_23, cl_0, cl_1, cl_2, cl_3, cl_4, cl_5, cl_6, cl_7, cl_8, cl_9, cl_10, cl_11, cl_12, cl_13, cl_14, cl_15, cl_16, cl_17, cl_18, cl_19, cl_20, cl_21, cl_22, cl_23]
    exact h1 h
  cases q : badAt g rs 0 w ms with
  | none => exact eq_ok (main _ _ (fun _ => rfl) (fun i h => by rw [q] at h; cases h))
  | some i => exact eq_err (main _ _ (fun h => by rw [q] at h; cases h) (fun j h => by rw [q] at h; cases h; rfl))
/-- the last one of the trail -/
theorem trail_last {g : Int} {rs : List (List Nat)} {w : List Nat} {ms : List Mv} (h : badAt g rs 0 w ms = none) : dIdx (.list ((w :: wordsM g rs w ms).map sD)) (.int (-1)) = .ok (sD (lastW g rs w ms)) := by
  obtain ⟨h1, h2⟩ := words_last g rs ms w 0 h
  have e : w :: wordsM g rs w ms = (w :: wordsM g rs w ms).dropLast ++ [lastW g rs w ms] := by
    have hne : w :: wordsM g rs w ms ≠ [] := List.cons_ne_nil _ _
    have := List.dropLast_concat_getLast hne
    rw [← this]
    congr 1
    rw [this]
    have q : (w :: wordsM g rs w ms).getLast? = some (lastW g rs w ms) := by
      rw [List.getLast?_eq_getElem?, List.length_cons, h2]; exact h1
    rw [List.getLast?_eq_some_getLast hne] at q
    exact congrArg (fun x => [x]) (Option.some.inj q)
  rw [e]
  exact ixLastS

end Law
end
end
section
set_option Elab.async false
set_option linter.all false
set_option maxRecDepth 100000
set_option autoImplicit false
set_option maxHeartbeats 4000000
noncomputable section
namespace Law
open PySem DW L2
open SX (S S_tl S_len S_cat)
theorem r_opposite_move {w : List Nat} {m : Mv} (hl : w.length ≤ 1000) (hc : ∀ a, m = .cut a → 0 ≤ a ∧ a < w.length) : m_opposite_move [sD w, mvD m] = .ok (mvD (oppM w m)) := by
  show fin (b_opposite_move [some (.sh (sD w)), some (.sh (mvD m)), none, none]) = _
  unfold b_opposite_move
  cases m with
  | put a c => simp -implicitDefEqProofs only [e_callR, e_callX, e_isX, e_xf, e_sNext, e_sApp, e_sPop, e_sRev, e_sRetOwn, e_sExt, e_sGive, e_sSetIx, e_hdl, hdl_nil, e_hdlAs, ownAt_own, rndAt_rnd, excAt_exc, someD_some, caseB_t, caseB_f, intD_int, clean_nil, clean_sh, clean_no, clean_own, List.getElem?_cons_zero, List.getElem?_cons_succ, decide_eq_true_eq, Bool.not_eq_true', List.length_append, Option.getD_some, ixT0, ixT1, ixT2, ixT3, ixL0, ixL1, ixL2, ixL3, o_isB, o_isL, o_isT, o_isI, o_isS, o_niPM, o_niPL, o_max2, o_min2, o_abs, o_tupL, o_tupT, o_lofL, o_lofT, e_aListOf, e_aRep, sizeLine_eq, decide_eq_false_iff_not, Classical.not_not, Nat.reduceLeDiff, Nat.zero_le, Int.reduceLE, Int.reduceLT, Int.reduceEq, Nat.reduceLT, List.nil_append, List.cons_append, cst0, cst1, cst2, cst3, cst4, cst5, cst6, cst7, cst8, cst9, cst10, cst11, cst12, o_eqB, o_neB, reduceCtorEq, Bool.true_eq_false, e_iEnumS, e_iZipS, o_enum, o_zipL, o_zipT, e_sRaise1, e_sPar, e_sPar3, e_gTL, o_isBB, o_notBB, e_sCons, e_sNil, e_sBreak, e_sCont, e_sRet, e_sRetN, e_sExpr, e_sIf, e_sAsg, e_sOwn, e_sFrz, e_sRaise, e_sFor, e_loop_nil, e_mC, e_m1, e_m2, e_mF, e_mCall, e_mM1, e_aNil, e_aCons, e_aLst, e_mTup, e_mLst, e_mN, e_mT, e_mTru, e_mAndT, e_mOrT, e_mNotT, e_mAnd, e_mOr, e_mNot, e_mIf, e_mChain, e_iSeq, e_iRange1, e_iRange2, e_oNone, e_oSome, e_mSl, e_mYes, e_mLc, e_gN, v0, vS, p0, p0o, pS, f0, f0s, f0n, fS, R.bind_ok, R.bind_err, R.bind_stuck, R.quiet_ok, R.sure_ok, R.sure_err, R.sure_stuck, O.of_ok, O.of_err, O.of_stuck, O.thn_nx, O.thn_rt, O.thn_bk, O.thn_ct, O.thn_err, O.thn_rto, O.lp_nx, O.lp_ct, O.lp_bk, O.lp_rt, O.lp_rto, O.lp_err, fin_nx, fin_rt, fin_err, asB_b, o_add, o_addI, o_sub, o_neg, o_lt, o_le, o_gt, o_ge, o_eqI, o_neI, o_eqS, o_neS, o_inS, o_lenL, o_lenT, o_int, o_itS, o_itL, o_itT, o_truL, o_truB, o_truI, List.set_cons_zero, List.set_cons_succ, List.length_cons, List.length_nil, if_true, if_false, Bool.not_true, Bool.not_false, Bool.false_eq_true, Option.isSome_some, Option.isSome_none, Nat.reduceAdd, Nat.zero_add, decide_true, decide_false, e_gT, e_gsC, e_gsN, e_callR0, e_callN, Nat.reduceEqDiff, lit_0, lit_1, lit_2, lit_3, lit_4, lit_5, lit_6, lit_7, lit_8, lit_9, lit_10, lit_11, lit_12, lit_13, lit_14, lit_15, lit_16, lit_17, lit_18, lit_19, lit_20, lit_21, lit_22, lit_23, cl_0, cl_1, cl_2, cl_3, cl_4, cl_5, cl_6, cl_7, cl_8, cl_9, cl_10, cl_11, cl_12, cl_13, cl_14, cl_15, cl_16, cl_17, cl_18, cl_19, cl_20, cl_21, cl_22, cl_23, mvD, oppM, List.cons.injEq, Nat.reduceEqDiff, decide_true, decide_false, and_self, false_and, and_false]
  | cut a =>
    obtain ⟨h1, h2⟩ := hc a rfl
    obtain ⟨k, rfl⟩ : ∃ k : Nat, a = (k : Int) := ⟨a.toNat, by omega⟩
    simp -implicitDefEqProofs only [e_callR, e_callX, e_isX, e_xf, e_sNext, e_sApp, e_sPop, e_sRev, e_sRetOwn, e_sExt, e_sGive, e_sSetIx, e_hdl, hdl_nil, e_hdlAs, ownAt_own, rndAt_rnd, excAt_exc, someD_some, caseB_t, caseB_f, intD_int, clean_nil, clean_sh, clean_no, clean_own, List.getElem?_cons_zero, List.getElem?_cons_succ, decide_eq_true_eq, Bool.not_eq_true', List.length_append, Option.getD_some, ixT0, ixT1, ixT2, ixT3, ixL0, ixL1, ixL2, ixL3, o_isB, o_isL, o_isT, o_isI, o_isS, o_niPM, o_niPL, o_max2, o_min2, o_abs, o_tupL, o_tupT, o_lofL, o_lofT, e_aListOf, e_aRep, sizeLine_eq, decide_eq_false_iff_not, Classical.not_not, Nat.reduceLeDiff, Nat.zero_le, Int.reduceLE, Int.reduceLT, Int.reduceEq, Nat.reduceLT, List.nil_append, List.cons_append, cst0, cst1, cst2, cst3, cst4, cst5, cst6, cst7, cst8, cst9, cst10, cst11, cst12, o_eqB, o_neB, reduceCtorEq, Bool.true_eq_false, e_iEnumS, e_iZipS, o_enum, o_zipL, o_zipT, e_sRaise1, e_sPar, e_sPar3, e_gTL, o_isBB, o_notBB, e_sCons, e_sNil, e_sBreak, e_sCont, e_sRet, e_sRetN, e_sExpr, e_sIf, e_sAsg, e_sOwn, e_sFrz, e_sRaise, e_sFor, e_loop_nil, e_mC, e_m1, e_m2, e_mF, e_mCall, e_mM1, e_aNil, e_aCons, e_aLst, e_mTup, e_mLst, e_mN, e_mT, e_mTru, e_mAndT, e_mOrT, e_mNotT, e_mAnd, e_mOr, e_mNot, e_mIf, e_mChain, e_iSeq, e_iRange1, e_iRange2, e_oNone, e_oSome, e_mSl, e_mYes, e_mLc, e_gN, v0, vS, p0, p0o, pS, f0, f0s, f0n, fS, R.bind_ok, R.bind_err, R.bind_stuck, R.quiet_ok, R.sure_ok, R.sure_err, R.sure_stuck, O.of_ok, O.of_err, O.of_stuck, O.thn_nx, O.thn_rt, O.thn_bk, O.thn_ct, O.thn_err, O.thn_rto, O.lp_nx, O.lp_ct, O.lp_bk, O.lp_rt, O.lp_rto, O.lp_err, fin_nx, fin_rt, fin_err, asB_b, o_add, o_addI, o_sub, o_neg, o_lt, o_le, o_gt, o_ge, o_eqI, o_neI, o_eqS, o_neS, o_inS, o_lenL, o_lenT, o_int, o_itS, o_itL, o_itT, o_truL, o_truB, o_truI, List.set_cons_zero, List.set_cons_succ, List.length_cons, List.length_nil, if_true, if_false, Bool.not_true, Bool.not_false, Bool.false_eq_true, Option.isSome_some, Option.isSome_none, Nat.reduceAdd, Nat.zero_add, decide_true, decide_false, e_gT, e_gsC, e_gsN, e_callR0, e_callN, Nat.reduceEqDiff, lit_0, lit_1, lit_2, lit_3, lit_4, lit_5, lit_6, lit_7, lit_8, lit_9, lit_10, lit_11, lit_12, lit_13, lit_14, lit_15, lit_16, lit_17, lit_18, lit_19, lit_20, lit_21, lit_22, lit_23, cl_0, cl_1, cl_2, cl_3, cl_4, cl_5, cl_6, cl_7, cl_8, cl_9, cl_10, cl_11, cl_12, cl_13, cl_14, cl_15, cl_16, cl_17, cl_18, cl_19, cl_20, cl_21, cl_22, cl_23, mvD, oppM, List.cons.injEq, Nat.reduceEqDiff, decide_true, decide_false, and_self, false_and, and_false, ixSD (w := w) (k := k) (by omega) (by omega), Int.toNat_natCast]
  | add a k s => simp -implicitDefEqProofs only [e_callR, e_callX, e_isX, e_xf, e_sNext, e_sApp, e_sPop, e_sRev, e_sRetOwn, e_sExt, e_sGive, e_sSetIx, e_hdl, hdl_nil, e_hdlAs, ownAt_own, rndAt_rnd, excAt_exc, someD_some, caseB_t, caseB_f, intD_int, clean_nil, clean_sh, clean_no, clean_own, List.getElem?_cons_zero, List.getElem?_cons_succ, decide_eq_true_eq, Bool.not_eq_true', List.length_append, Option.getD_some, ixT0, ixT1, ixT2, ixT3, ixL0, ixL1, ixL2, ixL3, o_isB, o_isL, o_isT, o_isI, o_isS, o_niPM, o_niPL, o_max2, o_min2, o_abs, o_tupL, o_tupT, o_lofL, o_lofT, e_aListOf, e_aRep, sizeLine_eq, decide_eq_false_iff_not, Classical.not_not, Nat.reduceLeDiff, Nat.zero_le, Int.reduceLE, Int.reduceLT, Int.reduceEq, Nat.reduceLT, List.nil_append, List.cons_append, cst0, cst1, cst2, cst3, cst4, cst5, cst6, cst7, cst8, cst9, cst10, cst11, cst12, o_eqB, o_neB, reduceCtorEq, Bool.true_eq_false, e_iEnumS, e_iZipS, o_enum, o_zipL, o_zipT, e_sRaise1, e_sPar, e_sPar3, e_gTL, o_isBB, o_notBB, e_sCons, e_sNil, e_sBreak, e_sCont, e_sRet, e_sRetN, e_sExpr, e_sIf, e_sAsg, e_sOwn, e_sFrz, e_sRaise, e_sFor, e_loop_nil, e_mC, e_m1, e_m2, e_mF, e_mCall, e_mM1, e_aNil, e_aCons, e_aLst, e_mTup, e_mLst, e_mN, e_mT, e_mTru, e_mAndT, e_mOrT, e_mNotT, e_mAnd, e_mOr, e_mNot, e_mIf, e_mChain, e_iSeq, e_iRange1, e_iRange2, e_oNone, e_oSome, e_mSl, e_mYes, e_mLc, e_gN, v0, vS, p0, p0o, pS, f0, f0s, f0n, fS, R.bind_ok, R.bind_err, R.bind_stuck, R.quiet_ok, R.sure_ok, R.sure_err, R.sure_stuck, O.of_ok, O.of_err, O.of_stuck, O.thn_nx, O.thn_rt, O.thn_bk, O.thn_ct, O.thn_err, O.thn_rto, O.lp_nx, O.lp_ct, O.lp_bk, O.lp_rt, O.lp_rto, O.lp_err, fin_nx, fin_rt, fin_err, asB_b, o_add, o_addI, o_sub, o_neg, o_lt, o_le, o_gt, o_ge, o_eqI, o_neI, o_eqS, o_neS, o_inS, o_lenL, o_lenT, o_int, o_itS, o_itL, o_itT, o_truL, o_truB, o_truI, List.set_cons_zero, List.set_cons_succ, List.length_cons, List.length_nil, if_true, if_false, Bool.not_true, Bool.not_false, Bool.false_eq_true, Option.isSome_some, Option.isSome_none, Nat.reduceAdd, Nat.zero_add, decide_true, decide_false, e_gT, e_gsC, e_gsN, e_callR0, e_callN, Nat.reduceEqDiff, lit_0, lit_1, lit_2, lit_3, lit_4, lit_5, lit_6, lit_7, lit_8, lit_9, lit_10, lit_11, lit_12, lit_13, lit_14, lit_15, lit_16, lit_17, lit_18, lit_19, lit_20, lit_21, lit_22, lit_23, cl_0, cl_1, cl_2, cl_3, cl_4, cl_5, cl_6, cl_7, cl_8, cl_9, cl_10, cl_11, cl_12, cl_13, cl_14, cl_15, cl_16, cl_17, cl_18, cl_19, cl_20, cl_21, cl_22, cl_23, mvD, oppM, List.cons.injEq, Nat.reduceEqDiff, decide_true, decide_false, and_self, false_and, and_false]
  | take a k s => simp -implicitDefEqProofs only [e_callR, e_callX, e_isX, e_xf, e_sNext, e_sApp, e_sPop, e_sRev, e_sRetOwn, e_sExt, e_sGive, e_sSetIx, e_hdl, hdl_nil, e_hdlAs, ownAt_own, rndAt_rnd, excAt_exc, someD_some, caseB_t, caseB_f, intD_int, clean_nil, clean_sh, clean_no, clean_own, List.getElem?_cons_zero, List.getElem?_cons_succ, decide_eq_true_eq, Bool.not_eq_true', List.length_append, Option.getD_some, ixT0, ixT1, ixT2, ixT3, ixL0, ixL1, ixL2, ixL3, o_isB, o_isL, o_isT, o_isI, o_isS, o_niPM, o_niPL, o_max2, o_min2, o_abs, o_tupL, o_tupT, o_lofL, o_lofT, e_aListOf, e_aRep, sizeLine_eq, decide_eq_false_iff_not, Classical.not_not, Nat.reduceLeDiff, Nat.zero_le, Int.reduceLE, Int.reduceLT, Int.reduceEq, Nat.reduceLT, List.nil_append, List.cons_append, cst0, cst1, cst2, cst3, cst4, cst5, cst6, cst7, cst8, cst9, cst10, cst11, cst12, o_eqB, o_neB, reduceCtorEq, Bool.true_eq_false, e_iEnumS, e_iZipS, o_enum, o_zipL, o_zipT, e_sRaise1, e_sPar, e_sPar3, e_gTL, o_isBB, o_notBB, e_sCons, e_sNil, e_sBreak, e_sCont, e_sRet, e_sRetN, e_sExpr, e_sIf, e_sAsg, e_sOwn, e_sFrz, e_sRaise, e_sFor, e_loop_nil, e_mC, e_m1, e_m2, e_mF, e_mCall, e_mM1, e_aNil, e_aCons, e_aLst, e_mTup, e_mLst, e_mN, e_mT, e_mTru, e_mAndT, e_mOrT, e_mNotT, e_mAnd, e_mOr, e_mNot, e_mIf, e_mChain, e_iSeq, e_iRange1, e_iRange2, e_oNone, e_oSome, e_mSl, e_mYes, e_mLc, e_gN, v0, vS, p0, p0o, pS, f0, f0s, f0n, fS, R.bind_ok, R.bind_err, R.bind_stuck, R.quiet_ok, R.sure_ok, R.sure_err, R.sure_stuck, O.of_ok, O.of_err, O.of_stuck, O.thn_nx, O.thn_rt, O.thn_bk, O.thn_ct, O.thn_err, O.thn_rto, O.lp_nx, O.lp_ct, O.lp_bk, O.lp_rt, O.lp_rto, O.lp_err, fin_nx, fin_rt, fin_err, asB_b, o_add, o_addI, o_sub, o_neg, o_lt, o_le, o_gt, o_ge, o_eqI, o_neI, o_eqS, o_neS, o_inS, o_lenL, o_lenT, o_int, o_itS, o_itL, o_itT, o_truL, o_truB, o_truI, List.set_cons_zero, List.set_cons_succ, List.length_cons, List.length_nil, if_true, if_false, Bool.not_true, Bool.not_false, Bool.false_eq_true, Option.isSome_some, Option.isSome_none, Nat.reduceAdd, Nat.zero_add, decide_true, decide_false, e_gT, e_gsC, e_gsN, e_callR0, e_callN, Nat.reduceEqDiff, lit_0, lit_1, lit_2, lit_3, lit_4, lit_5, lit_6, lit_7, lit_8, lit_9, lit_10, lit_11, lit_12, lit_13, lit_14, lit_15, lit_16, lit_17, lit_18, lit_19, lit_20, lit_21, lit_22, lit_23, cl_0, cl_1, cl_2, cl_3, cl_4, cl_5, cl_6, cl_7, cl_8, cl_9, cl_10, cl_11, cl_12, cl_13, cl_14, cl_15, cl_16, cl_17, cl_18, cl_19, cl_20, cl_21, cl_22, cl_23, mvD, oppM, List.cons.injEq, Nat.reduceEqDiff, decide_true, decide_false, and_self, false_and, and_false]

end Law
end
end
section
set_option Elab.async false
set_option linter.all false
set_option maxRecDepth 100000
set_option autoImplicit false
set_option maxHeartbeats 4000000
noncomputable section
namespace Law
open PySem DW L2
open SX (S S_tl S_len S_cat)
theorem r__undone_moves {g : Int} {rs : List (List Nat)} (hp : Pres g rs) {w : List Nat} {ms : List Mv} (hw : ∀ c ∈ w, c ∈ lt g) (hl : w.length ≤ 200) (hm : ∀ m ∈ ms, MvC m) (hn : ms.length < 1000) : m__undone_moves [PV g rs, sD w, .list (ms.map mvD)] = match badAt g rs 0 w ms with | none => .ok (.list ((undM g rs w ms).map mvD)) | some i => .err ("BadMove", [("at", .int (i : Int))]) := by
  show fin (b__undone_moves [some (.sh (PV g rs)), some (.sh (sD w)), some (.sh (.list (ms.map mvD))), none, none, none, none]) = _
  unfold b__undone_moves
  have t := r__trail hp hw hl hm hn
  cases q : badAt g rs 0 w ms with
  | some i =>
    rw [q] at t
    simp -implicitDefEqProofs only [e_callR, e_callX, e_isX, e_xf, e_sNext, e_sApp, e_sPop, e_sRev, e_sRetOwn, e_sExt, e_sGive, e_sSetIx, e_hdl, hdl_nil, e_hdlAs, ownAt_own, rndAt_rnd, excAt_exc, someD_some, caseB_t, caseB_f, intD_int, clean_nil, clean_sh, clean_no, clean_own, List.getElem?_cons_zero, List.getElem?_cons_succ, decide_eq_true_eq, Bool.not_eq_true', List.length_append, Option.getD_some, ixT0, ixT1, ixT2, ixT3, ixL0, ixL1, ixL2, ixL3, o_isB, o_isL, o_isT, o_isI, o_isS, o_niPM, o_niPL, o_max2, o_min2, o_abs, o_tupL, o_tupT, o_lofL, o_lofT, e_aListOf, e_aRep, sizeLine_eq, decide_eq_false_iff_not, Classical.not_not, Nat.reduceLeDiff, Nat.zero_le, Int.reduceLE, Int.reduceLT, Int.reduceEq, Nat.reduceLT, List.nil_append, List.cons_append, cst0, cst1, cst2, cst3, cst4, cst5, cst6, cst7, cst8, cst9, cst10, cst11, cst12, o_eqB, o_neB, reduceCtorEq, Bool.true_eq_false, e_iEnumS, e_iZipS, o_enum, o_zipL, o_zipT, e_sRaise1, e_sPar, e_sPar3, e_gTL, o_isBB, o_notBB, e_sCons, e_sNil, e_sBreak, e_sCont, e_sRet, e_sRetN, e_sExpr, e_sIf, e_sAsg, e_sOwn, e_sFrz, e_sRaise, e_sFor, e_loop_nil, e_mC, e_m1, e_m2, e_mF, e_mCall, e_mM1, e_aNil, e_aCons, e_aLst, e_mTup, e_mLst, e_mN, e_mT, e_mTru, e_mAndT, e_mOrT, e_mNotT, e_mAnd, e_mOr, e_mNot, e_mIf, e_mChain, e_iSeq, e_iRange1, e_iRange2, e_oNone, e_oSome, e_mSl, e_mYes, e_mLc, e_gN, v0, vS, p0, p0o, pS, f0, f0s, f0n, fS, R.bind_ok, R.bind_err, R.bind_stuck, R.quiet_ok, R.sure_ok, R.sure_err, R.sure_stuck, O.of_ok, O.of_err, O.of_stuck, O.thn_nx, O.thn_rt, O.thn_bk, O.thn_ct, O.thn_err, O.thn_rto, O.lp_nx, O.lp_ct, O.lp_bk, O.lp_rt, O.lp_rto, O.lp_err, fin_nx, fin_rt, fin_err, asB_b, o_add, o_addI, o_sub, o_neg, o_lt, o_le, o_gt, o_ge, o_eqI, o_neI, o_eqS, o_neS, o_inS, o_lenL, o_lenT, o_int, o_itS, o_itL, o_itT, o_truL, o_truB, o_truI, List.set_cons_zero, List.set_cons_succ, List.length_cons, List.length_nil, if_true, if_false, Bool.not_true, Bool.not_false, Bool.false_eq_true, Option.isSome_some, Option.isSome_none, Nat.reduceAdd, Nat.zero_add, decide_true, decide_false, e_gT, e_gsC, e_gsN, e_callR0, e_callN, Nat.reduceEqDiff, lit_0, lit_1, lit_2, lit_3, lit_4, lit_5, lit_6, lit_7, lit_8, lit_9, lit_10, lit_11, lit_12, lit_13, lit_14, lit_15, lit_16, lit_17, lit_18, lit_19, lit_20, lit_21, lit_22, lit_23, cl_0, cl_1, cl_2, cl_3, cl_4, cl_5, cl_6, cl_7, cl_8, cl_9, cl_10, cl_11, cl_12, cl_13, cl_14, cl_15, cl_16, cl_17, cl_18, cl_19, cl_20, cl_21, cl_22, cl_23, t]
  | none =>
    rw [q] at t
    obtain ⟨u1, u2⟩ := opps_und g rs ms w 0 q
    have lc : lcLoop (gT 2 (gsC (gN 5) (gsC (gN 6) gsN))) mYes ce__undone_moves_1 [some (.sh (PV g rs)), some (.sh (sD w)), some (.sh (.list (ms.map mvD))), some (.sh (.list ((w :: wordsM g rs w ms).map sD))), none, none, none] (enumD 0 (ms.map mvD)) = .ok ((oppsM g rs w ms).map mvD) := by
      refine lc_gen (α := Nat) (by rw [enumD_len, List.length_map, List.length_map, u2]) fun i d f e1 e2 => ?_
      rw [enumD_at, List.getElem?_map] at e1
      rw [List.getElem?_map] at e2
      cases h1 : ms[i]? with
      | none => rw [h1] at e1; cases e1
      | some m =>
        rw [h1] at e1
        cases h2 : (oppsM g rs w ms)[i]? with
        | none => rw [h2] at e2; cases e2
        | some o =>
          rw [h2] at e2
          cases e1; cases e2
          obtain ⟨v, hv, ho, hl2, hc⟩ := opps_at hp ms w 0 hw hl q i m o h1 h2
          have ix : dIdx (.list ((w :: wordsM g rs w ms).map sD)) (.int (i : Int)) = .ok (sD v) := o_ixL (by rw [List.getElem?_map, hv]; rfl)
          refine ⟨_, rfl, ?_⟩
          rw [Nat.zero_add]
          show ce__undone_moves_1 [some (.sh (PV g rs)), some (.sh (sD w)), some (.sh (.list (ms.map mvD))), some (.sh (.list ((w :: wordsM g rs w ms).map sD))), none, some (.sh (.int (i : Int))), some (.sh (mvD m))] = _
          unfold ce__undone_moves_1
          simp -implicitDefEqProofs only [e_callR, e_callX, e_isX, e_xf, e_sNext, e_sApp, e_sPop, e_sRev, e_sRetOwn, e_sExt, e_sGive, e_sSetIx, e_hdl, hdl_nil, e_hdlAs, ownAt_own, rndAt_rnd, excAt_exc, someD_some, caseB_t, caseB_f, intD_int, clean_nil, clean_sh, clean_no, clean_own, List.getElem?_cons_zero, List.getElem?_cons_succ, decide_eq_true_eq, Bool.not_eq_true', List.length_append, Option.getD_some, ixT0, ixT1, ixT2, ixT3, ixL0, ixL1, ixL2, ixL3, o_isB, o_isL, o_isT, o_isI, o_isS, o_niPM, o_niPL, o_max2, o_min2, o_abs, o_tupL, o_tupT, o_lofL, o_lofT, e_aListOf, e_aRep, sizeLine_eq, decide_eq_false_iff_not, Classical.not_not, Nat.reduceLeDiff, Nat.zero_le, Int.reduceLE, Int.reduceLT, Int.reduceEq, Nat.reduceLT, List.nil_append, List.cons_append, cst0, cst1, cst2, cst3, cst4, cst5, cst6, cst7, cst8, cst9, cst10, cst11, cst12, o_eqB, o_neB, reduceCtorEq, Bool.true_eq_false, e_iEnumS, e_iZipS, o_enum, o_zipL, o_zipT, e_sRaise1, e_sPar, e_sPar3, e_gTL, o_isBB, o_notBB, e_sCons, e_sNil, e_sBreak, e_sCont, e_sRet, e_sRetN, e_sExpr, e_sIf, e_sAsg, e_sOwn, e_sFrz, e_sRaise, e_sFor, e_loop_nil, e_mC, e_m1, e_m2, e_mF, e_mCall, e_mM1, e_aNil, e_aCons, e_aLst, e_mTup, e_mLst, e_mN, e_mT, e_mTru, e_mAndT, e_mOrT, e_mNotT, e_mAnd, e_mOr, e_mNot, e_mIf, e_mChain, e_iSeq, e_iRange1, e_iRange2, e_oNone, e_oSome, e_mSl, e_mYes, e_mLc, e_gN, v0, vS, p0, p0o, pS, f0, f0s, f0n, fS, R.bind_ok, R.bind_err, R.bind_stuck, R.quiet_ok, R.sure_ok, R.sure_err, R.sure_stuck, O.of_ok, O.of_err, O.of_stuck, O.thn_nx, O.thn_rt, O.thn_bk, O.thn_ct, O.thn_err, O.thn_rto, O.lp_nx, O.lp_ct, O.lp_bk, O.lp_rt, O.lp_rto, O.lp_err, fin_nx, fin_rt, fin_err, asB_b, o_add, o_addI, o_sub, o_neg, o_lt, o_le, o_gt, o_ge, o_eqI, o_neI, o_eqS, o_neS, o_inS, o_lenL, o_lenT, o_int, o_itS, o_itL, o_itT, o_truL, o_truB, o_truI, List.set_cons_zero, List.set_cons_succ, List.length_cons, List.length_nil, if_true, if_false, Bool.not_true, Bool.not_false, Bool.false_eq_true, Option.isSome_some, Option.isSome_none, Nat.reduceAdd, Nat.zero_add, decide_true, decide_false, e_gT, e_gsC, e_gsN, e_callR0, e_callN, Nat.reduceEqDiff, lit_0, lit_1, lit_2, lit_3, lit_4, lit_5, lit_6, lit_7, lit_8, lit_9, lit_10, lit_11, lit_12, lit_13, lit_14, lit_15, lit_16, lit_17, lit_18, lit_19, lit_20, lit_21, lit_22, lit_23, cl_0, cl_1, cl_2, cl_3, cl_4, cl_5, cl_6, cl_7, cl_8, cl_9, cl_10, cl_11, cl_12, cl_13, cl_14, cl_15, cl_16, cl_17, cl_18, cl_19, cl_20, cl_21, cl_22, cl_23, ix, r_opposite_move (w := v) (m := m) (by omega) hc, ho]
    have el : (enumD 0 (ms.map mvD)).length ≤ 16777216 := by rw [enumD_len, List.length_map]; omega
    have rv : dRev (.list ((oppsM g rs w ms).map mvD)) = .ok (.list ((undM g rs w ms).map mvD)) := by
      show R.ok (PyData.list ((oppsM g rs w ms).map mvD).reverse) = _
      rw [← List.map_reverse, u1]
    simp -implicitDefEqProofs only [e_callR, e_callX, e_isX, e_xf, e_sNext, e_sApp, e_sPop, e_sRev, e_sRetOwn, e_sExt, e_sGive, e_sSetIx, e_hdl, hdl_nil, e_hdlAs, ownAt_own, rndAt_rnd, excAt_exc, someD_some, caseB_t, caseB_f, intD_int, clean_nil, clean_sh, clean_no, clean_own, List.getElem?_cons_zero, List.getElem?_cons_succ, decide_eq_true_eq, Bool.not_eq_true', List.length_append, Option.getD_some, ixT0, ixT1, ixT2, ixT3, ixL0, ixL1, ixL2, ixL3, o_isB, o_isL, o_isT, o_isI, o_isS, o_niPM, o_niPL, o_max2, o_min2, o_abs, o_tupL, o_tupT, o_lofL, o_lofT, e_aListOf, e_aRep, sizeLine_eq, decide_eq_false_iff_not, Classical.not_not, Nat.reduceLeDiff, Nat.zero_le, Int.reduceLE, Int.reduceLT, Int.reduceEq, Nat.reduceLT, List.nil_append, List.cons_append, cst0, cst1, cst2, cst3, cst4, cst5, cst6, cst7, cst8, cst9, cst10, cst11, cst12, o_eqB, o_neB, reduceCtorEq, Bool.true_eq_false, e_iEnumS, e_iZipS, o_enum, o_zipL, o_zipT, e_sRaise1, e_sPar, e_sPar3, e_gTL, o_isBB, o_notBB, e_sCons, e_sNil, e_sBreak, e_sCont, e_sRet, e_sRetN, e_sExpr, e_sIf, e_sAsg, e_sOwn, e_sFrz, e_sRaise, e_sFor, e_loop_nil, e_mC, e_m1, e_m2, e_mF, e_mCall, e_mM1, e_aNil, e_aCons, e_aLst, e_mTup, e_mLst, e_mN, e_mT, e_mTru, e_mAndT, e_mOrT, e_mNotT, e_mAnd, e_mOr, e_mNot, e_mIf, e_mChain, e_iSeq, e_iRange1, e_iRange2, e_oNone, e_oSome, e_mSl, e_mYes, e_mLc, e_gN, v0, vS, p0, p0o, pS, f0, f0s, f0n, fS, R.bind_ok, R.bind_err, R.bind_stuck, R.quiet_ok, R.sure_ok, R.sure_err, R.sure_stuck, O.of_ok, O.of_err, O.of_stuck, O.thn_nx, O.thn_rt, O.thn_bk, O.thn_ct, O.thn_err, O.thn_rto, O.lp_nx, O.lp_ct, O.lp_bk, O.lp_rt, O.lp_rto, O.lp_err, fin_nx, fin_rt, fin_err, asB_b, o_add, o_addI, o_sub, o_neg, o_lt, o_le, o_gt, o_ge, o_eqI, o_neI, o_eqS, o_neS, o_inS, o_lenL, o_lenT, o_int, o_itS, o_itL, o_itT, o_truL, o_truB, o_truI, List.set_cons_zero, List.set_cons_succ, List.length_cons, List.length_nil, if_true, if_false, Bool.not_true, Bool.not_false, Bool.false_eq_true, Option.isSome_some, Option.isSome_none, Nat.reduceAdd, Nat.zero_add, decide_true, decide_false, e_gT, e_gsC, e_gsN, e_callR0, e_callN, Nat.reduceEqDiff, lit_0, lit_1, lit_2, lit_3, lit_4, lit_5, lit_6, lit_7, lit_8, lit_9, lit_10, lit_11, lit_12, lit_13, lit_14, lit_15, lit_16, lit_17, lit_18, lit_19, lit_20, lit_21, lit_22, lit_23, cl_0, cl_1, cl_2, cl_3, cl_4, cl_5, cl_6, cl_7, cl_8, cl_9, cl_10, cl_11, cl_12, cl_13, cl_14, cl_15, cl_16, cl_17, cl_18, cl_19, cl_20, cl_21, cl_22, cl_23, wipe_nil, wipe_cons, t, lc, if_pos el, rv]

end Law
end
end
section
set_option Elab.async false
set_option linter.all false
set_option maxRecDepth 100000
set_option autoImplicit false
set_option maxHeartbeats 4000000
noncomputable section
namespace Law
open PySem DW L2
open SX (S S_tl S_len S_cat)
theorem cutC {w : List Nat} : ∀ m ∈ (cutS [] w).map cutMv, MvC m := fun m h => by
  obtain ⟨p, _, rfl⟩ := List.mem_map.mp h
  exact fun a c e => nomatch e
theorem cutsN {w : List Nat} (h : w.length ≤ 200) : ((cutS [] w).map cutMv).length < 1000 := by
  have := cut_len w []
  rw [List.length_map]; omega
theorem cutMap {fs : List (Nat × Nat)} : fs.map cutD = (fs.map cutMv).map mvD := by rw [List.map_map]; rfl
theorem r_free_derivation {g : Int} {rs : List (List Nat)} (hp : Pres g rs) {w v : List Nat} (hw : ∀ c ∈ w, c ∈ lt g) (hl : w.length ≤ 200) (hv : ∀ c ∈ v, c ∈ lt g) (hl2 : v.length ≤ 200) :
    m_free_derivation [PV g rs, sD w, sD v] = .ok (if red w = red v then .list (((cutS [] w).map cutMv ++ (cutS [] v).reverse.map putMv).map mvD) else .none) := by
  have hz := sizeLine_eq
  refine eq_ok ?_
  show RP False (fin (b_free_derivation [some (.sh (PV g rs)), some (.sh (sD w)), some (.sh (sD v)), none, none])) _ _
  unfold b_free_derivation
  obtain ⟨a1, a2, a3⟩ := cut_walk0 (g := g) (rs := rs) (lt_wd hw) 0
  obtain ⟨b1, b2, b3⟩ := cut_walk0 (g := g) (rs := rs) (lt_wd hv) 0
  have t1 := r__trail hp hw hl (cutC (w := w)) (cutsN hl)
  have t2 := r__trail hp hv hl2 (cutC (w := v)) (cutsN hl2)
  have u2 := r__undone_moves hp hv hl2 (cutC (w := v)) (cutsN hl2)
  rw [a1] at t1
  rw [b1] at t2 u2
  rw [b3] at u2
  have l1 := cut_len w []
  have l2 := cut_len v []
  simp -implicitDefEqProofs only [RP_ok, RP_err, RP_stuck, RP_bind, RP_quiet, RP_sure, RP_ite, RP_fin, RP_finN, OP_nx, OP_rt, OP_rto, OP_bk, OP_ct, OP_err, OP_stuck, OP_of, OP_thn, OP_lp, OP_ite, OP_tryN, OP_tryAs, OP_endS, OP_endI, true_implies, false_implies, not_true_eq_false, not_false_eq_true, and_true, true_and, implies_true, wipe_nil, wipe_cons, List.length_map, e_callR, e_callX, e_isX, e_xf, e_sNext, e_sApp, e_sPop, e_sRev, e_sRetOwn, e_sExt, e_sGive, e_sSetIx, e_hdl, hdl_nil, e_hdlAs, ownAt_own, rndAt_rnd, excAt_exc, someD_some, caseB_t, caseB_f, intD_int, clean_nil, clean_sh, clean_no, clean_own, List.getElem?_cons_zero, List.getElem?_cons_succ, decide_eq_true_eq, Bool.not_eq_true', List.length_append, Option.getD_some, ixT0, ixT1, ixT2, ixT3, ixL0, ixL1, ixL2, ixL3, o_isB, o_isL, o_isT, o_isI, o_isS, o_niPM, o_niPL, o_max2, o_min2, o_abs, o_tupL, o_tupT, o_lofL, o_lofT, e_aListOf, e_aRep, sizeLine_eq, decide_eq_false_iff_not, Classical.not_not, Nat.reduceLeDiff, Nat.zero_le, Int.reduceLE, Int.reduceLT, Int.reduceEq, Nat.reduceLT, List.nil_append, List.cons_append, cst0, cst1, cst2, cst3, cst4, cst5, cst6, cst7, cst8, cst9, cst10, cst11, cst12, o_eqB, o_neB, reduceCtorEq, Bool.true_eq_false, e_iEnumS, e_iZipS, o_enum, o_zipL, o_zipT, e_sRaise1, e_sPar, e_sPar3, e_gTL, o_isBB, o_notBB, e_sCons, e_sNil, e_sBreak, e_sCont, e_sRet, e_sRetN, e_sExpr, e_sIf, e_sAsg, e_sOwn, e_sFrz, e_sRaise, e_sFor, e_loop_nil, e_mC, e_m1, e_m2, e_mF, e_mCall, e_mM1, e_aNil, e_aCons, e_aLst, e_mTup, e_mLst, e_mN, e_mT, e_mTru, e_mAndT, e_mOrT, e_mNotT, e_mAnd, e_mOr, e_mNot, e_mIf, e_mChain, e_iSeq, e_iRange1, e_iRange2, e_oNone, e_oSome, e_mSl, e_mYes, e_mLc, e_gN, v0, vS, p0, p0o, pS, f0, f0s, f0n, fS, R.bind_ok, R.bind_err, R.bind_stuck, R.quiet_ok, R.sure_ok, R.sure_err, R.sure_stuck, O.of_ok, O.of_err, O.of_stuck, O.thn_nx, O.thn_rt, O.thn_bk, O.thn_ct, O.thn_err, O.thn_rto, O.lp_nx, O.lp_ct, O.lp_bk, O.lp_rt, O.lp_rto, O.lp_err, fin_nx, fin_rt, fin_err, asB_b, o_add, o_addI, o_sub, o_neg, o_lt, o_le, o_gt, o_ge, o_eqI, o_neI, o_eqS, o_neS, o_inS, o_lenL, o_lenT, o_int, o_itS, o_itL, o_itT, o_truL, o_truB, o_truI, List.set_cons_zero, List.set_cons_succ, List.length_cons, List.length_nil, if_true, if_false, Bool.not_true, Bool.not_false, Bool.false_eq_true, Option.isSome_some, Option.isSome_none, Nat.reduceAdd, Nat.zero_add, decide_true, decide_false, e_gT, e_gsC, e_gsN, e_callR0, e_callN, Nat.reduceEqDiff, lit_0, lit_1, lit_2, lit_3, lit_4, lit_5, lit_6, lit_7, lit_8, lit_9, lit_10, lit_11, lit_12, lit_13, lit_14, lit_15, lit_16, lit_17, lit_18, lit_19, lit_20, lit_21, lit_22, lit_23, cl_0, cl_1, cl_2, cl_3, cl_4, cl_5, cl_6, cl_7, cl_8, cl_9, cl_10, cl_11, cl_12, cl_13, cl_14, cl_15, cl_16, cl_17, cl_18, cl_19, cl_20, cl_21, cl_22, cl_23, chk2 hp hw hl hv hl2, r_cuts (lt_wd hw) (by omega), r_cuts (lt_wd hv) (by omega), cutMap, t1, t2, u2, trail_last a1, trail_last b1, a2, b2, o_addL]
  refine ⟨fun h => ?_, fun h => ?_⟩
  · rw [if_neg h]
  · rw [if_pos h, List.map_append]
    exact ⟨fun _ => rfl, fun z => absurd (by rw [List.length_reverse]; omega) z⟩
theorem r_free_derivation_pres {d e : D} : m_free_derivation [PV 4 [], d, e] = .err ("NotPresentation", []) := by
  have q : m_check_words [PV 4 [], .list [d, e]] = .err ("NotPresentation", []) := r_check_words_pres (g := 4) (rs := []) (fun _ h => nomatch h) (by decide) rfl
  show fin (b_free_derivation [some (.sh (PV 4 [])), some (.sh d), some (.sh e), none, none]) = _
  unfold b_free_derivation
  simp -implicitDefEqProofs only [e_callR, e_callX, e_isX, e_xf, e_sNext, e_sApp, e_sPop, e_sRev, e_sRetOwn, e_sExt, e_sGive, e_sSetIx, e_hdl, hdl_nil, e_hdlAs, ownAt_own, rndAt_rnd, excAt_exc, someD_some, caseB_t, caseB_f, intD_int, clean_nil, clean_sh, clean_no, clean_own, List.getElem?_cons_zero, List.getElem?_cons_succ, decide_eq_true_eq, Bool.not_eq_true', List.length_append, Option.getD_some, ixT0, ixT1, ixT2, ixT3, ixL0, ixL1, ixL2, ixL3, o_isB, o_isL, o_isT, o_isI, o_isS, o_niPM, o_niPL, o_max2, o_min2, o_abs, o_tupL, o_tupT, o_lofL, o_lofT, e_aListOf, e_aRep, sizeLine_eq, decide_eq_false_iff_not, Classical.not_not, Nat.reduceLeDiff, Nat.zero_le, Int.reduceLE, Int.reduceLT, Int.reduceEq, Nat.reduceLT, List.nil_append, List.cons_append, cst0, cst1, cst2, cst3, cst4, cst5, cst6, cst7, cst8, cst9, cst10, cst11, cst12, o_eqB, o_neB, reduceCtorEq, Bool.true_eq_false, e_iEnumS, e_iZipS, o_enum, o_zipL, o_zipT, e_sRaise1, e_sPar, e_sPar3, e_gTL, o_isBB, o_notBB, e_sCons, e_sNil, e_sBreak, e_sCont, e_sRet, e_sRetN, e_sExpr, e_sIf, e_sAsg, e_sOwn, e_sFrz, e_sRaise, e_sFor, e_loop_nil, e_mC, e_m1, e_m2, e_mF, e_mCall, e_mM1, e_aNil, e_aCons, e_aLst, e_mTup, e_mLst, e_mN, e_mT, e_mTru, e_mAndT, e_mOrT, e_mNotT, e_mAnd, e_mOr, e_mNot, e_mIf, e_mChain, e_iSeq, e_iRange1, e_iRange2, e_oNone, e_oSome, e_mSl, e_mYes, e_mLc, e_gN, v0, vS, p0, p0o, pS, f0, f0s, f0n, fS, R.bind_ok, R.bind_err, R.bind_stuck, R.quiet_ok, R.sure_ok, R.sure_err, R.sure_stuck, O.of_ok, O.of_err, O.of_stuck, O.thn_nx, O.thn_rt, O.thn_bk, O.thn_ct, O.thn_err, O.thn_rto, O.lp_nx, O.lp_ct, O.lp_bk, O.lp_rt, O.lp_rto, O.lp_err, fin_nx, fin_rt, fin_err, asB_b, o_add, o_addI, o_sub, o_neg, o_lt, o_le, o_gt, o_ge, o_eqI, o_neI, o_eqS, o_neS, o_inS, o_lenL, o_lenT, o_int, o_itS, o_itL, o_itT, o_truL, o_truB, o_truI, List.set_cons_zero, List.set_cons_succ, List.length_cons, List.length_nil, if_true, if_false, Bool.not_true, Bool.not_false, Bool.false_eq_true, Option.isSome_some, Option.isSome_none, Nat.reduceAdd, Nat.zero_add, decide_true, decide_false, e_gT, e_gsC, e_gsN, e_callR0, e_callN, Nat.reduceEqDiff, lit_0, lit_1, lit_2, lit_3, lit_4, lit_5, lit_6, lit_7, lit_8, lit_9, lit_10, lit_11, lit_12, lit_13, lit_14, lit_15, lit_16, lit_17, lit_18, lit_19, lit_20, lit_21, lit_22, lit_23, cl_0, cl_1, cl_2, cl_3, cl_4, cl_5, cl_6, cl_7, cl_8, cl_9, cl_10, cl_11, cl_12, cl_13, cl_14, cl_15, cl_16, cl_17, cl_18, cl_19, cl_20, cl_21, cl_22, cl_23, q]
theorem r_free_derivation_word {g : Int} {rs : List (List Nat)} (hp : Pres g rs) {w v : List Nat} (hl : w.length ≤ 1000000) (hl2 : v.length ≤ 1000000) (h : okWd g w = false ∨ okWd g v = false) : m_free_derivation [PV g rs, sD w, sD v] = .err ("NotWord", []) := by
  have q : m_check_words [PV g rs, .list [sD w, sD v]] = .err ("NotWord", []) := r_check_words_bad hp [w, v] (fun x hx => by
    rcases List.mem_cons.mp hx with rfl | hx
    · exact hl
    · rw [List.mem_singleton.mp hx]; exact hl2) (by
    rcases h with h | h
    · exact ⟨w, List.mem_cons_self, h⟩
    · exact ⟨v, List.mem_cons_of_mem _ List.mem_cons_self, h⟩)
  show fin (b_free_derivation [some (.sh (PV g rs)), some (.sh (sD w)), some (.sh (sD v)), none, none]) = _
  unfold b_free_derivation
  simp -implicitDefEqProofs only [e_callR, e_callX, e_isX, e_xf, e_sNext, e_sApp, e_sPop, e_sRev, e_sRetOwn, e_sExt, e_sGive, e_sSetIx, e_hdl, hdl_nil, e_hdlAs, ownAt_own, rndAt_rnd, excAt_exc, someD_some, caseB_t, caseB_f, intD_int, clean_nil, clean_sh, clean_no, clean_own, List.getElem?_cons_zero, List.getElem?_cons_succ, decide_eq_true_eq, Bool.not_eq_true', List.length_append, Option.getD_some, ixT0, ixT1, ixT2, ixT3, ixL0, ixL1, ixL2, ixL3, o_isB, o_isL, o_isT, o_isI, o_isS, o_niPM, o_niPL, o_max2, o_min2, o_abs, o_tupL, o_tupT, o_lofL, o_lofT, e_aListOf, e_aRep, sizeLine_eq, decide_eq_false_iff_not, Classical.not_not, Nat.reduceLeDiff, Nat.zero_le, Int.reduceLE, Int.reduceLT, Int.reduceEq, Nat.reduceLT, List.nil_append, List.cons_append, cst0, cst1, cst2, cst3, cst4, cst5, cst6, cst7, cst8, cst9, cst10, cst11, cst12, o_eqB, o_neB, reduceCtorEq, Bool.true_eq_false, e_iEnumS, e_iZipS, o_enum, o_zipL, o_zipT, e_sRaise1, e_sPar, e_sPar3, e_gTL, o_isBB, o_notBB, e_sCons, e_sNil, e_sBreak, e_sCont, e_sRet, e_sRetN, e_sExpr, e_sIf, e_sAsg, e_sOwn, e_sFrz, e_sRaise, e_sFor, e_loop_nil, e_mC, e_m1, e_m2, e_mF, e_mCall, e_mM1, e_aNil, e_aCons, e_aLst, e_mTup, e_mLst, e_mN, e_mT, e_mTru, e_mAndT, e_mOrT, e_mNotT, e_mAnd, e_mOr, e_mNot, e_mIf, e_mChain, e_iSeq, e_iRange1, e_iRange2, e_oNone, e_oSome, e_mSl, e_mYes, e_mLc, e_gN, v0, vS, p0, p0o, pS, f0, f0s, f0n, fS, R.bind_ok, R.bind_err, R.bind_stuck, R.quiet_ok, R.sure_ok, R.sure_err, R.sure_stuck, O.of_ok, O.of_err, O.of_stuck, O.thn_nx, O.thn_rt, O.thn_bk, O.thn_ct, O.thn_err, O.thn_rto, O.lp_nx, O.lp_ct, O.lp_bk, O.lp_rt, O.lp_rto, O.lp_err, fin_nx, fin_rt, fin_err, asB_b, o_add, o_addI, o_sub, o_neg, o_lt, o_le, o_gt, o_ge, o_eqI, o_neI, o_eqS, o_neS, o_inS, o_lenL, o_lenT, o_int, o_itS, o_itL, o_itT, o_truL, o_truB, o_truI, List.set_cons_zero, List.set_cons_succ, List.length_cons, List.length_nil, if_true, if_false, Bool.not_true, Bool.not_false, Bool.false_eq_true, Option.isSome_some, Option.isSome_none, Nat.reduceAdd, Nat.zero_add, decide_true, decide_false, e_gT, e_gsC, e_gsN, e_callR0, e_callN, Nat.reduceEqDiff, lit_0, lit_1, lit_2, lit_3, lit_4, lit_5, lit_6, lit_7, lit_8, lit_9, lit_10, lit_11, lit_12, lit_13, lit_14, lit_15, lit_16, lit_17, lit_18, lit_19, lit_20, lit_21, lit_22, lit_23, cl_0, cl_1, cl_2, cl_3, cl_4, cl_5, cl_6, cl_7, cl_8, cl_9, cl_10, cl_11, cl_12, cl_13, cl_14, cl_15, cl_16, cl_17, cl_18, cl_19, cl_20, cl_21, cl_22, cl_23, q]

end Law
end
end
section
set_option Elab.async false
set_option linter.all false
set_option maxRecDepth 100000
set_option autoImplicit false
set_option maxHeartbeats 4000000
noncomputable section
namespace Law
open PySem DW L2
open SX (S S_tl S_len S_cat)
theorem kind_BadNumber : m__law_kind "BadNumber" [] = .ok (sD [110, 117, 109, 98, 101, 114]) := by
  show fin (b__law_kind [some (.exc "BadNumber" []), none]) = _
  unfold b__law_kind st__law_kind_1 st__law_kind_2 st__law_kind_3 st__law_kind_4 st__law_kind_5 st__law_kind_6 st__law_kind_7
  simp -implicitDefEqProofs only [e_callR, e_callX, e_isX, e_xf, e_sNext, e_sApp, e_sPop, e_sRev, e_sRetOwn, e_sExt, e_sGive, e_sSetIx, e_hdl, hdl_nil, e_hdlAs, ownAt_own, rndAt_rnd, excAt_exc, someD_some, caseB_t, caseB_f, intD_int, clean_nil, clean_sh, clean_no, clean_own, List.getElem?_cons_zero, List.getElem?_cons_succ, decide_eq_true_eq, Bool.not_eq_true', List.length_append, Option.getD_some, ixT0, ixT1, ixT2, ixT3, ixL0, ixL1, ixL2, ixL3, o_isB, o_isL, o_isT, o_isI, o_isS, o_niPM, o_niPL, o_max2, o_min2, o_abs, o_tupL, o_tupT, o_lofL, o_lofT, e_aListOf, e_aRep, sizeLine_eq, decide_eq_false_iff_not, Classical.not_not, Nat.reduceLeDiff, Nat.zero_le, Int.reduceLE, Int.reduceLT, Int.reduceEq, Nat.reduceLT, List.nil_append, List.cons_append, cst0, cst1, cst2, cst3, cst4, cst5, cst6, cst7, cst8, cst9, cst10, cst11, cst12, o_eqB, o_neB, reduceCtorEq, Bool.true_eq_false, e_iEnumS, e_iZipS, o_enum, o_zipL, o_zipT, e_sRaise1, e_sPar, e_sPar3, e_gTL, o_isBB, o_notBB, e_sCons, e_sNil, e_sBreak, e_sCont, e_sRet, e_sRetN, e_sExpr, e_sIf, e_sAsg, e_sOwn, e_sFrz, e_sRaise, e_sFor, e_loop_nil, e_mC, e_m1, e_m2, e_mF, e_mCall, e_mM1, e_aNil, e_aCons, e_aLst, e_mTup, e_mLst, e_mN, e_mT, e_mTru, e_mAndT, e_mOrT, e_mNotT, e_mAnd, e_mOr, e_mNot, e_mIf, e_mChain, e_iSeq, e_iRange1, e_iRange2, e_oNone, e_oSome, e_mSl, e_mYes, e_mLc, e_gN, v0, vS, p0, p0o, pS, f0, f0s, f0n, fS, R.bind_ok, R.bind_err, R.bind_stuck, R.quiet_ok, R.sure_ok, R.sure_err, R.sure_stuck, O.of_ok, O.of_err, O.of_stuck, O.thn_nx, O.thn_rt, O.thn_bk, O.thn_ct, O.thn_err, O.thn_rto, O.lp_nx, O.lp_ct, O.lp_bk, O.lp_rt, O.lp_rto, O.lp_err, fin_nx, fin_rt, fin_err, asB_b, o_add, o_addI, o_sub, o_neg, o_lt, o_le, o_gt, o_ge, o_eqI, o_neI, o_eqS, o_neS, o_inS, o_lenL, o_lenT, o_int, o_itS, o_itL, o_itT, o_truL, o_truB, o_truI, List.set_cons_zero, List.set_cons_succ, List.length_cons, List.length_nil, if_true, if_false, Bool.not_true, Bool.not_false, Bool.false_eq_true, Option.isSome_some, Option.isSome_none, Nat.reduceAdd, Nat.zero_add, decide_true, decide_false, e_gT, e_gsC, e_gsN, e_callR0, e_callN, Nat.reduceEqDiff, lit_0, lit_1, lit_2, lit_3, lit_4, lit_5, lit_6, lit_7, lit_8, lit_9, lit_10, lit_11, lit_12, lit_13, lit_14, lit_15, lit_16, lit_17, lit_18, lit_19, lit_20, lit_21, lit_22, lit_23, cl_0, cl_1, cl_2, cl_3, cl_4, cl_5, cl_6, cl_7, cl_8, cl_9, cl_10, cl_11, cl_12, cl_13, cl_14, cl_15, cl_16, cl_17, cl_18, cl_19, cl_20, cl_21, cl_22, cl_23]
theorem kind_NotPresentation : m__law_kind "NotPresentation" [] = .ok (sD [112, 114, 101, 115, 101, 110, 116, 97, 116, 105, 111, 110]) := by
  show fin (b__law_kind [some (.exc "NotPresentation" []), none]) = _
  unfold b__law_kind st__law_kind_1 st__law_kind_2 st__law_kind_3 st__law_kind_4 st__law_kind_5 st__law_kind_6 st__law_kind_7
  simp -implicitDefEqProofs only [e_callR, e_callX, e_isX, e_xf, e_sNext, e_sApp, e_sPop, e_sRev, e_sRetOwn, e_sExt, e_sGive, e_sSetIx, e_hdl, hdl_nil, e_hdlAs, ownAt_own, rndAt_rnd, excAt_exc, someD_some, caseB_t, caseB_f, intD_int, clean_nil, clean_sh, clean_no, clean_own, List.getElem?_cons_zero, List.getElem?_cons_succ, decide_eq_true_eq, Bool.not_eq_true', List.length_append, Option.getD_some, ixT0, ixT1, ixT2, ixT3, ixL0, ixL1, ixL2, ixL3, o_isB, o_isL, o_isT, o_isI, o_isS, o_niPM, o_niPL, o_max2, o_min2, o_abs, o_tupL, o_tupT, o_lofL, o_lofT, e_aListOf, e_aRep, sizeLine_eq, decide_eq_false_iff_not, Classical.not_not, Nat.reduceLeDiff, Nat.zero_le, Int.reduceLE, Int.reduceLT, Int.reduceEq, Nat.reduceLT, List.nil_append, List.cons_append, cst0, cst1, cst2, cst3, cst4, cst5, cst6, cst7, cst8, cst9, cst10, cst11, cst12, o_eqB, o_neB, reduceCtorEq, Bool.true_eq_false, e_iEnumS, e_iZipS, o_enum, o_zipL, o_zipT, e_sRaise1, e_sPar, e_sPar3, e_gTL, o_isBB, o_notBB, e_sCons, e_sNil, e_sBreak, e_sCont, e_sRet, e_sRetN, e_sExpr, e_sIf, e_sAsg, e_sOwn, e_sFrz, e_sRaise, e_sFor, e_loop_nil, e_mC, e_m1, e_m2, e_mF, e_mCall, e_mM1, e_aNil, e_aCons, e_aLst, e_mTup, e_mLst, e_mN, e_mT, e_mTru, e_mAndT, e_mOrT, e_mNotT, e_mAnd, e_mOr, e_mNot, e_mIf, e_mChain, e_iSeq, e_iRange1, e_iRange2, e_oNone, e_oSome, e_mSl, e_mYes, e_mLc, e_gN, v0, vS, p0, p0o, pS, f0, f0s, f0n, fS, R.bind_ok, R.bind_err, R.bind_stuck, R.quiet_ok, R.sure_ok, R.sure_err, R.sure_stuck, O.of_ok, O.of_err, O.of_stuck, O.thn_nx, O.thn_rt, O.thn_bk, O.thn_ct, O.thn_err, O.thn_rto, O.lp_nx, O.lp_ct, O.lp_bk, O.lp_rt, O.lp_rto, O.lp_err, fin_nx, fin_rt, fin_err, asB_b, o_add, o_addI, o_sub, o_neg, o_lt, o_le, o_gt, o_ge, o_eqI, o_neI, o_eqS, o_neS, o_inS, o_lenL, o_lenT, o_int, o_itS, o_itL, o_itT, o_truL, o_truB, o_truI, List.set_cons_zero, List.set_cons_succ, List.length_cons, List.length_nil, if_true, if_false, Bool.not_true, Bool.not_false, Bool.false_eq_true, Option.isSome_some, Option.isSome_none, Nat.reduceAdd, Nat.zero_add, decide_true, decide_false, e_gT, e_gsC, e_gsN, e_callR0, e_callN, Nat.reduceEqDiff, lit_0, lit_1, lit_2, lit_3, lit_4, lit_5, lit_6, lit_7, lit_8, lit_9, lit_10, lit_11, lit_12, lit_13, lit_14, lit_15, lit_16, lit_17, lit_18, lit_19, lit_20, lit_21, lit_22, lit_23, cl_0, cl_1, cl_2, cl_3, cl_4, cl_5, cl_6, cl_7, cl_8, cl_9, cl_10, cl_11, cl_12, cl_13, cl_14, cl_15, cl_16, cl_17, cl_18, cl_19, cl_20, cl_21, cl_22, cl_23]
theorem kind_NotWord : m__law_kind "NotWord" [] = .ok (sD [119, 111, 114, 100]) := by
  show fin (b__law_kind [some (.exc "NotWord" []), none]) = _
  unfold b__law_kind st__law_kind_1 st__law_kind_2 st__law_kind_3 st__law_kind_4 st__law_kind_5 st__law_kind_6 st__law_kind_7
  simp -implicitDefEqProofs only [e_callR, e_callX, e_isX, e_xf, e_sNext, e_sApp, e_sPop, e_sRev, e_sRetOwn, e_sExt, e_sGive, e_sSetIx, e_hdl, hdl_nil, e_hdlAs, ownAt_own, rndAt_rnd, excAt_exc, someD_some, caseB_t, caseB_f, intD_int, clean_nil, clean_sh, clean_no, clean_own, List.getElem?_cons_zero, List.getElem?_cons_succ, decide_eq_true_eq, Bool.not_eq_true', List.length_append, Option.getD_some, ixT0, ixT1, ixT2, ixT3, ixL0, ixL1, ixL2, ixL3, o_isB, o_isL, o_isT, o_isI, o_isS, o_niPM, o_niPL, o_max2, o_min2, o_abs, o_tupL, o_tupT, o_lofL, o_lofT, e_aListOf, e_aRep, sizeLine_eq, decide_eq_false_iff_not, Classical.not_not, Nat.reduceLeDiff, Nat.zero_le, Int.reduceLE, Int.reduceLT, Int.reduceEq, Nat.reduceLT, List.nil_append, List.cons_append, cst0, cst1, cst2, cst3, cst4, cst5, cst6, cst7, cst8, cst9, cst10, cst11, cst12, o_eqB, o_neB, reduceCtorEq, Bool.true_eq_false, e_iEnumS, e_iZipS, o_enum, o_zipL, o_zipT, e_sRaise1, e_sPar, e_sPar3, e_gTL, o_isBB, o_notBB, e_sCons, e_sNil, e_sBreak, e_sCont, e_sRet, e_sRetN, e_sExpr, e_sIf, e_sAsg, e_sOwn, e_sFrz, e_sRaise, e_sFor, e_loop_nil, e_mC, e_m1, e_m2, e_mF, e_mCall, e_mM1, e_aNil, e_aCons, e_aLst, e_mTup, e_mLst, e_mN, e_mT, e_mTru, e_mAndT, e_mOrT, e_mNotT, e_mAnd, e_mOr, e_mNot, e_mIf, e_mChain, e_iSeq, e_iRange1, e_iRange2, e_oNone, e_oSome, e_mSl, e_mYes, e_mLc, e_gN, v0, vS, p0, p0o, pS, f0, f0s, f0n, fS, R.bind_ok, R.bind_err, R.bind_stuck, R.quiet_ok, R.sure_ok, R.sure_err, R.sure_stuck, O.of_ok, O.of_err, O.of_stuck, O.thn_nx, O.thn_rt, O.thn_bk, O.thn_ct, O.thn_err, O.thn_rto, O.lp_nx, O.lp_ct, O.lp_bk, O.lp_rt, O.lp_rto, O.lp_err, fin_nx, fin_rt, fin_err, asB_b, o_add, o_addI, o_sub, o_neg, o_lt, o_le, o_gt, o_ge, o_eqI, o_neI, o_eqS, o_neS, o_inS, o_lenL, o_lenT, o_int, o_itS, o_itL, o_itT, o_truL, o_truB, o_truI, List.set_cons_zero, List.set_cons_succ, List.length_cons, List.length_nil, if_true, if_false, Bool.not_true, Bool.not_false, Bool.false_eq_true, Option.isSome_some, Option.isSome_none, Nat.reduceAdd, Nat.zero_add, decide_true, decide_false, e_gT, e_gsC, e_gsN, e_callR0, e_callN, Nat.reduceEqDiff, lit_0, lit_1, lit_2, lit_3, lit_4, lit_5, lit_6, lit_7, lit_8, lit_9, lit_10, lit_11, lit_12, lit_13, lit_14, lit_15, lit_16, lit_17, lit_18, lit_19, lit_20, lit_21, lit_22, lit_23, cl_0, cl_1, cl_2, cl_3, cl_4, cl_5, cl_6, cl_7, cl_8, cl_9, cl_10, cl_11, cl_12, cl_13, cl_14, cl_15, cl_16, cl_17, cl_18, cl_19, cl_20, cl_21, cl_22, cl_23]

end Law
end
end
section
set_option Elab.async false
set_option linter.all false
set_option maxRecDepth 100000
set_option autoImplicit false
set_option maxHeartbeats 4000000
noncomputable section
namespace Law
open PySem DW L2
open SX (S S_tl S_len S_cat)
abbrev kPres : List Nat := [112, 114, 101, 115, 101, 110, 116, 97, 116, 105, 111, 110]
abbrev kWord : List Nat := [119, 111, 114, 100]
theorem told {P W V d : D} (e : m_free_derivation [P, W, V] = .ok d) : m__law_told [P, W, V] = .ok d := by
  refine eq_ok ?_
  show RP False (fin (b__law_told [some (.sh P), some (.sh W), some (.sh V), none])) _ _
  unfold b__law_told
  simp -implicitDefEqProofs only [RP_ok, RP_err, RP_stuck, RP_bind, RP_quiet, RP_sure, RP_ite, RP_fin, RP_finN, OP_nx, OP_rt, OP_rto, OP_bk, OP_ct, OP_err, OP_stuck, OP_of, OP_thn, OP_lp, OP_ite, OP_tryN, OP_tryAs, OP_endS, OP_endI, true_implies, false_implies, not_true_eq_false, not_false_eq_true, and_true, true_and, implies_true, wipe_nil, wipe_cons, List.length_map, e_callR, e_callX, e_isX, e_xf, e_sNext, e_sApp, e_sPop, e_sRev, e_sRetOwn, e_sExt, e_sGive, e_sSetIx, e_hdl, hdl_nil, e_hdlAs, ownAt_own, rndAt_rnd, excAt_exc, someD_some, caseB_t, caseB_f, intD_int, clean_nil, clean_sh, clean_no, clean_own, List.getElem?_cons_zero, List.getElem?_cons_succ, decide_eq_true_eq, Bool.not_eq_true', List.length_append, Option.getD_some, ixT0, ixT1, ixT2, ixT3, ixL0, ixL1, ixL2, ixL3, o_isB, o_isL, o_isT, o_isI, o_isS, o_niPM, o_niPL, o_max2, o_min2, o_abs, o_tupL, o_tupT, o_lofL, o_lofT, e_aListOf, e_aRep, sizeLine_eq, decide_eq_false_iff_not, Classical.not_not, Nat.reduceLeDiff, Nat.zero_le, Int.reduceLE, Int.reduceLT, Int.reduceEq, Nat.reduceLT, List.nil_append, List.cons_append, cst0, cst1, cst2, cst3, cst4, cst5, cst6, cst7, cst8, cst9, cst10, cst11, cst12, o_eqB, o_neB, reduceCtorEq, Bool.true_eq_false, e_iEnumS, e_iZipS, o_enum, o_zipL, o_zipT, e_sRaise1, e_sPar, e_sPar3, e_gTL, o_isBB, o_notBB, e_sCons, e_sNil, e_sBreak, e_sCont, e_sRet, e_sRetN, e_sExpr, e_sIf, e_sAsg, e_sOwn, e_sFrz, e_sRaise, e_sFor, e_loop_nil, e_mC, e_m1, e_m2, e_mF, e_mCall, e_mM1, e_aNil, e_aCons, e_aLst, e_mTup, e_mLst, e_mN, e_mT, e_mTru, e_mAndT, e_mOrT, e_mNotT, e_mAnd, e_mOr, e_mNot, e_mIf, e_mChain, e_iSeq, e_iRange1, e_iRange2, e_oNone, e_oSome, e_mSl, e_mYes, e_mLc, e_gN, v0, vS, p0, p0o, pS, f0, f0s, f0n, fS, R.bind_ok, R.bind_err, R.bind_stuck, R.quiet_ok, R.sure_ok, R.sure_err, R.sure_stuck, O.of_ok, O.of_err, O.of_stuck, O.thn_nx, O.thn_rt, O.thn_bk, O.thn_ct, O.thn_err, O.thn_rto, O.lp_nx, O.lp_ct, O.lp_bk, O.lp_rt, O.lp_rto, O.lp_err, fin_nx, fin_rt, fin_err, asB_b, o_add, o_addI, o_sub, o_neg, o_lt, o_le, o_gt, o_ge, o_eqI, o_neI, o_eqS, o_neS, o_inS, o_lenL, o_lenT, o_int, o_itS, o_itL, o_itT, o_truL, o_truB, o_truI, List.set_cons_zero, List.set_cons_succ, List.length_cons, List.length_nil, if_true, if_false, Bool.not_true, Bool.not_false, Bool.false_eq_true, Option.isSome_some, Option.isSome_none, Nat.reduceAdd, Nat.zero_add, decide_true, decide_false, e_gT, e_gsC, e_gsN, e_callR0, e_callN, Nat.reduceEqDiff, lit_0, lit_1, lit_2, lit_3, lit_4, lit_5, lit_6, lit_7, lit_8, lit_9, lit_10, lit_11, lit_12, lit_13, lit_14, lit_15, lit_16, lit_17, lit_18, lit_19, lit_20, lit_21, lit_22, lit_23, cl_0, cl_1, cl_2, cl_3, cl_4, cl_5, cl_6, cl_7, cl_8, cl_9, cl_10, cl_11, cl_12, cl_13, cl_14, cl_15, cl_16, cl_17, cl_18, cl_19, cl_20, cl_21, cl_22, cl_23, e]
theorem toldP {P W V : D} (e : m_free_derivation [P, W, V] = .err ("NotPresentation", [])) : m__law_told [P, W, V] = .ok (sD kPres) := by
  refine eq_ok ?_
  show RP False (fin (b__law_told [some (.sh P), some (.sh W), some (.sh V), none])) _ _
  unfold b__law_told
  simp -implicitDefEqProofs only [RP_ok, RP_err, RP_stuck, RP_bind, RP_quiet, RP_sure, RP_ite, RP_fin, RP_finN, OP_nx, OP_rt, OP_rto, OP_bk, OP_ct, OP_err, OP_stuck, OP_of, OP_thn, OP_lp, OP_ite, OP_tryN, OP_tryAs, OP_endS, OP_endI, true_implies, false_implies, not_true_eq_false, not_false_eq_true, and_true, true_and, implies_true, wipe_nil, wipe_cons, List.length_map, e_callR, e_callX, e_isX, e_xf, e_sNext, e_sApp, e_sPop, e_sRev, e_sRetOwn, e_sExt, e_sGive, e_sSetIx, e_hdl, hdl_nil, e_hdlAs, ownAt_own, rndAt_rnd, excAt_exc, someD_some, caseB_t, caseB_f, intD_int, clean_nil, clean_sh, clean_no, clean_own, List.getElem?_cons_zero, List.getElem?_cons_succ, decide_eq_true_eq, Bool.not_eq_true', List.length_append, Option.getD_some, ixT0, ixT1, ixT2, ixT3, ixL0, ixL1, ixL2, ixL3, o_isB, o_isL, o_isT, o_isI, o_isS, o_niPM, o_niPL, o_max2, o_min2, o_abs, o_tupL, o_tupT, o_lofL, o_lofT, e_aListOf, e_aRep, sizeLine_eq, decide_eq_false_iff_not, Classical.not_not, Nat.reduceLeDiff, Nat.zero_le, Int.reduceLE, Int.reduceLT, Int.reduceEq, Nat.reduceLT, List.nil_append, List.cons_append, cst0, cst1, cst2, cst3, cst4, cst5, cst6, cst7, cst8, cst9, cst10, cst11, cst12, o_eqB, o_neB, reduceCtorEq, Bool.true_eq_false, e_iEnumS, e_iZipS, o_enum, o_zipL, o_zipT, e_sRaise1, e_sPar, e_sPar3, e_gTL, o_isBB, o_notBB, e_sCons, e_sNil, e_sBreak, e_sCont, e_sRet, e_sRetN, e_sExpr, e_sIf, e_sAsg, e_sOwn, e_sFrz, e_sRaise, e_sFor, e_loop_nil, e_mC, e_m1, e_m2, e_mF, e_mCall, e_mM1, e_aNil, e_aCons, e_aLst, e_mTup, e_mLst, e_mN, e_mT, e_mTru, e_mAndT, e_mOrT, e_mNotT, e_mAnd, e_mOr, e_mNot, e_mIf, e_mChain, e_iSeq, e_iRange1, e_iRange2, e_oNone, e_oSome, e_mSl, e_mYes, e_mLc, e_gN, v0, vS, p0, p0o, pS, f0, f0s, f0n, fS, R.bind_ok, R.bind_err, R.bind_stuck, R.quiet_ok, R.sure_ok, R.sure_err, R.sure_stuck, O.of_ok, O.of_err, O.of_stuck, O.thn_nx, O.thn_rt, O.thn_bk, O.thn_ct, O.thn_err, O.thn_rto, O.lp_nx, O.lp_ct, O.lp_bk, O.lp_rt, O.lp_rto, O.lp_err, fin_nx, fin_rt, fin_err, asB_b, o_add, o_addI, o_sub, o_neg, o_lt, o_le, o_gt, o_ge, o_eqI, o_neI, o_eqS, o_neS, o_inS, o_lenL, o_lenT, o_int, o_itS, o_itL, o_itT, o_truL, o_truB, o_truI, List.set_cons_zero, List.set_cons_succ, List.length_cons, List.length_nil, if_true, if_false, Bool.not_true, Bool.not_false, Bool.false_eq_true, Option.isSome_some, Option.isSome_none, Nat.reduceAdd, Nat.zero_add, decide_true, decide_false, e_gT, e_gsC, e_gsN, e_callR0, e_callN, Nat.reduceEqDiff, lit_0, lit_1, lit_2, lit_3, lit_4, lit_5, lit_6, lit_7, lit_8, lit_9, lit_10, lit_11, lit_12, lit_13, lit_14, lit_15, lit_16, lit_17, lit_18, lit_19, lit_20, lit_21, lit_22, lit_23, cl_0, cl_1, cl_2, cl_3, cl_4, cl_5, cl_6, cl_7, cl_8, cl_9, cl_10, cl_11, cl_12, cl_13, cl_14, cl_15, cl_16, cl_17, cl_18, cl_19, cl_20, cl_21, cl_22, cl_23, e, kind_NotPresentation]
theorem toldW {P W V : D} (e : m_free_derivation [P, W, V] = .err ("NotWord", [])) : m__law_told [P, W, V] = .ok (sD kWord) := by
  refine eq_ok ?_
  show RP False (fin (b__law_told [some (.sh P), some (.sh W), some (.sh V), none])) _ _
  unfold b__law_told
  simp -implicitDefEqProofs only [RP_ok, RP_err, RP_stuck, RP_bind, RP_quiet, RP_sure, RP_ite, RP_fin, RP_finN, OP_nx, OP_rt, OP_rto, OP_bk, OP_ct, OP_err, OP_stuck, OP_of, OP_thn, OP_lp, OP_ite, OP_tryN, OP_tryAs, OP_endS, OP_endI, true_implies, false_implies, not_true_eq_false, not_false_eq_true, and_true, true_and, implies_true, wipe_nil, wipe_cons, List.length_map, e_callR, e_callX, e_isX, e_xf, e_sNext, e_sApp, e_sPop, e_sRev, e_sRetOwn, e_sExt, e_sGive, e_sSetIx, e_hdl, hdl_nil, e_hdlAs, ownAt_own, rndAt_rnd, excAt_exc, someD_some, caseB_t, caseB_f, intD_int, clean_nil, clean_sh, clean_no, clean_own, List.getElem?_cons_zero, List.getElem?_cons_succ, decide_eq_true_eq, Bool.not_eq_true', List.length_append, Option.getD_some, ixT0, ixT1, ixT2, ixT3, ixL0, ixL1, ixL2, ixL3, o_isB, o_isL, o_isT, o_isI, o_isS, o_niPM, o_niPL, o_max2, o_min2, o_abs, o_tupL, o_tupT, o_lofL, o_lofT, e_aListOf, e_aRep, sizeLine_eq, decide_eq_false_iff_not, Classical.not_not, Nat.reduceLeDiff, Nat.zero_le, Int.reduceLE, Int.reduceLT, Int.reduceEq, Nat.reduceLT, List.nil_append, List.cons_append, cst0, cst1, cst2, cst3, cst4, cst5, cst6, cst7, cst8, cst9, cst10, cst11, cst12, o_eqB, o_neB, reduceCtorEq, Bool.true_eq_false, e_iEnumS, e_iZipS, o_enum, o_zipL, o_zipT, e_sRaise1, e_sPar, e_sPar3, e_gTL, o_isBB, o_notBB, e_sCons, e_sNil, e_sBreak, e_sCont, e_sRet, e_sRetN, e_sExpr, e_sIf, e_sAsg, e_sOwn, e_sFrz, e_sRaise, e_sFor, e_loop_nil, e_mC, e_m1, e_m2, e_mF, e_mCall, e_mM1, e_aNil, e_aCons, e_aLst, e_mTup, e_mLst, e_mN, e_mT, e_mTru, e_mAndT, e_mOrT, e_mNotT, e_mAnd, e_mOr, e_mNot, e_mIf, e_mChain, e_iSeq, e_iRange1, e_iRange2, e_oNone, e_oSome, e_mSl, e_mYes, e_mLc, e_gN, v0, vS, p0, p0o, pS, f0, f0s, f0n, fS, R.bind_ok, R.bind_err, R.bind_stuck, R.quiet_ok, R.sure_ok, R.sure_err, R.sure_stuck, O.of_ok, O.of_err, O.of_stuck, O.thn_nx, O.thn_rt, O.thn_bk, O.thn_ct, O.thn_err, O.thn_rto, O.lp_nx, O.lp_ct, O.lp_bk, O.lp_rt, O.lp_rto, O.lp_err, fin_nx, fin_rt, fin_err, asB_b, o_add, o_addI, o_sub, o_neg, o_lt, o_le, o_gt, o_ge, o_eqI, o_neI, o_eqS, o_neS, o_inS, o_lenL, o_lenT, o_int, o_itS, o_itL, o_itT, o_truL, o_truB, o_truI, List.set_cons_zero, List.set_cons_succ, List.length_cons, List.length_nil, if_true, if_false, Bool.not_true, Bool.not_false, Bool.false_eq_true, Option.isSome_some, Option.isSome_none, Nat.reduceAdd, Nat.zero_add, decide_true, decide_false, e_gT, e_gsC, e_gsN, e_callR0, e_callN, Nat.reduceEqDiff, lit_0, lit_1, lit_2, lit_3, lit_4, lit_5, lit_6, lit_7, lit_8, lit_9, lit_10, lit_11, lit_12, lit_13, lit_14, lit_15, lit_16, lit_17, lit_18, lit_19, lit_20, lit_21, lit_22, lit_23, cl_0, cl_1, cl_2, cl_3, cl_4, cl_5, cl_6, cl_7, cl_8, cl_9, cl_10, cl_11, cl_12, cl_13, cl_14, cl_15, cl_16, cl_17, cl_18, cl_19, cl_20, cl_21, cl_22, cl_23, e, kind_NotWord]

end Law
end
end
section
set_option Elab.async false
set_option linter.all false
set_option maxRecDepth 100000
set_option autoImplicit false
set_option maxHeartbeats 4000000
noncomputable section
namespace Law
open PySem DW L2
open SX (S S_tl S_len S_cat)
theorem rgN {n : Nat} (h : n ≤ 1000) : dRange3 [.int ((n : Int) - 1), .int (-1), .int (-1)] = .ok ((List.range n).map fun (k : Nat) => PyData.int ((n : Int) - 1 - (k : Int))) := by
  have := rgD_nat (n := n) (j := -1) h (by decide) (by decide)
  have e : ((n : Int) - 1 - -1).toNat = n := by omega
  rw [e] at this
  exact this
theorem okWd_x {g : Int} : okWd g [120] = false := by
  unfold okWd
  have : okw g [120] = false := by
    rw [Bool.eq_false_iff]
    intro z
    have h := okw_iff.mp z 120 List.mem_cons_self
    have h := lt_sub h
    revert h
    decide
  rw [this]; rfl
theorem cut_mem : ∀ (w st : List Nat), Wd w → Wd st → ∀ p ∈ cutS st w, p.2 ∈ L6
  | [], st, _, _, p, h => by cases st <;> cases h
  | c :: w, [], hw, hs, p, h => cut_mem w [c] (fun x hx => hw x (List.mem_cons_of_mem _ hx)) (fun x hx => by rw [List.mem_singleton.mp hx]; exact hw c List.mem_cons_self) p h
  | c :: w, t :: s, hw, hs, p, h => by
    have hw2 : Wd w := fun x hx => hw x (List.mem_cons_of_mem _ hx)
    have h : p ∈ (if t = inv c then (s.length, t) :: cutS s w else cutS (c :: t :: s) w) := h
    split at h
    · rcases List.mem_cons.mp h with rfl | h
      · exact hs t List.mem_cons_self
      · exact cut_mem w s hw2 (fun x hx => hs x (List.mem_cons_of_mem _ hx)) p h
    · exact cut_mem w (c :: t :: s) hw2 (fun x hx => (List.mem_cons.mp hx).elim (fun z => z ▸ hw c List.mem_cons_self) (hs x)) p h
theorem lt_97 {g : Int} (h1 : 1 ≤ g) (h2 : g ≤ 3) : 97 ∈ lt g := by
  have : g = 1 ∨ g = 2 ∨ g = 3 := by omega
  rcases this with rfl | rfl | rfl <;> decide
theorem law_yes (ns : List Int) (hl : ns.length ≤ 63) (hb : ∀ z ∈ ns, Builtin.Int.intBits z ≤ 1048576) : (m_law [.list (ns.map PyData.int)]).yes := by
  refine yes_RP ?_
  show RP True (fin (b_law [some (.sh (.list (ns.map PyData.int))), none, none, none, none, none, none, none, none, none, none, none, none, none, none, none, none, none])) _ _
  unfold b_law
  simp -implicitDefEqProofs only [RP_ok, RP_err, RP_stuck, RP_bind, RP_quiet, RP_sure, RP_ite, RP_fin, RP_finN, OP_nx, OP_rt, OP_rto, OP_bk, OP_ct, OP_err, OP_stuck, OP_of, OP_thn, OP_lp, OP_ite, OP_tryN, OP_tryAs, OP_endS, OP_endI, true_implies, false_implies, not_true_eq_false, not_false_eq_true, and_true, true_and, implies_true, wipe_nil, wipe_cons, List.length_map, e_callR, e_callX, e_isX, e_xf, e_sNext, e_sApp, e_sPop, e_sRev, e_sRetOwn, e_sExt, e_sGive, e_sSetIx, e_hdl, hdl_nil, e_hdlAs, ownAt_own, rndAt_rnd, excAt_exc, someD_some, caseB_t, caseB_f, intD_int, clean_nil, clean_sh, clean_no, clean_own, List.getElem?_cons_zero, List.getElem?_cons_succ, decide_eq_true_eq, Bool.not_eq_true', List.length_append, Option.getD_some, ixT0, ixT1, ixT2, ixT3, ixL0, ixL1, ixL2, ixL3, o_isB, o_isL, o_isT, o_isI, o_isS, o_niPM, o_niPL, o_max2, o_min2, o_abs, o_tupL, o_tupT, o_lofL, o_lofT, e_aListOf, e_aRep, sizeLine_eq, decide_eq_false_iff_not, Classical.not_not, Nat.reduceLeDiff, Nat.zero_le, Int.reduceLE, Int.reduceLT, Int.reduceEq, Nat.reduceLT, List.nil_append, List.cons_append, cst0, cst1, cst2, cst3, cst4, cst5, cst6, cst7, cst8, cst9, cst10, cst11, cst12, o_eqB, o_neB, reduceCtorEq, Bool.true_eq_false, e_iEnumS, e_iZipS, o_enum, o_zipL, o_zipT, e_sRaise1, e_sPar, e_sPar3, e_gTL, o_isBB, o_notBB, e_sCons, e_sNil, e_sBreak, e_sCont, e_sRet, e_sRetN, e_sExpr, e_sIf, e_sAsg, e_sOwn, e_sFrz, e_sRaise, e_sFor, e_loop_nil, e_mC, e_m1, e_m2, e_mF, e_mCall, e_mM1, e_aNil, e_aCons, e_aLst, e_mTup, e_mLst, e_mN, e_mT, e_mTru, e_mAndT, e_mOrT, e_mNotT, e_mAnd, e_mOr, e_mNot, e_mIf, e_mChain, e_iSeq, e_iRange1, e_iRange2, e_oNone, e_oSome, e_mSl, e_mYes, e_mLc, e_gN, v0, vS, p0, p0o, pS, f0, f0s, f0n, fS, R.bind_ok, R.bind_err, R.bind_stuck, R.quiet_ok, R.sure_ok, R.sure_err, R.sure_stuck, O.of_ok, O.of_err, O.of_stuck, O.thn_nx, O.thn_rt, O.thn_bk, O.thn_ct, O.thn_err, O.thn_rto, O.lp_nx, O.lp_ct, O.lp_bk, O.lp_rt, O.lp_rto, O.lp_err, fin_nx, fin_rt, fin_err, asB_b, o_add, o_addI, o_sub, o_neg, o_lt, o_le, o_gt, o_ge, o_eqI, o_neI, o_eqS, o_neS, o_inS, o_lenL, o_lenT, o_int, o_itS, o_itL, o_itT, o_truL, o_truB, o_truI, List.set_cons_zero, List.set_cons_succ, List.length_cons, List.length_nil, if_true, if_false, Bool.not_true, Bool.not_false, Bool.false_eq_true, Option.isSome_some, Option.isSome_none, Nat.reduceAdd, Nat.zero_add, decide_true, decide_false, e_gT, e_gsC, e_gsN, e_callR0, e_callN, Nat.reduceEqDiff, lit_0, lit_1, lit_2, lit_3, lit_4, lit_5, lit_6, lit_7, lit_8, lit_9, lit_10, lit_11, lit_12, lit_13, lit_14, lit_15, lit_16, lit_17, lit_18, lit_19, lit_20, lit_21, lit_22, lit_23, cl_0, cl_1, cl_2, cl_3, cl_4, cl_5, cl_6, cl_7, cl_8, cl_9, cl_10, cl_11, cl_12, cl_13, cl_14, cl_15, cl_16, cl_17, cl_18, cl_19, cl_20, cl_21, cl_22, cl_23]
  unfold st_law_1 st_law_2
  simp -implicitDefEqProofs only [RP_ok, RP_err, RP_stuck, RP_bind, RP_quiet, RP_sure, RP_ite, RP_fin, RP_finN, OP_nx, OP_rt, OP_rto, OP_bk, OP_ct, OP_err, OP_stuck, OP_of, OP_thn, OP_lp, OP_ite, OP_tryN, OP_tryAs, OP_endS, OP_endI, true_implies, false_implies, not_true_eq_false, not_false_eq_true, and_true, true_and, implies_true, wipe_nil, wipe_cons, List.length_map, e_callR, e_callX, e_isX, e_xf, e_sNext, e_sApp, e_sPop, e_sRev, e_sRetOwn, e_sExt, e_sGive, e_sSetIx, e_hdl, hdl_nil, e_hdlAs, ownAt_own, rndAt_rnd, excAt_exc, someD_some, caseB_t, caseB_f, intD_int, clean_nil, clean_sh, clean_no, clean_own, List.getElem?_cons_zero, List.getElem?_cons_succ, decide_eq_true_eq, Bool.not_eq_true', List.length_append, Option.getD_some, ixT0, ixT1, ixT2, ixT3, ixL0, ixL1, ixL2, ixL3, o_isB, o_isL, o_isT, o_isI, o_isS, o_niPM, o_niPL, o_max2, o_min2, o_abs, o_tupL, o_tupT, o_lofL, o_lofT, e_aListOf, e_aRep, sizeLine_eq, decide_eq_false_iff_not, Classical.not_not, Nat.reduceLeDiff, Nat.zero_le, Int.reduceLE, Int.reduceLT, Int.reduceEq, Nat.reduceLT, List.nil_append, List.cons_append, cst0, cst1, cst2, cst3, cst4, cst5, cst6, cst7, cst8, cst9, cst10, cst11, cst12, o_eqB, o_neB, reduceCtorEq, Bool.true_eq_false, e_iEnumS, e_iZipS, o_enum, o_zipL, o_zipT, e_sRaise1, e_sPar, e_sPar3, e_gTL, o_isBB, o_notBB, e_sCons, e_sNil, e_sBreak, e_sCont, e_sRet, e_sRetN, e_sExpr, e_sIf, e_sAsg, e_sOwn, e_sFrz, e_sRaise, e_sFor, e_loop_nil, e_mC, e_m1, e_m2, e_mF, e_mCall, e_mM1, e_aNil, e_aCons, e_aLst, e_mTup, e_mLst, e_mN, e_mT, e_mTru, e_mAndT, e_mOrT, e_mNotT, e_mAnd, e_mOr, e_mNot, e_mIf, e_mChain, e_iSeq, e_iRange1, e_iRange2, e_oNone, e_oSome, e_mSl, e_mYes, e_mLc, e_gN, v0, vS, p0, p0o, pS, f0, f0s, f0n, fS, R.bind_ok, R.bind_err, R.bind_stuck, R.quiet_ok, R.sure_ok, R.sure_err, R.sure_stuck, O.of_ok, O.of_err, O.of_stuck, O.thn_nx, O.thn_rt, O.thn_bk, O.thn_ct, O.thn_err, O.thn_rto, O.lp_nx, O.lp_ct, O.lp_bk, O.lp_rt, O.lp_rto, O.lp_err, fin_nx, fin_rt, fin_err, asB_b, o_add, o_addI, o_sub, o_neg, o_lt, o_le, o_gt, o_ge, o_eqI, o_neI, o_eqS, o_neS, o_inS, o_lenL, o_lenT, o_int, o_itS, o_itL, o_itT, o_truL, o_truB, o_truI, List.set_cons_zero, List.set_cons_succ, List.length_cons, List.length_nil, if_true, if_false, Bool.not_true, Bool.not_false, Bool.false_eq_true, Option.isSome_some, Option.isSome_none, Nat.reduceAdd, Nat.zero_add, decide_true, decide_false, e_gT, e_gsC, e_gsN, e_callR0, e_callN, Nat.reduceEqDiff, lit_0, lit_1, lit_2, lit_3, lit_4, lit_5, lit_6, lit_7, lit_8, lit_9, lit_10, lit_11, lit_12, lit_13, lit_14, lit_15, lit_16, lit_17, lit_18, lit_19, lit_20, lit_21, lit_22, lit_23, cl_0, cl_1, cl_2, cl_3, cl_4, cl_5, cl_6, cl_7, cl_8, cl_9, cl_10, cl_11, cl_12, cl_13, cl_14, cl_15, cl_16, cl_17, cl_18, cl_19, cl_20, cl_21, cl_22, cl_23]
  refine (r__law_draws ns hl).le (fun z => z.elim) fun ds ⟨hd1, hd2⟩ => ?_
  refine ⟨fun _ => ?_, fun z => absurd ⟨smallD_rev hd1, by rw [List.length_reverse]; omega⟩ z⟩
  unfold st_law_3
  simp -implicitDefEqProofs only [RP_ok, RP_err, RP_stuck, RP_bind, RP_quiet, RP_sure, RP_ite, RP_fin, RP_finN, OP_nx, OP_rt, OP_rto, OP_bk, OP_ct, OP_err, OP_stuck, OP_of, OP_thn, OP_lp, OP_ite, OP_tryN, OP_tryAs, OP_endS, OP_endI, true_implies, false_implies, not_true_eq_false, not_false_eq_true, and_true, true_and, implies_true, wipe_nil, wipe_cons, List.length_map, e_callR, e_callX, e_isX, e_xf, e_sNext, e_sApp, e_sPop, e_sRev, e_sRetOwn, e_sExt, e_sGive, e_sSetIx, e_hdl, hdl_nil, e_hdlAs, ownAt_own, rndAt_rnd, excAt_exc, someD_some, caseB_t, caseB_f, intD_int, clean_nil, clean_sh, clean_no, clean_own, List.getElem?_cons_zero, List.getElem?_cons_succ, decide_eq_true_eq, Bool.not_eq_true', List.length_append, Option.getD_some, ixT0, ixT1, ixT2, ixT3, ixL0, ixL1, ixL2, ixL3, o_isB, o_isL, o_isT, o_isI, o_isS, o_niPM, o_niPL, o_max2, o_min2, o_abs, o_tupL, o_tupT, o_lofL, o_lofT, e_aListOf, e_aRep, sizeLine_eq, decide_eq_false_iff_not, Classical.not_not, Nat.reduceLeDiff, Nat.zero_le, Int.reduceLE, Int.reduceLT, Int.reduceEq, Nat.reduceLT, List.nil_append, List.cons_append, cst0, cst1, cst2, cst3, cst4, cst5, cst6, cst7, cst8, cst9, cst10, cst11, cst12, o_eqB, o_neB, reduceCtorEq, Bool.true_eq_false, e_iEnumS, e_iZipS, o_enum, o_zipL, o_zipT, e_sRaise1, e_sPar, e_sPar3, e_gTL, o_isBB, o_notBB, e_sCons, e_sNil, e_sBreak, e_sCont, e_sRet, e_sRetN, e_sExpr, e_sIf, e_sAsg, e_sOwn, e_sFrz, e_sRaise, e_sFor, e_loop_nil, e_mC, e_m1, e_m2, e_mF, e_mCall, e_mM1, e_aNil, e_aCons, e_aLst, e_mTup, e_mLst, e_mN, e_mT, e_mTru, e_mAndT, e_mOrT, e_mNotT, e_mAnd, e_mOr, e_mNot, e_mIf, e_mChain, e_iSeq, e_iRange1, e_iRange2, e_oNone, e_oSome, e_mSl, e_mYes, e_mLc, e_gN, v0, vS, p0, p0o, pS, f0, f0s, f0n, fS, R.bind_ok, R.bind_err, R.bind_stuck, R.quiet_ok, R.sure_ok, R.sure_err, R.sure_stuck, O.of_ok, O.of_err, O.of_stuck, O.thn_nx, O.thn_rt, O.thn_bk, O.thn_ct, O.thn_err, O.thn_rto, O.lp_nx, O.lp_ct, O.lp_bk, O.lp_rt, O.lp_rto, O.lp_err, fin_nx, fin_rt, fin_err, asB_b, o_add, o_addI, o_sub, o_neg, o_lt, o_le, o_gt, o_ge, o_eqI, o_neI, o_eqS, o_neS, o_inS, o_lenL, o_lenT, o_int, o_itS, o_itL, o_itT, o_truL, o_truB, o_truI, List.set_cons_zero, List.set_cons_succ, List.length_cons, List.length_nil, if_true, if_false, Bool.not_true, Bool.not_false, Bool.false_eq_true, Option.isSome_some, Option.isSome_none, Nat.reduceAdd, Nat.zero_add, decide_true, decide_false, e_gT, e_gsC, e_gsN, e_callR0, e_callN, Nat.reduceEqDiff, lit_0, lit_1, lit_2, lit_3, lit_4, lit_5, lit_6, lit_7, lit_8, lit_9, lit_10, lit_11, lit_12, lit_13, lit_14, lit_15, lit_16, lit_17, lit_18, lit_19, lit_20, lit_21, lit_22, lit_23, cl_0, cl_1, cl_2, cl_3, cl_4, cl_5, cl_6, cl_7, cl_8, cl_9, cl_10, cl_11, cl_12, cl_13, cl_14, cl_15, cl_16, cl_17, cl_18, cl_19, cl_20, cl_21, cl_22, cl_23]
  refine rp__law_presentation.le id fun d ⟨g, rs, hd, hp, hr3, hr6⟩ => ?_
  subst hd
  have g1 := hp.h1
  have g2 := hp.h2
  unfold st_law_4 st_law_5
  simp -implicitDefEqProofs only [RP_ok, RP_err, RP_stuck, RP_bind, RP_quiet, RP_sure, RP_ite, RP_fin, RP_finN, OP_nx, OP_rt, OP_rto, OP_bk, OP_ct, OP_err, OP_stuck, OP_of, OP_thn, OP_lp, OP_ite, OP_tryN, OP_tryAs, OP_endS, OP_endI, true_implies, false_implies, not_true_eq_false, not_false_eq_true, and_true, true_and, implies_true, wipe_nil, wipe_cons, List.length_map, e_callR, e_callX, e_isX, e_xf, e_sNext, e_sApp, e_sPop, e_sRev, e_sRetOwn, e_sExt, e_sGive, e_sSetIx, e_hdl, hdl_nil, e_hdlAs, ownAt_own, rndAt_rnd, excAt_exc, someD_some, caseB_t, caseB_f, intD_int, clean_nil, clean_sh, clean_no, clean_own, List.getElem?_cons_zero, List.getElem?_cons_succ, decide_eq_true_eq, Bool.not_eq_true', List.length_append, Option.getD_some, ixT0, ixT1, ixT2, ixT3, ixL0, ixL1, ixL2, ixL3, o_isB, o_isL, o_isT, o_isI, o_isS, o_niPM, o_niPL, o_max2, o_min2, o_abs, o_tupL, o_tupT, o_lofL, o_lofT, e_aListOf, e_aRep, sizeLine_eq, decide_eq_false_iff_not, Classical.not_not, Nat.reduceLeDiff, Nat.zero_le, Int.reduceLE, Int.reduceLT, Int.reduceEq, Nat.reduceLT, List.nil_append, List.cons_append, cst0, cst1, cst2, cst3, cst4, cst5, cst6, cst7, cst8, cst9, cst10, cst11, cst12, o_eqB, o_neB, reduceCtorEq, Bool.true_eq_false, e_iEnumS, e_iZipS, o_enum, o_zipL, o_zipT, e_sRaise1, e_sPar, e_sPar3, e_gTL, o_isBB, o_notBB, e_sCons, e_sNil, e_sBreak, e_sCont, e_sRet, e_sRetN, e_sExpr, e_sIf, e_sAsg, e_sOwn, e_sFrz, e_sRaise, e_sFor, e_loop_nil, e_mC, e_m1, e_m2, e_mF, e_mCall, e_mM1, e_aNil, e_aCons, e_aLst, e_mTup, e_mLst, e_mN, e_mT, e_mTru, e_mAndT, e_mOrT, e_mNotT, e_mAnd, e_mOr, e_mNot, e_mIf, e_mChain, e_iSeq, e_iRange1, e_iRange2, e_oNone, e_oSome, e_mSl, e_mYes, e_mLc, e_gN, v0, vS, p0, p0o, pS, f0, f0s, f0n, fS, R.bind_ok, R.bind_err, R.bind_stuck, R.quiet_ok, R.sure_ok, R.sure_err, R.sure_stuck, O.of_ok, O.of_err, O.of_stuck, O.thn_nx, O.thn_rt, O.thn_bk, O.thn_ct, O.thn_err, O.thn_rto, O.lp_nx, O.lp_ct, O.lp_bk, O.lp_rt, O.lp_rto, O.lp_err, fin_nx, fin_rt, fin_err, asB_b, o_add, o_addI, o_sub, o_neg, o_lt, o_le, o_gt, o_ge, o_eqI, o_neI, o_eqS, o_neS, o_inS, o_lenL, o_lenT, o_int, o_itS, o_itL, o_itT, o_truL, o_truB, o_truI, List.set_cons_zero, List.set_cons_succ, List.length_cons, List.length_nil, if_true, if_false, Bool.not_true, Bool.not_false, Bool.false_eq_true, Option.isSome_some, Option.isSome_none, Nat.reduceAdd, Nat.zero_add, decide_true, decide_false, e_gT, e_gsC, e_gsN, e_callR0, e_callN, Nat.reduceEqDiff, lit_0, lit_1, lit_2, lit_3, lit_4, lit_5, lit_6, lit_7, lit_8, lit_9, lit_10, lit_11, lit_12, lit_13, lit_14, lit_15, lit_16, lit_17, lit_18, lit_19, lit_20, lit_21, lit_22, lit_23, cl_0, cl_1, cl_2, cl_3, cl_4, cl_5, cl_6, cl_7, cl_8, cl_9, cl_10, cl_11, cl_12, cl_13, cl_14, cl_15, cl_16, cl_17, cl_18, cl_19, cl_20, cl_21, cl_22, cl_23]
  refine (rp__law_word (m := 8) g1 g2 (by omega)).le id fun d ⟨w0, hd, hl0, hw0⟩ => ?_
  subst hd
  unfold st_law_6
  simp -implicitDefEqProofs only [RP_ok, RP_err, RP_stuck, RP_bind, RP_quiet, RP_sure, RP_ite, RP_fin, RP_finN, OP_nx, OP_rt, OP_rto, OP_bk, OP_ct, OP_err, OP_stuck, OP_of, OP_thn, OP_lp, OP_ite, OP_tryN, OP_tryAs, OP_endS, OP_endI, true_implies, false_implies, not_true_eq_false, not_false_eq_true, and_true, true_and, implies_true, wipe_nil, wipe_cons, List.length_map, e_callR, e_callX, e_isX, e_xf, e_sNext, e_sApp, e_sPop, e_sRev, e_sRetOwn, e_sExt, e_sGive, e_sSetIx, e_hdl, hdl_nil, e_hdlAs, ownAt_own, rndAt_rnd, excAt_exc, someD_some, caseB_t, caseB_f, intD_int, clean_nil, clean_sh, clean_no, clean_own, List.getElem?_cons_zero, List.getElem?_cons_succ, decide_eq_true_eq, Bool.not_eq_true', List.length_append, Option.getD_some, ixT0, ixT1, ixT2, ixT3, ixL0, ixL1, ixL2, ixL3, o_isB, o_isL, o_isT, o_isI, o_isS, o_niPM, o_niPL, o_max2, o_min2, o_abs, o_tupL, o_tupT, o_lofL, o_lofT, e_aListOf, e_aRep, sizeLine_eq, decide_eq_false_iff_not, Classical.not_not, Nat.reduceLeDiff, Nat.zero_le, Int.reduceLE, Int.reduceLT, Int.reduceEq, Nat.reduceLT, List.nil_append, List.cons_append, cst0, cst1, cst2, cst3, cst4, cst5, cst6, cst7, cst8, cst9, cst10, cst11, cst12, o_eqB, o_neB, reduceCtorEq, Bool.true_eq_false, e_iEnumS, e_iZipS, o_enum, o_zipL, o_zipT, e_sRaise1, e_sPar, e_sPar3, e_gTL, o_isBB, o_notBB, e_sCons, e_sNil, e_sBreak, e_sCont, e_sRet, e_sRetN, e_sExpr, e_sIf, e_sAsg, e_sOwn, e_sFrz, e_sRaise, e_sFor, e_loop_nil, e_mC, e_m1, e_m2, e_mF, e_mCall, e_mM1, e_aNil, e_aCons, e_aLst, e_mTup, e_mLst, e_mN, e_mT, e_mTru, e_mAndT, e_mOrT, e_mNotT, e_mAnd, e_mOr, e_mNot, e_mIf, e_mChain, e_iSeq, e_iRange1, e_iRange2, e_oNone, e_oSome, e_mSl, e_mYes, e_mLc, e_gN, v0, vS, p0, p0o, pS, f0, f0s, f0n, fS, R.bind_ok, R.bind_err, R.bind_stuck, R.quiet_ok, R.sure_ok, R.sure_err, R.sure_stuck, O.of_ok, O.of_err, O.of_stuck, O.thn_nx, O.thn_rt, O.thn_bk, O.thn_ct, O.thn_err, O.thn_rto, O.lp_nx, O.lp_ct, O.lp_bk, O.lp_rt, O.lp_rto, O.lp_err, fin_nx, fin_rt, fin_err, asB_b, o_add, o_addI, o_sub, o_neg, o_lt, o_le, o_gt, o_ge, o_eqI, o_neI, o_eqS, o_neS, o_inS, o_lenL, o_lenT, o_int, o_itS, o_itL, o_itT, o_truL, o_truB, o_truI, List.set_cons_zero, List.set_cons_succ, List.length_cons, List.length_nil, if_true, if_false, Bool.not_true, Bool.not_false, Bool.false_eq_true, Option.isSome_some, Option.isSome_none, Nat.reduceAdd, Nat.zero_add, decide_true, decide_false, e_gT, e_gsC, e_gsN, e_callR0, e_callN, Nat.reduceEqDiff, lit_0, lit_1, lit_2, lit_3, lit_4, lit_5, lit_6, lit_7, lit_8, lit_9, lit_10, lit_11, lit_12, lit_13, lit_14, lit_15, lit_16, lit_17, lit_18, lit_19, lit_20, lit_21, lit_22, lit_23, cl_0, cl_1, cl_2, cl_3, cl_4, cl_5, cl_6, cl_7, cl_8, cl_9, cl_10, cl_11, cl_12, cl_13, cl_14, cl_15, cl_16, cl_17, cl_18, cl_19, cl_20, cl_21, cl_22, cl_23]
  refine (rp__law_padded (n := 8) g1 g2 hl0 (by omega) hw0).le id fun d ⟨w, hd, hl1, hw⟩ => ?_
  subst hd
  unfold st_law_7
  simp -implicitDefEqProofs only [RP_ok, RP_err, RP_stuck, RP_bind, RP_quiet, RP_sure, RP_ite, RP_fin, RP_finN, OP_nx, OP_rt, OP_rto, OP_bk, OP_ct, OP_err, OP_stuck, OP_of, OP_thn, OP_lp, OP_ite, OP_tryN, OP_tryAs, OP_endS, OP_endI, true_implies, false_implies, not_true_eq_false, not_false_eq_true, and_true, true_and, implies_true, wipe_nil, wipe_cons, List.length_map, e_callR, e_callX, e_isX, e_xf, e_sNext, e_sApp, e_sPop, e_sRev, e_sRetOwn, e_sExt, e_sGive, e_sSetIx, e_hdl, hdl_nil, e_hdlAs, ownAt_own, rndAt_rnd, excAt_exc, someD_some, caseB_t, caseB_f, intD_int, clean_nil, clean_sh, clean_no, clean_own, List.getElem?_cons_zero, List.getElem?_cons_succ, decide_eq_true_eq, Bool.not_eq_true', List.length_append, Option.getD_some, ixT0, ixT1, ixT2, ixT3, ixL0, ixL1, ixL2, ixL3, o_isB, o_isL, o_isT, o_isI, o_isS, o_niPM, o_niPL, o_max2, o_min2, o_abs, o_tupL, o_tupT, o_lofL, o_lofT, e_aListOf, e_aRep, sizeLine_eq, decide_eq_false_iff_not, Classical.not_not, Nat.reduceLeDiff, Nat.zero_le, Int.reduceLE, Int.reduceLT, Int.reduceEq, Nat.reduceLT, List.nil_append, List.cons_append, cst0, cst1, cst2, cst3, cst4, cst5, cst6, cst7, cst8, cst9, cst10, cst11, cst12, o_eqB, o_neB, reduceCtorEq, Bool.true_eq_false, e_iEnumS, e_iZipS, o_enum, o_zipL, o_zipT, e_sRaise1, e_sPar, e_sPar3, e_gTL, o_isBB, o_notBB, e_sCons, e_sNil, e_sBreak, e_sCont, e_sRet, e_sRetN, e_sExpr, e_sIf, e_sAsg, e_sOwn, e_sFrz, e_sRaise, e_sFor, e_loop_nil, e_mC, e_m1, e_m2, e_mF, e_mCall, e_mM1, e_aNil, e_aCons, e_aLst, e_mTup, e_mLst, e_mN, e_mT, e_mTru, e_mAndT, e_mOrT, e_mNotT, e_mAnd, e_mOr, e_mNot, e_mIf, e_mChain, e_iSeq, e_iRange1, e_iRange2, e_oNone, e_oSome, e_mSl, e_mYes, e_mLc, e_gN, v0, vS, p0, p0o, pS, f0, f0s, f0n, fS, R.bind_ok, R.bind_err, R.bind_stuck, R.quiet_ok, R.sure_ok, R.sure_err, R.sure_stuck, O.of_ok, O.of_err, O.of_stuck, O.thn_nx, O.thn_rt, O.thn_bk, O.thn_ct, O.thn_err, O.thn_rto, O.lp_nx, O.lp_ct, O.lp_bk, O.lp_rt, O.lp_rto, O.lp_err, fin_nx, fin_rt, fin_err, asB_b, o_add, o_addI, o_sub, o_neg, o_lt, o_le, o_gt, o_ge, o_eqI, o_neI, o_eqS, o_neS, o_inS, o_lenL, o_lenT, o_int, o_itS, o_itL, o_itT, o_truL, o_truB, o_truI, List.set_cons_zero, List.set_cons_succ, List.length_cons, List.length_nil, if_true, if_false, Bool.not_true, Bool.not_false, Bool.false_eq_true, Option.isSome_some, Option.isSome_none, Nat.reduceAdd, Nat.zero_add, decide_true, decide_false, e_gT, e_gsC, e_gsN, e_callR0, e_callN, Nat.reduceEqDiff, lit_0, lit_1, lit_2, lit_3, lit_4, lit_5, lit_6, lit_7, lit_8, lit_9, lit_10, lit_11, lit_12, lit_13, lit_14, lit_15, lit_16, lit_17, lit_18, lit_19, lit_20, lit_21, lit_22, lit_23, cl_0, cl_1, cl_2, cl_3, cl_4, cl_5, cl_6, cl_7, cl_8, cl_9, cl_10, cl_11, cl_12, cl_13, cl_14, cl_15, cl_16, cl_17, cl_18, cl_19, cl_20, cl_21, cl_22, cl_23, rp_next, o_mod (show (0 : Int) < 3 by decide)]
  intro n1 _
  generalize (n1 : Int) % 3 = way
  unfold st_law_8
  simp -implicitDefEqProofs only [RP_ok, RP_err, RP_stuck, RP_bind, RP_quiet, RP_sure, RP_ite, RP_fin, RP_finN, OP_nx, OP_rt, OP_rto, OP_bk, OP_ct, OP_err, OP_stuck, OP_of, OP_thn, OP_lp, OP_ite, OP_tryN, OP_tryAs, OP_endS, OP_endI, true_implies, false_implies, not_true_eq_false, not_false_eq_true, and_true, true_and, implies_true, wipe_nil, wipe_cons, List.length_map, e_callR, e_callX, e_isX, e_xf, e_sNext, e_sApp, e_sPop, e_sRev, e_sRetOwn, e_sExt, e_sGive, e_sSetIx, e_hdl, hdl_nil, e_hdlAs, ownAt_own, rndAt_rnd, excAt_exc, someD_some, caseB_t, caseB_f, intD_int, clean_nil, clean_sh, clean_no, clean_own, List.getElem?_cons_zero, List.getElem?_cons_succ, decide_eq_true_eq, Bool.not_eq_true', List.length_append, Option.getD_some, ixT0, ixT1, ixT2, ixT3, ixL0, ixL1, ixL2, ixL3, o_isB, o_isL, o_isT, o_isI, o_isS, o_niPM, o_niPL, o_max2, o_min2, o_abs, o_tupL, o_tupT, o_lofL, o_lofT, e_aListOf, e_aRep, sizeLine_eq, decide_eq_false_iff_not, Classical.not_not, Nat.reduceLeDiff, Nat.zero_le, Int.reduceLE, Int.reduceLT, Int.reduceEq, Nat.reduceLT, List.nil_append, List.cons_append, cst0, cst1, cst2, cst3, cst4, cst5, cst6, cst7, cst8, cst9, cst10, cst11, cst12, o_eqB, o_neB, reduceCtorEq, Bool.true_eq_false, e_iEnumS, e_iZipS, o_enum, o_zipL, o_zipT, e_sRaise1, e_sPar, e_sPar3, e_gTL, o_isBB, o_notBB, e_sCons, e_sNil, e_sBreak, e_sCont, e_sRet, e_sRetN, e_sExpr, e_sIf, e_sAsg, e_sOwn, e_sFrz, e_sRaise, e_sFor, e_loop_nil, e_mC, e_m1, e_m2, e_mF, e_mCall, e_mM1, e_aNil, e_aCons, e_aLst, e_mTup, e_mLst, e_mN, e_mT, e_mTru, e_mAndT, e_mOrT, e_mNotT, e_mAnd, e_mOr, e_mNot, e_mIf, e_mChain, e_iSeq, e_iRange1, e_iRange2, e_oNone, e_oSome, e_mSl, e_mYes, e_mLc, e_gN, v0, vS, p0, p0o, pS, f0, f0s, f0n, fS, R.bind_ok, R.bind_err, R.bind_stuck, R.quiet_ok, R.sure_ok, R.sure_err, R.sure_stuck, O.of_ok, O.of_err, O.of_stuck, O.thn_nx, O.thn_rt, O.thn_bk, O.thn_ct, O.thn_err, O.thn_rto, O.lp_nx, O.lp_ct, O.lp_bk, O.lp_rt, O.lp_rto, O.lp_err, fin_nx, fin_rt, fin_err, asB_b, o_add, o_addI, o_sub, o_neg, o_lt, o_le, o_gt, o_ge, o_eqI, o_neI, o_eqS, o_neS, o_inS, o_lenL, o_lenT, o_int, o_itS, o_itL, o_itT, o_truL, o_truB, o_truI, List.set_cons_zero, List.set_cons_succ, List.length_cons, List.length_nil, if_true, if_false, Bool.not_true, Bool.not_false, Bool.false_eq_true, Option.isSome_some, Option.isSome_none, Nat.reduceAdd, Nat.zero_add, decide_true, decide_false, e_gT, e_gsC, e_gsN, e_callR0, e_callN, Nat.reduceEqDiff, lit_0, lit_1, lit_2, lit_3, lit_4, lit_5, lit_6, lit_7, lit_8, lit_9, lit_10, lit_11, lit_12, lit_13, lit_14, lit_15, lit_16, lit_17, lit_18, lit_19, lit_20, lit_21, lit_22, lit_23, cl_0, cl_1, cl_2, cl_3, cl_4, cl_5, cl_6, cl_7, cl_8, cl_9, cl_10, cl_11, cl_12, cl_13, cl_14, cl_15, cl_16, cl_17, cl_18, cl_19, cl_20, cl_21, cl_22, cl_23]
  refine (rp__law_padded (n := 8) g1 g2 hl0 (by omega) hw0).le id fun d ⟨y0, hd, hl2, hy0⟩ => ?_
  subst hd
  -- the rest, for any second word
  have rest : ∀ (v : List Nat), v.length ≤ 100 → (∀ c ∈ v, c ∈ lt g) → OP (sCons st_law_11 (sCons st_law_12 (sCons st_law_13 (sCons st_law_14 (sCons st_law_15 (sCons st_law_16 (sCons st_law_17 st_law_18)))))) [some (.sh (.list (ns.map PyData.int))), some .rnd, some (.sh (PV g rs)), some (.sh (.int g)), some (.sh (sD w0)), some (.sh (sD w)), some (.sh (.int way)), some (.sh (sD v)), none, none, none, none, none, none, none, none, none, none]) ⟨True, fun _ => False, fun d => d = .bool true, fun _ => False, fun _ => False, fun _ => False, fun e _ => NoE e⟩ := by
    intro v hlv hv
    have c1 := r__law_cuts (lt_wd hw) (show w.length ≤ 900 by omega)
    have c2 := r__law_cuts (lt_wd hv) (show v.length ≤ 900 by omega)
    have okm : ∀ fs : List (Nat × Nat), dNe (.list (fs.map cutD)) (.list (fs.map cutD)) = .ok (.bool false) := fun fs => by
      rw [cutMap]; exact ne_refl' (okD_mvs fun m h a c e => by
        obtain ⟨p, _, rfl⟩ := List.mem_map.mp h
        cases e) (by decide)
    have fd := told (r_free_derivation hp hw (by omega) hv (show v.length ≤ 200 by omega))
    have t3 : m__law_told [.tuple [.int 4, .tuple []], sD [100], sD v] = .ok (sD kPres) := toldP r_free_derivation_pres
    have t4 : m__law_told [PV g rs, sD [100], sD v] = .ok (sD kWord) := toldW (r_free_derivation_word hp (by decide) (by omega) (.inl (okWd_d (w := []) g1 g2)))
    have t5 : m__law_told [PV g rs, sD w, sD [120]] = .ok (sD kWord) := toldW (r_free_derivation_word hp (by omega) (by decide) (.inr okWd_x))
    by_cases q : red w = red v
    · rw [if_pos q] at fd
      unfold st_law_11 st_law_12 st_law_13 st_law_14 st_law_15 st_law_16
      have hn : (cutS [] v).length ≤ 1000 := by have := cut_len v []; omega
      have hn2 : (cutS [] w).length ≤ 1000 := by have := cut_len w []; omega
      simp -implicitDefEqProofs only [RP_ok, RP_err, RP_stuck, RP_bind, RP_quiet, RP_sure, RP_ite, RP_fin, RP_finN, OP_nx, OP_rt, OP_rto, OP_bk, OP_ct, OP_err, OP_stuck, OP_of, OP_thn, OP_lp, OP_ite, OP_tryN, OP_tryAs, OP_endS, OP_endI, true_implies, false_implies, not_true_eq_false, not_false_eq_true, and_true, true_and, implies_true, wipe_nil, wipe_cons, List.length_map, e_callR, e_callX, e_isX, e_xf, e_sNext, e_sApp, e_sPop, e_sRev, e_sRetOwn, e_sExt, e_sGive, e_sSetIx, e_hdl, hdl_nil, e_hdlAs, ownAt_own, rndAt_rnd, excAt_exc, someD_some, caseB_t, caseB_f, intD_int, clean_nil, clean_sh, clean_no, clean_own, List.getElem?_cons_zero, List.getElem?_cons_succ, decide_eq_true_eq, Bool.not_eq_true', List.length_append, Option.getD_some, ixT0, ixT1, ixT2, ixT3, ixL0, ixL1, ixL2, ixL3, o_isB, o_isL, o_isT, o_isI, o_isS, o_niPM, o_niPL, o_max2, o_min2, o_abs, o_tupL, o_tupT, o_lofL, o_lofT, e_aListOf, e_aRep, sizeLine_eq, decide_eq_false_iff_not, Classical.not_not, Nat.reduceLeDiff, Nat.zero_le, Int.reduceLE, Int.reduceLT, Int.reduceEq, Nat.reduceLT, List.nil_append, List.cons_append, cst0, cst1, cst2, cst3, cst4, cst5, cst6, cst7, cst8, cst9, cst10, cst11, cst12, o_eqB, o_neB, reduceCtorEq, Bool.true_eq_false, e_iEnumS, e_iZipS, o_enum, o_zipL, o_zipT, e_sRaise1, e_sPar, e_sPar3, e_gTL, o_isBB, o_notBB, e_sCons, e_sNil, e_sBreak, e_sCont, e_sRet, e_sRetN, e_sExpr, e_sIf, e_sAsg, e_sOwn, e_sFrz, e_sRaise, e_sFor, e_loop_nil, e_mC, e_m1, e_m2, e_mF, e_mCall, e_mM1, e_aNil, e_aCons, e_aLst, e_mTup, e_mLst, e_mN, e_mT, e_mTru, e_mAndT, e_mOrT, e_mNotT, e_mAnd, e_mOr, e_mNot, e_mIf, e_mChain, e_iSeq, e_iRange1, e_iRange2, e_oNone, e_oSome, e_mSl, e_mYes, e_mLc, e_gN, v0, vS, p0, p0o, pS, f0, f0s, f0n, fS, R.bind_ok, R.bind_err, R.bind_stuck, R.quiet_ok, R.sure_ok, R.sure_err, R.sure_stuck, O.of_ok, O.of_err, O.of_stuck, O.thn_nx, O.thn_rt, O.thn_bk, O.thn_ct, O.thn_err, O.thn_rto, O.lp_nx, O.lp_ct, O.lp_bk, O.lp_rt, O.lp_rto, O.lp_err, fin_nx, fin_rt, fin_err, asB_b, o_add, o_addI, o_sub, o_neg, o_lt, o_le, o_gt, o_ge, o_eqI, o_neI, o_eqS, o_neS, o_inS, o_lenL, o_lenT, o_int, o_itS, o_itL, o_itT, o_truL, o_truB, o_truI, List.set_cons_zero, List.set_cons_succ, List.length_cons, List.length_nil, if_true, if_false, Bool.not_true, Bool.not_false, Bool.false_eq_true, Option.isSome_some, Option.isSome_none, Nat.reduceAdd, Nat.zero_add, decide_true, decide_false, e_gT, e_gsC, e_gsN, e_callR0, e_callN, Nat.reduceEqDiff, lit_0, lit_1, lit_2, lit_3, lit_4, lit_5, lit_6, lit_7, lit_8, lit_9, lit_10, lit_11, lit_12, lit_13, lit_14, lit_15, lit_16, lit_17, lit_18, lit_19, lit_20, lit_21, lit_22, lit_23, cl_0, cl_1, cl_2, cl_3, cl_4, cl_5, cl_6, cl_7, cl_8, cl_9, cl_10, cl_11, cl_12, cl_13, cl_14, cl_15, cl_16, cl_17, cl_18, cl_19, cl_20, cl_21, cl_22, cl_23, c1, c2, r_cuts (lt_wd hw) (show w.length < 100000 by omega), o_isL, okm, fd, e_iRange3, rgN hn]
      refine ⟨fun z => absurd q z, fun _ => ?_⟩
      refine OP_for (I := fun k ρ => ∃ o17, ρ = [some (.sh (.list (ns.map PyData.int))), some .rnd, some (.sh (PV g rs)), some (.sh (.int g)), some (.sh (sD w0)), some (.sh (sD w)), some (.sh (.int way)), some (.sh (sD v)), some (.sh (.list ((cutS [] w).map cutD))), some (.sh (sD (red w))), some (.sh (.list ((cutS [] w).map fun p => one p.2))), some (.sh (.list ((cutS [] v).map cutD))), some (.sh (sD (red v))), some (.sh (.list ((cutS [] v).map fun p => one p.2))), some (.sh (.list ((cutS [] w).map cutD))), some (.sh (.list (((cutS [] w).map cutMv ++ (cutS [] v).reverse.map putMv).map mvD))), some (.own (((cutS [] w).map cutMv ++ ((cutS [] v).reverse.take k).map putMv).map mvD)), o17]) ⟨none, by rw [List.take_zero, List.map_nil, List.append_nil, ← cutMap]⟩ ?_ ?_
      · rintro k d ρ hd ⟨o17, rfl⟩
        have hk : k < (cutS [] v).length := by
          by_cases hh : k < (cutS [] v).length
          · exact hh
          · rw [List.getElem?_eq_none (by rw [List.length_map, List.length_range]; omega)] at hd; cases hd
        rw [List.getElem?_map, List.getElem?_range hk] at hd
        cases hd
        obtain ⟨j, hj⟩ : ∃ j : Nat, (cutS [] v).length - 1 - k = j := ⟨_, rfl⟩
        have hj2 : j < (cutS [] v).length := by omega
        have ei : (((cutS [] v).length : Nat) : Int) - 1 - (k : Int) = (j : Int) := by omega
        have hr : (cutS [] v).reverse[k]? = some (cutS [] v)[j] := by
          rw [List.getElem?_reverse hk, hj, List.getElem?_eq_getElem hj2]
        have tk : (cutS [] v).reverse.take (k + 1) = (cutS [] v).reverse.take k ++ [(cutS [] v)[j]] := by rw [List.take_add_one, hr]; rfl
        show OP (lb_law_1 [_, _, _, _, _, _, _, _, _, _, _, _, _, _, _, _, _, some (.sh (.int ((((cutS [] v).length : Nat) : Int) - 1 - (k : Int))))]) _
        rw [ei, tk]
        unfold lb_law_1
        have i1 : dIdx (.list ((cutS [] v).map cutD)) (.int (j : Int)) = .ok (.tuple [sD kCut, .int (((cutS [] v)[j].1 : Nat) : Int)]) := o_ixL (by rw [List.getElem?_map, List.getElem?_eq_getElem hj2]; rfl)
        have i2 : dIdx (.list ((cutS [] v).map fun p => one p.2)) (.int (j : Int)) = .ok (one (cutS [] v)[j].2) := o_ixL (by rw [List.getElem?_map, List.getElem?_eq_getElem hj2]; rfl)
        simp -implicitDefEqProofs only [RP_ok, RP_err, RP_stuck, RP_bind, RP_quiet, RP_sure, RP_ite, RP_fin, RP_finN, OP_nx, OP_rt, OP_rto, OP_bk, OP_ct, OP_err, OP_stuck, OP_of, OP_thn, OP_lp, OP_ite, OP_tryN, OP_tryAs, OP_endS, OP_endI, true_implies, false_implies, not_true_eq_false, not_false_eq_true, and_true, true_and, implies_true, wipe_nil, wipe_cons, List.length_map, e_callR, e_callX, e_isX, e_xf, e_sNext, e_sApp, e_sPop, e_sRev, e_sRetOwn, e_sExt, e_sGive, e_sSetIx, e_hdl, hdl_nil, e_hdlAs, ownAt_own, rndAt_rnd, excAt_exc, someD_some, caseB_t, caseB_f, intD_int, clean_nil, clean_sh, clean_no, clean_own, List.getElem?_cons_zero, List.getElem?_cons_succ, decide_eq_true_eq, Bool.not_eq_true', List.length_append, Option.getD_some, ixT0, ixT1, ixT2, ixT3, ixL0, ixL1, ixL2, ixL3, o_isB, o_isL, o_isT, o_isI, o_isS, o_niPM, o_niPL, o_max2, o_min2, o_abs, o_tupL, o_tupT, o_lofL, o_lofT, e_aListOf, e_aRep, sizeLine_eq, decide_eq_false_iff_not, Classical.not_not, Nat.reduceLeDiff, Nat.zero_le, Int.reduceLE, Int.reduceLT, Int.reduceEq, Nat.reduceLT, List.nil_append, List.cons_append, cst0, cst1, cst2, cst3, cst4, cst5, cst6, cst7, cst8, cst9, cst10, cst11, cst12, o_eqB, o_neB, reduceCtorEq, Bool.true_eq_false, e_iEnumS, e_iZipS, o_enum, o_zipL, o_zipT, e_sRaise1, e_sPar, e_sPar3, e_gTL, o_isBB, o_notBB, e_sCons, e_sNil, e_sBreak, e_sCont, e_sRet, e_sRetN, e_sExpr, e_sIf, e_sAsg, e_sOwn, e_sFrz, e_sRaise, e_sFor, e_loop_nil, e_mC, e_m1, e_m2, e_mF, e_mCall, e_mM1, e_aNil, e_aCons, e_aLst, e_mTup, e_mLst, e_mN, e_mT, e_mTru, e_mAndT, e_mOrT, e_mNotT, e_mAnd, e_mOr, e_mNot, e_mIf, e_mChain, e_iSeq, e_iRange1, e_iRange2, e_oNone, e_oSome, e_mSl, e_mYes, e_mLc, e_gN, v0, vS, p0, p0o, pS, f0, f0s, f0n, fS, R.bind_ok, R.bind_err, R.bind_stuck, R.quiet_ok, R.sure_ok, R.sure_err, R.sure_stuck, O.of_ok, O.of_err, O.of_stuck, O.thn_nx, O.thn_rt, O.thn_bk, O.thn_ct, O.thn_err, O.thn_rto, O.lp_nx, O.lp_ct, O.lp_bk, O.lp_rt, O.lp_rto, O.lp_err, fin_nx, fin_rt, fin_err, asB_b, o_add, o_addI, o_sub, o_neg, o_lt, o_le, o_gt, o_ge, o_eqI, o_neI, o_eqS, o_neS, o_inS, o_lenL, o_lenT, o_int, o_itS, o_itL, o_itT, o_truL, o_truB, o_truI, List.set_cons_zero, List.set_cons_succ, List.length_cons, List.length_nil, if_true, if_false, Bool.not_true, Bool.not_false, Bool.false_eq_true, Option.isSome_some, Option.isSome_none, Nat.reduceAdd, Nat.zero_add, decide_true, decide_false, e_gT, e_gsC, e_gsN, e_callR0, e_callN, Nat.reduceEqDiff, lit_0, lit_1, lit_2, lit_3, lit_4, lit_5, lit_6, lit_7, lit_8, lit_9, lit_10, lit_11, lit_12, lit_13, lit_14, lit_15, lit_16, lit_17, lit_18, lit_19, lit_20, lit_21, lit_22, lit_23, cl_0, cl_1, cl_2, cl_3, cl_4, cl_5, cl_6, cl_7, cl_8, cl_9, cl_10, cl_11, cl_12, cl_13, cl_14, cl_15, cl_16, cl_17, cl_18, cl_19, cl_20, cl_21, cl_22, cl_23, i1, i2]
        have em : (((cutS [] w).map cutMv ++ ((cutS [] v).reverse.take k ++ [(cutS [] v)[j]]).map putMv).map mvD) = (((cutS [] w).map cutMv ++ ((cutS [] v).reverse.take k).map putMv).map mvD) ++ [mvD (putMv (cutS [] v)[j])] := by simp only [List.map_append, List.append_assoc, List.map_cons, List.map_nil]
        rw [em]
        exact ⟨fun _ => ⟨_, rfl⟩, fun z => absurd (by rw [List.length_take, List.length_reverse]; omega) z⟩
      · rintro ρ ⟨o17, rfl⟩
        have tl : (cutS [] v).reverse.take ((List.range (cutS [] v).length).map fun (k : Nat) => PyData.int ((((cutS [] v).length : Nat) : Int) - 1 - (k : Int))).length = (cutS [] v).reverse := by
          rw [List.length_map, List.length_range]; exact List.take_of_length_le (by rw [List.length_reverse]; exact Nat.le_refl _)
        rw [tl]
        have ne : dNe (.list (((cutS [] w).map cutMv ++ (cutS [] v).reverse.map putMv).map mvD)) (.list (((cutS [] w).map cutMv ++ (cutS [] v).reverse.map putMv).map mvD)) = .ok (.bool false) := ne_refl' (okD_mvs fun m h a c e => by
          rcases List.mem_append.mp h with h | h
          · obtain ⟨p, _, rfl⟩ := List.mem_map.mp h
            cases e
          · obtain ⟨p, hp2, rfl⟩ := List.mem_map.mp h
            cases e
            intro x hx
            rw [List.mem_singleton.mp hx]
            exact cut_mem v [] (lt_wd hv) nil_wd p (List.mem_reverse.mp hp2)) (by decide)
        unfold st_law_17 st_law_18
        simp -implicitDefEqProofs only [RP_ok, RP_err, RP_stuck, RP_bind, RP_quiet, RP_sure, RP_ite, RP_fin, RP_finN, OP_nx, OP_rt, OP_rto, OP_bk, OP_ct, OP_err, OP_stuck, OP_of, OP_thn, OP_lp, OP_ite, OP_tryN, OP_tryAs, OP_endS, OP_endI, true_implies, false_implies, not_true_eq_false, not_false_eq_true, and_true, true_and, implies_true, wipe_nil, wipe_cons, List.length_map, e_callR, e_callX, e_isX, e_xf, e_sNext, e_sApp, e_sPop, e_sRev, e_sRetOwn, e_sExt, e_sGive, e_sSetIx, e_hdl, hdl_nil, e_hdlAs, ownAt_own, rndAt_rnd, excAt_exc, someD_some, caseB_t, caseB_f, intD_int, clean_nil, clean_sh, clean_no, clean_own, List.getElem?_cons_zero, List.getElem?_cons_succ, decide_eq_true_eq, Bool.not_eq_true', List.length_append, Option.getD_some, ixT0, ixT1, ixT2, ixT3, ixL0, ixL1, ixL2, ixL3, o_isB, o_isL, o_isT, o_isI, o_isS, o_niPM, o_niPL, o_max2, o_min2, o_abs, o_tupL, o_tupT, o_lofL, o_lofT, e_aListOf, e_aRep, sizeLine_eq, decide_eq_false_iff_not, Classical.not_not, Nat.reduceLeDiff, Nat.zero_le, Int.reduceLE, Int.reduceLT, Int.reduceEq, Nat.reduceLT, List.nil_append, List.cons_append, cst0, cst1, cst2, cst3, cst4, cst5, cst6, cst7, cst8, cst9, cst10, cst11, cst12, o_eqB, o_neB, reduceCtorEq, Bool.true_eq_false, e_iEnumS, e_iZipS, o_enum, o_zipL, o_zipT, e_sRaise1, e_sPar, e_sPar3, e_gTL, o_isBB, o_notBB, e_sCons, e_sNil, e_sBreak, e_sCont, e_sRet, e_sRetN, e_sExpr, e_sIf, e_sAsg, e_sOwn, e_sFrz, e_sRaise, e_sFor, e_loop_nil, e_mC, e_m1, e_m2, e_mF, e_mCall, e_mM1, e_aNil, e_aCons, e_aLst, e_mTup, e_mLst, e_mN, e_mT, e_mTru, e_mAndT, e_mOrT, e_mNotT, e_mAnd, e_mOr, e_mNot, e_mIf, e_mChain, e_iSeq, e_iRange1, e_iRange2, e_oNone, e_oSome, e_mSl, e_mYes, e_mLc, e_gN, v0, vS, p0, p0o, pS, f0, f0s, f0n, fS, R.bind_ok, R.bind_err, R.bind_stuck, R.quiet_ok, R.sure_ok, R.sure_err, R.sure_stuck, O.of_ok, O.of_err, O.of_stuck, O.thn_nx, O.thn_rt, O.thn_bk, O.thn_ct, O.thn_err, O.thn_rto, O.lp_nx, O.lp_ct, O.lp_bk, O.lp_rt, O.lp_rto, O.lp_err, fin_nx, fin_rt, fin_err, asB_b, o_add, o_addI, o_sub, o_neg, o_lt, o_le, o_gt, o_ge, o_eqI, o_neI, o_eqS, o_neS, o_inS, o_lenL, o_lenT, o_int, o_itS, o_itL, o_itT, o_truL, o_truB, o_truI, List.set_cons_zero, List.set_cons_succ, List.length_cons, List.length_nil, if_true, if_false, Bool.not_true, Bool.not_false, Bool.false_eq_true, Option.isSome_some, Option.isSome_none, Nat.reduceAdd, Nat.zero_add, decide_true, decide_false, e_gT, e_gsC, e_gsN, e_callR0, e_callN, Nat.reduceEqDiff, lit_0, lit_1, lit_2, lit_3, lit_4, lit_5, lit_6, lit_7, lit_8, lit_9, lit_10, lit_11, lit_12, lit_13, lit_14, lit_15, lit_16, lit_17, lit_18, lit_19, lit_20, lit_21, lit_22, lit_23, cl_0, cl_1, cl_2, cl_3, cl_4, cl_5, cl_6, cl_7, cl_8, cl_9, cl_10, cl_11, cl_12, cl_13, cl_14, cl_15, cl_16, cl_17, cl_18, cl_19, cl_20, cl_21, cl_22, cl_23, o_isL, ne, t3, t4, t5]
    · rw [if_neg q] at fd
      unfold st_law_11 st_law_12 st_law_13 st_law_14 st_law_15 st_law_16
      simp -implicitDefEqProofs only [RP_ok, RP_err, RP_stuck, RP_bind, RP_quiet, RP_sure, RP_ite, RP_fin, RP_finN, OP_nx, OP_rt, OP_rto, OP_bk, OP_ct, OP_err, OP_stuck, OP_of, OP_thn, OP_lp, OP_ite, OP_tryN, OP_tryAs, OP_endS, OP_endI, true_implies, false_implies, not_true_eq_false, not_false_eq_true, and_true, true_and, implies_true, wipe_nil, wipe_cons, List.length_map, e_callR, e_callX, e_isX, e_xf, e_sNext, e_sApp, e_sPop, e_sRev, e_sRetOwn, e_sExt, e_sGive, e_sSetIx, e_hdl, hdl_nil, e_hdlAs, ownAt_own, rndAt_rnd, excAt_exc, someD_some, caseB_t, caseB_f, intD_int, clean_nil, clean_sh, clean_no, clean_own, List.getElem?_cons_zero, List.getElem?_cons_succ, decide_eq_true_eq, Bool.not_eq_true', List.length_append, Option.getD_some, ixT0, ixT1, ixT2, ixT3, ixL0, ixL1, ixL2, ixL3, o_isB, o_isL, o_isT, o_isI, o_isS, o_niPM, o_niPL, o_max2, o_min2, o_abs, o_tupL, o_tupT, o_lofL, o_lofT, e_aListOf, e_aRep, sizeLine_eq, decide_eq_false_iff_not, Classical.not_not, Nat.reduceLeDiff, Nat.zero_le, Int.reduceLE, Int.reduceLT, Int.reduceEq, Nat.reduceLT, List.nil_append, List.cons_append, cst0, cst1, cst2, cst3, cst4, cst5, cst6, cst7, cst8, cst9, cst10, cst11, cst12, o_eqB, o_neB, reduceCtorEq, Bool.true_eq_false, e_iEnumS, e_iZipS, o_enum, o_zipL, o_zipT, e_sRaise1, e_sPar, e_sPar3, e_gTL, o_isBB, o_notBB, e_sCons, e_sNil, e_sBreak, e_sCont, e_sRet, e_sRetN, e_sExpr, e_sIf, e_sAsg, e_sOwn, e_sFrz, e_sRaise, e_sFor, e_loop_nil, e_mC, e_m1, e_m2, e_mF, e_mCall, e_mM1, e_aNil, e_aCons, e_aLst, e_mTup, e_mLst, e_mN, e_mT, e_mTru, e_mAndT, e_mOrT, e_mNotT, e_mAnd, e_mOr, e_mNot, e_mIf, e_mChain, e_iSeq, e_iRange1, e_iRange2, e_oNone, e_oSome, e_mSl, e_mYes, e_mLc, e_gN, v0, vS, p0, p0o, pS, f0, f0s, f0n, fS, R.bind_ok, R.bind_err, R.bind_stuck, R.quiet_ok, R.sure_ok, R.sure_err, R.sure_stuck, O.of_ok, O.of_err, O.of_stuck, O.thn_nx, O.thn_rt, O.thn_bk, O.thn_ct, O.thn_err, O.thn_rto, O.lp_nx, O.lp_ct, O.lp_bk, O.lp_rt, O.lp_rto, O.lp_err, fin_nx, fin_rt, fin_err, asB_b, o_add, o_addI, o_sub, o_neg, o_lt, o_le, o_gt, o_ge, o_eqI, o_neI, o_eqS, o_neS, o_inS, o_lenL, o_lenT, o_int, o_itS, o_itL, o_itT, o_truL, o_truB, o_truI, List.set_cons_zero, List.set_cons_succ, List.length_cons, List.length_nil, if_true, if_false, Bool.not_true, Bool.not_false, Bool.false_eq_true, Option.isSome_some, Option.isSome_none, Nat.reduceAdd, Nat.zero_add, decide_true, decide_false, e_gT, e_gsC, e_gsN, e_callR0, e_callN, Nat.reduceEqDiff, lit_0, lit_1, lit_2, lit_3, lit_4, lit_5, lit_6, lit_7, lit_8, lit_9, lit_10, lit_11, lit_12, lit_13, lit_14, lit_15, lit_16, lit_17, lit_18, lit_19, lit_20, lit_21, lit_22, lit_23, cl_0, cl_1, cl_2, cl_3, cl_4, cl_5, cl_6, cl_7, cl_8, cl_9, cl_10, cl_11, cl_12, cl_13, cl_14, cl_15, cl_16, cl_17, cl_18, cl_19, cl_20, cl_21, cl_22, cl_23, c1, c2, r_cuts (lt_wd hw) (show w.length < 100000 by omega), o_isL, okm, fd, o_notNn]
      refine ⟨fun _ => ?_, fun z => absurd z q⟩
      unfold st_law_17 st_law_18
      simp -implicitDefEqProofs only [RP_ok, RP_err, RP_stuck, RP_bind, RP_quiet, RP_sure, RP_ite, RP_fin, RP_finN, OP_nx, OP_rt, OP_rto, OP_bk, OP_ct, OP_err, OP_stuck, OP_of, OP_thn, OP_lp, OP_ite, OP_tryN, OP_tryAs, OP_endS, OP_endI, true_implies, false_implies, not_true_eq_false, not_false_eq_true, and_true, true_and, implies_true, wipe_nil, wipe_cons, List.length_map, e_callR, e_callX, e_isX, e_xf, e_sNext, e_sApp, e_sPop, e_sRev, e_sRetOwn, e_sExt, e_sGive, e_sSetIx, e_hdl, hdl_nil, e_hdlAs, ownAt_own, rndAt_rnd, excAt_exc, someD_some, caseB_t, caseB_f, intD_int, clean_nil, clean_sh, clean_no, clean_own, List.getElem?_cons_zero, List.getElem?_cons_succ, decide_eq_true_eq, Bool.not_eq_true', List.length_append, Option.getD_some, ixT0, ixT1, ixT2, ixT3, ixL0, ixL1, ixL2, ixL3, o_isB, o_isL, o_isT, o_isI, o_isS, o_niPM, o_niPL, o_max2, o_min2, o_abs, o_tupL, o_tupT, o_lofL, o_lofT, e_aListOf, e_aRep, sizeLine_eq, decide_eq_false_iff_not, Classical.not_not, Nat.reduceLeDiff, Nat.zero_le, Int.reduceLE, Int.reduceLT, Int.reduceEq, Nat.reduceLT, List.nil_append, List.cons_append, cst0, cst1, cst2, cst3, cst4, cst5, cst6, cst7, cst8, cst9, cst10, cst11, cst12, o_eqB, o_neB, reduceCtorEq, Bool.true_eq_false, e_iEnumS, e_iZipS, o_enum, o_zipL, o_zipT, e_sRaise1, e_sPar, e_sPar3, e_gTL, o_isBB, o_notBB, e_sCons, e_sNil, e_sBreak, e_sCont, e_sRet, e_sRetN, e_sExpr, e_sIf, e_sAsg, e_sOwn, e_sFrz, e_sRaise, e_sFor, e_loop_nil, e_mC, e_m1, e_m2, e_mF, e_mCall, e_mM1, e_aNil, e_aCons, e_aLst, e_mTup, e_mLst, e_mN, e_mT, e_mTru, e_mAndT, e_mOrT, e_mNotT, e_mAnd, e_mOr, e_mNot, e_mIf, e_mChain, e_iSeq, e_iRange1, e_iRange2, e_oNone, e_oSome, e_mSl, e_mYes, e_mLc, e_gN, v0, vS, p0, p0o, pS, f0, f0s, f0n, fS, R.bind_ok, R.bind_err, R.bind_stuck, R.quiet_ok, R.sure_ok, R.sure_err, R.sure_stuck, O.of_ok, O.of_err, O.of_stuck, O.thn_nx, O.thn_rt, O.thn_bk, O.thn_ct, O.thn_err, O.thn_rto, O.lp_nx, O.lp_ct, O.lp_bk, O.lp_rt, O.lp_rto, O.lp_err, fin_nx, fin_rt, fin_err, asB_b, o_add, o_addI, o_sub, o_neg, o_lt, o_le, o_gt, o_ge, o_eqI, o_neI, o_eqS, o_neS, o_inS, o_lenL, o_lenT, o_int, o_itS, o_itL, o_itT, o_truL, o_truB, o_truI, List.set_cons_zero, List.set_cons_succ, List.length_cons, List.length_nil, if_true, if_false, Bool.not_true, Bool.not_false, Bool.false_eq_true, Option.isSome_some, Option.isSome_none, Nat.reduceAdd, Nat.zero_add, decide_true, decide_false, e_gT, e_gsC, e_gsN, e_callR0, e_callN, Nat.reduceEqDiff, lit_0, lit_1, lit_2, lit_3, lit_4, lit_5, lit_6, lit_7, lit_8, lit_9, lit_10, lit_11, lit_12, lit_13, lit_14, lit_15, lit_16, lit_17, lit_18, lit_19, lit_20, lit_21, lit_22, lit_23, cl_0, cl_1, cl_2, cl_3, cl_4, cl_5, cl_6, cl_7, cl_8, cl_9, cl_10, cl_11, cl_12, cl_13, cl_14, cl_15, cl_16, cl_17, cl_18, cl_19, cl_20, cl_21, cl_22, cl_23, t3, t4, t5]
  simp -implicitDefEqProofs only [RP_ok, RP_err, RP_stuck, RP_bind, RP_quiet, RP_sure, RP_ite, RP_fin, RP_finN, OP_nx, OP_rt, OP_rto, OP_bk, OP_ct, OP_err, OP_stuck, OP_of, OP_thn, OP_lp, OP_ite, OP_tryN, OP_tryAs, OP_endS, OP_endI, true_implies, false_implies, not_true_eq_false, not_false_eq_true, and_true, true_and, implies_true, wipe_nil, wipe_cons, List.length_map, e_callR, e_callX, e_isX, e_xf, e_sNext, e_sApp, e_sPop, e_sRev, e_sRetOwn, e_sExt, e_sGive, e_sSetIx, e_hdl, hdl_nil, e_hdlAs, ownAt_own, rndAt_rnd, excAt_exc, someD_some, caseB_t, caseB_f, intD_int, clean_nil, clean_sh, clean_no, clean_own, List.getElem?_cons_zero, List.getElem?_cons_succ, decide_eq_true_eq, Bool.not_eq_true', List.length_append, Option.getD_some, ixT0, ixT1, ixT2, ixT3, ixL0, ixL1, ixL2, ixL3, o_isB, o_isL, o_isT, o_isI, o_isS, o_niPM, o_niPL, o_max2, o_min2, o_abs, o_tupL, o_tupT, o_lofL, o_lofT, e_aListOf, e_aRep, sizeLine_eq, decide_eq_false_iff_not, Classical.not_not, Nat.reduceLeDiff, Nat.zero_le, Int.reduceLE, Int.reduceLT, Int.reduceEq, Nat.reduceLT, List.nil_append, List.cons_append, cst0, cst1, cst2, cst3, cst4, cst5, cst6, cst7, cst8, cst9, cst10, cst11, cst12, o_eqB, o_neB, reduceCtorEq, Bool.true_eq_false, e_iEnumS, e_iZipS, o_enum, o_zipL, o_zipT, e_sRaise1, e_sPar, e_sPar3, e_gTL, o_isBB, o_notBB, e_sCons, e_sNil, e_sBreak, e_sCont, e_sRet, e_sRetN, e_sExpr, e_sIf, e_sAsg, e_sOwn, e_sFrz, e_sRaise, e_sFor, e_loop_nil, e_mC, e_m1, e_m2, e_mF, e_mCall, e_mM1, e_aNil, e_aCons, e_aLst, e_mTup, e_mLst, e_mN, e_mT, e_mTru, e_mAndT, e_mOrT, e_mNotT, e_mAnd, e_mOr, e_mNot, e_mIf, e_mChain, e_iSeq, e_iRange1, e_iRange2, e_oNone, e_oSome, e_mSl, e_mYes, e_mLc, e_gN, v0, vS, p0, p0o, pS, f0, f0s, f0n, fS, R.bind_ok, R.bind_err, R.bind_stuck, R.quiet_ok, R.sure_ok, R.sure_err, R.sure_stuck, O.of_ok, O.of_err, O.of_stuck, O.thn_nx, O.thn_rt, O.thn_bk, O.thn_ct, O.thn_err, O.thn_rto, O.lp_nx, O.lp_ct, O.lp_bk, O.lp_rt, O.lp_rto, O.lp_err, fin_nx, fin_rt, fin_err, asB_b, o_add, o_addI, o_sub, o_neg, o_lt, o_le, o_gt, o_ge, o_eqI, o_neI, o_eqS, o_neS, o_inS, o_lenL, o_lenT, o_int, o_itS, o_itL, o_itT, o_truL, o_truB, o_truI, List.set_cons_zero, List.set_cons_succ, List.length_cons, List.length_nil, if_true, if_false, Bool.not_true, Bool.not_false, Bool.false_eq_true, Option.isSome_some, Option.isSome_none, Nat.reduceAdd, Nat.zero_add, decide_true, decide_false, e_gT, e_gsC, e_gsN, e_callR0, e_callN, Nat.reduceEqDiff, lit_0, lit_1, lit_2, lit_3, lit_4, lit_5, lit_6, lit_7, lit_8, lit_9, lit_10, lit_11, lit_12, lit_13, lit_14, lit_15, lit_16, lit_17, lit_18, lit_19, lit_20, lit_21, lit_22, lit_23, cl_0, cl_1, cl_2, cl_3, cl_4, cl_5, cl_6, cl_7, cl_8, cl_9, cl_10, cl_11, cl_12, cl_13, cl_14, cl_15, cl_16, cl_17, cl_18, cl_19, cl_20, cl_21, cl_22, cl_23] at rest
  unfold st_law_9 st_law_10
  simp -implicitDefEqProofs only [RP_ok, RP_err, RP_stuck, RP_bind, RP_quiet, RP_sure, RP_ite, RP_fin, RP_finN, OP_nx, OP_rt, OP_rto, OP_bk, OP_ct, OP_err, OP_stuck, OP_of, OP_thn, OP_lp, OP_ite, OP_tryN, OP_tryAs, OP_endS, OP_endI, true_implies, false_implies, not_true_eq_false, not_false_eq_true, and_true, true_and, implies_true, wipe_nil, wipe_cons, List.length_map, e_callR, e_callX, e_isX, e_xf, e_sNext, e_sApp, e_sPop, e_sRev, e_sRetOwn, e_sExt, e_sGive, e_sSetIx, e_hdl, hdl_nil, e_hdlAs, ownAt_own, rndAt_rnd, excAt_exc, someD_some, caseB_t, caseB_f, intD_int, clean_nil, clean_sh, clean_no, clean_own, List.getElem?_cons_zero, List.getElem?_cons_succ, decide_eq_true_eq, Bool.not_eq_true', List.length_append, Option.getD_some, ixT0, ixT1, ixT2, ixT3, ixL0, ixL1, ixL2, ixL3, o_isB, o_isL, o_isT, o_isI, o_isS, o_niPM, o_niPL, o_max2, o_min2, o_abs, o_tupL, o_tupT, o_lofL, o_lofT, e_aListOf, e_aRep, sizeLine_eq, decide_eq_false_iff_not, Classical.not_not, Nat.reduceLeDiff, Nat.zero_le, Int.reduceLE, Int.reduceLT, Int.reduceEq, Nat.reduceLT, List.nil_append, List.cons_append, cst0, cst1, cst2, cst3, cst4, cst5, cst6, cst7, cst8, cst9, cst10, cst11, cst12, o_eqB, o_neB, reduceCtorEq, Bool.true_eq_false, e_iEnumS, e_iZipS, o_enum, o_zipL, o_zipT, e_sRaise1, e_sPar, e_sPar3, e_gTL, o_isBB, o_notBB, e_sCons, e_sNil, e_sBreak, e_sCont, e_sRet, e_sRetN, e_sExpr, e_sIf, e_sAsg, e_sOwn, e_sFrz, e_sRaise, e_sFor, e_loop_nil, e_mC, e_m1, e_m2, e_mF, e_mCall, e_mM1, e_aNil, e_aCons, e_aLst, e_mTup, e_mLst, e_mN, e_mT, e_mTru, e_mAndT, e_mOrT, e_mNotT, e_mAnd, e_mOr, e_mNot, e_mIf, e_mChain, e_iSeq, e_iRange1, e_iRange2, e_oNone, e_oSome, e_mSl, e_mYes, e_mLc, e_gN, v0, vS, p0, p0o, pS, f0, f0s, f0n, fS, R.bind_ok, R.bind_err, R.bind_stuck, R.quiet_ok, R.sure_ok, R.sure_err, R.sure_stuck, O.of_ok, O.of_err, O.of_stuck, O.thn_nx, O.thn_rt, O.thn_bk, O.thn_ct, O.thn_err, O.thn_rto, O.lp_nx, O.lp_ct, O.lp_bk, O.lp_rt, O.lp_rto, O.lp_err, fin_nx, fin_rt, fin_err, asB_b, o_add, o_addI, o_sub, o_neg, o_lt, o_le, o_gt, o_ge, o_eqI, o_neI, o_eqS, o_neS, o_inS, o_lenL, o_lenT, o_int, o_itS, o_itL, o_itT, o_truL, o_truB, o_truI, List.set_cons_zero, List.set_cons_succ, List.length_cons, List.length_nil, if_true, if_false, Bool.not_true, Bool.not_false, Bool.false_eq_true, Option.isSome_some, Option.isSome_none, Nat.reduceAdd, Nat.zero_add, decide_true, decide_false, e_gT, e_gsC, e_gsN, e_callR0, e_callN, Nat.reduceEqDiff, lit_0, lit_1, lit_2, lit_3, lit_4, lit_5, lit_6, lit_7, lit_8, lit_9, lit_10, lit_11, lit_12, lit_13, lit_14, lit_15, lit_16, lit_17, lit_18, lit_19, lit_20, lit_21, lit_22, lit_23, cl_0, cl_1, cl_2, cl_3, cl_4, cl_5, cl_6, cl_7, cl_8, cl_9, cl_10, cl_11, cl_12, cl_13, cl_14, cl_15, cl_16, cl_17, cl_18, cl_19, cl_20, cl_21, cl_22, cl_23, o_addS]
  refine ⟨fun _ => ?_, fun _ => ?_⟩
  · refine (rp__law_word (m := 6) g1 g2 (by omega)).le id fun d ⟨y, hd, hy1, hy2⟩ => ?_
    subst hd
    refine (rp__law_padded (n := 6) g1 g2 hy1 (by omega) hy2).le id fun d ⟨y2, hd, hy3, hy4⟩ => ?_
    subst hd
    simp -implicitDefEqProofs only [RP_ok, RP_err, RP_stuck, RP_bind, RP_quiet, RP_sure, RP_ite, RP_fin, RP_finN, OP_nx, OP_rt, OP_rto, OP_bk, OP_ct, OP_err, OP_stuck, OP_of, OP_thn, OP_lp, OP_ite, OP_tryN, OP_tryAs, OP_endS, OP_endI, true_implies, false_implies, not_true_eq_false, not_false_eq_true, and_true, true_and, implies_true, wipe_nil, wipe_cons, List.length_map, e_callR, e_callX, e_isX, e_xf, e_sNext, e_sApp, e_sPop, e_sRev, e_sRetOwn, e_sExt, e_sGive, e_sSetIx, e_hdl, hdl_nil, e_hdlAs, ownAt_own, rndAt_rnd, excAt_exc, someD_some, caseB_t, caseB_f, intD_int, clean_nil, clean_sh, clean_no, clean_own, List.getElem?_cons_zero, List.getElem?_cons_succ, decide_eq_true_eq, Bool.not_eq_true', List.length_append, Option.getD_some, ixT0, ixT1, ixT2, ixT3, ixL0, ixL1, ixL2, ixL3, o_isB, o_isL, o_isT, o_isI, o_isS, o_niPM, o_niPL, o_max2, o_min2, o_abs, o_tupL, o_tupT, o_lofL, o_lofT, e_aListOf, e_aRep, sizeLine_eq, decide_eq_false_iff_not, Classical.not_not, Nat.reduceLeDiff, Nat.zero_le, Int.reduceLE, Int.reduceLT, Int.reduceEq, Nat.reduceLT, List.nil_append, List.cons_append, cst0, cst1, cst2, cst3, cst4, cst5, cst6, cst7, cst8, cst9, cst10, cst11, cst12, o_eqB, o_neB, reduceCtorEq, Bool.true_eq_false, e_iEnumS, e_iZipS, o_enum, o_zipL, o_zipT, e_sRaise1, e_sPar, e_sPar3, e_gTL, o_isBB, o_notBB, e_sCons, e_sNil, e_sBreak, e_sCont, e_sRet, e_sRetN, e_sExpr, e_sIf, e_sAsg, e_sOwn, e_sFrz, e_sRaise, e_sFor, e_loop_nil, e_mC, e_m1, e_m2, e_mF, e_mCall, e_mM1, e_aNil, e_aCons, e_aLst, e_mTup, e_mLst, e_mN, e_mT, e_mTru, e_mAndT, e_mOrT, e_mNotT, e_mAnd, e_mOr, e_mNot, e_mIf, e_mChain, e_iSeq, e_iRange1, e_iRange2, e_oNone, e_oSome, e_mSl, e_mYes, e_mLc, e_gN, v0, vS, p0, p0o, pS, f0, f0s, f0n, fS, R.bind_ok, R.bind_err, R.bind_stuck, R.quiet_ok, R.sure_ok, R.sure_err, R.sure_stuck, O.of_ok, O.of_err, O.of_stuck, O.thn_nx, O.thn_rt, O.thn_bk, O.thn_ct, O.thn_err, O.thn_rto, O.lp_nx, O.lp_ct, O.lp_bk, O.lp_rt, O.lp_rto, O.lp_err, fin_nx, fin_rt, fin_err, asB_b, o_add, o_addI, o_sub, o_neg, o_lt, o_le, o_gt, o_ge, o_eqI, o_neI, o_eqS, o_neS, o_inS, o_lenL, o_lenT, o_int, o_itS, o_itL, o_itT, o_truL, o_truB, o_truI, List.set_cons_zero, List.set_cons_succ, List.length_cons, List.length_nil, if_true, if_false, Bool.not_true, Bool.not_false, Bool.false_eq_true, Option.isSome_some, Option.isSome_none, Nat.reduceAdd, Nat.zero_add, decide_true, decide_false, e_gT, e_gsC, e_gsN, e_callR0, e_callN, Nat.reduceEqDiff, lit_0, lit_1, lit_2, lit_3, lit_4, lit_5, lit_6, lit_7, lit_8, lit_9, lit_10, lit_11, lit_12, lit_13, lit_14, lit_15, lit_16, lit_17, lit_18, lit_19, lit_20, lit_21, lit_22, lit_23, cl_0, cl_1, cl_2, cl_3, cl_4, cl_5, cl_6, cl_7, cl_8, cl_9, cl_10, cl_11, cl_12, cl_13, cl_14, cl_15, cl_16, cl_17, cl_18, cl_19, cl_20, cl_21, cl_22, cl_23, o_addS]
    exact ⟨fun _ => ⟨fun _ => rest (y2 ++ [97]) (by rw [List.length_append]; show _ + 1 ≤ _; omega) (fun c hc => (List.mem_append.mp hc).elim (hy4 c) fun z => by rw [List.mem_singleton.mp z]; exact lt_97 g1 g2), fun z => absurd (by omega) z⟩, fun _ => rest y2 (by omega) hy4⟩
  · exact ⟨fun _ => ⟨fun _ => rest (y0 ++ [97]) (by rw [List.length_append]; show _ + 1 ≤ _; omega) (fun c hc => (List.mem_append.mp hc).elim (hy0 c) fun z => by rw [List.mem_singleton.mp z]; exact lt_97 g1 g2), fun z => absurd (by omega) z⟩, fun _ => rest y0 (by omega) hy0⟩

end Law
end
end
section
set_option Elab.async false
set_option linter.all false
set_option maxRecDepth 100000
set_option autoImplicit false
set_option maxHeartbeats 8000000
noncomputable section
namespace Law
open PySem PySem.Spec PyProof.Rows L2 DW
open SX (S S_tl S_len S_cat)
def topS (i : Nat) : Stmt := PySem.Challenge.pw_cayleywalk_k12_cuts_and_free_derivations.main.body.getD i (.Pass ⟨0, 0, 0, 0⟩)
abbrev s_i_BadMove : Stmt := clsM (topS 5) 0
theorem sc_i_BadMove : FnScope ["self", "at"] ["self", "at"] (defScope s_i_BadMove) := ⟨rfl, rfl, rfl, by decide +kernel, rfl, by decide +kernel, by decide +kernel⟩
theorem ini_BadMove {P : Program} {w : World} {K : PySem.W.Frag} {mg : Str → Option Value} {base : Heap} {C fI : Addr} {fd : FuncData} (T : OexC K C) (no : PySem.W.findIn K (.ref C) "at" = some none) (F : Fun K "__init__" "BadMove.__init__" s_i_BadMove fI fd) : FnOk P w K mg base CX0 1 fI fd ["self", "at"] (spI C "at") := by
  refine F.ok sc_i_BadMove (fun vs H Q E h => ?_) fun cdv A outer s H vs Q E hr h => ?_
  · obtain ⟨a, v, rfl, _⟩ := h; rfl
  · obtain ⟨a, v, rfl, ha, q⟩ := h
    exact ⟨_, pss_one (ps_ost (pv 0) (pv 1)), spI_read T no ha q⟩
abbrev s__law_number : Stmt := topS 37
theorem sc__law_number : FnScope ["cell"] ["cell"] (defScope s__law_number) := ⟨rfl, rfl, rfl, by decide +kernel, rfl, by decide +kernel, by decide +kernel⟩
theorem ok__law_number {P : Program} {w : World} {K : PySem.W.Frag} {mg : Str → Option Value} {base : Heap} (F : FD K mg "_law_number" s__law_number) :
    Def P w K mg base "_law_number" ["cell"] 1 m__law_number := by
  refine mk_def F sc__law_number (by decide) (fun _ _ _ _ _ _ us hl => match us, hl with | [_], _ => rfl) fun f cdv A outer s H E hr => ?_
  have tkD := takes_of (X := cxOf (L2.CX P w) P w K mg base ["cell"] "_law_number" (defScope s__law_number) f cdv A outer s H E) (E := E) rfl rfl rfl rfl
  have howD : PassesOwn (model P w) (A.deeper (envOfC "_law_number" (defScope s__law_number) s.heap.objs.size f cdv)) (envOfC "_law_number" (defScope s__law_number) s.heap.objs.size f cdv) (cxOf (L2.CX P w) P w K mg base ["cell"] "_law_number" (defScope s__law_number) f cdv A outer s H E).xe := PassesOwn.leaving
  exact ⟨_, (bss_cons (bs_if (bt_cmp (md := false) dLt op_ltA op2_lt (be_varP 0 (pv 0)) be_int (nomark _)) (bss_one (bs_ret (be_op (md := false) dSub op_sub op2_sub be_int (be_varP 0 (pv 0))))) bss_nil)
  (bss_one (bs_ret (be_var 0 (pv 0)))))⟩
abbrev s__law_draws : Stmt := topS 38
theorem sc__law_draws : FnScope ["script", "draws", "cell", "rest", "k", "once", "twice"] ["script"] (defScope s__law_draws) := ⟨rfl, rfl, rfl, by decide +kernel, rfl, by decide +kernel, by decide +kernel⟩
theorem ok__law_draws {P : Program} {w : World} {K : PySem.W.Frag} {mg : Str → Option Value} {base : Heap} (F : FD K mg "_law_draws" s__law_draws)
    (d__law_number : Def P w K mg base "_law_number" ["cell"] 1 m__law_number)
    (n_range : mg "range" = none)
    (n_int : mg "int" = none) :
    DefN P w K mg base "_law_draws" ["script"] 2 m__law_draws := by
  refine mk_defN F sc__law_draws (by decide) (fun _ _ _ _ _ _ us hl => match us, hl with | [_], _ => rfl) fun f cdv A outer s H E hr => ?_
  have tkD := takes_of (X := cxOf (L2.CX P w) P w K mg base ["script", "draws", "cell", "rest", "k", "once", "twice"] "_law_draws" (defScope s__law_draws) f cdv A outer s H E) (E := E) rfl rfl rfl rfl
  have howD : PassesOwn (model P w) (A.deeper (envOfC "_law_draws" (defScope s__law_draws) s.heap.objs.size f cdv)) (envOfC "_law_draws" (defScope s__law_draws) s.heap.objs.size f cdv) (cxOf (L2.CX P w) P w K mg base ["script", "draws", "cell", "rest", "k", "once", "twice"] "_law_draws" (defScope s__law_draws) f cdv A outer s H E).xe := PassesOwn.leaving
  exact ⟨_, (bss_cons (bs_setOwn 1 (bn_lst ba_nil) sc__law_draws.nd rfl (by first | exact .inl rfl | exact .inr rfl))
  (bss_cons (bs_for howD rfl (bi_seq (be_var 0 (pv 0))) (bg_name 2 (pg_name (i := 2) sc__law_draws.nd rfl (by first | exact .inl rfl | exact .inr rfl))) (bss_cons (bs_set 3 (be_call d__law_number hr (by decide) (by rfl) tkD (ba_cons (be_var 2 (pv 2)) ba_nil)) sc__law_draws.nd rfl (by first | exact .inl rfl | exact .inr rfl))
  (bss_one (bs_if (bt_cmp (md := false) dGe op_geA op2_ge (be_varP 3 (pv 3)) be_int (nomark _)) (bss_one (bs_for howD rfl (bi_range1 (by rfl) n_range (ba_cons be_int ba_nil)) (bg_name 4 (pg_name (i := 4) sc__law_draws.nd rfl (by first | exact .inl rfl | exact .inr rfl))) (bss_cons (bs_if (bt_cmp (md := false) dEq (op_eqA hr.units) op2_eq (be_varP 3 (pv 3)) be_int (nomark _)) (bss_one bs_break) bss_nil)
  (bss_cons (bs_appS (i := 1) (be_op (md := false) dMod op_mod op2_mod (BE.p (be_callTy (md := false) dInt1 call_int1 fn_int1 (by rfl) n_int (by decide +kernel) (ba_cons (be_varP 3 (pv 3)) ba_nil))) be_int) (pv 1))
  (bss_one (bs_set 3 (be_op (md := false) dFdiv op_fdivW op2_fdiv (be_varP 3 (pv 3)) be_int) sc__law_draws.nd rfl (by first | exact .inl rfl | exact .inr rfl))))))) (bss_cons (bs_set 5 (be_op (md := false) dMod op_mod op2_mod (BE.p (be_callTy (md := false) dInt1 call_int1 fn_int1 (by rfl) n_int (by decide +kernel) (ba_cons (BE.p (be_op (md := true) dAdd op_addA op2_add (be_op (md := false) dMul op_mulA op2_mul (be_varP 3 (pv 3)) be_int) be_int)) ba_nil))) be_int) sc__law_draws.nd rfl (by first | exact .inl rfl | exact .inr rfl))
  (bss_cons (bs_set 6 (be_op (md := false) dMod op_mod op2_mod (BE.p (be_callTy (md := false) dInt1 call_int1 fn_int1 (by rfl) n_int (by decide +kernel) (ba_cons (BE.p (be_op (md := true) dAdd op_addA op2_add (be_op (md := false) dMul op_mulA op2_mul (be_varP 5 (pv 5)) be_int) (be_var 3 (pv 3)))) ba_nil))) be_int) sc__law_draws.nd rfl (by first | exact .inl rfl | exact .inr rfl))
  (bss_one (bs_ext (i := 1) (bn_lst (ba_cons (be_op (md := false) dMod op_mod op2_mod (BE.p (be_callTy (md := false) dInt1 call_int1 fn_int1 (by rfl) n_int (by decide +kernel) (ba_cons (be_varP 3 (pv 3)) ba_nil))) be_int) (ba_cons (be_op (md := false) dMod op_mod op2_mod (BE.p (be_callTy (md := false) dInt1 call_int1 fn_int1 (by rfl) n_int (by decide +kernel) (ba_cons (be_varP 5 (pv 5)) ba_nil))) be_int) (ba_cons (be_op (md := false) dMod op_mod op2_mod (BE.p (be_callTy (md := false) dInt1 call_int1 fn_int1 (by rfl) n_int (by decide +kernel) (ba_cons (be_varP 6 (pv 6)) ba_nil))) be_int) ba_nil)))) (pv 1)))))))))
  (bss_one (bs_retOwn (i := 1) (pv 1)))))⟩
abbrev s__law_next : Stmt := topS 39
theorem sc__law_next : FnScope ["draws"] ["draws"] (defScope s__law_next) := ⟨rfl, rfl, rfl, by decide +kernel, rfl, by decide +kernel, by decide +kernel⟩
theorem ok__law_next {P : Program} {w : World} {K : PySem.W.Frag} {mg : Str → Option Value} {base : Heap} (F : FD K mg "_law_next" s__law_next) :
    DefR P w K mg base "_law_next" ["draws"] 1 0 m__law_next := by
  refine mk_defR F sc__law_next (by decide) rfl (fun _ _ _ _ _ _ us hl => match us, hl with | [_], _ => rfl) fun f cdv A outer s H E hr => ?_
  have tkD := takes_of (X := cxOf (L2.CX P w) P w K mg base ["draws"] "_law_next" (defScope s__law_next) f cdv A outer s H E) (E := E) rfl rfl rfl rfl
  have howD : PassesOwn (model P w) (A.deeper (envOfC "_law_next" (defScope s__law_next) s.heap.objs.size f cdv)) (envOfC "_law_next" (defScope s__law_next) s.heap.objs.size f cdv) (cxOf (L2.CX P w) P w K mg base ["draws"] "_law_next" (defScope s__law_next) f cdv A outer s H E).xe := PassesOwn.leaving
  exact ⟨_, (bss_next (i := 0) (pv 0) (pv 0))⟩
abbrev s__law_word : Stmt := topS 42
theorem sc__law_word : FnScope ["draws", "gens", "most", "letters", "word", "k"] ["draws", "gens", "most"] (defScope s__law_word) := ⟨rfl, rfl, rfl, by decide +kernel, rfl, by decide +kernel, by decide +kernel⟩
theorem ok__law_word {P : Program} {w : World} {K : PySem.W.Frag} {mg : Str → Option Value} {base : Heap} (F : FD K mg "_law_word" s__law_word)
    (d__law_next : DefR P w K mg base "_law_next" ["draws"] 1 0 m__law_next)
    (n_int : mg "int" = none)
    (n_range : mg "range" = none) :
    DefR P w K mg base "_law_word" ["draws", "gens", "most"] 2 2 m__law_word := by
  refine mk_defR F sc__law_word (by decide) rfl (fun _ _ _ _ _ _ us hl => match us, hl with | [_, _, _], _ => rfl) fun f cdv A outer s H E hr => ?_
  have tkD := takes_of (X := cxOf (L2.CX P w) P w K mg base ["draws", "gens", "most", "letters", "word", "k"] "_law_word" (defScope s__law_word) f cdv A outer s H E) (E := E) rfl rfl rfl rfl
  have howD : PassesOwn (model P w) (A.deeper (envOfC "_law_word" (defScope s__law_word) s.heap.objs.size f cdv)) (envOfC "_law_word" (defScope s__law_word) s.heap.objs.size f cdv) (cxOf (L2.CX P w) P w K mg base ["draws", "gens", "most", "letters", "word", "k"] "_law_word" (defScope s__law_word) f cdv A outer s H E).xe := PassesOwn.leaving
  exact ⟨_, (bss_cons (bs_set 3 be_str sc__law_word.nd rfl (by first | exact .inl rfl | exact .inr rfl))
  (bss_cons (bs_set 4 be_str sc__law_word.nd rfl (by first | exact .inl rfl | exact .inr rfl))
  (bss_cons (bs_for howD rfl (bi_range1 (by rfl) n_range (ba_cons (BE.p (be_op (md := false) dMod op_mod op2_mod (BE.p (be_callTy (md := false) dInt1 call_int1 fn_int1 (by rfl) n_int (by decide +kernel) (ba_cons (BE.p (be_callR d__law_next hr (by decide) (by rfl) tkD (pv 0) ba_nil)) ba_nil))) (BE.p (be_op (md := true) dAdd op_addA op2_add (be_var 2 (pv 2)) be_int)))) ba_nil)) (bg_name 5 (pg_name (i := 5) sc__law_word.nd rfl (by first | exact .inl rfl | exact .inr rfl))) (bss_one (bs_set 4 (be_op (md := true) dAdd op_addA op2_add (be_var 4 (pv 4)) (be_ixV (pv 3) (BE.p (be_op (md := false) dMod op_mod op2_mod (BE.p (be_callTy (md := false) dInt1 call_int1 fn_int1 (by rfl) n_int (by decide +kernel) (ba_cons (BE.p (be_callR d__law_next hr (by decide) (by rfl) tkD (pv 0) ba_nil)) ba_nil))) (BE.p (be_op (md := false) dMul op_mulA op2_mul be_int (be_varP 1 (pv 1)))))) (fun _ _ => rfl))) sc__law_word.nd rfl (by first | exact .inl rfl | exact .inr rfl))))
  (bss_one (bs_ret (be_var 4 (pv 4)))))))⟩
abbrev s__law_presentation : Stmt := topS 43
theorem sc__law_presentation : FnScope ["draws", "gens", "relators", "k", "word"] ["draws"] (defScope s__law_presentation) := ⟨rfl, rfl, rfl, by decide +kernel, rfl, by decide +kernel, by decide +kernel⟩
theorem ok__law_presentation {P : Program} {w : World} {K : PySem.W.Frag} {mg : Str → Option Value} {base : Heap} (F : FD K mg "_law_presentation" s__law_presentation)
    (d__law_next : DefR P w K mg base "_law_next" ["draws"] 1 0 m__law_next)
    (n_int : mg "int" = none)
    (n_range : mg "range" = none)
    (d__law_word : DefR P w K mg base "_law_word" ["draws", "gens", "most"] 2 2 m__law_word)
    (n_tuple : mg "tuple" = none) :
    DefR P w K mg base "_law_presentation" ["draws"] 3 0 m__law_presentation := by
  refine mk_defR F sc__law_presentation (by decide) rfl (fun _ _ _ _ _ _ us hl => match us, hl with | [_], _ => rfl) fun f cdv A outer s H E hr => ?_
  have tkD := takes_of (X := cxOf (L2.CX P w) P w K mg base ["draws", "gens", "relators", "k", "word"] "_law_presentation" (defScope s__law_presentation) f cdv A outer s H E) (E := E) rfl rfl rfl rfl
  have howD : PassesOwn (model P w) (A.deeper (envOfC "_law_presentation" (defScope s__law_presentation) s.heap.objs.size f cdv)) (envOfC "_law_presentation" (defScope s__law_presentation) s.heap.objs.size f cdv) (cxOf (L2.CX P w) P w K mg base ["draws", "gens", "relators", "k", "word"] "_law_presentation" (defScope s__law_presentation) f cdv A outer s H E).xe := PassesOwn.leaving
  exact ⟨_, (bss_cons (bs_set 1 (be_ix (be_lst (ba_cons be_int (ba_cons be_int (ba_cons be_int (ba_cons be_int (ba_cons be_int (ba_cons be_int (ba_cons be_int ba_nil)))))))) (BE.p (be_op (md := false) dMod op_mod op2_mod (BE.p (be_callTy (md := false) dInt1 call_int1 fn_int1 (by rfl) n_int (by decide +kernel) (ba_cons (BE.p (be_callR d__law_next hr (by decide) (by rfl) tkD (pv 0) ba_nil)) ba_nil))) be_int)) (fun _ _ => rfl)) sc__law_presentation.nd rfl (by first | exact .inl rfl | exact .inr rfl))
  (bss_cons (bs_setOwn 2 (bn_lst ba_nil) sc__law_presentation.nd rfl (by first | exact .inl rfl | exact .inr rfl))
  (bss_cons (bs_for howD rfl (bi_range1 (by rfl) n_range (ba_cons (BE.p (be_op (md := false) dMod op_mod op2_mod (BE.p (be_callTy (md := false) dInt1 call_int1 fn_int1 (by rfl) n_int (by decide +kernel) (ba_cons (BE.p (be_callR d__law_next hr (by decide) (by rfl) tkD (pv 0) ba_nil)) ba_nil))) be_int)) ba_nil)) (bg_name 3 (pg_name (i := 3) sc__law_presentation.nd rfl (by first | exact .inl rfl | exact .inr rfl))) (bss_cons (bs_set 4 (be_callR d__law_word hr (by decide) (by rfl) tkD (pv 0) (ba_cons (be_var 1 (pv 1)) (ba_cons be_int ba_nil))) sc__law_presentation.nd rfl (by first | exact .inl rfl | exact .inr rfl))
  (bss_one (bs_if (bt_cmp (md := false) dNe (op_neA hr.units) op2_ne (be_varP 4 (pv 4)) be_str (nomark _)) (bss_one (bs_appS (i := 2) (be_var 4 (pv 4)) (pv 2))) bss_nil))))
  (bss_one (bs_frz 2 (bs_ret (be_tup (ba_cons (be_var 1 (pv 1)) (ba_cons (be_tupleOf (by rfl) n_tuple (be_var 2 (pv 2))) ba_nil)))))))))⟩
abbrev s__law_swap : Stmt := topS 40
theorem sc__law_swap : FnScope ["letter"] ["letter"] (defScope s__law_swap) := ⟨rfl, rfl, rfl, by decide +kernel, rfl, by decide +kernel, by decide +kernel⟩
theorem ok__law_swap {P : Program} {w : World} {K : PySem.W.Frag} {mg : Str → Option Value} {base : Heap} (F : FD K mg "_law_swap" s__law_swap) :
    Def P w K mg base "_law_swap" ["letter"] 1 m__law_swap := by
  refine mk_def F sc__law_swap (by decide) (fun _ _ _ _ _ _ us hl => match us, hl with | [_], _ => rfl) fun f cdv A outer s H E hr => ?_
  have tkD := takes_of (X := cxOf (L2.CX P w) P w K mg base ["letter"] "_law_swap" (defScope s__law_swap) f cdv A outer s H E) (E := E) rfl rfl rfl rfl
  have howD : PassesOwn (model P w) (A.deeper (envOfC "_law_swap" (defScope s__law_swap) s.heap.objs.size f cdv)) (envOfC "_law_swap" (defScope s__law_swap) s.heap.objs.size f cdv) (cxOf (L2.CX P w) P w K mg base ["letter"] "_law_swap" (defScope s__law_swap) f cdv A outer s H E).xe := PassesOwn.leaving
  exact ⟨_, (bss_one (bs_ret (be_dispIx (tb := [("a", .str "A"), ("A", .str "a"), ("b", .str "B"), ("B", .str "b"), ("c", .str "C"), ("C", .str "c")]) (by have := hr.un; exact Nat.lt_of_le_of_lt (Nat.add_le_add_left (by omega) _) this) (pps_cons pe_str pe_str (pps_cons pe_str pe_str (pps_cons pe_str pe_str (pps_cons pe_str pe_str (pps_cons pe_str pe_str (pps_cons pe_str pe_str pps_nil)))))) (be_varP 0 (pv 0)) (by intro _ _; rfl) (by rfl) (by rfl) (by simp) (by decide) (by decide +kernel) (by decide) (by decide +kernel))))⟩
abbrev s__law_padded : Stmt := topS 46
theorem sc__law_padded : FnScope ["draws", "gens", "word", "k", "at", "letter"] ["draws", "gens", "word"] (defScope s__law_padded) := ⟨rfl, rfl, rfl, by decide +kernel, rfl, by decide +kernel, by decide +kernel⟩
theorem ok__law_padded {P : Program} {w : World} {K : PySem.W.Frag} {mg : Str → Option Value} {base : Heap} (F : FD K mg "_law_padded" s__law_padded)
    (d__law_next : DefR P w K mg base "_law_next" ["draws"] 1 0 m__law_next)
    (n_int : mg "int" = none)
    (n_range : mg "range" = none)
    (n_len : mg "len" = none)
    (d__law_swap : Def P w K mg base "_law_swap" ["letter"] 1 m__law_swap) :
    DefR P w K mg base "_law_padded" ["draws", "gens", "word"] 2 2 m__law_padded := by
  refine mk_defR F sc__law_padded (by decide) rfl (fun _ _ _ _ _ _ us hl => match us, hl with | [_, _, _], _ => rfl) fun f cdv A outer s H E hr => ?_
  have tkD := takes_of (X := cxOf (L2.CX P w) P w K mg base ["draws", "gens", "word", "k", "at", "letter"] "_law_padded" (defScope s__law_padded) f cdv A outer s H E) (E := E) rfl rfl rfl rfl
  have howD : PassesOwn (model P w) (A.deeper (envOfC "_law_padded" (defScope s__law_padded) s.heap.objs.size f cdv)) (envOfC "_law_padded" (defScope s__law_padded) s.heap.objs.size f cdv) (cxOf (L2.CX P w) P w K mg base ["draws", "gens", "word", "k", "at", "letter"] "_law_padded" (defScope s__law_padded) f cdv A outer s H E).xe := PassesOwn.leaving
  exact ⟨_, (bss_cons (bs_for howD rfl (bi_range1 (by rfl) n_range (ba_cons (BE.p (be_op (md := false) dMod op_mod op2_mod (BE.p (be_callTy (md := false) dInt1 call_int1 fn_int1 (by rfl) n_int (by decide +kernel) (ba_cons (BE.p (be_callR d__law_next hr (by decide) (by rfl) tkD (pv 0) ba_nil)) ba_nil))) be_int)) ba_nil)) (bg_name 3 (pg_name (i := 3) sc__law_padded.nd rfl (by first | exact .inl rfl | exact .inr rfl))) (bss_cons (bs_set 4 (be_op (md := false) dMod op_mod op2_mod (BE.p (be_callTy (md := false) dInt1 call_int1 fn_int1 (by rfl) n_int (by decide +kernel) (ba_cons (BE.p (be_callR d__law_next hr (by decide) (by rfl) tkD (pv 0) ba_nil)) ba_nil))) (BE.p (be_op (md := true) dAdd op_addA op2_add (be_callB (md := false) dLen call_lenA fn_len (by rfl) n_len (by decide +kernel) (ba_cons (be_varP 2 (pv 2)) ba_nil)) be_int))) sc__law_padded.nd rfl (by first | exact .inl rfl | exact .inr rfl))
  (bss_cons (bs_set 5 (be_ix be_str (BE.p (be_op (md := false) dMod op_mod op2_mod (BE.p (be_callTy (md := false) dInt1 call_int1 fn_int1 (by rfl) n_int (by decide +kernel) (ba_cons (BE.p (be_callR d__law_next hr (by decide) (by rfl) tkD (pv 0) ba_nil)) ba_nil))) (BE.p (be_op (md := false) dMul op_mulA op2_mul be_int (be_varP 1 (pv 1)))))) (fun _ _ => rfl)) sc__law_padded.nd rfl (by first | exact .inl rfl | exact .inr rfl))
  (bss_one (bs_set 2 (be_op (md := true) dAdd op_addA op2_add (be_op (md := true) dAdd op_addA op2_add (be_op (md := true) dAdd op_addA op2_add (be_slV (pv 2) bo_none (bo_some (be_varP 4 (pv 4)))) (be_var 5 (pv 5))) (be_call d__law_swap hr (by decide) (by rfl) tkD (ba_cons (be_var 5 (pv 5)) ba_nil))) (be_slV (pv 2) (bo_some (be_varP 4 (pv 4))) bo_none)) sc__law_padded.nd rfl (by first | exact .inl rfl | exact .inr rfl))))))
  (bss_one (bs_ret (be_var 2 (pv 2)))))⟩
abbrev s__law_cuts : Stmt := topS 45
theorem sc__law_cuts : FnScope ["word", "moves", "letters", "k", "at", "place"] ["word"] (defScope s__law_cuts) := ⟨rfl, rfl, rfl, by decide +kernel, rfl, by decide +kernel, by decide +kernel⟩
theorem ok__law_cuts {P : Program} {w : World} {K : PySem.W.Frag} {mg : Str → Option Value} {base : Heap} (F : FD K mg "_law_cuts" s__law_cuts)
    (n_len : mg "len" = none)
    (n_range : mg "range" = none)
    (d__law_swap : Def P w K mg base "_law_swap" ["letter"] 1 m__law_swap) :
    Def P w K mg base "_law_cuts" ["word"] 2 m__law_cuts := by
  refine mk_def F sc__law_cuts (by decide) (fun _ _ _ _ _ _ us hl => match us, hl with | [_], _ => rfl) fun f cdv A outer s H E hr => ?_
  have tkD := takes_of (X := cxOf (L2.CX P w) P w K mg base ["word", "moves", "letters", "k", "at", "place"] "_law_cuts" (defScope s__law_cuts) f cdv A outer s H E) (E := E) rfl rfl rfl rfl
  have howD : PassesOwn (model P w) (A.deeper (envOfC "_law_cuts" (defScope s__law_cuts) s.heap.objs.size f cdv)) (envOfC "_law_cuts" (defScope s__law_cuts) s.heap.objs.size f cdv) (cxOf (L2.CX P w) P w K mg base ["word", "moves", "letters", "k", "at", "place"] "_law_cuts" (defScope s__law_cuts) f cdv A outer s H E).xe := PassesOwn.leaving
  exact ⟨_, (bss_cons (bs_setOwn 1 (bn_lst ba_nil) sc__law_cuts.nd rfl (by first | exact .inl rfl | exact .inr rfl))
  (bss_cons (bs_setOwn 2 (bn_lst ba_nil) sc__law_cuts.nd rfl (by first | exact .inl rfl | exact .inr rfl))
  (bss_cons (bs_for howD rfl (bi_range1 (by rfl) n_range (ba_cons (BE.p (be_callB (md := false) dLen call_lenA fn_len (by rfl) n_len (by decide +kernel) (ba_cons (be_varP 0 (pv 0)) ba_nil))) ba_nil)) (bg_name 3 (pg_name (i := 3) sc__law_cuts.nd rfl (by first | exact .inl rfl | exact .inr rfl))) (bss_cons (bs_set 4 (be_neg be_int) sc__law_cuts.nd rfl (by first | exact .inl rfl | exact .inr rfl))
  (bss_cons (bs_for howD rfl (bi_range3 (by rfl) n_range (ba_cons (BE.p (be_op (md := false) dSub op_sub op2_sub (BE.p (be_callB (md := false) dLen call_lenA fn_len (by rfl) n_len (by decide +kernel) (ba_cons (be_varP 0 (pv 0)) ba_nil))) be_int)) (ba_cons be_int (ba_cons (BE.p (be_neg be_int)) ba_nil)))) (bg_name 5 (pg_name (i := 5) sc__law_cuts.nd rfl (by first | exact .inl rfl | exact .inr rfl))) (bss_one (bs_if (bt_cmp (md := false) dEq (op_eqA hr.units) op2_eq (BE.p (be_ixV (pv 0) (be_varP 5 (pv 5)) (fun _ _ => rfl))) (BE.p (be_call d__law_swap hr (by decide) (by rfl) tkD (ba_cons (be_ixV (pv 0) (BE.p (be_op (md := false) dSub op_sub op2_sub (be_varP 5 (pv 5)) be_int)) (fun _ _ => rfl)) ba_nil))) (nomark _)) (bss_one (bs_set 4 (be_op (md := false) dSub op_sub op2_sub (be_varP 5 (pv 5)) be_int) sc__law_cuts.nd rfl (by first | exact .inl rfl | exact .inr rfl))) bss_nil)))
  (bss_cons (bs_if (bt_cmp (md := false) dLt op_ltA op2_lt (be_varP 4 (pv 4)) be_int (nomark _)) (bss_one bs_break) bss_nil)
  (bss_cons (bs_appS (i := 2) (be_ixV (pv 0) (be_varP 4 (pv 4)) (fun _ _ => rfl)) (pv 2))
  (bss_cons (bs_appS (i := 1) (be_tup (ba_cons be_str (ba_cons (be_var 4 (pv 4)) ba_nil))) (pv 1))
  (bss_one (bs_set 0 (be_op (md := true) dAdd op_addA op2_add (be_slV (pv 0) bo_none (bo_some (be_varP 4 (pv 4)))) (be_slV (pv 0) (bo_some (BE.p (be_op (md := true) dAdd op_addA op2_add (be_var 4 (pv 4)) be_int))) bo_none)) sc__law_cuts.nd rfl (by first | exact .inl rfl | exact .inr rfl)))))))))
  (bss_one (bs_frz 2 (bs_frz 1 (bs_ret (be_lst (ba_cons (be_var 1 (pv 1)) (ba_cons (be_var 0 (pv 0)) (ba_cons (be_var 2 (pv 2)) ba_nil)))))))))))⟩
abbrev s_inverse_letter : Stmt := topS 11
theorem sc_inverse_letter : FnScope ["letter"] ["letter"] (defScope s_inverse_letter) := ⟨rfl, rfl, rfl, by decide +kernel, rfl, by decide +kernel, by decide +kernel⟩
theorem ok_inverse_letter {P : Program} {w : World} {K : PySem.W.Frag} {mg : Str → Option Value} {base : Heap} (F : FD K mg "inverse_letter" s_inverse_letter)
    {a_INVERSES : Addr} (g_INVERSES : mg "INVERSES" = some (.ref a_INVERSES)) (t_INVERSES : Tab K w a_INVERSES tb_INVERSES)
    {a_NotWord : Addr} (x_NotWord : ExcF K mg "NotWord" a_NotWord) :
    Def P w K mg base "inverse_letter" ["letter"] 1 m_inverse_letter := by
  refine mk_def F sc_inverse_letter (by decide) (fun _ _ _ _ _ _ us hl => match us, hl with | [_], _ => rfl) fun f cdv A outer s H E hr => ?_
  have tkD := takes_of (X := cxOf (L2.CX P w) P w K mg base ["letter"] "inverse_letter" (defScope s_inverse_letter) f cdv A outer s H E) (E := E) rfl rfl rfl rfl
  have howD : PassesOwn (model P w) (A.deeper (envOfC "inverse_letter" (defScope s_inverse_letter) s.heap.objs.size f cdv)) (envOfC "inverse_letter" (defScope s_inverse_letter) s.heap.objs.size f cdv) (cxOf (L2.CX P w) P w K mg base ["letter"] "inverse_letter" (defScope s_inverse_letter) f cdv A outer s H E).xe := PassesOwn.leaving
  exact ⟨_, (bss_cons (bs_if (bt_tabNi t_INVERSES (be_varP 0 (pv 0)) (pe_glob (by rfl) g_INVERSES rfl)) (bss_one (bs_raiseS x_NotWord (by rfl) tkD (by rfl))) bss_nil)
  (bss_one (bs_ret (be_tab t_INVERSES (pe_glob (by rfl) g_INVERSES rfl) (be_varP 0 (pv 0)) (fun _ _ => rfl)))))⟩
abbrev s_cuts : Stmt := topS 34
theorem sc_cuts : FnScope ["word", "found", "kept", "letter", "opposite"] ["word"] (defScope s_cuts) := ⟨rfl, rfl, rfl, by decide +kernel, rfl, by decide +kernel, by decide +kernel⟩
theorem ok_cuts {P : Program} {w : World} {K : PySem.W.Frag} {mg : Str → Option Value} {base : Heap} (F : FD K mg "cuts" s_cuts)
    (d_inverse_letter : Def P w K mg base "inverse_letter" ["letter"] 1 m_inverse_letter)
    (n_len : mg "len" = none) :
    Def P w K mg base "cuts" ["word"] 2 m_cuts := by
  refine mk_def F sc_cuts (by decide) (fun _ _ _ _ _ _ us hl => match us, hl with | [_], _ => rfl) fun f cdv A outer s H E hr => ?_
  have tkD := takes_of (X := cxOf (L2.CX P w) P w K mg base ["word", "found", "kept", "letter", "opposite"] "cuts" (defScope s_cuts) f cdv A outer s H E) (E := E) rfl rfl rfl rfl
  have howD : PassesOwn (model P w) (A.deeper (envOfC "cuts" (defScope s_cuts) s.heap.objs.size f cdv)) (envOfC "cuts" (defScope s_cuts) s.heap.objs.size f cdv) (cxOf (L2.CX P w) P w K mg base ["word", "found", "kept", "letter", "opposite"] "cuts" (defScope s_cuts) f cdv A outer s H E).xe := PassesOwn.leaving
  exact ⟨_, (bss_cons (bs_setOwn 1 (bn_lst ba_nil) sc_cuts.nd rfl (by first | exact .inl rfl | exact .inr rfl))
  (bss_cons (bs_setOwn 2 (bn_lst ba_nil) sc_cuts.nd rfl (by first | exact .inl rfl | exact .inr rfl))
  (bss_cons (bs_for howD rfl (bi_seq (be_var 0 (pv 0))) (bg_name 3 (pg_name (i := 3) sc_cuts.nd rfl (by first | exact .inl rfl | exact .inr rfl))) (bss_cons (bs_set 4 (be_call d_inverse_letter hr (by decide) (by rfl) tkD (ba_cons (be_var 3 (pv 3)) ba_nil)) sc_cuts.nd rfl (by first | exact .inl rfl | exact .inr rfl))
  (bss_one (bs_if (bt_w (bw_and (bt_truth (be_varP 2 (pv 2))) (bw_and1 (bt_cmp (md := false) dEq (op_eqA hr.units) op2_eq (BE.p (be_ixV (pv 2) (BE.p (be_neg be_int)) (fun _ _ => rfl))) (be_varP 4 (pv 4)) (nomark _))))) (bss_cons (bs_popS (i := 2) (pv 2))
  (bss_one (bs_appS (i := 1) (be_tup (ba_cons be_str (ba_cons (be_callB (md := false) dLen call_lenA fn_len (by rfl) n_len (by decide +kernel) (ba_cons (be_varP 2 (pv 2)) ba_nil)) ba_nil))) (pv 1)))) (bss_one (bs_appS (i := 2) (be_var 3 (pv 3)) (pv 2)))))))
  (bss_one (bs_frz 1 (bs_ret (be_var 1 (pv 1))))))))⟩
abbrev s_letters_of : Stmt := topS 10
theorem sc_letters_of : FnScope ["g"] ["g"] (defScope s_letters_of) := ⟨rfl, rfl, rfl, by decide +kernel, rfl, by decide +kernel, by decide +kernel⟩
theorem ok_letters_of {P : Program} {w : World} {K : PySem.W.Frag} {mg : Str → Option Value} {base : Heap} (F : FD K mg "letters_of" s_letters_of)
    {tk_MOST_GENERATORS : Tok} (c_MOST_GENERATORS : mg "MOST_GENERATORS" = some (.int 3 tk_MOST_GENERATORS))
    {a_BadNumber : Addr} (x_BadNumber : ExcF K mg "BadNumber" a_BadNumber)
    {tk_LETTERS : Tok} (c_LETTERS : mg "LETTERS" = some (.str "aAbBcC" tk_LETTERS)) :
    Def P w K mg base "letters_of" ["g"] 1 m_letters_of := by
  refine mk_def F sc_letters_of (by decide) (fun _ _ _ _ _ _ us hl => match us, hl with | [_], _ => rfl) fun f cdv A outer s H E hr => ?_
  have tkD := takes_of (X := cxOf (L2.CX P w) P w K mg base ["g"] "letters_of" (defScope s_letters_of) f cdv A outer s H E) (E := E) rfl rfl rfl rfl
  have howD : PassesOwn (model P w) (A.deeper (envOfC "letters_of" (defScope s_letters_of) s.heap.objs.size f cdv)) (envOfC "letters_of" (defScope s_letters_of) s.heap.objs.size f cdv) (cxOf (L2.CX P w) P w K mg base ["g"] "letters_of" (defScope s_letters_of) f cdv A outer s H E).xe := PassesOwn.leaving
  exact ⟨_, (bss_cons (bs_if (bt_w (bw_or (bt_cmp (md := false) dLt op_ltA op2_lt (be_varP 0 (pv 0)) be_int (nomark _)) (bw_or1 (bt_cmp (md := false) dGt op_gtA op2_gt (be_varP 0 (pv 0)) (be_globI (by rfl) c_MOST_GENERATORS) (nomark _))))) (bss_one (bs_raiseS x_BadNumber (by rfl) tkD (by rfl))) bss_nil)
  (bss_one (bs_ret (be_sl (be_globS (by rfl) c_LETTERS) bo_none (bo_some (BE.p (be_op (md := false) dMul op_mulA op2_mul be_int (be_varP 0 (pv 0)))))))))⟩
abbrev s_is_word : Stmt := topS 12
theorem sc_is_word : FnScope ["g", "text", "letters", "letter"] ["g", "text"] (defScope s_is_word) := ⟨rfl, rfl, rfl, by decide +kernel, rfl, by decide +kernel, by decide +kernel⟩
theorem ok_is_word {P : Program} {w : World} {K : PySem.W.Frag} {mg : Str → Option Value} {base : Heap} (F : FD K mg "is_word" s_is_word)
    (d_letters_of : Def P w K mg base "letters_of" ["g"] 1 m_letters_of)
    (n_all : mg "all" = none) :
    Def P w K mg base "is_word" ["g", "text"] 2 m_is_word := by
  refine mk_def F sc_is_word (by decide) (fun _ _ _ _ _ _ us hl => match us, hl with | [_, _], _ => rfl) fun f cdv A outer s H E hr => ?_
  have tkD := takes_of (X := cxOf (L2.CX P w) P w K mg base ["g", "text", "letters", "letter"] "is_word" (defScope s_is_word) f cdv A outer s H E) (E := E) rfl rfl rfl rfl
  have howD : PassesOwn (model P w) (A.deeper (envOfC "is_word" (defScope s_is_word) s.heap.objs.size f cdv)) (envOfC "is_word" (defScope s_is_word) s.heap.objs.size f cdv) (cxOf (L2.CX P w) P w K mg base ["g", "text", "letters", "letter"] "is_word" (defScope s_is_word) f cdv A outer s H E).xe := PassesOwn.leaving
  exact ⟨_, (bss_cons (bs_set 2 (be_call d_letters_of hr (by decide) (by rfl) tkD (ba_cons (be_var 0 (pv 0)) ba_nil)) sc_is_word.nd rfl (by first | exact .inl rfl | exact .inr rfl))
  (bss_one (bs_ret (be_callB (md := false) dAll (cr_all rfl) fn_all (by rfl) n_all (by decide +kernel) (ba_cons (BE.p (be_n (bn_lc (own := [("letter", 3)]) rfl sc_is_word.nd (bi_seq (be_var 1 (pv 1))) (blkOk_by (N := ["g", "text", "letters", "letter"]) (sc := defScope s_is_word) (by decide +kernel)) (by decide) (fun _ _ _ _ _ => ⟨_, (bg_name 3 (pg_name (i := 3) sc_is_word.nd rfl (by first | exact .inl rfl | exact .inr rfl)))⟩) (fun _ _ _ _ _ => ⟨_, bts_nil⟩) (fun _ _ _ _ _ => ⟨_, (be_cmp (md := false) dInX op_inX op2_inX (be_varP 3 (pv 3)) (be_varP 2 (pv 2)) (by rfl))⟩)))) ba_nil)))))⟩
abbrev s__is_relator : Stmt := topS 20
theorem sc__is_relator : FnScope ["gens", "text"] ["gens", "text"] (defScope s__is_relator) := ⟨rfl, rfl, rfl, by decide +kernel, rfl, by decide +kernel, by decide +kernel⟩
theorem ok__is_relator {P : Program} {w : World} {K : PySem.W.Frag} {mg : Str → Option Value} {base : Heap} (F : FD K mg "_is_relator" s__is_relator)
    (n_len : mg "len" = none)
    {tk_LONGEST_RELATOR : Tok} (c_LONGEST_RELATOR : mg "LONGEST_RELATOR" = some (.int 20 tk_LONGEST_RELATOR))
    (d_is_word : Def P w K mg base "is_word" ["g", "text"] 2 m_is_word) :
    Def P w K mg base "_is_relator" ["gens", "text"] 3 m__is_relator := by
  refine mk_def F sc__is_relator (by decide) (fun _ _ _ _ _ _ us hl => match us, hl with | [_, _], _ => rfl) fun f cdv A outer s H E hr => ?_
  have tkD := takes_of (X := cxOf (L2.CX P w) P w K mg base ["gens", "text"] "_is_relator" (defScope s__is_relator) f cdv A outer s H E) (E := E) rfl rfl rfl rfl
  have howD : PassesOwn (model P w) (A.deeper (envOfC "_is_relator" (defScope s__is_relator) s.heap.objs.size f cdv)) (envOfC "_is_relator" (defScope s__is_relator) s.heap.objs.size f cdv) (cxOf (L2.CX P w) P w K mg base ["gens", "text"] "_is_relator" (defScope s__is_relator) f cdv A outer s H E).xe := PassesOwn.leaving
  exact ⟨_, (bss_one (bs_ret (be_and (be_chain dLe dLe op_leA op_leA op2_le op2_le be_int (BE.p (be_callB (md := false) dLen call_lenA fn_len (by rfl) n_len (by decide +kernel) (ba_cons (be_varP 1 (pv 1)) ba_nil))) (be_globI (by rfl) c_LONGEST_RELATOR) (by rfl)) (be_one (be_call d_is_word hr (by decide) (by rfl) tkD (ba_cons (be_var 0 (pv 0)) (ba_cons (be_var 1 (pv 1)) ba_nil)))))))⟩
abbrev s_is_presentation : Stmt := topS 19
theorem sc_is_presentation : FnScope ["value", "gens", "relators", "text"] ["value"] (defScope s_is_presentation) := ⟨rfl, rfl, rfl, by decide +kernel, rfl, by decide +kernel, by decide +kernel⟩
theorem ok_is_presentation {P : Program} {w : World} {K : PySem.W.Frag} {mg : Str → Option Value} {base : Heap} (F : FD K mg "is_presentation" s_is_presentation)
    {tk_MOST_GENERATORS : Tok} (c_MOST_GENERATORS : mg "MOST_GENERATORS" = some (.int 3 tk_MOST_GENERATORS))
    (n_len : mg "len" = none)
    {tk_MOST_RELATORS : Tok} (c_MOST_RELATORS : mg "MOST_RELATORS" = some (.int 8 tk_MOST_RELATORS))
    (d__is_relator : Def P w K mg base "_is_relator" ["gens", "text"] 3 m__is_relator)
    (n_all : mg "all" = none) :
    Def P w K mg base "is_presentation" ["value"] 4 m_is_presentation := by
  refine mk_def F sc_is_presentation (by decide) (fun _ _ _ _ _ _ us hl => match us, hl with | [_], _ => rfl) fun f cdv A outer s H E hr => ?_
  have tkD := takes_of (X := cxOf (L2.CX P w) P w K mg base ["value", "gens", "relators", "text"] "is_presentation" (defScope s_is_presentation) f cdv A outer s H E) (E := E) rfl rfl rfl rfl
  have howD : PassesOwn (model P w) (A.deeper (envOfC "is_presentation" (defScope s_is_presentation) s.heap.objs.size f cdv)) (envOfC "is_presentation" (defScope s_is_presentation) s.heap.objs.size f cdv) (cxOf (L2.CX P w) P w K mg base ["value", "gens", "relators", "text"] "is_presentation" (defScope s_is_presentation) f cdv A outer s H E).xe := PassesOwn.leaving
  exact ⟨_, (bss_cons (bs_setT (be_var 0 (pv 0)) (bg_tup (bgs_cons (bg_name 1 (pg_name (i := 1) sc_is_presentation.nd rfl (by first | exact .inl rfl | exact .inr rfl))) (bgs_cons (bg_name 2 (pg_name (i := 2) sc_is_presentation.nd rfl (by first | exact .inl rfl | exact .inr rfl))) bgs_nil (pgs_cons (BG.pe (bg_name 2 (pg_name (i := 2) sc_is_presentation.nd rfl (by first | exact .inl rfl | exact .inr rfl)))) pgs_nil)) (pgs_cons (BG.pe (bg_name 1 (pg_name (i := 1) sc_is_presentation.nd rfl (by first | exact .inl rfl | exact .inr rfl)))) (pgs_cons (BG.pe (bg_name 2 (pg_name (i := 2) sc_is_presentation.nd rfl (by first | exact .inl rfl | exact .inr rfl)))) pgs_nil))) rfl (pgs_cons (BG.pe (bg_name 1 (pg_name (i := 1) sc_is_presentation.nd rfl (by first | exact .inl rfl | exact .inr rfl)))) (pgs_cons (BG.pe (bg_name 2 (pg_name (i := 2) sc_is_presentation.nd rfl (by first | exact .inl rfl | exact .inr rfl)))) pgs_nil))))
  (bss_cons (bs_if (bt_w (bw_or (bt_cmp (md := false) dLt op_ltA op2_lt (be_varP 1 (pv 1)) be_int (nomark _)) (bw_or (bt_cmp (md := false) dGt op_gtA op2_gt (be_varP 1 (pv 1)) (be_globI (by rfl) c_MOST_GENERATORS) (nomark _)) (bw_or1 (bt_cmp (md := false) dGt op_gtA op2_gt (BE.p (be_callB (md := false) dLen call_lenA fn_len (by rfl) n_len (by decide +kernel) (ba_cons (be_varP 2 (pv 2)) ba_nil))) (be_globI (by rfl) c_MOST_RELATORS) (nomark _)))))) (bss_one (bs_ret be_bool)) bss_nil)
  (bss_one (bs_ret (be_callB (md := false) dAll (cr_all rfl) fn_all (by rfl) n_all (by decide +kernel) (ba_cons (BE.p (be_n (bn_lc (own := [("text", 3)]) rfl sc_is_presentation.nd (bi_seq (be_var 2 (pv 2))) (blkOk_by (N := ["value", "gens", "relators", "text"]) (sc := defScope s_is_presentation) (by decide +kernel)) (by decide) (fun _ _ _ _ _ => ⟨_, (bg_name 3 (pg_name (i := 3) sc_is_presentation.nd rfl (by first | exact .inl rfl | exact .inr rfl)))⟩) (fun _ _ _ _ _ => ⟨_, bts_nil⟩) (fun _ _ _ _ _ => ⟨_, (be_call d__is_relator hr (by decide) (by rfl) takes0 (ba_cons (be_var 1 (pv 1)) (ba_cons (be_var 3 (pv 3)) ba_nil)))⟩)))) ba_nil))))))⟩
abbrev s_check_presentation : Stmt := topS 21
theorem sc_check_presentation : FnScope ["presentation"] ["presentation"] (defScope s_check_presentation) := ⟨rfl, rfl, rfl, by decide +kernel, rfl, by decide +kernel, by decide +kernel⟩
theorem ok_check_presentation {P : Program} {w : World} {K : PySem.W.Frag} {mg : Str → Option Value} {base : Heap} (F : FD K mg "check_presentation" s_check_presentation)
    (d_is_presentation : Def P w K mg base "is_presentation" ["value"] 4 m_is_presentation)
    {a_NotPresentation : Addr} (x_NotPresentation : ExcF K mg "NotPresentation" a_NotPresentation) :
    Def P w K mg base "check_presentation" ["presentation"] 5 m_check_presentation := by
  refine mk_def F sc_check_presentation (by decide) (fun _ _ _ _ _ _ us hl => match us, hl with | [_], _ => rfl) fun f cdv A outer s H E hr => ?_
  have tkD := takes_of (X := cxOf (L2.CX P w) P w K mg base ["presentation"] "check_presentation" (defScope s_check_presentation) f cdv A outer s H E) (E := E) rfl rfl rfl rfl
  have howD : PassesOwn (model P w) (A.deeper (envOfC "check_presentation" (defScope s_check_presentation) s.heap.objs.size f cdv)) (envOfC "check_presentation" (defScope s_check_presentation) s.heap.objs.size f cdv) (cxOf (L2.CX P w) P w K mg base ["presentation"] "check_presentation" (defScope s_check_presentation) f cdv A outer s H E).xe := PassesOwn.leaving
  exact ⟨_, (bss_one (bs_if (bt_not (bt_truth (BE.p (be_call d_is_presentation hr (by decide) (by rfl) tkD (ba_cons (be_var 0 (pv 0)) ba_nil))))) (bss_one (bs_raiseS x_NotPresentation (by rfl) tkD (by rfl))) bss_nil))⟩
abbrev s_check_words : Stmt := topS 22
theorem sc_check_words : FnScope ["presentation", "words", "word"] ["presentation", "words"] (defScope s_check_words) := ⟨rfl, rfl, rfl, by decide +kernel, rfl, by decide +kernel, by decide +kernel⟩
theorem ok_check_words {P : Program} {w : World} {K : PySem.W.Frag} {mg : Str → Option Value} {base : Heap} (F : FD K mg "check_words" s_check_words)
    (d_check_presentation : Def P w K mg base "check_presentation" ["presentation"] 5 m_check_presentation)
    (d_is_word : Def P w K mg base "is_word" ["g", "text"] 2 m_is_word)
    {a_NotWord : Addr} (x_NotWord : ExcF K mg "NotWord" a_NotWord)
    (n_len : mg "len" = none)
    {tk_LONGEST_WORD : Tok} (c_LONGEST_WORD : mg "LONGEST_WORD" = some (.int 200 tk_LONGEST_WORD)) :
    Def P w K mg base "check_words" ["presentation", "words"] 6 m_check_words := by
  refine mk_def F sc_check_words (by decide) (fun _ _ _ _ _ _ us hl => match us, hl with | [_, _], _ => rfl) fun f cdv A outer s H E hr => ?_
  have tkD := takes_of (X := cxOf (L2.CX P w) P w K mg base ["presentation", "words", "word"] "check_words" (defScope s_check_words) f cdv A outer s H E) (E := E) rfl rfl rfl rfl
  have howD : PassesOwn (model P w) (A.deeper (envOfC "check_words" (defScope s_check_words) s.heap.objs.size f cdv)) (envOfC "check_words" (defScope s_check_words) s.heap.objs.size f cdv) (cxOf (L2.CX P w) P w K mg base ["presentation", "words", "word"] "check_words" (defScope s_check_words) f cdv A outer s H E).xe := PassesOwn.leaving
  exact ⟨_, (bss_cons (bs_expr (be_call d_check_presentation hr (by decide) (by rfl) tkD (ba_cons (be_var 0 (pv 0)) ba_nil)))
  (bss_one (bs_for howD rfl (bi_seq (be_var 1 (pv 1))) (bg_name 2 (pg_name (i := 2) sc_check_words.nd rfl (by first | exact .inl rfl | exact .inr rfl))) (bss_cons (bs_if (bt_not (bt_truth (BE.p (be_call d_is_word hr (by decide) (by rfl) tkD (ba_cons (be_ixV (pv 0) be_int (fun _ _ => rfl)) (ba_cons (be_var 2 (pv 2)) ba_nil)))))) (bss_one (bs_raiseS x_NotWord (by rfl) tkD (by rfl))) bss_nil)
  (bss_one (bs_if (bt_cmp (md := false) dGt op_gtA op2_gt (BE.p (be_callB (md := false) dLen call_lenA fn_len (by rfl) n_len (by decide +kernel) (ba_cons (be_varP 2 (pv 2)) ba_nil))) (be_globI (by rfl) c_LONGEST_WORD) (nomark _)) (bss_one (bs_raiseS x_NotWord (by rfl) tkD (by rfl))) bss_nil))))))⟩
abbrev s__with : Stmt := topS 29
theorem sc__with : FnScope ["word", "at", "text"] ["word", "at", "text"] (defScope s__with) := ⟨rfl, rfl, rfl, by decide +kernel, rfl, by decide +kernel, by decide +kernel⟩
theorem ok__with {P : Program} {w : World} {K : PySem.W.Frag} {mg : Str → Option Value} {base : Heap} (F : FD K mg "_with" s__with)
    (n_len : mg "len" = none)
    {tk_LONGEST_WORD : Tok} (c_LONGEST_WORD : mg "LONGEST_WORD" = some (.int 200 tk_LONGEST_WORD)) :
    Def P w K mg base "_with" ["word", "at", "text"] 1 m__with := by
  refine mk_def F sc__with (by decide) (fun _ _ _ _ _ _ us hl => match us, hl with | [_, _, _], _ => rfl) fun f cdv A outer s H E hr => ?_
  have tkD := takes_of (X := cxOf (L2.CX P w) P w K mg base ["word", "at", "text"] "_with" (defScope s__with) f cdv A outer s H E) (E := E) rfl rfl rfl rfl
  have howD : PassesOwn (model P w) (A.deeper (envOfC "_with" (defScope s__with) s.heap.objs.size f cdv)) (envOfC "_with" (defScope s__with) s.heap.objs.size f cdv) (cxOf (L2.CX P w) P w K mg base ["word", "at", "text"] "_with" (defScope s__with) f cdv A outer s H E).xe := PassesOwn.leaving
  exact ⟨_, (bss_cons (bs_if (bt_w (bw_or (bt_cmp (md := false) dIsN op_isN op2_isN (be_varP 2 (pv 2)) be_none (nomark _)) (bw_or (bt_cmp (md := false) dLt op_ltA op2_lt (be_varP 1 (pv 1)) be_int (nomark _)) (bw_or (bt_cmp (md := false) dGt op_gtA op2_gt (be_varP 1 (pv 1)) (BE.p (be_callB (md := false) dLen call_lenA fn_len (by rfl) n_len (by decide +kernel) (ba_cons (be_varP 0 (pv 0)) ba_nil))) (nomark _)) (bw_or1 (bt_cmp (md := false) dGt op_gtA op2_gt (BE.p (be_op (md := true) dAdd op_addA op2_add (be_callB (md := false) dLen call_lenA fn_len (by rfl) n_len (by decide +kernel) (ba_cons (be_varP 0 (pv 0)) ba_nil)) (be_callB (md := false) dLen call_lenA fn_len (by rfl) n_len (by decide +kernel) (ba_cons (be_varP 2 (pv 2)) ba_nil)))) (be_globI (by rfl) c_LONGEST_WORD) (nomark _))))))) (bss_one (bs_ret be_none)) bss_nil)
  (bss_one (bs_ret (be_op (md := true) dAdd op_addA op2_add (be_op (md := true) dAdd op_addA op2_add (be_slV (pv 0) bo_none (bo_some (be_varP 1 (pv 1)))) (be_var 2 (pv 2))) (be_slV (pv 0) (bo_some (be_varP 1 (pv 1))) bo_none)))))⟩
abbrev s__without : Stmt := topS 30
theorem sc__without : FnScope ["word", "at", "text"] ["word", "at", "text"] (defScope s__without) := ⟨rfl, rfl, rfl, by decide +kernel, rfl, by decide +kernel, by decide +kernel⟩
theorem ok__without {P : Program} {w : World} {K : PySem.W.Frag} {mg : Str → Option Value} {base : Heap} (F : FD K mg "_without" s__without)
    (n_len : mg "len" = none) :
    Def P w K mg base "_without" ["word", "at", "text"] 1 m__without := by
  refine mk_def F sc__without (by decide) (fun _ _ _ _ _ _ us hl => match us, hl with | [_, _, _], _ => rfl) fun f cdv A outer s H E hr => ?_
  have tkD := takes_of (X := cxOf (L2.CX P w) P w K mg base ["word", "at", "text"] "_without" (defScope s__without) f cdv A outer s H E) (E := E) rfl rfl rfl rfl
  have howD : PassesOwn (model P w) (A.deeper (envOfC "_without" (defScope s__without) s.heap.objs.size f cdv)) (envOfC "_without" (defScope s__without) s.heap.objs.size f cdv) (cxOf (L2.CX P w) P w K mg base ["word", "at", "text"] "_without" (defScope s__without) f cdv A outer s H E).xe := PassesOwn.leaving
  exact ⟨_, (bss_cons (bs_if (bt_w (bw_or (bt_cmp (md := false) dIsN op_isN op2_isN (be_varP 2 (pv 2)) be_none (nomark _)) (bw_or (bt_cmp (md := false) dLt op_ltA op2_lt (be_varP 1 (pv 1)) be_int (nomark _)) (bw_or1 (bt_cmp (md := false) dNe (op_neA hr.units) op2_ne (BE.p (be_slV (pv 0) (bo_some (be_varP 1 (pv 1))) (bo_some (BE.p (be_op (md := true) dAdd op_addA op2_add (be_var 1 (pv 1)) (be_callB (md := false) dLen call_lenA fn_len (by rfl) n_len (by decide +kernel) (ba_cons (be_varP 2 (pv 2)) ba_nil))))))) (be_varP 2 (pv 2)) (nomark _)))))) (bss_one (bs_ret be_none)) bss_nil)
  (bss_one (bs_ret (be_op (md := true) dAdd op_addA op2_add (be_slV (pv 0) bo_none (bo_some (be_varP 1 (pv 1)))) (be_slV (pv 0) (bo_some (BE.p (be_op (md := true) dAdd op_addA op2_add (be_var 1 (pv 1)) (be_callB (md := false) dLen call_lenA fn_len (by rfl) n_len (by decide +kernel) (ba_cons (be_varP 2 (pv 2)) ba_nil))))) bo_none)))))⟩
abbrev s__letter_pair : Stmt := topS 27
theorem sc__letter_pair : FnScope ["presentation", "letter"] ["presentation", "letter"] (defScope s__letter_pair) := ⟨rfl, rfl, rfl, by decide +kernel, rfl, by decide +kernel, by decide +kernel⟩
theorem ok__letter_pair {P : Program} {w : World} {K : PySem.W.Frag} {mg : Str → Option Value} {base : Heap} (F : FD K mg "_letter_pair" s__letter_pair)
    (n_len : mg "len" = none)
    (d_is_word : Def P w K mg base "is_word" ["g", "text"] 2 m_is_word)
    (d_inverse_letter : Def P w K mg base "inverse_letter" ["letter"] 1 m_inverse_letter) :
    Def P w K mg base "_letter_pair" ["presentation", "letter"] 3 m__letter_pair := by
  refine mk_def F sc__letter_pair (by decide) (fun _ _ _ _ _ _ us hl => match us, hl with | [_, _], _ => rfl) fun f cdv A outer s H E hr => ?_
  have tkD := takes_of (X := cxOf (L2.CX P w) P w K mg base ["presentation", "letter"] "_letter_pair" (defScope s__letter_pair) f cdv A outer s H E) (E := E) rfl rfl rfl rfl
  have howD : PassesOwn (model P w) (A.deeper (envOfC "_letter_pair" (defScope s__letter_pair) s.heap.objs.size f cdv)) (envOfC "_letter_pair" (defScope s__letter_pair) s.heap.objs.size f cdv) (cxOf (L2.CX P w) P w K mg base ["presentation", "letter"] "_letter_pair" (defScope s__letter_pair) f cdv A outer s H E).xe := PassesOwn.leaving
  exact ⟨_, (bss_cons (bs_if (bt_w (bw_or (bt_cmp (md := false) dNe (op_neA hr.units) op2_ne (BE.p (be_callB (md := false) dLen call_lenA fn_len (by rfl) n_len (by decide +kernel) (ba_cons (be_varP 1 (pv 1)) ba_nil))) be_int (nomark _)) (bw_or1 (bt_not (bt_truth (BE.p (be_call d_is_word hr (by decide) (by rfl) tkD (ba_cons (be_ixV (pv 0) be_int (fun _ _ => rfl)) (ba_cons (be_var 1 (pv 1)) ba_nil))))))))) (bss_one (bs_ret be_none)) bss_nil)
  (bss_one (bs_ret (be_op (md := true) dAdd op_addA op2_add (be_var 1 (pv 1)) (be_call d_inverse_letter hr (by decide) (by rfl) tkD (ba_cons (be_var 1 (pv 1)) ba_nil))))))⟩
abbrev s__pair_at : Stmt := topS 28
theorem sc__pair_at : FnScope ["word", "at"] ["word", "at"] (defScope s__pair_at) := ⟨rfl, rfl, rfl, by decide +kernel, rfl, by decide +kernel, by decide +kernel⟩
theorem ok__pair_at {P : Program} {w : World} {K : PySem.W.Frag} {mg : Str → Option Value} {base : Heap} (F : FD K mg "_pair_at" s__pair_at)
    (n_len : mg "len" = none)
    (d_inverse_letter : Def P w K mg base "inverse_letter" ["letter"] 1 m_inverse_letter) :
    Def P w K mg base "_pair_at" ["word", "at"] 2 m__pair_at := by
  refine mk_def F sc__pair_at (by decide) (fun _ _ _ _ _ _ us hl => match us, hl with | [_, _], _ => rfl) fun f cdv A outer s H E hr => ?_
  have tkD := takes_of (X := cxOf (L2.CX P w) P w K mg base ["word", "at"] "_pair_at" (defScope s__pair_at) f cdv A outer s H E) (E := E) rfl rfl rfl rfl
  have howD : PassesOwn (model P w) (A.deeper (envOfC "_pair_at" (defScope s__pair_at) s.heap.objs.size f cdv)) (envOfC "_pair_at" (defScope s__pair_at) s.heap.objs.size f cdv) (cxOf (L2.CX P w) P w K mg base ["word", "at"] "_pair_at" (defScope s__pair_at) f cdv A outer s H E).xe := PassesOwn.leaving
  exact ⟨_, (bss_cons (bs_if (bt_w (bw_or (bt_cmp (md := false) dLt op_ltA op2_lt (be_varP 1 (pv 1)) be_int (nomark _)) (bw_or (bt_cmp (md := false) dGe op_geA op2_ge (BE.p (be_op (md := true) dAdd op_addA op2_add (be_var 1 (pv 1)) be_int)) (BE.p (be_callB (md := false) dLen call_lenA fn_len (by rfl) n_len (by decide +kernel) (ba_cons (be_varP 0 (pv 0)) ba_nil))) (nomark _)) (bw_or1 (bt_cmp (md := false) dNe (op_neA hr.units) op2_ne (BE.p (be_ixV (pv 0) (BE.p (be_op (md := true) dAdd op_addA op2_add (be_var 1 (pv 1)) be_int)) (fun _ _ => rfl))) (BE.p (be_call d_inverse_letter hr (by decide) (by rfl) tkD (ba_cons (be_ixV (pv 0) (be_varP 1 (pv 1)) (fun _ _ => rfl)) ba_nil))) (nomark _)))))) (bss_one (bs_ret be_none)) bss_nil)
  (bss_one (bs_ret (be_slV (pv 0) (bo_some (be_varP 1 (pv 1))) (bo_some (BE.p (be_op (md := true) dAdd op_addA op2_add (be_var 1 (pv 1)) be_int)))))))⟩
abbrev s_flipped : Stmt := topS 14
theorem sc_flipped : FnScope ["text", "letter"] ["text"] (defScope s_flipped) := ⟨rfl, rfl, rfl, by decide +kernel, rfl, by decide +kernel, by decide +kernel⟩
theorem ok_flipped {P : Program} {w : World} {K : PySem.W.Frag} {mg : Str → Option Value} {base : Heap} (F : FD K mg "flipped" s_flipped)
    (d_inverse_letter : Def P w K mg base "inverse_letter" ["letter"] 1 m_inverse_letter) :
    Def P w K mg base "flipped" ["text"] 2 m_flipped := by
  refine mk_def F sc_flipped (by decide) (fun _ _ _ _ _ _ us hl => match us, hl with | [_], _ => rfl) fun f cdv A outer s H E hr => ?_
  have tkD := takes_of (X := cxOf (L2.CX P w) P w K mg base ["text", "letter"] "flipped" (defScope s_flipped) f cdv A outer s H E) (E := E) rfl rfl rfl rfl
  have howD : PassesOwn (model P w) (A.deeper (envOfC "flipped" (defScope s_flipped) s.heap.objs.size f cdv)) (envOfC "flipped" (defScope s_flipped) s.heap.objs.size f cdv) (cxOf (L2.CX P w) P w K mg base ["text", "letter"] "flipped" (defScope s_flipped) f cdv A outer s H E).xe := PassesOwn.leaving
  exact ⟨_, (bss_one (bs_ret (be_join0S (be_n (bn_lc (own := [("letter", 1)]) rfl sc_flipped.nd (bi_seq (be_rev (be_var 0 (pv 0)))) (blkOk_by (N := ["text", "letter"]) (sc := defScope s_flipped) (by decide +kernel)) (by decide) (fun _ _ _ _ _ => ⟨_, (bg_name 1 (pg_name (i := 1) sc_flipped.nd rfl (by first | exact .inl rfl | exact .inr rfl)))⟩) (fun _ _ _ _ _ => ⟨_, bts_nil⟩) (fun _ _ _ _ _ => ⟨_, (be_call d_inverse_letter hr (by decide) (by rfl) takes0 (ba_cons (be_var 1 (pv 1)) ba_nil))⟩))))))⟩
abbrev s_signed_relator : Stmt := topS 23
theorem sc_signed_relator : FnScope ["presentation", "k", "sign", "relators"] ["presentation", "k", "sign"] (defScope s_signed_relator) := ⟨rfl, rfl, rfl, by decide +kernel, rfl, by decide +kernel, by decide +kernel⟩
theorem ok_signed_relator {P : Program} {w : World} {K : PySem.W.Frag} {mg : Str → Option Value} {base : Heap} (F : FD K mg "signed_relator" s_signed_relator)
    (n_len : mg "len" = none)
    (d_flipped : Def P w K mg base "flipped" ["text"] 2 m_flipped) :
    Def P w K mg base "signed_relator" ["presentation", "k", "sign"] 3 m_signed_relator := by
  refine mk_def F sc_signed_relator (by decide) (fun _ _ _ _ _ _ us hl => match us, hl with | [_, _, _], _ => rfl) fun f cdv A outer s H E hr => ?_
  have tkD := takes_of (X := cxOf (L2.CX P w) P w K mg base ["presentation", "k", "sign", "relators"] "signed_relator" (defScope s_signed_relator) f cdv A outer s H E) (E := E) rfl rfl rfl rfl
  have howD : PassesOwn (model P w) (A.deeper (envOfC "signed_relator" (defScope s_signed_relator) s.heap.objs.size f cdv)) (envOfC "signed_relator" (defScope s_signed_relator) s.heap.objs.size f cdv) (cxOf (L2.CX P w) P w K mg base ["presentation", "k", "sign", "relators"] "signed_relator" (defScope s_signed_relator) f cdv A outer s H E).xe := PassesOwn.leaving
  exact ⟨_, (bss_cons (bs_set 3 (be_ixV (pv 0) be_int (fun _ _ => rfl)) sc_signed_relator.nd rfl (by first | exact .inl rfl | exact .inr rfl))
  (bss_cons (bs_if (bt_w (bw_or (bt_cmp (md := false) dLt op_ltA op2_lt (be_varP 1 (pv 1)) be_int (nomark _)) (bw_or (bt_cmp (md := false) dGe op_geA op2_ge (be_varP 1 (pv 1)) (BE.p (be_callB (md := false) dLen call_lenA fn_len (by rfl) n_len (by decide +kernel) (ba_cons (be_varP 3 (pv 3)) ba_nil))) (nomark _)) (bw_or1 (bt_cmp (md := false) dNotInS op_notInX op2_notInS (be_varP 2 (pv 2)) (BE.p (be_tup (ba_cons be_int (ba_cons (be_neg be_int) ba_nil)))) (by rfl)))))) (bss_one (bs_ret be_none)) bss_nil)
  (bss_cons (bs_if (bt_cmp (md := false) dEq (op_eqA hr.units) op2_eq (be_varP 2 (pv 2)) be_int (nomark _)) (bss_one (bs_ret (be_ixV (pv 3) (be_varP 1 (pv 1)) (fun _ _ => rfl)))) bss_nil)
  (bss_one (bs_ret (be_call d_flipped hr (by decide) (by rfl) tkD (ba_cons (be_ixV (pv 3) (be_varP 1 (pv 1)) (fun _ _ => rfl)) ba_nil)))))))⟩
abbrev s_word_after : Stmt := topS 26
theorem sc_word_after : FnScope ["presentation", "word", "move", "kind", "at"] ["presentation", "word", "move"] (defScope s_word_after) := ⟨rfl, rfl, rfl, by decide +kernel, rfl, by decide +kernel, by decide +kernel⟩
theorem ok_word_after {P : Program} {w : World} {K : PySem.W.Frag} {mg : Str → Option Value} {base : Heap} (F : FD K mg "word_after" s_word_after)
    (d__with : Def P w K mg base "_with" ["word", "at", "text"] 1 m__with)
    (d__letter_pair : Def P w K mg base "_letter_pair" ["presentation", "letter"] 3 m__letter_pair)
    (d__without : Def P w K mg base "_without" ["word", "at", "text"] 1 m__without)
    (d__pair_at : Def P w K mg base "_pair_at" ["word", "at"] 2 m__pair_at)
    (d_signed_relator : Def P w K mg base "signed_relator" ["presentation", "k", "sign"] 3 m_signed_relator) :
    Def P w K mg base "word_after" ["presentation", "word", "move"] 4 m_word_after := by
  refine mk_def F sc_word_after (by decide) (fun _ _ _ _ _ _ us hl => match us, hl with | [_, _, _], _ => rfl) fun f cdv A outer s H E hr => ?_
  have tkD := takes_of (X := cxOf (L2.CX P w) P w K mg base ["presentation", "word", "move", "kind", "at"] "word_after" (defScope s_word_after) f cdv A outer s H E) (E := E) rfl rfl rfl rfl
  have howD : PassesOwn (model P w) (A.deeper (envOfC "word_after" (defScope s_word_after) s.heap.objs.size f cdv)) (envOfC "word_after" (defScope s_word_after) s.heap.objs.size f cdv) (cxOf (L2.CX P w) P w K mg base ["presentation", "word", "move", "kind", "at"] "word_after" (defScope s_word_after) f cdv A outer s H E).xe := PassesOwn.leaving
  exact ⟨_, (bss_cons (bs_par rfl sc_word_after.nd rfl rfl  (by decide) rfl rfl  (ba_cons (be_ixV (pv 2) be_int (fun _ _ => rfl)) (ba_cons (be_ixV (pv 2) be_int (fun _ _ => rfl)) ba_nil)) (by rfl))
  (bss_cons (bs_if (bt_cmp (md := false) dEq (op_eqA hr.units) op2_eq (be_varP 3 (pv 3)) be_str (nomark _)) (bss_one (bs_ret (be_call d__with hr (by decide) (by rfl) tkD (ba_cons (be_var 1 (pv 1)) (ba_cons (be_var 4 (pv 4)) (ba_cons (be_call d__letter_pair hr (by decide) (by rfl) tkD (ba_cons (be_var 0 (pv 0)) (ba_cons (be_ixV (pv 2) be_int (fun _ _ => rfl)) ba_nil))) ba_nil)))))) bss_nil)
  (bss_cons (bs_if (bt_cmp (md := false) dEq (op_eqA hr.units) op2_eq (be_varP 3 (pv 3)) be_str (nomark _)) (bss_one (bs_ret (be_call d__without hr (by decide) (by rfl) tkD (ba_cons (be_var 1 (pv 1)) (ba_cons (be_var 4 (pv 4)) (ba_cons (be_call d__pair_at hr (by decide) (by rfl) tkD (ba_cons (be_var 1 (pv 1)) (ba_cons (be_var 4 (pv 4)) ba_nil))) ba_nil)))))) bss_nil)
  (bss_cons (bs_if (bt_cmp (md := false) dEq (op_eqA hr.units) op2_eq (be_varP 3 (pv 3)) be_str (nomark _)) (bss_one (bs_ret (be_call d__with hr (by decide) (by rfl) tkD (ba_cons (be_var 1 (pv 1)) (ba_cons (be_var 4 (pv 4)) (ba_cons (be_call d_signed_relator hr (by decide) (by rfl) tkD (ba_cons (be_var 0 (pv 0)) (ba_cons (be_ixV (pv 2) be_int (fun _ _ => rfl)) (ba_cons (be_ixV (pv 2) be_int (fun _ _ => rfl)) ba_nil)))) ba_nil)))))) bss_nil)
  (bss_cons (bs_if (bt_cmp (md := false) dEq (op_eqA hr.units) op2_eq (be_varP 3 (pv 3)) be_str (nomark _)) (bss_one (bs_ret (be_call d__without hr (by decide) (by rfl) tkD (ba_cons (be_var 1 (pv 1)) (ba_cons (be_var 4 (pv 4)) (ba_cons (be_call d_signed_relator hr (by decide) (by rfl) tkD (ba_cons (be_var 0 (pv 0)) (ba_cons (be_ixV (pv 2) be_int (fun _ _ => rfl)) (ba_cons (be_ixV (pv 2) be_int (fun _ _ => rfl)) ba_nil)))) ba_nil)))))) bss_nil)
  (bss_one (bs_ret be_none)))))))⟩
abbrev s__trail : Stmt := topS 32
theorem sc__trail : FnScope ["presentation", "word", "moves", "words", "at", "move", "behind"] ["presentation", "word", "moves"] (defScope s__trail) := ⟨rfl, rfl, rfl, by decide +kernel, rfl, by decide +kernel, by decide +kernel⟩
theorem ok__trail {P : Program} {w : World} {K : PySem.W.Frag} {mg : Str → Option Value} {base : Heap} (F : FD K mg "_trail" s__trail)
    (n_enumerate : mg "enumerate" = none)
    (d_word_after : Def P w K mg base "word_after" ["presentation", "word", "move"] 4 m_word_after)
    {a_BadMove : Addr} (x_BadMove : ExcI P w K mg "BadMove" a_BadMove "at") :
    Def P w K mg base "_trail" ["presentation", "word", "moves"] 5 m__trail := by
  refine mk_def F sc__trail (by decide) (fun _ _ _ _ _ _ us hl => match us, hl with | [_, _, _], _ => rfl) fun f cdv A outer s H E hr => ?_
  have tkD := takes_of (X := cxOf (L2.CX P w) P w K mg base ["presentation", "word", "moves", "words", "at", "move", "behind"] "_trail" (defScope s__trail) f cdv A outer s H E) (E := E) rfl rfl rfl rfl
  have howD : PassesOwn (model P w) (A.deeper (envOfC "_trail" (defScope s__trail) s.heap.objs.size f cdv)) (envOfC "_trail" (defScope s__trail) s.heap.objs.size f cdv) (cxOf (L2.CX P w) P w K mg base ["presentation", "word", "moves", "words", "at", "move", "behind"] "_trail" (defScope s__trail) f cdv A outer s H E).xe := PassesOwn.leaving
  exact ⟨_, (bss_cons (bs_setOwn 3 (bn_lst (ba_cons (be_var 1 (pv 1)) ba_nil)) sc__trail.nd rfl (by first | exact .inl rfl | exact .inr rfl))
  (bss_cons (bs_for howD rfl (bi_enum (by rfl) n_enumerate (ba_cons (be_var 2 (pv 2)) ba_nil)) (bg_tup (bgs_cons (bg_name 4 (pg_name (i := 4) sc__trail.nd rfl (by first | exact .inl rfl | exact .inr rfl))) (bgs_cons (bg_name 5 (pg_name (i := 5) sc__trail.nd rfl (by first | exact .inl rfl | exact .inr rfl))) bgs_nil (pgs_cons (BG.pe (bg_name 5 (pg_name (i := 5) sc__trail.nd rfl (by first | exact .inl rfl | exact .inr rfl)))) pgs_nil)) (pgs_cons (BG.pe (bg_name 4 (pg_name (i := 4) sc__trail.nd rfl (by first | exact .inl rfl | exact .inr rfl)))) (pgs_cons (BG.pe (bg_name 5 (pg_name (i := 5) sc__trail.nd rfl (by first | exact .inl rfl | exact .inr rfl)))) pgs_nil))) rfl (pgs_cons (BG.pe (bg_name 4 (pg_name (i := 4) sc__trail.nd rfl (by first | exact .inl rfl | exact .inr rfl)))) (pgs_cons (BG.pe (bg_name 5 (pg_name (i := 5) sc__trail.nd rfl (by first | exact .inl rfl | exact .inr rfl)))) pgs_nil))) (bss_cons (bs_set 6 (be_call d_word_after hr (by decide) (by rfl) tkD (ba_cons (be_var 0 (pv 0)) (ba_cons (be_ixV (pv 3) (BE.p (be_neg be_int)) (fun _ _ => rfl)) (ba_cons (be_var 5 (pv 5)) ba_nil)))) sc__trail.nd rfl (by first | exact .inl rfl | exact .inr rfl))
  (bss_cons (bs_if (bt_cmp (md := false) dIsN op_isN op2_isN (be_varP 6 (pv 6)) be_none (nomark _)) (bss_one (bs_raiseF x_BadMove hr (by decide) (by rfl) tkD (by rfl) (be_var 4 (pv 4)))) bss_nil)
  (bss_one (bs_appS (i := 3) (be_var 6 (pv 6)) (pv 3))))))
  (bss_one (bs_frz 3 (bs_ret (be_var 3 (pv 3)))))))⟩
abbrev s_opposite_move : Stmt := topS 25
theorem sc_opposite_move : FnScope ["word", "move", "kind", "at"] ["word", "move"] (defScope s_opposite_move) := ⟨rfl, rfl, rfl, by decide +kernel, rfl, by decide +kernel, by decide +kernel⟩
theorem ok_opposite_move {P : Program} {w : World} {K : PySem.W.Frag} {mg : Str → Option Value} {base : Heap} (F : FD K mg "opposite_move" s_opposite_move) :
    Def P w K mg base "opposite_move" ["word", "move"] 1 m_opposite_move := by
  refine mk_def F sc_opposite_move (by decide) (fun _ _ _ _ _ _ us hl => match us, hl with | [_, _], _ => rfl) fun f cdv A outer s H E hr => ?_
  have tkD := takes_of (X := cxOf (L2.CX P w) P w K mg base ["word", "move", "kind", "at"] "opposite_move" (defScope s_opposite_move) f cdv A outer s H E) (E := E) rfl rfl rfl rfl
  have howD : PassesOwn (model P w) (A.deeper (envOfC "opposite_move" (defScope s_opposite_move) s.heap.objs.size f cdv)) (envOfC "opposite_move" (defScope s_opposite_move) s.heap.objs.size f cdv) (cxOf (L2.CX P w) P w K mg base ["word", "move", "kind", "at"] "opposite_move" (defScope s_opposite_move) f cdv A outer s H E).xe := PassesOwn.leaving
  exact ⟨_, (bss_cons (bs_par rfl sc_opposite_move.nd rfl rfl  (by decide) rfl rfl  (ba_cons (be_ixV (pv 1) be_int (fun _ _ => rfl)) (ba_cons (be_ixV (pv 1) be_int (fun _ _ => rfl)) ba_nil)) (by rfl))
  (bss_cons (bs_if (bt_cmp (md := false) dEq (op_eqA hr.units) op2_eq (be_varP 2 (pv 2)) be_str (nomark _)) (bss_one (bs_ret (be_tup (ba_cons be_str (ba_cons (be_var 3 (pv 3)) ba_nil))))) bss_nil)
  (bss_cons (bs_if (bt_cmp (md := false) dEq (op_eqA hr.units) op2_eq (be_varP 2 (pv 2)) be_str (nomark _)) (bss_one (bs_ret (be_tup (ba_cons be_str (ba_cons (be_var 3 (pv 3)) (ba_cons (be_ixV (pv 0) (be_varP 3 (pv 3)) (fun _ _ => rfl)) ba_nil)))))) bss_nil)
  (bss_cons (bs_if (bt_cmp (md := false) dEq (op_eqA hr.units) op2_eq (be_varP 2 (pv 2)) be_str (nomark _)) (bss_one (bs_ret (be_tup (ba_cons be_str (ba_cons (be_var 3 (pv 3)) (ba_cons (be_ixV (pv 1) be_int (fun _ _ => rfl)) (ba_cons (be_ixV (pv 1) be_int (fun _ _ => rfl)) ba_nil))))))) bss_nil)
  (bss_one (bs_ret (be_tup (ba_cons be_str (ba_cons (be_var 3 (pv 3)) (ba_cons (be_ixV (pv 1) be_int (fun _ _ => rfl)) (ba_cons (be_ixV (pv 1) be_int (fun _ _ => rfl)) ba_nil)))))))))))⟩
abbrev s__undone_moves : Stmt := topS 33
theorem sc__undone_moves : FnScope ["presentation", "word", "moves", "trail", "found", "at", "move"] ["presentation", "word", "moves"] (defScope s__undone_moves) := ⟨rfl, rfl, rfl, by decide +kernel, rfl, by decide +kernel, by decide +kernel⟩
theorem ok__undone_moves {P : Program} {w : World} {K : PySem.W.Frag} {mg : Str → Option Value} {base : Heap} (F : FD K mg "_undone_moves" s__undone_moves)
    (d__trail : Def P w K mg base "_trail" ["presentation", "word", "moves"] 5 m__trail)
    (n_enumerate : mg "enumerate" = none)
    (d_opposite_move : Def P w K mg base "opposite_move" ["word", "move"] 1 m_opposite_move) :
    Def P w K mg base "_undone_moves" ["presentation", "word", "moves"] 6 m__undone_moves := by
  refine mk_def F sc__undone_moves (by decide) (fun _ _ _ _ _ _ us hl => match us, hl with | [_, _, _], _ => rfl) fun f cdv A outer s H E hr => ?_
  have tkD := takes_of (X := cxOf (L2.CX P w) P w K mg base ["presentation", "word", "moves", "trail", "found", "at", "move"] "_undone_moves" (defScope s__undone_moves) f cdv A outer s H E) (E := E) rfl rfl rfl rfl
  have howD : PassesOwn (model P w) (A.deeper (envOfC "_undone_moves" (defScope s__undone_moves) s.heap.objs.size f cdv)) (envOfC "_undone_moves" (defScope s__undone_moves) s.heap.objs.size f cdv) (cxOf (L2.CX P w) P w K mg base ["presentation", "word", "moves", "trail", "found", "at", "move"] "_undone_moves" (defScope s__undone_moves) f cdv A outer s H E).xe := PassesOwn.leaving
  exact ⟨_, (bss_cons (bs_set 3 (be_call d__trail hr (by decide) (by rfl) tkD (ba_cons (be_var 0 (pv 0)) (ba_cons (be_var 1 (pv 1)) (ba_cons (be_var 2 (pv 2)) ba_nil)))) sc__undone_moves.nd rfl (by first | exact .inl rfl | exact .inr rfl))
  (bss_cons (bs_asgL (bl_lc (i := 4) (own := [("at", 5), ("move", 6)]) rfl sc__undone_moves.nd rfl rfl (sw_true rfl rfl rfl (by decide +kernel)) (bi_enum (by rfl) n_enumerate (ba_cons (be_var 2 (pv 2)) ba_nil)) (blkOk_by (N := ["presentation", "word", "moves", "trail", "found", "at", "move"]) (sc := defScope s__undone_moves) (by decide +kernel)) (by decide) (fun _ _ _ _ _ => ⟨_, (bg_tup (bgs_cons (bg_name 5 (pg_name (i := 5) sc__undone_moves.nd rfl (by first | exact .inl rfl | exact .inr rfl))) (bgs_cons (bg_name 6 (pg_name (i := 6) sc__undone_moves.nd rfl (by first | exact .inl rfl | exact .inr rfl))) bgs_nil (pgs_cons (BG.pe (bg_name 6 (pg_name (i := 6) sc__undone_moves.nd rfl (by first | exact .inl rfl | exact .inr rfl)))) pgs_nil)) (pgs_cons (BG.pe (bg_name 5 (pg_name (i := 5) sc__undone_moves.nd rfl (by first | exact .inl rfl | exact .inr rfl)))) (pgs_cons (BG.pe (bg_name 6 (pg_name (i := 6) sc__undone_moves.nd rfl (by first | exact .inl rfl | exact .inr rfl)))) pgs_nil))) rfl (pgs_cons (BG.pe (bg_name 5 (pg_name (i := 5) sc__undone_moves.nd rfl (by first | exact .inl rfl | exact .inr rfl)))) (pgs_cons (BG.pe (bg_name 6 (pg_name (i := 6) sc__undone_moves.nd rfl (by first | exact .inl rfl | exact .inr rfl)))) pgs_nil)))⟩) (fun _ _ _ _ _ => ⟨_, bts_nil⟩) (fun _ _ _ _ _ => ⟨_, (be_call d_opposite_move hr (by decide) (by rfl) takes0 (ba_cons (be_ixV (pv 3) (be_varP 5 (pv 5)) (fun _ _ => rfl)) (ba_cons (be_var 6 (pv 6)) ba_nil)))⟩)))
  (bss_one (bs_ret (be_rev (be_var 4 (pv 4)))))))⟩
abbrev s_free_derivation : Stmt := topS 35
theorem sc_free_derivation : FnScope ["presentation", "start", "end", "there", "back"] ["presentation", "start", "end"] (defScope s_free_derivation) := ⟨rfl, rfl, rfl, by decide +kernel, rfl, by decide +kernel, by decide +kernel⟩
theorem ok_free_derivation {P : Program} {w : World} {K : PySem.W.Frag} {mg : Str → Option Value} {base : Heap} (F : FD K mg "free_derivation" s_free_derivation)
    (d_check_words : Def P w K mg base "check_words" ["presentation", "words"] 6 m_check_words)
    (d_cuts : Def P w K mg base "cuts" ["word"] 2 m_cuts)
    (d__trail : Def P w K mg base "_trail" ["presentation", "word", "moves"] 5 m__trail)
    (d__undone_moves : Def P w K mg base "_undone_moves" ["presentation", "word", "moves"] 6 m__undone_moves) :
    Def P w K mg base "free_derivation" ["presentation", "start", "end"] 7 m_free_derivation := by
  refine mk_def F sc_free_derivation (by decide) (fun _ _ _ _ _ _ us hl => match us, hl with | [_, _, _], _ => rfl) fun f cdv A outer s H E hr => ?_
  have tkD := takes_of (X := cxOf (L2.CX P w) P w K mg base ["presentation", "start", "end", "there", "back"] "free_derivation" (defScope s_free_derivation) f cdv A outer s H E) (E := E) rfl rfl rfl rfl
  have howD : PassesOwn (model P w) (A.deeper (envOfC "free_derivation" (defScope s_free_derivation) s.heap.objs.size f cdv)) (envOfC "free_derivation" (defScope s_free_derivation) s.heap.objs.size f cdv) (cxOf (L2.CX P w) P w K mg base ["presentation", "start", "end", "there", "back"] "free_derivation" (defScope s_free_derivation) f cdv A outer s H E).xe := PassesOwn.leaving
  exact ⟨_, (bss_cons (bs_expr (be_call d_check_words hr (by decide) (by rfl) tkD (ba_cons (be_var 0 (pv 0)) (ba_cons (be_lst (ba_cons (be_var 1 (pv 1)) (ba_cons (be_var 2 (pv 2)) ba_nil))) ba_nil))))
  (bss_cons (bs_set 3 (be_call d_cuts hr (by decide) (by rfl) tkD (ba_cons (be_var 1 (pv 1)) ba_nil)) sc_free_derivation.nd rfl (by first | exact .inl rfl | exact .inr rfl))
  (bss_cons (bs_set 4 (be_call d_cuts hr (by decide) (by rfl) tkD (ba_cons (be_var 2 (pv 2)) ba_nil)) sc_free_derivation.nd rfl (by first | exact .inl rfl | exact .inr rfl))
  (bss_cons (bs_if (bt_cmp (md := false) dNe (op_neA hr.units) op2_ne (BE.p (be_ix (be_call d__trail hr (by decide) (by rfl) tkD (ba_cons (be_var 0 (pv 0)) (ba_cons (be_var 1 (pv 1)) (ba_cons (be_var 3 (pv 3)) ba_nil)))) (BE.p (be_neg be_int)) (fun _ _ => rfl))) (BE.p (be_ix (be_call d__trail hr (by decide) (by rfl) tkD (ba_cons (be_var 0 (pv 0)) (ba_cons (be_var 2 (pv 2)) (ba_cons (be_var 4 (pv 4)) ba_nil)))) (BE.p (be_neg be_int)) (fun _ _ => rfl))) (nomark _)) (bss_one (bs_ret be_none)) bss_nil)
  (bss_one (bs_ret (be_op (md := true) dAdd op_addA op2_add (be_var 3 (pv 3)) (be_call d__undone_moves hr (by decide) (by rfl) tkD (ba_cons (be_var 0 (pv 0)) (ba_cons (be_var 2 (pv 2)) (ba_cons (be_var 4 (pv 4)) ba_nil)))))))))))⟩
abbrev s__law_kind : Stmt := topS 44
theorem sc__law_kind : FnScope ["error", "kinds"] ["error"] (defScope s__law_kind) := ⟨rfl, rfl, rfl, by decide +kernel, rfl, by decide +kernel, by decide +kernel⟩
theorem ok__law_kind {P : Program} {w : World} {K : PySem.W.Frag} {mg : Str → Option Value} {base : Heap} (F : FD K mg "_law_kind" s__law_kind)
    {ib_NotPresentation : Addr} (iX_NotPresentation : IsX K mg (.ref ib_NotPresentation) (k_isx "NotPresentation")) (ig_NotPresentation : mg "NotPresentation" = some (.ref ib_NotPresentation))
    (n_isinstance : mg "isinstance" = none)
    {ib_NotWord : Addr} (iX_NotWord : IsX K mg (.ref ib_NotWord) (k_isx "NotWord")) (ig_NotWord : mg "NotWord" = some (.ref ib_NotWord))
    {ib_BadMove : Addr} (iX_BadMove : IsX K mg (.ref ib_BadMove) (k_isx "BadMove")) (ig_BadMove : mg "BadMove" = some (.ref ib_BadMove))
    {ib_BadNumber : Addr} (iX_BadNumber : IsX K mg (.ref ib_BadNumber) (k_isx "BadNumber")) (ig_BadNumber : mg "BadNumber" = some (.ref ib_BadNumber))
    (n_len : mg "len" = none)
    {ib_CayleyError : Addr} (iX_CayleyError : IsX K mg (.ref ib_CayleyError) (k_isx "CayleyError")) (ig_CayleyError : mg "CayleyError" = some (.ref ib_CayleyError)) :
    DefX P w K mg base "_law_kind" 1 m__law_kind := by
  refine mk_defX F sc__law_kind (by decide) (fun _ _ _ _ _ _ us hl => match us, hl with | [_], _ => rfl) fun f cdv A outer s H p hf hr => ?_
  exact ⟨_, (bss_cons (bs_setOwn 1 (bn_lst ba_nil) sc__law_kind.nd rfl (by first | exact .inl rfl | exact .inr rfl))
  (bss_cons (bs_if (bt_truth (BE.p (be_isX iX_NotPresentation hf (by rfl) n_isinstance (by decide +kernel) (pv 0) (.ref ib_NotPresentation) (fun _ h => h) (pe_glob (by rfl) ig_NotPresentation rfl)))) (bss_one (bs_appS (i := 1) be_str (pv 1))) bss_nil)
  (bss_cons (bs_if (bt_truth (BE.p (be_isX iX_NotWord hf (by rfl) n_isinstance (by decide +kernel) (pv 0) (.ref ib_NotWord) (fun _ h => h) (pe_glob (by rfl) ig_NotWord rfl)))) (bss_one (bs_appS (i := 1) be_str (pv 1))) bss_nil)
  (bss_cons (bs_if (bt_truth (BE.p (be_isX iX_BadMove hf (by rfl) n_isinstance (by decide +kernel) (pv 0) (.ref ib_BadMove) (fun _ h => h) (pe_glob (by rfl) ig_BadMove rfl)))) (bss_one (bs_appS (i := 1) be_str (pv 1))) bss_nil)
  (bss_cons (bs_if (bt_truth (BE.p (be_isX iX_BadNumber hf (by rfl) n_isinstance (by decide +kernel) (pv 0) (.ref ib_BadNumber) (fun _ h => h) (pe_glob (by rfl) ig_BadNumber rfl)))) (bss_one (bs_appS (i := 1) be_str (pv 1))) bss_nil)
  (bss_cons (bs_if (bt_w (bw_and (bt_cmp (md := false) dEq (op_eqA hr.units) op2_eq (BE.p (be_callB (md := false) dLen call_lenA fn_len (by rfl) n_len (by decide +kernel) (ba_cons (be_varP 1 (pv 1)) ba_nil))) be_int (nomark _)) (bw_and1 (bt_truth (BE.p (be_isX iX_CayleyError hf (by rfl) n_isinstance (by decide +kernel) (pv 0) (.ref ib_CayleyError) (fun _ h => h) (pe_glob (by rfl) ig_CayleyError rfl))))))) (bss_one (bs_ret (be_ixV (pv 1) be_int (fun _ _ => rfl)))) bss_nil)
  (bss_one (bs_ret be_str))))))))⟩
abbrev s__law_told : Stmt := topS 47
theorem sc__law_told : FnScope ["presentation", "one", "other", "error"] ["presentation", "one", "other"] (defScope s__law_told) := ⟨rfl, rfl, rfl, by decide +kernel, rfl, by decide +kernel, by decide +kernel⟩
theorem ok__law_told {P : Program} {w : World} {K : PySem.W.Frag} {mg : Str → Option Value} {base : Heap} (F : FD K mg "_law_told" s__law_told)
    (d_free_derivation : Def P w K mg base "free_derivation" ["presentation", "start", "end"] 7 m_free_derivation)
    {ka_CayleyError : Addr} (k_CayleyError : CatchF K mg "CayleyError" ka_CayleyError k_sub)
    (d__law_kind : DefX P w K mg base "_law_kind" 1 m__law_kind) :
    Def P w K mg base "_law_told" ["presentation", "one", "other"] 8 m__law_told := by
  refine mk_def F sc__law_told (by decide) (fun _ _ _ _ _ _ us hl => match us, hl with | [_, _, _], _ => rfl) fun f cdv A outer s H E hr => ?_
  have tkD := takes_of (X := cxOf (L2.CX P w) P w K mg base ["presentation", "one", "other", "error"] "_law_told" (defScope s__law_told) f cdv A outer s H E) (E := E) rfl rfl rfl rfl
  have howD : PassesOwn (model P w) (A.deeper (envOfC "_law_told" (defScope s__law_told) s.heap.objs.size f cdv)) (envOfC "_law_told" (defScope s__law_told) s.heap.objs.size f cdv) (cxOf (L2.CX P w) P w K mg base ["presentation", "one", "other", "error"] "_law_told" (defScope s__law_told) f cdv A outer s H E).xe := PassesOwn.leaving
  exact ⟨_, (bss_one (bs_tryAs (i := 3) rfl rfl sc__law_told.nd rfl rfl k_CayleyError.c ⟨rfl, by decide, .inl k_CayleyError.c.g⟩ tkD (fun W pn xe tk ho => ⟨_, (bss_one (bs_ret (be_call d_free_derivation hr (by decide) (by rfl) tk (ba_cons (be_var 0 (pv 0)) (ba_cons (be_var 1 (pv 1)) (ba_cons (be_var 2 (pv 2)) ba_nil))))))⟩) (fun a oe pn hf => ⟨_, (bss_one (bs_ret (be_callX d__law_kind (roomX hr rfl rfl) (by decide) hf (by rfl) (pv 3))))⟩)))⟩
abbrev s_law : Stmt := topS 48
theorem sc_law : FnScope ["script", "draws", "presentation", "gens", "start", "one", "way", "other", "first", "form", "letters", "second", "shape", "back", "told", "answer", "due", "k"] ["script"] (defScope s_law) := ⟨rfl, rfl, rfl, by decide +kernel, rfl, by decide +kernel, by decide +kernel⟩
theorem ok_law {P : Program} {w : World} {K : PySem.W.Frag} {mg : Str → Option Value} {f : Addr} {fd : FuncData} (F : Fun K "law" "law" s_law f fd) (bi : ∀ (s : Shared) (u : Value), BindsTo s fd ⟨[u], []⟩ [("script", u)])
    (d__law_draws : ∀ base : Heap, DefN P w K mg base "_law_draws" ["script"] 2 m__law_draws)
    (d__law_presentation : ∀ base : Heap, DefR P w K mg base "_law_presentation" ["draws"] 3 0 m__law_presentation)
    (d__law_word : ∀ base : Heap, DefR P w K mg base "_law_word" ["draws", "gens", "most"] 2 2 m__law_word)
    (d__law_padded : ∀ base : Heap, DefR P w K mg base "_law_padded" ["draws", "gens", "word"] 2 2 m__law_padded)
    (d__law_next : ∀ base : Heap, DefR P w K mg base "_law_next" ["draws"] 1 0 m__law_next)
    (n_int : mg "int" = none)
    (d__law_cuts : ∀ base : Heap, Def P w K mg base "_law_cuts" ["word"] 2 m__law_cuts)
    (d_cuts : ∀ base : Heap, Def P w K mg base "cuts" ["word"] 2 m_cuts)
    (n_isinstance : mg "isinstance" = none)
    (n_list : mg "list" = none)
    (d__law_told : ∀ base : Heap, Def P w K mg base "_law_told" ["presentation", "one", "other"] 8 m__law_told)
    (n_len : mg "len" = none)
    (n_range : mg "range" = none) :
    LawRun P w K mg f m_law := by
  refine law_run (k := 8) F sc_law (by decide) ⟨rfl, by decide, by decide⟩ bi fun base kb kn cdv A s H E hgd hr => ?_
  have d__law_draws := d__law_draws base
  have d__law_presentation := d__law_presentation base
  have d__law_word := d__law_word base
  have d__law_padded := d__law_padded base
  have d__law_next := d__law_next base
  have d__law_cuts := d__law_cuts base
  have d_cuts := d_cuts base
  have d__law_told := d__law_told base
  have tkD := takes_of (X := cxOf (L2.CX P w) P w K mg base ["script", "draws", "presentation", "gens", "start", "one", "way", "other", "first", "form", "letters", "second", "shape", "back", "told", "answer", "due", "k"] "law" (defScope s_law) f cdv A [] s H E) (E := E) rfl rfl rfl rfl
  have hun : (A.deeper (envOfC "law" (defScope s_law) s.heap.objs.size f cdv)).units + 64 < cLine := by have := hr.un; omega
  have howD : PassesOwn (model P w) (A.deeper (envOfC "law" (defScope s_law) s.heap.objs.size f cdv)) (envOfC "law" (defScope s_law) s.heap.objs.size f cdv) (cxOf (L2.CX P w) P w K mg base ["script", "draws", "presentation", "gens", "start", "one", "way", "other", "first", "form", "letters", "second", "shape", "back", "told", "answer", "due", "k"] "law" (defScope s_law) f cdv A [] s H E).xe := PassesOwn.leaving
  exact ⟨_, (bss_cons (bs_setOwn 1 (bn_call d__law_draws hr (by decide) (by rfl) tkD (ba_cons (be_var 0 (pv 0)) ba_nil)) sc_law.nd rfl (by first | exact .inl rfl | exact .inr rfl))
  (bss_cons (bs_rev (i := 1) (pv 1))
  (bss_give 1 (bss_cons (bs_set 2 (be_callR d__law_presentation hr (by decide) (by rfl) tkD (pv 1) ba_nil) sc_law.nd rfl (by first | exact .inl rfl | exact .inr rfl))
  (bss_cons (bs_set 3 (be_ixV (pv 2) be_int (fun _ _ => rfl)) sc_law.nd rfl (by first | exact .inl rfl | exact .inr rfl))
  (bss_cons (bs_set 4 (be_callR d__law_word hr (by decide) (by rfl) tkD (pv 1) (ba_cons (be_var 3 (pv 3)) (ba_cons be_int ba_nil))) sc_law.nd rfl (by first | exact .inl rfl | exact .inr rfl))
  (bss_cons (bs_set 5 (be_callR d__law_padded hr (by decide) (by rfl) tkD (pv 1) (ba_cons (be_var 3 (pv 3)) (ba_cons (be_var 4 (pv 4)) ba_nil))) sc_law.nd rfl (by first | exact .inl rfl | exact .inr rfl))
  (bss_cons (bs_set 6 (be_op (md := false) dMod op_mod op2_mod (BE.p (be_callTy (md := false) dInt1 call_int1 fn_int1 (by rfl) n_int (by decide +kernel) (ba_cons (BE.p (be_callR d__law_next hr (by decide) (by rfl) tkD (pv 1) ba_nil)) ba_nil))) be_int) sc_law.nd rfl (by first | exact .inl rfl | exact .inr rfl))
  (bss_cons (bs_set 7 (be_callR d__law_padded hr (by decide) (by rfl) tkD (pv 1) (ba_cons (be_var 3 (pv 3)) (ba_cons (be_var 4 (pv 4)) ba_nil))) sc_law.nd rfl (by first | exact .inl rfl | exact .inr rfl))
  (bss_cons (bs_if (bt_cmp (md := false) dEq (op_eqA hr.units) op2_eq (be_varP 6 (pv 6)) be_int (nomark _)) (bss_one (bs_set 7 (be_callR d__law_padded hr (by decide) (by rfl) tkD (pv 1) (ba_cons (be_var 3 (pv 3)) (ba_cons (be_callR d__law_word hr (by decide) (by rfl) tkD (pv 1) (ba_cons (be_var 3 (pv 3)) (ba_cons be_int ba_nil))) ba_nil))) sc_law.nd rfl (by first | exact .inl rfl | exact .inr rfl))) bss_nil)
  (bss_cons (bs_if (bt_cmp (md := false) dEq (op_eqA hr.units) op2_eq (be_varP 6 (pv 6)) be_int (nomark _)) (bss_one (bs_set 7 (be_op (md := true) dAdd op_addA op2_add (be_var 7 (pv 7)) be_str) sc_law.nd rfl (by first | exact .inl rfl | exact .inr rfl))) bss_nil)
  (bss_cons (bs_setT (be_call d__law_cuts hr (by decide) (by rfl) tkD (ba_cons (be_var 5 (pv 5)) ba_nil)) (bg_tup (bgs_cons (bg_name 8 (pg_name (i := 8) sc_law.nd rfl (by first | exact .inl rfl | exact .inr rfl))) (bgs_cons (bg_name 9 (pg_name (i := 9) sc_law.nd rfl (by first | exact .inl rfl | exact .inr rfl))) (bgs_cons (bg_name 10 (pg_name (i := 10) sc_law.nd rfl (by first | exact .inl rfl | exact .inr rfl))) bgs_nil (pgs_cons (BG.pe (bg_name 10 (pg_name (i := 10) sc_law.nd rfl (by first | exact .inl rfl | exact .inr rfl)))) pgs_nil)) (pgs_cons (BG.pe (bg_name 9 (pg_name (i := 9) sc_law.nd rfl (by first | exact .inl rfl | exact .inr rfl)))) (pgs_cons (BG.pe (bg_name 10 (pg_name (i := 10) sc_law.nd rfl (by first | exact .inl rfl | exact .inr rfl)))) pgs_nil))) (pgs_cons (BG.pe (bg_name 8 (pg_name (i := 8) sc_law.nd rfl (by first | exact .inl rfl | exact .inr rfl)))) (pgs_cons (BG.pe (bg_name 9 (pg_name (i := 9) sc_law.nd rfl (by first | exact .inl rfl | exact .inr rfl)))) (pgs_cons (BG.pe (bg_name 10 (pg_name (i := 10) sc_law.nd rfl (by first | exact .inl rfl | exact .inr rfl)))) pgs_nil)))) rfl (pgs_cons (BG.pe (bg_name 8 (pg_name (i := 8) sc_law.nd rfl (by first | exact .inl rfl | exact .inr rfl)))) (pgs_cons (BG.pe (bg_name 9 (pg_name (i := 9) sc_law.nd rfl (by first | exact .inl rfl | exact .inr rfl)))) (pgs_cons (BG.pe (bg_name 10 (pg_name (i := 10) sc_law.nd rfl (by first | exact .inl rfl | exact .inr rfl)))) pgs_nil)))))
  (bss_cons (bs_setT (be_call d__law_cuts hr (by decide) (by rfl) tkD (ba_cons (be_var 7 (pv 7)) ba_nil)) (bg_tup (bgs_cons (bg_name 11 (pg_name (i := 11) sc_law.nd rfl (by first | exact .inl rfl | exact .inr rfl))) (bgs_cons (bg_name 12 (pg_name (i := 12) sc_law.nd rfl (by first | exact .inl rfl | exact .inr rfl))) (bgs_cons (bg_name 13 (pg_name (i := 13) sc_law.nd rfl (by first | exact .inl rfl | exact .inr rfl))) bgs_nil (pgs_cons (BG.pe (bg_name 13 (pg_name (i := 13) sc_law.nd rfl (by first | exact .inl rfl | exact .inr rfl)))) pgs_nil)) (pgs_cons (BG.pe (bg_name 12 (pg_name (i := 12) sc_law.nd rfl (by first | exact .inl rfl | exact .inr rfl)))) (pgs_cons (BG.pe (bg_name 13 (pg_name (i := 13) sc_law.nd rfl (by first | exact .inl rfl | exact .inr rfl)))) pgs_nil))) (pgs_cons (BG.pe (bg_name 11 (pg_name (i := 11) sc_law.nd rfl (by first | exact .inl rfl | exact .inr rfl)))) (pgs_cons (BG.pe (bg_name 12 (pg_name (i := 12) sc_law.nd rfl (by first | exact .inl rfl | exact .inr rfl)))) (pgs_cons (BG.pe (bg_name 13 (pg_name (i := 13) sc_law.nd rfl (by first | exact .inl rfl | exact .inr rfl)))) pgs_nil)))) rfl (pgs_cons (BG.pe (bg_name 11 (pg_name (i := 11) sc_law.nd rfl (by first | exact .inl rfl | exact .inr rfl)))) (pgs_cons (BG.pe (bg_name 12 (pg_name (i := 12) sc_law.nd rfl (by first | exact .inl rfl | exact .inr rfl)))) (pgs_cons (BG.pe (bg_name 13 (pg_name (i := 13) sc_law.nd rfl (by first | exact .inl rfl | exact .inr rfl)))) pgs_nil)))))
  (bss_cons (bs_set 14 (be_call d_cuts hr (by decide) (by rfl) tkD (ba_cons (be_var 5 (pv 5)) ba_nil)) sc_law.nd rfl (by first | exact .inl rfl | exact .inr rfl))
  (bss_cons (bs_if (bt_w (bw_or (bt_not (bt_truth (BE.p (be_isi (T := "list") (by unfold IsiOk; decide +kernel) (by rfl) n_isinstance (by decide +kernel) (pe_bltn (by rfl) n_list (by decide +kernel) rfl) (be_varP 14 (pv 14)))))) (bw_or1 (bt_cmp (md := false) dNe (op_neA hr.units) op2_ne (be_varP 14 (pv 14)) (be_varP 8 (pv 8)) (nomark _))))) (bss_one (bs_ret be_bool)) bss_nil)
  (bss_cons (bs_set 15 (be_call d__law_told hr (by decide) (by rfl) tkD (ba_cons (be_var 2 (pv 2)) (ba_cons (be_var 5 (pv 5)) (ba_cons (be_var 7 (pv 7)) ba_nil)))) sc_law.nd rfl (by first | exact .inl rfl | exact .inr rfl))
  (bss_cons (bs_if (bt_cmp (md := false) dNe (op_neA hr.units) op2_ne (be_varP 9 (pv 9)) (be_varP 12 (pv 12)) (nomark _)) (bss_one (bs_if (bt_cmp (md := false) dNotN op_notN op2_notN (be_varP 15 (pv 15)) be_none (nomark _)) (bss_one (bs_ret be_bool)) bss_nil)) (bss_cons (bs_setOwn 16 (bn_listOf rfl (by rfl) n_list (ba_cons (be_var 8 (pv 8)) ba_nil)) sc_law.nd rfl (by first | exact .inl rfl | exact .inr rfl))
  (bss_cons (bs_for howD rfl (bi_range3 (by rfl) n_range (ba_cons (BE.p (be_op (md := false) dSub op_sub op2_sub (BE.p (be_callB (md := false) dLen call_lenA fn_len (by rfl) n_len (by decide +kernel) (ba_cons (be_varP 11 (pv 11)) ba_nil))) be_int)) (ba_cons (BE.p (be_neg be_int)) (ba_cons (BE.p (be_neg be_int)) ba_nil)))) (bg_name 17 (pg_name (i := 17) sc_law.nd rfl (by first | exact .inl rfl | exact .inr rfl))) (bss_one (bs_appS (i := 16) (be_tup (ba_cons be_str (ba_cons (be_ix (be_ixV (pv 11) (be_varP 17 (pv 17)) (fun _ _ => rfl)) be_int (fun _ _ => rfl)) (ba_cons (be_ixV (pv 13) (be_varP 17 (pv 17)) (fun _ _ => rfl)) ba_nil)))) (pv 16))))
  (bss_one (bs_if (bt_w (bw_or (bt_not (bt_truth (BE.p (be_isi (T := "list") (by unfold IsiOk; decide +kernel) (by rfl) n_isinstance (by decide +kernel) (pe_bltn (by rfl) n_list (by decide +kernel) rfl) (be_varP 15 (pv 15)))))) (bw_or1 (bt_cmp (md := false) dNe (op_neA hr.units) op2_ne (be_varP 15 (pv 15)) (be_varP 16 (pv 16)) (nomark _))))) (bss_one (bs_ret be_bool)) bss_nil)))))
  (bss_cons (bs_if (bt_w (bw_or (bt_cmp (md := false) dNe (op_neA hr.units) op2_ne (BE.p (be_call d__law_told hr (by decide) (by rfl) tkD (ba_cons (be_tup (ba_cons be_int (ba_cons (be_tup ba_nil) ba_nil))) (ba_cons be_str (ba_cons (be_var 7 (pv 7)) ba_nil))))) be_str (nomark _)) (bw_or1 (bt_cmp (md := false) dNe (op_neA hr.units) op2_ne (BE.p (be_call d__law_told hr (by decide) (by rfl) tkD (ba_cons (be_var 2 (pv 2)) (ba_cons be_str (ba_cons (be_var 7 (pv 7)) ba_nil))))) be_str (nomark _))))) (bss_one (bs_ret be_bool)) bss_nil)
  (bss_one (bs_ret (be_cmp (md := false) dEq (op_eqA hr.units) op2_eq (BE.p (be_call d__law_told hr (by decide) (by rfl) tkD (ba_cons (be_var 2 (pv 2)) (ba_cons (be_var 5 (pv 5)) (ba_cons be_str ba_nil))))) be_str (nomark _))))))))))))))))))))))⟩
theorem all_mk {P : Program} {w : World} {K : PySem.W.Frag} {h : Heap} {mg : Str → Option Value} {fa : Addr} (X : K.In h) (G : h.Ns mainGlobals mg) (hfa : mg "law" = some (.ref fa))
    {f__law_number : Addr}
    {oc__law_number kV__law_number dc__law_number pm__law_number cd__law_number ct__law_number : Value}
    {od__law_number an__law_number : Option Addr}
    {sl__law_number : Array (Option Value)}
    (a__law_number : PySem.W.nsIn K mainGlobals "_law_number" = some (some (.ref f__law_number)))
    (l__law_number : K.lookup f__law_number = some ⟨oc__law_number, od__law_number, .func (PySem.W.fnOf "_law_number" "_law_number" (defArgs s__law_number) (defBody s__law_number) (defScope s__law_number) .none kV__law_number dc__law_number pm__law_number an__law_number cd__law_number ct__law_number), sl__law_number⟩)
    (cc__law_number : PySem.W.codeIn K cd__law_number "_law_number" = true)
    (kk__law_number : PySem.W.keepIn K (.ref f__law_number) = true)
    {f__law_draws : Addr}
    {oc__law_draws kV__law_draws dc__law_draws pm__law_draws cd__law_draws ct__law_draws : Value}
    {od__law_draws an__law_draws : Option Addr}
    {sl__law_draws : Array (Option Value)}
    (a__law_draws : PySem.W.nsIn K mainGlobals "_law_draws" = some (some (.ref f__law_draws)))
    (l__law_draws : K.lookup f__law_draws = some ⟨oc__law_draws, od__law_draws, .func (PySem.W.fnOf "_law_draws" "_law_draws" (defArgs s__law_draws) (defBody s__law_draws) (defScope s__law_draws) .none kV__law_draws dc__law_draws pm__law_draws an__law_draws cd__law_draws ct__law_draws), sl__law_draws⟩)
    (cc__law_draws : PySem.W.codeIn K cd__law_draws "_law_draws" = true)
    (kk__law_draws : PySem.W.keepIn K (.ref f__law_draws) = true)
    {f__law_next : Addr}
    {oc__law_next kV__law_next dc__law_next pm__law_next cd__law_next ct__law_next : Value}
    {od__law_next an__law_next : Option Addr}
    {sl__law_next : Array (Option Value)}
    (a__law_next : PySem.W.nsIn K mainGlobals "_law_next" = some (some (.ref f__law_next)))
    (l__law_next : K.lookup f__law_next = some ⟨oc__law_next, od__law_next, .func (PySem.W.fnOf "_law_next" "_law_next" (defArgs s__law_next) (defBody s__law_next) (defScope s__law_next) .none kV__law_next dc__law_next pm__law_next an__law_next cd__law_next ct__law_next), sl__law_next⟩)
    (cc__law_next : PySem.W.codeIn K cd__law_next "_law_next" = true)
    (kk__law_next : PySem.W.keepIn K (.ref f__law_next) = true)
    {f__law_word : Addr}
    {oc__law_word kV__law_word dc__law_word pm__law_word cd__law_word ct__law_word : Value}
    {od__law_word an__law_word : Option Addr}
    {sl__law_word : Array (Option Value)}
    (a__law_word : PySem.W.nsIn K mainGlobals "_law_word" = some (some (.ref f__law_word)))
    (l__law_word : K.lookup f__law_word = some ⟨oc__law_word, od__law_word, .func (PySem.W.fnOf "_law_word" "_law_word" (defArgs s__law_word) (defBody s__law_word) (defScope s__law_word) .none kV__law_word dc__law_word pm__law_word an__law_word cd__law_word ct__law_word), sl__law_word⟩)
    (cc__law_word : PySem.W.codeIn K cd__law_word "_law_word" = true)
    (kk__law_word : PySem.W.keepIn K (.ref f__law_word) = true)
    {f__law_presentation : Addr}
    {oc__law_presentation kV__law_presentation dc__law_presentation pm__law_presentation cd__law_presentation ct__law_presentation : Value}
    {od__law_presentation an__law_presentation : Option Addr}
    {sl__law_presentation : Array (Option Value)}
    (a__law_presentation : PySem.W.nsIn K mainGlobals "_law_presentation" = some (some (.ref f__law_presentation)))
    (l__law_presentation : K.lookup f__law_presentation = some ⟨oc__law_presentation, od__law_presentation, .func (PySem.W.fnOf "_law_presentation" "_law_presentation" (defArgs s__law_presentation) (defBody s__law_presentation) (defScope s__law_presentation) .none kV__law_presentation dc__law_presentation pm__law_presentation an__law_presentation cd__law_presentation ct__law_presentation), sl__law_presentation⟩)
    (cc__law_presentation : PySem.W.codeIn K cd__law_presentation "_law_presentation" = true)
    (kk__law_presentation : PySem.W.keepIn K (.ref f__law_presentation) = true)
    {f__law_swap : Addr}
    {oc__law_swap kV__law_swap dc__law_swap pm__law_swap cd__law_swap ct__law_swap : Value}
    {od__law_swap an__law_swap : Option Addr}
    {sl__law_swap : Array (Option Value)}
    (a__law_swap : PySem.W.nsIn K mainGlobals "_law_swap" = some (some (.ref f__law_swap)))
    (l__law_swap : K.lookup f__law_swap = some ⟨oc__law_swap, od__law_swap, .func (PySem.W.fnOf "_law_swap" "_law_swap" (defArgs s__law_swap) (defBody s__law_swap) (defScope s__law_swap) .none kV__law_swap dc__law_swap pm__law_swap an__law_swap cd__law_swap ct__law_swap), sl__law_swap⟩)
    (cc__law_swap : PySem.W.codeIn K cd__law_swap "_law_swap" = true)
    (kk__law_swap : PySem.W.keepIn K (.ref f__law_swap) = true)
    {f__law_padded : Addr}
    {oc__law_padded kV__law_padded dc__law_padded pm__law_padded cd__law_padded ct__law_padded : Value}
    {od__law_padded an__law_padded : Option Addr}
    {sl__law_padded : Array (Option Value)}
    (a__law_padded : PySem.W.nsIn K mainGlobals "_law_padded" = some (some (.ref f__law_padded)))
    (l__law_padded : K.lookup f__law_padded = some ⟨oc__law_padded, od__law_padded, .func (PySem.W.fnOf "_law_padded" "_law_padded" (defArgs s__law_padded) (defBody s__law_padded) (defScope s__law_padded) .none kV__law_padded dc__law_padded pm__law_padded an__law_padded cd__law_padded ct__law_padded), sl__law_padded⟩)
    (cc__law_padded : PySem.W.codeIn K cd__law_padded "_law_padded" = true)
    (kk__law_padded : PySem.W.keepIn K (.ref f__law_padded) = true)
    {f__law_cuts : Addr}
    {oc__law_cuts kV__law_cuts dc__law_cuts pm__law_cuts cd__law_cuts ct__law_cuts : Value}
    {od__law_cuts an__law_cuts : Option Addr}
    {sl__law_cuts : Array (Option Value)}
    (a__law_cuts : PySem.W.nsIn K mainGlobals "_law_cuts" = some (some (.ref f__law_cuts)))
    (l__law_cuts : K.lookup f__law_cuts = some ⟨oc__law_cuts, od__law_cuts, .func (PySem.W.fnOf "_law_cuts" "_law_cuts" (defArgs s__law_cuts) (defBody s__law_cuts) (defScope s__law_cuts) .none kV__law_cuts dc__law_cuts pm__law_cuts an__law_cuts cd__law_cuts ct__law_cuts), sl__law_cuts⟩)
    (cc__law_cuts : PySem.W.codeIn K cd__law_cuts "_law_cuts" = true)
    (kk__law_cuts : PySem.W.keepIn K (.ref f__law_cuts) = true)
    {f_inverse_letter : Addr}
    {oc_inverse_letter kV_inverse_letter dc_inverse_letter pm_inverse_letter cd_inverse_letter ct_inverse_letter : Value}
    {od_inverse_letter an_inverse_letter : Option Addr}
    {sl_inverse_letter : Array (Option Value)}
    (a_inverse_letter : PySem.W.nsIn K mainGlobals "inverse_letter" = some (some (.ref f_inverse_letter)))
    (l_inverse_letter : K.lookup f_inverse_letter = some ⟨oc_inverse_letter, od_inverse_letter, .func (PySem.W.fnOf "inverse_letter" "inverse_letter" (defArgs s_inverse_letter) (defBody s_inverse_letter) (defScope s_inverse_letter) .none kV_inverse_letter dc_inverse_letter pm_inverse_letter an_inverse_letter cd_inverse_letter ct_inverse_letter), sl_inverse_letter⟩)
    (cc_inverse_letter : PySem.W.codeIn K cd_inverse_letter "inverse_letter" = true)
    (kk_inverse_letter : PySem.W.keepIn K (.ref f_inverse_letter) = true)
    {f_cuts : Addr}
    {oc_cuts kV_cuts dc_cuts pm_cuts cd_cuts ct_cuts : Value}
    {od_cuts an_cuts : Option Addr}
    {sl_cuts : Array (Option Value)}
    (a_cuts : PySem.W.nsIn K mainGlobals "cuts" = some (some (.ref f_cuts)))
    (l_cuts : K.lookup f_cuts = some ⟨oc_cuts, od_cuts, .func (PySem.W.fnOf "cuts" "cuts" (defArgs s_cuts) (defBody s_cuts) (defScope s_cuts) .none kV_cuts dc_cuts pm_cuts an_cuts cd_cuts ct_cuts), sl_cuts⟩)
    (cc_cuts : PySem.W.codeIn K cd_cuts "cuts" = true)
    (kk_cuts : PySem.W.keepIn K (.ref f_cuts) = true)
    {f_letters_of : Addr}
    {oc_letters_of kV_letters_of dc_letters_of pm_letters_of cd_letters_of ct_letters_of : Value}
    {od_letters_of an_letters_of : Option Addr}
    {sl_letters_of : Array (Option Value)}
    (a_letters_of : PySem.W.nsIn K mainGlobals "letters_of" = some (some (.ref f_letters_of)))
    (l_letters_of : K.lookup f_letters_of = some ⟨oc_letters_of, od_letters_of, .func (PySem.W.fnOf "letters_of" "letters_of" (defArgs s_letters_of) (defBody s_letters_of) (defScope s_letters_of) .none kV_letters_of dc_letters_of pm_letters_of an_letters_of cd_letters_of ct_letters_of), sl_letters_of⟩)
    (cc_letters_of : PySem.W.codeIn K cd_letters_of "letters_of" = true)
    (kk_letters_of : PySem.W.keepIn K (.ref f_letters_of) = true)
    {f_is_word : Addr}
    {oc_is_word kV_is_word dc_is_word pm_is_word cd_is_word ct_is_word : Value}
    {od_is_word an_is_word : Option Addr}
    {sl_is_word : Array (Option Value)}
    (a_is_word : PySem.W.nsIn K mainGlobals "is_word" = some (some (.ref f_is_word)))
    (l_is_word : K.lookup f_is_word = some ⟨oc_is_word, od_is_word, .func (PySem.W.fnOf "is_word" "is_word" (defArgs s_is_word) (defBody s_is_word) (defScope s_is_word) .none kV_is_word dc_is_word pm_is_word an_is_word cd_is_word ct_is_word), sl_is_word⟩)
    (cc_is_word : PySem.W.codeIn K cd_is_word "is_word" = true)
    (kk_is_word : PySem.W.keepIn K (.ref f_is_word) = true)
    {f__is_relator : Addr}
    {oc__is_relator kV__is_relator dc__is_relator pm__is_relator cd__is_relator ct__is_relator : Value}
    {od__is_relator an__is_relator : Option Addr}
    {sl__is_relator : Array (Option Value)}
    (a__is_relator : PySem.W.nsIn K mainGlobals "_is_relator" = some (some (.ref f__is_relator)))
    (l__is_relator : K.lookup f__is_relator = some ⟨oc__is_relator, od__is_relator, .func (PySem.W.fnOf "_is_relator" "_is_relator" (defArgs s__is_relator) (defBody s__is_relator) (defScope s__is_relator) .none kV__is_relator dc__is_relator pm__is_relator an__is_relator cd__is_relator ct__is_relator), sl__is_relator⟩)
    (cc__is_relator : PySem.W.codeIn K cd__is_relator "_is_relator" = true)
    (kk__is_relator : PySem.W.keepIn K (.ref f__is_relator) = true)
    {f_is_presentation : Addr}
    {oc_is_presentation kV_is_presentation dc_is_presentation pm_is_presentation cd_is_presentation ct_is_presentation : Value}
    {od_is_presentation an_is_presentation : Option Addr}
    {sl_is_presentation : Array (Option Value)}
    (a_is_presentation : PySem.W.nsIn K mainGlobals "is_presentation" = some (some (.ref f_is_presentation)))
    (l_is_presentation : K.lookup f_is_presentation = some ⟨oc_is_presentation, od_is_presentation, .func (PySem.W.fnOf "is_presentation" "is_presentation" (defArgs s_is_presentation) (defBody s_is_presentation) (defScope s_is_presentation) .none kV_is_presentation dc_is_presentation pm_is_presentation an_is_presentation cd_is_presentation ct_is_presentation), sl_is_presentation⟩)
    (cc_is_presentation : PySem.W.codeIn K cd_is_presentation "is_presentation" = true)
    (kk_is_presentation : PySem.W.keepIn K (.ref f_is_presentation) = true)
    {f_check_presentation : Addr}
    {oc_check_presentation kV_check_presentation dc_check_presentation pm_check_presentation cd_check_presentation ct_check_presentation : Value}
    {od_check_presentation an_check_presentation : Option Addr}
    {sl_check_presentation : Array (Option Value)}
    (a_check_presentation : PySem.W.nsIn K mainGlobals "check_presentation" = some (some (.ref f_check_presentation)))
    (l_check_presentation : K.lookup f_check_presentation = some ⟨oc_check_presentation, od_check_presentation, .func (PySem.W.fnOf "check_presentation" "check_presentation" (defArgs s_check_presentation) (defBody s_check_presentation) (defScope s_check_presentation) .none kV_check_presentation dc_check_presentation pm_check_presentation an_check_presentation cd_check_presentation ct_check_presentation), sl_check_presentation⟩)
    (cc_check_presentation : PySem.W.codeIn K cd_check_presentation "check_presentation" = true)
    (kk_check_presentation : PySem.W.keepIn K (.ref f_check_presentation) = true)
    {f_check_words : Addr}
    {oc_check_words kV_check_words dc_check_words pm_check_words cd_check_words ct_check_words : Value}
    {od_check_words an_check_words : Option Addr}
    {sl_check_words : Array (Option Value)}
    (a_check_words : PySem.W.nsIn K mainGlobals "check_words" = some (some (.ref f_check_words)))
    (l_check_words : K.lookup f_check_words = some ⟨oc_check_words, od_check_words, .func (PySem.W.fnOf "check_words" "check_words" (defArgs s_check_words) (defBody s_check_words) (defScope s_check_words) .none kV_check_words dc_check_words pm_check_words an_check_words cd_check_words ct_check_words), sl_check_words⟩)
    (cc_check_words : PySem.W.codeIn K cd_check_words "check_words" = true)
    (kk_check_words : PySem.W.keepIn K (.ref f_check_words) = true)
    {f__with : Addr}
    {oc__with kV__with dc__with pm__with cd__with ct__with : Value}
    {od__with an__with : Option Addr}
    {sl__with : Array (Option Value)}
    (a__with : PySem.W.nsIn K mainGlobals "_with" = some (some (.ref f__with)))
    (l__with : K.lookup f__with = some ⟨oc__with, od__with, .func (PySem.W.fnOf "_with" "_with" (defArgs s__with) (defBody s__with) (defScope s__with) .none kV__with dc__with pm__with an__with cd__with ct__with), sl__with⟩)
    (cc__with : PySem.W.codeIn K cd__with "_with" = true)
    (kk__with : PySem.W.keepIn K (.ref f__with) = true)
    {f__without : Addr}
    {oc__without kV__without dc__without pm__without cd__without ct__without : Value}
    {od__without an__without : Option Addr}
    {sl__without : Array (Option Value)}
    (a__without : PySem.W.nsIn K mainGlobals "_without" = some (some (.ref f__without)))
    (l__without : K.lookup f__without = some ⟨oc__without, od__without, .func (PySem.W.fnOf "_without" "_without" (defArgs s__without) (defBody s__without) (defScope s__without) .none kV__without dc__without pm__without an__without cd__without ct__without), sl__without⟩)
    (cc__without : PySem.W.codeIn K cd__without "_without" = true)
    (kk__without : PySem.W.keepIn K (.ref f__without) = true)
    {f__letter_pair : Addr}
    {oc__letter_pair kV__letter_pair dc__letter_pair pm__letter_pair cd__letter_pair ct__letter_pair : Value}
    {od__letter_pair an__letter_pair : Option Addr}
    {sl__letter_pair : Array (Option Value)}
    (a__letter_pair : PySem.W.nsIn K mainGlobals "_letter_pair" = some (some (.ref f__letter_pair)))
    (l__letter_pair : K.lookup f__letter_pair = some ⟨oc__letter_pair, od__letter_pair, .func (PySem.W.fnOf "_letter_pair" "_letter_pair" (defArgs s__letter_pair) (defBody s__letter_pair) (defScope s__letter_pair) .none kV__letter_pair dc__letter_pair pm__letter_pair an__letter_pair cd__letter_pair ct__letter_pair), sl__letter_pair⟩)
    (cc__letter_pair : PySem.W.codeIn K cd__letter_pair "_letter_pair" = true)
    (kk__letter_pair : PySem.W.keepIn K (.ref f__letter_pair) = true)
    {f__pair_at : Addr}
    {oc__pair_at kV__pair_at dc__pair_at pm__pair_at cd__pair_at ct__pair_at : Value}
    {od__pair_at an__pair_at : Option Addr}
    {sl__pair_at : Array (Option Value)}
    (a__pair_at : PySem.W.nsIn K mainGlobals "_pair_at" = some (some (.ref f__pair_at)))
    (l__pair_at : K.lookup f__pair_at = some ⟨oc__pair_at, od__pair_at, .func (PySem.W.fnOf "_pair_at" "_pair_at" (defArgs s__pair_at) (defBody s__pair_at) (defScope s__pair_at) .none kV__pair_at dc__pair_at pm__pair_at an__pair_at cd__pair_at ct__pair_at), sl__pair_at⟩)
    (cc__pair_at : PySem.W.codeIn K cd__pair_at "_pair_at" = true)
    (kk__pair_at : PySem.W.keepIn K (.ref f__pair_at) = true)
    {f_flipped : Addr}
    {oc_flipped kV_flipped dc_flipped pm_flipped cd_flipped ct_flipped : Value}
    {od_flipped an_flipped : Option Addr}
    {sl_flipped : Array (Option Value)}
    (a_flipped : PySem.W.nsIn K mainGlobals "flipped" = some (some (.ref f_flipped)))
    (l_flipped : K.lookup f_flipped = some ⟨oc_flipped, od_flipped, .func (PySem.W.fnOf "flipped" "flipped" (defArgs s_flipped) (defBody s_flipped) (defScope s_flipped) .none kV_flipped dc_flipped pm_flipped an_flipped cd_flipped ct_flipped), sl_flipped⟩)
    (cc_flipped : PySem.W.codeIn K cd_flipped "flipped" = true)
    (kk_flipped : PySem.W.keepIn K (.ref f_flipped) = true)
    {f_signed_relator : Addr}
    {oc_signed_relator kV_signed_relator dc_signed_relator pm_signed_relator cd_signed_relator ct_signed_relator : Value}
    {od_signed_relator an_signed_relator : Option Addr}
    {sl_signed_relator : Array (Option Value)}
    (a_signed_relator : PySem.W.nsIn K mainGlobals "signed_relator" = some (some (.ref f_signed_relator)))
    (l_signed_relator : K.lookup f_signed_relator = some ⟨oc_signed_relator, od_signed_relator, .func (PySem.W.fnOf "signed_relator" "signed_relator" (defArgs s_signed_relator) (defBody s_signed_relator) (defScope s_signed_relator) .none kV_signed_relator dc_signed_relator pm_signed_relator an_signed_relator cd_signed_relator ct_signed_relator), sl_signed_relator⟩)
    (cc_signed_relator : PySem.W.codeIn K cd_signed_relator "signed_relator" = true)
    (kk_signed_relator : PySem.W.keepIn K (.ref f_signed_relator) = true)
    {f_word_after : Addr}
    {oc_word_after kV_word_after dc_word_after pm_word_after cd_word_after ct_word_after : Value}
    {od_word_after an_word_after : Option Addr}
    {sl_word_after : Array (Option Value)}
    (a_word_after : PySem.W.nsIn K mainGlobals "word_after" = some (some (.ref f_word_after)))
    (l_word_after : K.lookup f_word_after = some ⟨oc_word_after, od_word_after, .func (PySem.W.fnOf "word_after" "word_after" (defArgs s_word_after) (defBody s_word_after) (defScope s_word_after) .none kV_word_after dc_word_after pm_word_after an_word_after cd_word_after ct_word_after), sl_word_after⟩)
    (cc_word_after : PySem.W.codeIn K cd_word_after "word_after" = true)
    (kk_word_after : PySem.W.keepIn K (.ref f_word_after) = true)
    {f__trail : Addr}
    {oc__trail kV__trail dc__trail pm__trail cd__trail ct__trail : Value}
    {od__trail an__trail : Option Addr}
    {sl__trail : Array (Option Value)}
    (a__trail : PySem.W.nsIn K mainGlobals "_trail" = some (some (.ref f__trail)))
    (l__trail : K.lookup f__trail = some ⟨oc__trail, od__trail, .func (PySem.W.fnOf "_trail" "_trail" (defArgs s__trail) (defBody s__trail) (defScope s__trail) .none kV__trail dc__trail pm__trail an__trail cd__trail ct__trail), sl__trail⟩)
    (cc__trail : PySem.W.codeIn K cd__trail "_trail" = true)
    (kk__trail : PySem.W.keepIn K (.ref f__trail) = true)
    {f_opposite_move : Addr}
    {oc_opposite_move kV_opposite_move dc_opposite_move pm_opposite_move cd_opposite_move ct_opposite_move : Value}
    {od_opposite_move an_opposite_move : Option Addr}
    {sl_opposite_move : Array (Option Value)}
    (a_opposite_move : PySem.W.nsIn K mainGlobals "opposite_move" = some (some (.ref f_opposite_move)))
    (l_opposite_move : K.lookup f_opposite_move = some ⟨oc_opposite_move, od_opposite_move, .func (PySem.W.fnOf "opposite_move" "opposite_move" (defArgs s_opposite_move) (defBody s_opposite_move) (defScope s_opposite_move) .none kV_opposite_move dc_opposite_move pm_opposite_move an_opposite_move cd_opposite_move ct_opposite_move), sl_opposite_move⟩)
    (cc_opposite_move : PySem.W.codeIn K cd_opposite_move "opposite_move" = true)
    (kk_opposite_move : PySem.W.keepIn K (.ref f_opposite_move) = true)
    {f__undone_moves : Addr}
    {oc__undone_moves kV__undone_moves dc__undone_moves pm__undone_moves cd__undone_moves ct__undone_moves : Value}
    {od__undone_moves an__undone_moves : Option Addr}
    {sl__undone_moves : Array (Option Value)}
    (a__undone_moves : PySem.W.nsIn K mainGlobals "_undone_moves" = some (some (.ref f__undone_moves)))
    (l__undone_moves : K.lookup f__undone_moves = some ⟨oc__undone_moves, od__undone_moves, .func (PySem.W.fnOf "_undone_moves" "_undone_moves" (defArgs s__undone_moves) (defBody s__undone_moves) (defScope s__undone_moves) .none kV__undone_moves dc__undone_moves pm__undone_moves an__undone_moves cd__undone_moves ct__undone_moves), sl__undone_moves⟩)
    (cc__undone_moves : PySem.W.codeIn K cd__undone_moves "_undone_moves" = true)
    (kk__undone_moves : PySem.W.keepIn K (.ref f__undone_moves) = true)
    {f_free_derivation : Addr}
    {oc_free_derivation kV_free_derivation dc_free_derivation pm_free_derivation cd_free_derivation ct_free_derivation : Value}
    {od_free_derivation an_free_derivation : Option Addr}
    {sl_free_derivation : Array (Option Value)}
    (a_free_derivation : PySem.W.nsIn K mainGlobals "free_derivation" = some (some (.ref f_free_derivation)))
    (l_free_derivation : K.lookup f_free_derivation = some ⟨oc_free_derivation, od_free_derivation, .func (PySem.W.fnOf "free_derivation" "free_derivation" (defArgs s_free_derivation) (defBody s_free_derivation) (defScope s_free_derivation) .none kV_free_derivation dc_free_derivation pm_free_derivation an_free_derivation cd_free_derivation ct_free_derivation), sl_free_derivation⟩)
    (cc_free_derivation : PySem.W.codeIn K cd_free_derivation "free_derivation" = true)
    (kk_free_derivation : PySem.W.keepIn K (.ref f_free_derivation) = true)
    {f__law_kind : Addr}
    {oc__law_kind kV__law_kind dc__law_kind pm__law_kind cd__law_kind ct__law_kind : Value}
    {od__law_kind an__law_kind : Option Addr}
    {sl__law_kind : Array (Option Value)}
    (a__law_kind : PySem.W.nsIn K mainGlobals "_law_kind" = some (some (.ref f__law_kind)))
    (l__law_kind : K.lookup f__law_kind = some ⟨oc__law_kind, od__law_kind, .func (PySem.W.fnOf "_law_kind" "_law_kind" (defArgs s__law_kind) (defBody s__law_kind) (defScope s__law_kind) .none kV__law_kind dc__law_kind pm__law_kind an__law_kind cd__law_kind ct__law_kind), sl__law_kind⟩)
    (cc__law_kind : PySem.W.codeIn K cd__law_kind "_law_kind" = true)
    (kk__law_kind : PySem.W.keepIn K (.ref f__law_kind) = true)
    {f__law_told : Addr}
    {oc__law_told kV__law_told dc__law_told pm__law_told cd__law_told ct__law_told : Value}
    {od__law_told an__law_told : Option Addr}
    {sl__law_told : Array (Option Value)}
    (a__law_told : PySem.W.nsIn K mainGlobals "_law_told" = some (some (.ref f__law_told)))
    (l__law_told : K.lookup f__law_told = some ⟨oc__law_told, od__law_told, .func (PySem.W.fnOf "_law_told" "_law_told" (defArgs s__law_told) (defBody s__law_told) (defScope s__law_told) .none kV__law_told dc__law_told pm__law_told an__law_told cd__law_told ct__law_told), sl__law_told⟩)
    (cc__law_told : PySem.W.codeIn K cd__law_told "_law_told" = true)
    (kk__law_told : PySem.W.keepIn K (.ref f__law_told) = true)
    {f_law : Addr}
    {oc_law kV_law dc_law pm_law cd_law ct_law : Value}
    {od_law an_law : Option Addr}
    {sl_law : Array (Option Value)}
    (a_law : PySem.W.nsIn K mainGlobals "law" = some (some (.ref f_law)))
    (l_law : K.lookup f_law = some ⟨oc_law, od_law, .func (PySem.W.fnOf "law" "law" (defArgs s_law) (defBody s_law) (defScope s_law) .none kV_law dc_law pm_law an_law cd_law ct_law), sl_law⟩)
    (cc_law : PySem.W.codeIn K cd_law "law" = true)
    (kk_law : PySem.W.keepIn K (.ref f_law) = true)
    (z_range : PySem.W.nsIn K mainGlobals "range" = some none)
    (z_int : PySem.W.nsIn K mainGlobals "int" = some none)
    (z_tuple : PySem.W.nsIn K mainGlobals "tuple" = some none)
    (z_len : PySem.W.nsIn K mainGlobals "len" = some none)
    {C_NotWord : Addr}
    (e_NotWord : PySem.W.nsIn K mainGlobals "NotWord" = some (some (.ref C_NotWord)))
    (ex_NotWord : PySem.W.excIn K C_NotWord [.type "ValueError", .type "Exception", .type "BaseException", .type "object"] "ValueError.__new__" = true)
    (ek_NotWord : PySem.W.keepIn K (.ref C_NotWord) = true)
    (eb_NotWord : PySem.W.subIn K (.ref C_NotWord) (.type "BaseException") = some true)
    (et_NotWord : PySem.W.typeIn K (.ref C_NotWord) = some (.type "type"))
    {t_MOST_GENERATORS : Tok}
    (v_MOST_GENERATORS : PySem.W.nsIn K mainGlobals "MOST_GENERATORS" = some (some (.int 3 t_MOST_GENERATORS)))
    {C_BadNumber : Addr}
    (e_BadNumber : PySem.W.nsIn K mainGlobals "BadNumber" = some (some (.ref C_BadNumber)))
    (ex_BadNumber : PySem.W.excIn K C_BadNumber [.type "ValueError", .type "Exception", .type "BaseException", .type "object"] "ValueError.__new__" = true)
    (ek_BadNumber : PySem.W.keepIn K (.ref C_BadNumber) = true)
    (eb_BadNumber : PySem.W.subIn K (.ref C_BadNumber) (.type "BaseException") = some true)
    (et_BadNumber : PySem.W.typeIn K (.ref C_BadNumber) = some (.type "type"))
    {t_LETTERS : Tok}
    (v_LETTERS : PySem.W.nsIn K mainGlobals "LETTERS" = some (some (.str "aAbBcC" t_LETTERS)))
    (z_all : PySem.W.nsIn K mainGlobals "all" = some none)
    {t_LONGEST_RELATOR : Tok}
    (v_LONGEST_RELATOR : PySem.W.nsIn K mainGlobals "LONGEST_RELATOR" = some (some (.int 20 t_LONGEST_RELATOR)))
    {t_MOST_RELATORS : Tok}
    (v_MOST_RELATORS : PySem.W.nsIn K mainGlobals "MOST_RELATORS" = some (some (.int 8 t_MOST_RELATORS)))
    {C_NotPresentation : Addr}
    (e_NotPresentation : PySem.W.nsIn K mainGlobals "NotPresentation" = some (some (.ref C_NotPresentation)))
    (ex_NotPresentation : PySem.W.excIn K C_NotPresentation [.type "ValueError", .type "Exception", .type "BaseException", .type "object"] "ValueError.__new__" = true)
    (ek_NotPresentation : PySem.W.keepIn K (.ref C_NotPresentation) = true)
    (eb_NotPresentation : PySem.W.subIn K (.ref C_NotPresentation) (.type "BaseException") = some true)
    (et_NotPresentation : PySem.W.typeIn K (.ref C_NotPresentation) = some (.type "type"))
    {t_LONGEST_WORD : Tok}
    (v_LONGEST_WORD : PySem.W.nsIn K mainGlobals "LONGEST_WORD" = some (some (.int 200 t_LONGEST_WORD)))
    (z_enumerate : PySem.W.nsIn K mainGlobals "enumerate" = some none)
    {C_BadMove : Addr}
    (e_BadMove : PySem.W.nsIn K mainGlobals "BadMove" = some (some (.ref C_BadMove)))
    (ek_BadMove : PySem.W.keepIn K (.ref C_BadMove) = true)
    (eb_BadMove : PySem.W.subIn K (.ref C_BadMove) (.type "BaseException") = some true)
    (et_BadMove : PySem.W.typeIn K (.ref C_BadMove) = some (.type "type"))
    {nm_BadMove q_BadMove : Str}
    {N_BadMove : Addr}
    {bs_BadMove bm_BadMove sub_BadMove : List Value}
    {sn_BadMove : List Str}
    {ab_BadMove : Bool}
    {col_BadMove : Option Bool}
    {dd_BadMove : Option Addr}
    {m0_BadMove m1_BadMove m2_BadMove m3_BadMove m5_BadMove : Option Value}
    (oo_BadMove : K.lookup C_BadMove = some (excClassObj nm_BadMove q_BadMove C_BadMove N_BadMove bs_BadMove bm_BadMove true sn_BadMove sub_BadMove ab_BadMove col_BadMove dd_BadMove m0_BadMove m1_BadMove m2_BadMove m3_BadMove m5_BadMove "ValueError.__new__"))
    (rv_BadMove : PySem.HandSPX.refsVE bm_BadMove = true)
    (sa_BadMove : PySem.W.findIn K (.ref C_BadMove) "__setattr__" = some (some (.builtin "object.__setattr__")))
    (xg_BadMove : PySem.W.findIn K (.ref C_BadMove) "__getattribute__" = some (some (.builtin "BaseException.__getattribute__")))
    (xa_BadMove : PySem.W.findIn K (.ref C_BadMove) "__getattr__" = some none)
    (xd_BadMove : PySem.W.hasDictIn K C_BadMove = true)
    (no_BadMove : PySem.W.findIn K (.ref C_BadMove) "at" = some none)
    {f_i_BadMove : Addr}
    {oc_i_BadMove kV_i_BadMove dc_i_BadMove pm_i_BadMove cd_i_BadMove ct_i_BadMove : Value}
    {od_i_BadMove an_i_BadMove : Option Addr}
    {sl_i_BadMove : Array (Option Value)}
    (iC_BadMove : PySem.W.findIn K (.ref C_BadMove) "__init__" = some (some (.ref f_i_BadMove)))
    (tI_BadMove : PySem.W.typeIn K (.ref f_i_BadMove) = some (.type "function"))
    (l_i_BadMove : K.lookup f_i_BadMove = some ⟨oc_i_BadMove, od_i_BadMove, .func (PySem.W.fnOf "__init__" "BadMove.__init__" (defArgs s_i_BadMove) (defBody s_i_BadMove) (defScope s_i_BadMove) .none kV_i_BadMove dc_i_BadMove pm_i_BadMove an_i_BadMove cd_i_BadMove ct_i_BadMove), sl_i_BadMove⟩)
    (cc_i_BadMove : PySem.W.codeIn K cd_i_BadMove "BadMove.__init__" = true)
    (kk_i_BadMove : PySem.W.keepIn K (.ref f_i_BadMove) = true)
    (z_isinstance : PySem.W.nsIn K mainGlobals "isinstance" = some none)
    (z_list : PySem.W.nsIn K mainGlobals "list" = some none)
    {C_CayleyError : Addr}
    (e_CayleyError : PySem.W.nsIn K mainGlobals "CayleyError" = some (some (.ref C_CayleyError)))
    (ex_CayleyError : PySem.W.excIn K C_CayleyError [.type "ValueError", .type "Exception", .type "BaseException", .type "object"] "ValueError.__new__" = true)
    (ek_CayleyError : PySem.W.keepIn K (.ref C_CayleyError) = true)
    (eb_CayleyError : PySem.W.subIn K (.ref C_CayleyError) (.type "BaseException") = some true)
    (et_CayleyError : PySem.W.typeIn K (.ref C_CayleyError) = some (.type "type"))
    (eh_CayleyError : PySem.W.hasDictIn K C_CayleyError = true)
    (es_NotWord_CayleyError : PySem.W.subIn K (.ref C_NotWord) (.ref C_CayleyError) = some true)
    (es_BadNumber_CayleyError : PySem.W.subIn K (.ref C_BadNumber) (.ref C_CayleyError) = some true)
    (es_NotPresentation_CayleyError : PySem.W.subIn K (.ref C_NotPresentation) (.ref C_CayleyError) = some true)
    (es_BadMove_CayleyError : PySem.W.subIn K (.ref C_BadMove) (.ref C_CayleyError) = some true)
    (ig_NotWord : PySem.W.findIn K (.ref C_NotWord) "__getattribute__" = some (some (.builtin "BaseException.__getattribute__")))
    (ik_NotWord : PySem.W.findIn K (.ref C_NotWord) "__getattr__" = some none)
    (id_NotWord : PySem.W.hasDictIn K C_NotWord = true)
    (ia_NotWord : PySem.W.findIn K (.ref C_NotWord) "__class__" = some (some (.builtin "object.__class__")))
    (im_NotWord : PySem.W.mroIn K C_NotWord (.type "object") = some true)
    (in_ : PySem.W.specialIn K (.builtin "object.__class__") "__get__" = some (some (.builtin "getset_descriptor.__get__")))
    (it_ : PySem.W.takesIn K (.builtin "object.__class__") = some true)
    (ig_BadNumber : PySem.W.findIn K (.ref C_BadNumber) "__getattribute__" = some (some (.builtin "BaseException.__getattribute__")))
    (ik_BadNumber : PySem.W.findIn K (.ref C_BadNumber) "__getattr__" = some none)
    (id_BadNumber : PySem.W.hasDictIn K C_BadNumber = true)
    (ia_BadNumber : PySem.W.findIn K (.ref C_BadNumber) "__class__" = some (some (.builtin "object.__class__")))
    (im_BadNumber : PySem.W.mroIn K C_BadNumber (.type "object") = some true)
    (ig_NotPresentation : PySem.W.findIn K (.ref C_NotPresentation) "__getattribute__" = some (some (.builtin "BaseException.__getattribute__")))
    (ik_NotPresentation : PySem.W.findIn K (.ref C_NotPresentation) "__getattr__" = some none)
    (id_NotPresentation : PySem.W.hasDictIn K C_NotPresentation = true)
    (ia_NotPresentation : PySem.W.findIn K (.ref C_NotPresentation) "__class__" = some (some (.builtin "object.__class__")))
    (im_NotPresentation : PySem.W.mroIn K C_NotPresentation (.type "object") = some true)
    (ig_BadMove : PySem.W.findIn K (.ref C_BadMove) "__getattribute__" = some (some (.builtin "BaseException.__getattribute__")))
    (ik_BadMove : PySem.W.findIn K (.ref C_BadMove) "__getattr__" = some none)
    (id_BadMove : PySem.W.hasDictIn K C_BadMove = true)
    (ia_BadMove : PySem.W.findIn K (.ref C_BadMove) "__class__" = some (some (.builtin "object.__class__")))
    (im_BadMove : PySem.W.mroIn K C_BadMove (.type "object") = some true)
    {D_NotPresentation : Addr}
    (iq_NotPresentation : PySem.W.nsIn K mainGlobals "NotPresentation" = some (some (.ref D_NotPresentation)))
    (ic_NotPresentation : PySem.W.hasDictIn K D_NotPresentation = true)
    (iy_NotPresentation : PySem.W.typeIn K (.ref D_NotPresentation) = some (.type "type"))
    (in_NotWord_NotPresentation : (C_NotWord == D_NotPresentation) = false)
    (iw_NotWord_NotPresentation : PySem.W.subIn K (.ref C_NotWord) (.ref D_NotPresentation) = some false)
    (in_BadNumber_NotPresentation : (C_BadNumber == D_NotPresentation) = false)
    (iw_BadNumber_NotPresentation : PySem.W.subIn K (.ref C_BadNumber) (.ref D_NotPresentation) = some false)
    (in_BadMove_NotPresentation : (C_BadMove == D_NotPresentation) = false)
    (iw_BadMove_NotPresentation : PySem.W.subIn K (.ref C_BadMove) (.ref D_NotPresentation) = some false)
    {D_NotWord : Addr}
    (iq_NotWord : PySem.W.nsIn K mainGlobals "NotWord" = some (some (.ref D_NotWord)))
    (ic_NotWord : PySem.W.hasDictIn K D_NotWord = true)
    (iy_NotWord : PySem.W.typeIn K (.ref D_NotWord) = some (.type "type"))
    (in_BadNumber_NotWord : (C_BadNumber == D_NotWord) = false)
    (iw_BadNumber_NotWord : PySem.W.subIn K (.ref C_BadNumber) (.ref D_NotWord) = some false)
    (in_NotPresentation_NotWord : (C_NotPresentation == D_NotWord) = false)
    (iw_NotPresentation_NotWord : PySem.W.subIn K (.ref C_NotPresentation) (.ref D_NotWord) = some false)
    (in_BadMove_NotWord : (C_BadMove == D_NotWord) = false)
    (iw_BadMove_NotWord : PySem.W.subIn K (.ref C_BadMove) (.ref D_NotWord) = some false)
    {D_BadMove : Addr}
    (iq_BadMove : PySem.W.nsIn K mainGlobals "BadMove" = some (some (.ref D_BadMove)))
    (ic_BadMove : PySem.W.hasDictIn K D_BadMove = true)
    (iy_BadMove : PySem.W.typeIn K (.ref D_BadMove) = some (.type "type"))
    (in_NotWord_BadMove : (C_NotWord == D_BadMove) = false)
    (iw_NotWord_BadMove : PySem.W.subIn K (.ref C_NotWord) (.ref D_BadMove) = some false)
    (in_BadNumber_BadMove : (C_BadNumber == D_BadMove) = false)
    (iw_BadNumber_BadMove : PySem.W.subIn K (.ref C_BadNumber) (.ref D_BadMove) = some false)
    (in_NotPresentation_BadMove : (C_NotPresentation == D_BadMove) = false)
    (iw_NotPresentation_BadMove : PySem.W.subIn K (.ref C_NotPresentation) (.ref D_BadMove) = some false)
    {D_BadNumber : Addr}
    (iq_BadNumber : PySem.W.nsIn K mainGlobals "BadNumber" = some (some (.ref D_BadNumber)))
    (ic_BadNumber : PySem.W.hasDictIn K D_BadNumber = true)
    (iy_BadNumber : PySem.W.typeIn K (.ref D_BadNumber) = some (.type "type"))
    (in_NotWord_BadNumber : (C_NotWord == D_BadNumber) = false)
    (iw_NotWord_BadNumber : PySem.W.subIn K (.ref C_NotWord) (.ref D_BadNumber) = some false)
    (in_NotPresentation_BadNumber : (C_NotPresentation == D_BadNumber) = false)
    (iw_NotPresentation_BadNumber : PySem.W.subIn K (.ref C_NotPresentation) (.ref D_BadNumber) = some false)
    (in_BadMove_BadNumber : (C_BadMove == D_BadNumber) = false)
    (iw_BadMove_BadNumber : PySem.W.subIn K (.ref C_BadMove) (.ref D_BadNumber) = some false)
    {D_CayleyError : Addr}
    (iq_CayleyError : PySem.W.nsIn K mainGlobals "CayleyError" = some (some (.ref D_CayleyError)))
    (ic_CayleyError : PySem.W.hasDictIn K D_CayleyError = true)
    (iy_CayleyError : PySem.W.typeIn K (.ref D_CayleyError) = some (.type "type"))
    (in_NotWord_CayleyError : (C_NotWord == D_CayleyError) = false)
    (iw_NotWord_CayleyError : PySem.W.subIn K (.ref C_NotWord) (.ref D_CayleyError) = some true)
    (in_BadNumber_CayleyError : (C_BadNumber == D_CayleyError) = false)
    (iw_BadNumber_CayleyError : PySem.W.subIn K (.ref C_BadNumber) (.ref D_CayleyError) = some true)
    (in_NotPresentation_CayleyError : (C_NotPresentation == D_CayleyError) = false)
    (iw_NotPresentation_CayleyError : PySem.W.subIn K (.ref C_NotPresentation) (.ref D_CayleyError) = some true)
    (in_BadMove_CayleyError : (C_BadMove == D_CayleyError) = false)
    (iw_BadMove_CayleyError : PySem.W.subIn K (.ref C_BadMove) (.ref D_CayleyError) = some true)
    {d_INVERSES : Addr}
    {es_INVERSES : Array DictEntry}
    {n_INVERSES : Nat}
    (g_INVERSES : PySem.W.nsIn K mainGlobals "INVERSES" = some (some (.ref d_INVERSES)))
    (tl_INVERSES : K.lookup d_INVERSES = some ⟨.type "dict", none, .dict es_INVERSES n_INVERSES, #[]⟩)
    (tk_INVERSES : PySem.W.KeysLit w.params es_INVERSES.toList)
    (tw_INVERSES : (d_INVERSES == sysModules) = false)
    (tt_INVERSES : TabIs es_INVERSES.toList tb_INVERSES) :
    LawRun P w K mg fa m_law := by
  have e := hfa.symm.trans (PySem.W.mg_of X G a_law)
  cases e
  have X_NotWord : ExcF K mg "NotWord" C_NotWord := ⟨PySem.W.mg_of X G e_NotWord, ex_NotWord, ek_NotWord, eb_NotWord, et_NotWord⟩
  have X_BadNumber : ExcF K mg "BadNumber" C_BadNumber := ⟨PySem.W.mg_of X G e_BadNumber, ex_BadNumber, ek_BadNumber, eb_BadNumber, et_BadNumber⟩
  have X_NotPresentation : ExcF K mg "NotPresentation" C_NotPresentation := ⟨PySem.W.mg_of X G e_NotPresentation, ex_NotPresentation, ek_NotPresentation, eb_NotPresentation, et_NotPresentation⟩
  have O_BadMove : OexC K C_BadMove := ⟨⟨_, _, _, _, _, _, _, _, _, _, _, _, _, _, _, oo_BadMove, rv_BadMove⟩, sa_BadMove, eb_BadMove, et_BadMove, ek_BadMove⟩
  have X_BadMove : ExcI P w K mg "BadMove" C_BadMove "at" := ⟨PySem.W.mg_of X G e_BadMove, O_BadMove, fun base => ⟨_, _, iC_BadMove, tI_BadMove, ini_BadMove O_BadMove no_BadMove (fun_mk (st := s_i_BadMove) l_i_BadMove cc_i_BadMove kk_i_BadMove), (fun_mk (st := s_i_BadMove) l_i_BadMove cc_i_BadMove kk_i_BadMove).binds (fun _ _ _ _ _ _ us hl => match us, hl with | [_, _], _ => rfl)⟩, eb_BadMove, ⟨xg_BadMove, xa_BadMove, eb_BadMove, xd_BadMove⟩, no_BadMove⟩
  have X_CayleyError : ExcF K mg "CayleyError" C_CayleyError := ⟨PySem.W.mg_of X G e_CayleyError, ex_CayleyError, ek_CayleyError, eb_CayleyError, et_CayleyError⟩
  have K_CayleyError : CatchF K mg "CayleyError" C_CayleyError k_sub := ⟨catch_of (l := [("NotWord", true), ("BadNumber", true), ("NotPresentation", true), ("BadMove", true)]) X_CayleyError.g (fun _ => rfl) (look_cons ⟨_, X_NotWord.g, PySem.W.exm_ref eb_CayleyError eh_CayleyError et_CayleyError es_NotWord_CayleyError⟩ (look_cons ⟨_, X_BadNumber.g, PySem.W.exm_ref eb_CayleyError eh_CayleyError et_CayleyError es_BadNumber_CayleyError⟩ (look_cons ⟨_, X_NotPresentation.g, PySem.W.exm_ref eb_CayleyError eh_CayleyError et_CayleyError es_NotPresentation_CayleyError⟩ (look_cons ⟨_, X_BadMove.g, PySem.W.exm_ref eb_CayleyError eh_CayleyError et_CayleyError es_BadMove_CayleyError⟩ look_nil))))⟩
  have T_INVERSES : Tab K w d_INVERSES tb_INVERSES := tab_of tl_INVERSES tk_INVERSES tw_INVERSES tt_INVERSES
  have Q_NotPresentation : C_NotPresentation = D_NotPresentation := by
    have e := X_NotPresentation.g.symm.trans (PySem.W.mg_of X G iq_NotPresentation)
    cases e
    rfl
  have I_NotPresentation : IsX K mg (.ref D_NotPresentation) (k_isx "NotPresentation") := isx_of (l := [("NotWord", false), ("BadNumber", false), ("NotPresentation", true), ("BadMove", false)]) (fun _ => rfl) (look_cons ⟨_, X_NotWord.g, ⟨ig_NotWord, ik_NotWord, X_NotWord.sb, id_NotWord, ia_NotWord, in_, it_, im_NotWord⟩, (kit_excR in_NotWord_NotPresentation (by obtain ⟨cd, hcd, _⟩ := PySem.W.any_some ic_NotPresentation; rw [hcd]; rfl) iy_NotPresentation iw_NotWord_NotPresentation)⟩ (look_cons ⟨_, X_BadNumber.g, ⟨ig_BadNumber, ik_BadNumber, X_BadNumber.sb, id_BadNumber, ia_BadNumber, in_, it_, im_BadNumber⟩, (kit_excR in_BadNumber_NotPresentation (by obtain ⟨cd, hcd, _⟩ := PySem.W.any_some ic_NotPresentation; rw [hcd]; rfl) iy_NotPresentation iw_BadNumber_NotPresentation)⟩ (look_cons ⟨_, X_NotPresentation.g, ⟨ig_NotPresentation, ik_NotPresentation, X_NotPresentation.sb, id_NotPresentation, ia_NotPresentation, in_, it_, im_NotPresentation⟩, (by rw [← Q_NotPresentation]; exact kit_excS)⟩ (look_cons ⟨_, X_BadMove.g, ⟨ig_BadMove, ik_BadMove, X_BadMove.sb, id_BadMove, ia_BadMove, in_, it_, im_BadMove⟩, (kit_excR in_BadMove_NotPresentation (by obtain ⟨cd, hcd, _⟩ := PySem.W.any_some ic_NotPresentation; rw [hcd]; rfl) iy_NotPresentation iw_BadMove_NotPresentation)⟩ look_nil))))
  have Q_NotWord : C_NotWord = D_NotWord := by
    have e := X_NotWord.g.symm.trans (PySem.W.mg_of X G iq_NotWord)
    cases e
    rfl
  have I_NotWord : IsX K mg (.ref D_NotWord) (k_isx "NotWord") := isx_of (l := [("NotWord", true), ("BadNumber", false), ("NotPresentation", false), ("BadMove", false)]) (fun _ => rfl) (look_cons ⟨_, X_NotWord.g, ⟨ig_NotWord, ik_NotWord, X_NotWord.sb, id_NotWord, ia_NotWord, in_, it_, im_NotWord⟩, (by rw [← Q_NotWord]; exact kit_excS)⟩ (look_cons ⟨_, X_BadNumber.g, ⟨ig_BadNumber, ik_BadNumber, X_BadNumber.sb, id_BadNumber, ia_BadNumber, in_, it_, im_BadNumber⟩, (kit_excR in_BadNumber_NotWord (by obtain ⟨cd, hcd, _⟩ := PySem.W.any_some ic_NotWord; rw [hcd]; rfl) iy_NotWord iw_BadNumber_NotWord)⟩ (look_cons ⟨_, X_NotPresentation.g, ⟨ig_NotPresentation, ik_NotPresentation, X_NotPresentation.sb, id_NotPresentation, ia_NotPresentation, in_, it_, im_NotPresentation⟩, (kit_excR in_NotPresentation_NotWord (by obtain ⟨cd, hcd, _⟩ := PySem.W.any_some ic_NotWord; rw [hcd]; rfl) iy_NotWord iw_NotPresentation_NotWord)⟩ (look_cons ⟨_, X_BadMove.g, ⟨ig_BadMove, ik_BadMove, X_BadMove.sb, id_BadMove, ia_BadMove, in_, it_, im_BadMove⟩, (kit_excR in_BadMove_NotWord (by obtain ⟨cd, hcd, _⟩ := PySem.W.any_some ic_NotWord; rw [hcd]; rfl) iy_NotWord iw_BadMove_NotWord)⟩ look_nil))))
  have Q_BadMove : C_BadMove = D_BadMove := by
    have e := X_BadMove.g.symm.trans (PySem.W.mg_of X G iq_BadMove)
    cases e
    rfl
  have I_BadMove : IsX K mg (.ref D_BadMove) (k_isx "BadMove") := isx_of (l := [("NotWord", false), ("BadNumber", false), ("NotPresentation", false), ("BadMove", true)]) (fun _ => rfl) (look_cons ⟨_, X_NotWord.g, ⟨ig_NotWord, ik_NotWord, X_NotWord.sb, id_NotWord, ia_NotWord, in_, it_, im_NotWord⟩, (kit_excR in_NotWord_BadMove (by obtain ⟨cd, hcd, _⟩ := PySem.W.any_some ic_BadMove; rw [hcd]; rfl) iy_BadMove iw_NotWord_BadMove)⟩ (look_cons ⟨_, X_BadNumber.g, ⟨ig_BadNumber, ik_BadNumber, X_BadNumber.sb, id_BadNumber, ia_BadNumber, in_, it_, im_BadNumber⟩, (kit_excR in_BadNumber_BadMove (by obtain ⟨cd, hcd, _⟩ := PySem.W.any_some ic_BadMove; rw [hcd]; rfl) iy_BadMove iw_BadNumber_BadMove)⟩ (look_cons ⟨_, X_NotPresentation.g, ⟨ig_NotPresentation, ik_NotPresentation, X_NotPresentation.sb, id_NotPresentation, ia_NotPresentation, in_, it_, im_NotPresentation⟩, (kit_excR in_NotPresentation_BadMove (by obtain ⟨cd, hcd, _⟩ := PySem.W.any_some ic_BadMove; rw [hcd]; rfl) iy_BadMove iw_NotPresentation_BadMove)⟩ (look_cons ⟨_, X_BadMove.g, ⟨ig_BadMove, ik_BadMove, X_BadMove.sb, id_BadMove, ia_BadMove, in_, it_, im_BadMove⟩, (by rw [← Q_BadMove]; exact kit_excS)⟩ look_nil))))
  have Q_BadNumber : C_BadNumber = D_BadNumber := by
    have e := X_BadNumber.g.symm.trans (PySem.W.mg_of X G iq_BadNumber)
    cases e
    rfl
  have I_BadNumber : IsX K mg (.ref D_BadNumber) (k_isx "BadNumber") := isx_of (l := [("NotWord", false), ("BadNumber", true), ("NotPresentation", false), ("BadMove", false)]) (fun _ => rfl) (look_cons ⟨_, X_NotWord.g, ⟨ig_NotWord, ik_NotWord, X_NotWord.sb, id_NotWord, ia_NotWord, in_, it_, im_NotWord⟩, (kit_excR in_NotWord_BadNumber (by obtain ⟨cd, hcd, _⟩ := PySem.W.any_some ic_BadNumber; rw [hcd]; rfl) iy_BadNumber iw_NotWord_BadNumber)⟩ (look_cons ⟨_, X_BadNumber.g, ⟨ig_BadNumber, ik_BadNumber, X_BadNumber.sb, id_BadNumber, ia_BadNumber, in_, it_, im_BadNumber⟩, (by rw [← Q_BadNumber]; exact kit_excS)⟩ (look_cons ⟨_, X_NotPresentation.g, ⟨ig_NotPresentation, ik_NotPresentation, X_NotPresentation.sb, id_NotPresentation, ia_NotPresentation, in_, it_, im_NotPresentation⟩, (kit_excR in_NotPresentation_BadNumber (by obtain ⟨cd, hcd, _⟩ := PySem.W.any_some ic_BadNumber; rw [hcd]; rfl) iy_BadNumber iw_NotPresentation_BadNumber)⟩ (look_cons ⟨_, X_BadMove.g, ⟨ig_BadMove, ik_BadMove, X_BadMove.sb, id_BadMove, ia_BadMove, in_, it_, im_BadMove⟩, (kit_excR in_BadMove_BadNumber (by obtain ⟨cd, hcd, _⟩ := PySem.W.any_some ic_BadNumber; rw [hcd]; rfl) iy_BadNumber iw_BadMove_BadNumber)⟩ look_nil))))
  have I_CayleyError : IsX K mg (.ref D_CayleyError) (k_isx "CayleyError") := isx_of (l := [("NotWord", true), ("BadNumber", true), ("NotPresentation", true), ("BadMove", true)]) (fun _ => rfl) (look_cons ⟨_, X_NotWord.g, ⟨ig_NotWord, ik_NotWord, X_NotWord.sb, id_NotWord, ia_NotWord, in_, it_, im_NotWord⟩, (kit_excR in_NotWord_CayleyError (by obtain ⟨cd, hcd, _⟩ := PySem.W.any_some ic_CayleyError; rw [hcd]; rfl) iy_CayleyError iw_NotWord_CayleyError)⟩ (look_cons ⟨_, X_BadNumber.g, ⟨ig_BadNumber, ik_BadNumber, X_BadNumber.sb, id_BadNumber, ia_BadNumber, in_, it_, im_BadNumber⟩, (kit_excR in_BadNumber_CayleyError (by obtain ⟨cd, hcd, _⟩ := PySem.W.any_some ic_CayleyError; rw [hcd]; rfl) iy_CayleyError iw_BadNumber_CayleyError)⟩ (look_cons ⟨_, X_NotPresentation.g, ⟨ig_NotPresentation, ik_NotPresentation, X_NotPresentation.sb, id_NotPresentation, ia_NotPresentation, in_, it_, im_NotPresentation⟩, (kit_excR in_NotPresentation_CayleyError (by obtain ⟨cd, hcd, _⟩ := PySem.W.any_some ic_CayleyError; rw [hcd]; rfl) iy_CayleyError iw_NotPresentation_CayleyError)⟩ (look_cons ⟨_, X_BadMove.g, ⟨ig_BadMove, ik_BadMove, X_BadMove.sb, id_BadMove, ia_BadMove, in_, it_, im_BadMove⟩, (kit_excR in_BadMove_CayleyError (by obtain ⟨cd, hcd, _⟩ := PySem.W.any_some ic_CayleyError; rw [hcd]; rfl) iy_CayleyError iw_BadMove_CayleyError)⟩ look_nil))))
  have D__law_number : ∀ base : Heap, Def P w K mg base "_law_number" ["cell"] 1 m__law_number := fun base => ok__law_number (P := P) (w := w) (base := base) ⟨_, _, fun_mk (st := s__law_number) l__law_number cc__law_number kk__law_number, PySem.W.mg_of X G a__law_number⟩ 
  have D__law_draws : ∀ base : Heap, DefN P w K mg base "_law_draws" ["script"] 2 m__law_draws := fun base => ok__law_draws (P := P) (w := w) (base := base) ⟨_, _, fun_mk (st := s__law_draws) l__law_draws cc__law_draws kk__law_draws, PySem.W.mg_of X G a__law_draws⟩ (D__law_number base) (PySem.W.mg_none_of X G z_range) (PySem.W.mg_none_of X G z_int)
  have D__law_next : ∀ base : Heap, DefR P w K mg base "_law_next" ["draws"] 1 0 m__law_next := fun base => ok__law_next (P := P) (w := w) (base := base) ⟨_, _, fun_mk (st := s__law_next) l__law_next cc__law_next kk__law_next, PySem.W.mg_of X G a__law_next⟩ 
  have D__law_word : ∀ base : Heap, DefR P w K mg base "_law_word" ["draws", "gens", "most"] 2 2 m__law_word := fun base => ok__law_word (P := P) (w := w) (base := base) ⟨_, _, fun_mk (st := s__law_word) l__law_word cc__law_word kk__law_word, PySem.W.mg_of X G a__law_word⟩ (D__law_next base) (PySem.W.mg_none_of X G z_int) (PySem.W.mg_none_of X G z_range)
  have D__law_presentation : ∀ base : Heap, DefR P w K mg base "_law_presentation" ["draws"] 3 0 m__law_presentation := fun base => ok__law_presentation (P := P) (w := w) (base := base) ⟨_, _, fun_mk (st := s__law_presentation) l__law_presentation cc__law_presentation kk__law_presentation, PySem.W.mg_of X G a__law_presentation⟩ (D__law_next base) (PySem.W.mg_none_of X G z_int) (PySem.W.mg_none_of X G z_range) (D__law_word base) (PySem.W.mg_none_of X G z_tuple)
  have D__law_swap : ∀ base : Heap, Def P w K mg base "_law_swap" ["letter"] 1 m__law_swap := fun base => ok__law_swap (P := P) (w := w) (base := base) ⟨_, _, fun_mk (st := s__law_swap) l__law_swap cc__law_swap kk__law_swap, PySem.W.mg_of X G a__law_swap⟩ 
  have D__law_padded : ∀ base : Heap, DefR P w K mg base "_law_padded" ["draws", "gens", "word"] 2 2 m__law_padded := fun base => ok__law_padded (P := P) (w := w) (base := base) ⟨_, _, fun_mk (st := s__law_padded) l__law_padded cc__law_padded kk__law_padded, PySem.W.mg_of X G a__law_padded⟩ (D__law_next base) (PySem.W.mg_none_of X G z_int) (PySem.W.mg_none_of X G z_range) (PySem.W.mg_none_of X G z_len) (D__law_swap base)
  have D__law_cuts : ∀ base : Heap, Def P w K mg base "_law_cuts" ["word"] 2 m__law_cuts := fun base => ok__law_cuts (P := P) (w := w) (base := base) ⟨_, _, fun_mk (st := s__law_cuts) l__law_cuts cc__law_cuts kk__law_cuts, PySem.W.mg_of X G a__law_cuts⟩ (PySem.W.mg_none_of X G z_len) (PySem.W.mg_none_of X G z_range) (D__law_swap base)
  have D_inverse_letter : ∀ base : Heap, Def P w K mg base "inverse_letter" ["letter"] 1 m_inverse_letter := fun base => ok_inverse_letter (P := P) (w := w) (base := base) ⟨_, _, fun_mk (st := s_inverse_letter) l_inverse_letter cc_inverse_letter kk_inverse_letter, PySem.W.mg_of X G a_inverse_letter⟩ (PySem.W.mg_of X G g_INVERSES) T_INVERSES X_NotWord
  have D_cuts : ∀ base : Heap, Def P w K mg base "cuts" ["word"] 2 m_cuts := fun base => ok_cuts (P := P) (w := w) (base := base) ⟨_, _, fun_mk (st := s_cuts) l_cuts cc_cuts kk_cuts, PySem.W.mg_of X G a_cuts⟩ (D_inverse_letter base) (PySem.W.mg_none_of X G z_len)
  have D_letters_of : ∀ base : Heap, Def P w K mg base "letters_of" ["g"] 1 m_letters_of := fun base => ok_letters_of (P := P) (w := w) (base := base) ⟨_, _, fun_mk (st := s_letters_of) l_letters_of cc_letters_of kk_letters_of, PySem.W.mg_of X G a_letters_of⟩ (PySem.W.mg_of X G v_MOST_GENERATORS) X_BadNumber (PySem.W.mg_of X G v_LETTERS)
  have D_is_word : ∀ base : Heap, Def P w K mg base "is_word" ["g", "text"] 2 m_is_word := fun base => ok_is_word (P := P) (w := w) (base := base) ⟨_, _, fun_mk (st := s_is_word) l_is_word cc_is_word kk_is_word, PySem.W.mg_of X G a_is_word⟩ (D_letters_of base) (PySem.W.mg_none_of X G z_all)
  have D__is_relator : ∀ base : Heap, Def P w K mg base "_is_relator" ["gens", "text"] 3 m__is_relator := fun base => ok__is_relator (P := P) (w := w) (base := base) ⟨_, _, fun_mk (st := s__is_relator) l__is_relator cc__is_relator kk__is_relator, PySem.W.mg_of X G a__is_relator⟩ (PySem.W.mg_none_of X G z_len) (PySem.W.mg_of X G v_LONGEST_RELATOR) (D_is_word base)
  have D_is_presentation : ∀ base : Heap, Def P w K mg base "is_presentation" ["value"] 4 m_is_presentation := fun base => ok_is_presentation (P := P) (w := w) (base := base) ⟨_, _, fun_mk (st := s_is_presentation) l_is_presentation cc_is_presentation kk_is_presentation, PySem.W.mg_of X G a_is_presentation⟩ (PySem.W.mg_of X G v_MOST_GENERATORS) (PySem.W.mg_none_of X G z_len) (PySem.W.mg_of X G v_MOST_RELATORS) (D__is_relator base) (PySem.W.mg_none_of X G z_all)
  have D_check_presentation : ∀ base : Heap, Def P w K mg base "check_presentation" ["presentation"] 5 m_check_presentation := fun base => ok_check_presentation (P := P) (w := w) (base := base) ⟨_, _, fun_mk (st := s_check_presentation) l_check_presentation cc_check_presentation kk_check_presentation, PySem.W.mg_of X G a_check_presentation⟩ (D_is_presentation base) X_NotPresentation
  have D_check_words : ∀ base : Heap, Def P w K mg base "check_words" ["presentation", "words"] 6 m_check_words := fun base => ok_check_words (P := P) (w := w) (base := base) ⟨_, _, fun_mk (st := s_check_words) l_check_words cc_check_words kk_check_words, PySem.W.mg_of X G a_check_words⟩ (D_check_presentation base) (D_is_word base) X_NotWord (PySem.W.mg_none_of X G z_len) (PySem.W.mg_of X G v_LONGEST_WORD)
  have D__with : ∀ base : Heap, Def P w K mg base "_with" ["word", "at", "text"] 1 m__with := fun base => ok__with (P := P) (w := w) (base := base) ⟨_, _, fun_mk (st := s__with) l__with cc__with kk__with, PySem.W.mg_of X G a__with⟩ (PySem.W.mg_none_of X G z_len) (PySem.W.mg_of X G v_LONGEST_WORD)
  have D__without : ∀ base : Heap, Def P w K mg base "_without" ["word", "at", "text"] 1 m__without := fun base => ok__without (P := P) (w := w) (base := base) ⟨_, _, fun_mk (st := s__without) l__without cc__without kk__without, PySem.W.mg_of X G a__without⟩ (PySem.W.mg_none_of X G z_len)
  have D__letter_pair : ∀ base : Heap, Def P w K mg base "_letter_pair" ["presentation", "letter"] 3 m__letter_pair := fun base => ok__letter_pair (P := P) (w := w) (base := base) ⟨_, _, fun_mk (st := s__letter_pair) l__letter_pair cc__letter_pair kk__letter_pair, PySem.W.mg_of X G a__letter_pair⟩ (PySem.W.mg_none_of X G z_len) (D_is_word base) (D_inverse_letter base)
  have D__pair_at : ∀ base : Heap, Def P w K mg base "_pair_at" ["word", "at"] 2 m__pair_at := fun base => ok__pair_at (P := P) (w := w) (base := base) ⟨_, _, fun_mk (st := s__pair_at) l__pair_at cc__pair_at kk__pair_at, PySem.W.mg_of X G a__pair_at⟩ (PySem.W.mg_none_of X G z_len) (D_inverse_letter base)
  have D_flipped : ∀ base : Heap, Def P w K mg base "flipped" ["text"] 2 m_flipped := fun base => ok_flipped (P := P) (w := w) (base := base) ⟨_, _, fun_mk (st := s_flipped) l_flipped cc_flipped kk_flipped, PySem.W.mg_of X G a_flipped⟩ (D_inverse_letter base)
  have D_signed_relator : ∀ base : Heap, Def P w K mg base "signed_relator" ["presentation", "k", "sign"] 3 m_signed_relator := fun base => ok_signed_relator (P := P) (w := w) (base := base) ⟨_, _, fun_mk (st := s_signed_relator) l_signed_relator cc_signed_relator kk_signed_relator, PySem.W.mg_of X G a_signed_relator⟩ (PySem.W.mg_none_of X G z_len) (D_flipped base)
  have D_word_after : ∀ base : Heap, Def P w K mg base "word_after" ["presentation", "word", "move"] 4 m_word_after := fun base => ok_word_after (P := P) (w := w) (base := base) ⟨_, _, fun_mk (st := s_word_after) l_word_after cc_word_after kk_word_after, PySem.W.mg_of X G a_word_after⟩ (D__with base) (D__letter_pair base) (D__without base) (D__pair_at base) (D_signed_relator base)
  have D__trail : ∀ base : Heap, Def P w K mg base "_trail" ["presentation", "word", "moves"] 5 m__trail := fun base => ok__trail (P := P) (w := w) (base := base) ⟨_, _, fun_mk (st := s__trail) l__trail cc__trail kk__trail, PySem.W.mg_of X G a__trail⟩ (PySem.W.mg_none_of X G z_enumerate) (D_word_after base) X_BadMove
  have D_opposite_move : ∀ base : Heap, Def P w K mg base "opposite_move" ["word", "move"] 1 m_opposite_move := fun base => ok_opposite_move (P := P) (w := w) (base := base) ⟨_, _, fun_mk (st := s_opposite_move) l_opposite_move cc_opposite_move kk_opposite_move, PySem.W.mg_of X G a_opposite_move⟩ 
  have D__undone_moves : ∀ base : Heap, Def P w K mg base "_undone_moves" ["presentation", "word", "moves"] 6 m__undone_moves := fun base => ok__undone_moves (P := P) (w := w) (base := base) ⟨_, _, fun_mk (st := s__undone_moves) l__undone_moves cc__undone_moves kk__undone_moves, PySem.W.mg_of X G a__undone_moves⟩ (D__trail base) (PySem.W.mg_none_of X G z_enumerate) (D_opposite_move base)
  have D_free_derivation : ∀ base : Heap, Def P w K mg base "free_derivation" ["presentation", "start", "end"] 7 m_free_derivation := fun base => ok_free_derivation (P := P) (w := w) (base := base) ⟨_, _, fun_mk (st := s_free_derivation) l_free_derivation cc_free_derivation kk_free_derivation, PySem.W.mg_of X G a_free_derivation⟩ (D_check_words base) (D_cuts base) (D__trail base) (D__undone_moves base)
  have D__law_kind : ∀ base : Heap, DefX P w K mg base "_law_kind" 1 m__law_kind := fun base => ok__law_kind (P := P) (w := w) (base := base) ⟨_, _, fun_mk (st := s__law_kind) l__law_kind cc__law_kind kk__law_kind, PySem.W.mg_of X G a__law_kind⟩ I_NotPresentation (PySem.W.mg_of X G iq_NotPresentation) (PySem.W.mg_none_of X G z_isinstance) I_NotWord (PySem.W.mg_of X G iq_NotWord) I_BadMove (PySem.W.mg_of X G iq_BadMove) I_BadNumber (PySem.W.mg_of X G iq_BadNumber) (PySem.W.mg_none_of X G z_len) I_CayleyError (PySem.W.mg_of X G iq_CayleyError)
  have D__law_told : ∀ base : Heap, Def P w K mg base "_law_told" ["presentation", "one", "other"] 8 m__law_told := fun base => ok__law_told (P := P) (w := w) (base := base) ⟨_, _, fun_mk (st := s__law_told) l__law_told cc__law_told kk__law_told, PySem.W.mg_of X G a__law_told⟩ (D_free_derivation base) K_CayleyError (D__law_kind base)
  exact ok_law (P := P) (w := w) (fun_mk (st := s_law) l_law cc_law kk_law) (fun s v => .of_eq rfl) (D__law_draws) (D__law_presentation) (D__law_word) (D__law_padded) (D__law_next) (PySem.W.mg_none_of X G z_int) (D__law_cuts) (D_cuts) (PySem.W.mg_none_of X G z_isinstance) (PySem.W.mg_none_of X G z_list) (D__law_told) (PySem.W.mg_none_of X G z_len) (PySem.W.mg_none_of X G z_range)
end Law
end
end
open PySem PySem.W PyProof.Rows
set_option maxHeartbeats 0 in
theorem PySem.Challenge.cw_cayleywalk_k12_cuts_and_free_derivations_holds : PySem.Challenge.rw_cayleywalk_k12_cuts_and_free_derivations.Holds := by
  w_on; o_law; k_head; (case hw => w_witness2)
  k_fill
  refine DW.walk_law (l := PySem.Challenge.rw_cayleywalk_k12_cuts_and_free_derivations) (n := 63) (g := Law.m_law) rfl (by decide) rfl (fun w h Y => PySem.W.kIn_of Y) ?F (fun ns hl hb => Law.law_yes ns hl hb)
  case F =>
    intro w mg fa h KX G hmg
    refine' Law.all_mk KX G hmg ?a__law_number ?l__law_number ?cc__law_number ?kk__law_number ?a__law_draws ?l__law_draws ?cc__law_draws ?kk__law_draws ?a__law_next ?l__law_next ?cc__law_next ?kk__law_next ?a__law_word ?l__law_word ?cc__law_word ?kk__law_word ?a__law_presentation ?l__law_presentation ?cc__law_presentation ?kk__law_presentation ?a__law_swap ?l__law_swap ?cc__law_swap ?kk__law_swap ?a__law_padded ?l__law_padded ?cc__law_padded ?kk__law_padded ?a__law_cuts ?l__law_cuts ?cc__law_cuts ?kk__law_cuts ?a_inverse_letter ?l_inverse_letter ?cc_inverse_letter ?kk_inverse_letter ?a_cuts ?l_cuts ?cc_cuts ?kk_cuts ?a_letters_of ?l_letters_of ?cc_letters_of ?kk_letters_of ?a_is_word ?l_is_word ?cc_is_word ?kk_is_word ?a__is_relator ?l__is_relator ?cc__is_relator ?kk__is_relator ?a_is_presentation ?l_is_presentation ?cc_is_presentation ?kk_is_presentation ?a_check_presentation ?l_check_presentation ?cc_check_presentation ?kk_check_presentation ?a_check_words ?l_check_words ?cc_check_words ?kk_check_words ?a__with ?l__with ?cc__with ?kk__with ?a__without ?l__without ?cc__without ?kk__without ?a__letter_pair ?l__letter_pair ?cc__letter_pair ?kk__letter_pair ?a__pair_at ?l__pair_at ?cc__pair_at ?kk__pair_at ?a_flipped ?l_flipped ?cc_flipped ?kk_flipped ?a_signed_relator ?l_signed_relator ?cc_signed_relator ?kk_signed_relator ?a_word_after ?l_word_after ?cc_word_after ?kk_word_after ?a__trail ?l__trail ?cc__trail ?kk__trail ?a_opposite_move ?l_opposite_move ?cc_opposite_move ?kk_opposite_move ?a__undone_moves ?l__undone_moves ?cc__undone_moves ?kk__undone_moves ?a_free_derivation ?l_free_derivation ?cc_free_derivation ?kk_free_derivation ?a__law_kind ?l__law_kind ?cc__law_kind ?kk__law_kind ?a__law_told ?l__law_told ?cc__law_told ?kk__law_told ?a_law ?l_law ?cc_law ?kk_law ?z_range ?z_int ?z_tuple ?z_len ?e_NotWord ?ex_NotWord ?ek_NotWord ?eb_NotWord ?et_NotWord ?v_MOST_GENERATORS ?e_BadNumber ?ex_BadNumber ?ek_BadNumber ?eb_BadNumber ?et_BadNumber ?v_LETTERS ?z_all ?v_LONGEST_RELATOR ?v_MOST_RELATORS ?e_NotPresentation ?ex_NotPresentation ?ek_NotPresentation ?eb_NotPresentation ?et_NotPresentation ?v_LONGEST_WORD ?z_enumerate ?e_BadMove ?ek_BadMove ?eb_BadMove ?et_BadMove ?oo_BadMove ?rv_BadMove ?sa_BadMove ?xg_BadMove ?xa_BadMove ?xd_BadMove ?no_BadMove ?iC_BadMove ?tI_BadMove ?l_i_BadMove ?cc_i_BadMove ?kk_i_BadMove ?z_isinstance ?z_list ?e_CayleyError ?ex_CayleyError ?ek_CayleyError ?eb_CayleyError ?et_CayleyError ?eh_CayleyError ?es_NotWord_CayleyError ?es_BadNumber_CayleyError ?es_NotPresentation_CayleyError ?es_BadMove_CayleyError ?ig_NotWord ?ik_NotWord ?id_NotWord ?ia_NotWord ?im_NotWord ?in_ ?it_ ?ig_BadNumber ?ik_BadNumber ?id_BadNumber ?ia_BadNumber ?im_BadNumber ?ig_NotPresentation ?ik_NotPresentation ?id_NotPresentation ?ia_NotPresentation ?im_NotPresentation ?ig_BadMove ?ik_BadMove ?id_BadMove ?ia_BadMove ?im_BadMove ?iq_NotPresentation ?ic_NotPresentation ?iy_NotPresentation ?in_NotWord_NotPresentation ?iw_NotWord_NotPresentation ?in_BadNumber_NotPresentation ?iw_BadNumber_NotPresentation ?in_BadMove_NotPresentation ?iw_BadMove_NotPresentation ?iq_NotWord ?ic_NotWord ?iy_NotWord ?in_BadNumber_NotWord ?iw_BadNumber_NotWord ?in_NotPresentation_NotWord ?iw_NotPresentation_NotWord ?in_BadMove_NotWord ?iw_BadMove_NotWord ?iq_BadMove ?ic_BadMove ?iy_BadMove ?in_NotWord_BadMove ?iw_NotWord_BadMove ?in_BadNumber_BadMove ?iw_BadNumber_BadMove ?in_NotPresentation_BadMove ?iw_NotPresentation_BadMove ?iq_BadNumber ?ic_BadNumber ?iy_BadNumber ?in_NotWord_BadNumber ?iw_NotWord_BadNumber ?in_NotPresentation_BadNumber ?iw_NotPresentation_BadNumber ?in_BadMove_BadNumber ?iw_BadMove_BadNumber ?iq_CayleyError ?ic_CayleyError ?iy_CayleyError ?in_NotWord_CayleyError ?iw_NotWord_CayleyError ?in_BadNumber_CayleyError ?iw_BadNumber_CayleyError ?in_NotPresentation_CayleyError ?iw_NotPresentation_CayleyError ?in_BadMove_CayleyError ?iw_BadMove_CayleyError ?g_INVERSES ?tl_INVERSES ?tk_INVERSES ?tw_INVERSES ?tt_INVERSES
    (case a__law_number => k_is); (case l__law_number => k_is); (case cc__law_number => k_is); (case kk__law_number => k_is); (case a__law_draws => k_is); (case l__law_draws => k_is); (case cc__law_draws => k_is); (case kk__law_draws => k_is); (case a__law_next => k_is); (case l__law_next => k_is); (case cc__law_next => k_is); (case kk__law_next => k_is); (case a__law_word => k_is); (case l__law_word => k_is); (case cc__law_word => k_is); (case kk__law_word => k_is); (case a__law_presentation => k_is); (case l__law_presentation => k_is); (case cc__law_presentation => k_is); (case kk__law_presentation => k_is); (case a__law_swap => k_is); (case l__law_swap => k_is); (case cc__law_swap => k_is); (case kk__law_swap => k_is); (case a__law_padded => k_is); (case l__law_padded => k_is); (case cc__law_padded => k_is); (case kk__law_padded => k_is); (case a__law_cuts => k_is); (case l__law_cuts => k_is); (case cc__law_cuts => k_is); (case kk__law_cuts => k_is); (case a_inverse_letter => k_is); (case l_inverse_letter => k_is); (case cc_inverse_letter => k_is); (case kk_inverse_letter => k_is); (case a_cuts => k_is); (case l_cuts => k_is); (case cc_cuts => k_is); (case kk_cuts => k_is); (case a_letters_of => k_is); (case l_letters_of => k_is); (case cc_letters_of => k_is); (case kk_letters_of => k_is); (case a_is_word => k_is); (case l_is_word => k_is); (case cc_is_word => k_is); (case kk_is_word => k_is); (case a__is_relator => k_is); (case l__is_relator => k_is); (case cc__is_relator => k_is); (case kk__is_relator => k_is); (case a_is_presentation => k_is); (case l_is_presentation => k_is); (case cc_is_presentation => k_is); (case kk_is_presentation => k_is); (case a_check_presentation => k_is); (case l_check_presentation => k_is); (case cc_check_presentation => k_is); (case kk_check_presentation => k_is); (case a_check_words => k_is); (case l_check_words => k_is); (case cc_check_words => k_is); (case kk_check_words => k_is); (case a__with => k_is); (case l__with => k_is); (case cc__with => k_is); (case kk__with => k_is); (case a__without => k_is); (case l__without => k_is); (case cc__without => k_is); (case kk__without => k_is); (case a__letter_pair => k_is); (case l__letter_pair => k_is); (case cc__letter_pair => k_is); (case kk__letter_pair => k_is); (case a__pair_at => k_is); (case l__pair_at => k_is); (case cc__pair_at => k_is); (case kk__pair_at => k_is); (case a_flipped => k_is); (case l_flipped => k_is); (case cc_flipped => k_is); (case kk_flipped => k_is); (case a_signed_relator => k_is); (case l_signed_relator => k_is); (case cc_signed_relator => k_is); (case kk_signed_relator => k_is); (case a_word_after => k_is); (case l_word_after => k_is); (case cc_word_after => k_is); (case kk_word_after => k_is); (case a__trail => k_is); (case l__trail => k_is); (case cc__trail => k_is); (case kk__trail => k_is); (case a_opposite_move => k_is); (case l_opposite_move => k_is); (case cc_opposite_move => k_is); (case kk_opposite_move => k_is); (case a__undone_moves => k_is); (case l__undone_moves => k_is); (case cc__undone_moves => k_is); (case kk__undone_moves => k_is); (case a_free_derivation => k_is); (case l_free_derivation => k_is); (case cc_free_derivation => k_is); (case kk_free_derivation => k_is); (case a__law_kind => k_is); (case l__law_kind => k_is); (case cc__law_kind => k_is); (case kk__law_kind => k_is); (case a__law_told => k_is); (case l__law_told => k_is); (case cc__law_told => k_is); (case kk__law_told => k_is); (case a_law => k_is); (case l_law => k_is); (case cc_law => k_is); (case kk_law => k_is); (case z_range => k_is); (case z_int => k_is); (case z_tuple => k_is); (case z_len => k_is); (case e_NotWord => k_is); (case ex_NotWord => k_exc); (case ek_NotWord => k_is); (case eb_NotWord => k_is); (case et_NotWord => k_is); (case v_MOST_GENERATORS => k_is); (case e_BadNumber => k_is); (case ex_BadNumber => k_exc); (case ek_BadNumber => k_is); (case eb_BadNumber => k_is); (case et_BadNumber => k_is); (case v_LETTERS => k_is); (case z_all => k_is); (case v_LONGEST_RELATOR => k_is); (case v_MOST_RELATORS => k_is); (case e_NotPresentation => k_is); (case ex_NotPresentation => k_exc); (case ek_NotPresentation => k_is); (case eb_NotPresentation => k_is); (case et_NotPresentation => k_is); (case v_LONGEST_WORD => k_is); (case z_enumerate => k_is); (case e_BadMove => k_is); (case ek_BadMove => k_is); (case eb_BadMove => k_is); (case et_BadMove => k_is); (case oo_BadMove => k_is); (case rv_BadMove => decide +kernel); (case sa_BadMove => k_is); (case xg_BadMove => k_is); (case xa_BadMove => k_is); (case xd_BadMove => k_is); (case no_BadMove => k_is); (case iC_BadMove => k_is); (case tI_BadMove => k_is); (case l_i_BadMove => k_is); (case cc_i_BadMove => k_is); (case kk_i_BadMove => k_is); (case z_isinstance => k_is); (case z_list => k_is); (case e_CayleyError => k_is); (case ex_CayleyError => k_exc); (case ek_CayleyError => k_is); (case eb_CayleyError => k_is); (case et_CayleyError => k_is); (case eh_CayleyError => k_is); (case es_NotWord_CayleyError => first | rfl | k_is); (case es_BadNumber_CayleyError => first | rfl | k_is); (case es_NotPresentation_CayleyError => first | rfl | k_is); (case es_BadMove_CayleyError => first | rfl | k_is); (case ig_NotWord => k_is); (case ik_NotWord => k_is); (case id_NotWord => k_is); (case ia_NotWord => k_is); (case im_NotWord => k_is); (case in_ => k_is); (case it_ => k_is); (case ig_BadNumber => k_is); (case ik_BadNumber => k_is); (case id_BadNumber => k_is); (case ia_BadNumber => k_is); (case im_BadNumber => k_is); (case ig_NotPresentation => k_is); (case ik_NotPresentation => k_is); (case id_NotPresentation => k_is); (case ia_NotPresentation => k_is); (case im_NotPresentation => k_is); (case ig_BadMove => k_is); (case ik_BadMove => k_is); (case id_BadMove => k_is); (case ia_BadMove => k_is); (case im_BadMove => k_is); (case iq_NotPresentation => k_is); (case ic_NotPresentation => k_is); (case iy_NotPresentation => k_is); (case in_NotWord_NotPresentation => decide); (case iw_NotWord_NotPresentation => k_is); (case in_BadNumber_NotPresentation => decide); (case iw_BadNumber_NotPresentation => k_is); (case in_BadMove_NotPresentation => decide); (case iw_BadMove_NotPresentation => k_is); (case iq_NotWord => k_is); (case ic_NotWord => k_is); (case iy_NotWord => k_is); (case in_BadNumber_NotWord => decide); (case iw_BadNumber_NotWord => k_is); (case in_NotPresentation_NotWord => decide); (case iw_NotPresentation_NotWord => k_is); (case in_BadMove_NotWord => decide); (case iw_BadMove_NotWord => k_is); (case iq_BadMove => k_is); (case ic_BadMove => k_is); (case iy_BadMove => k_is); (case in_NotWord_BadMove => decide); (case iw_NotWord_BadMove => k_is); (case in_BadNumber_BadMove => decide); (case iw_BadNumber_BadMove => k_is); (case in_NotPresentation_BadMove => decide); (case iw_NotPresentation_BadMove => k_is); (case iq_BadNumber => k_is); (case ic_BadNumber => k_is); (case iy_BadNumber => k_is); (case in_NotWord_BadNumber => decide); (case iw_NotWord_BadNumber => k_is); (case in_NotPresentation_BadNumber => decide); (case iw_NotPresentation_BadNumber => k_is); (case in_BadMove_BadNumber => decide); (case iw_BadMove_BadNumber => k_is); (case iq_CayleyError => k_is); (case ic_CayleyError => k_is); (case iy_CayleyError => k_is); (case in_NotWord_CayleyError => decide); (case iw_NotWord_CayleyError => k_is); (case in_BadNumber_CayleyError => decide); (case iw_BadNumber_CayleyError => k_is); (case in_NotPresentation_CayleyError => decide); (case iw_NotPresentation_CayleyError => k_is); (case in_BadMove_CayleyError => decide); (case iw_BadMove_CayleyError => k_is); (case g_INVERSES => k_is); (case tl_INVERSES => k_is); (case tk_INVERSES => exact ⟨⟨_, _, rfl, rfl⟩, ⟨⟨_, _, rfl, rfl⟩, ⟨⟨_, _, rfl, rfl⟩, ⟨⟨_, _, rfl, rfl⟩, ⟨⟨_, _, rfl, rfl⟩, ⟨⟨_, _, rfl, rfl⟩, trivial⟩⟩⟩⟩⟩⟩); (case tw_INVERSES => decide); (case tt_INVERSES => exact .cons (x := .str "A") rfl ⟨_, rfl⟩ (fun _ _ => .str _) (.cons (x := .str "a") rfl ⟨_, rfl⟩ (fun _ _ => .str _) (.cons (x := .str "B") rfl ⟨_, rfl⟩ (fun _ _ => .str _) (.cons (x := .str "b") rfl ⟨_, rfl⟩ (fun _ _ => .str _) (.cons (x := .str "C") rfl ⟨_, rfl⟩ (fun _ _ => .str _) (.cons (x := .str "c") rfl ⟨_, rfl⟩ (fun _ _ => .str _) (.nil)))))))
