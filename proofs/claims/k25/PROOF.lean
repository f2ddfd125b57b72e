import PyProof.Rows.All
import Wide.All
import OpenK.AllK
import Wide.FinOn
import HandS.ForMost
import HandS.ForExc
import HandS.EndBits
import HandS.Wide
import HandS.WideMore
import HandS.Flow
import HandS.IsInst
import HandS.RaiseMore
import HandS.StrMore
import HandS.Replace
import HandS.WrittenGet
import HandS.Style
import HandS.Steps
import HandS.ExcIs
import HandS.TryMany
import HandS.Codes
import HandS.TupAny
import KE.DataCmp
import HandS.TupMul
import KE.KExcIs
import HandS.ExcField
import HandS.HotCalls
import PyProof.ListStr
import HandS.Conv
import HandS.Dict
import HandS.SortInts
import PyProof.ReprRoads
import HandS.ExcInit
import HandS.Iter
import HandS.Zip
import HandS.SetFor
import KE.GoesMore
import KE.SortData
import KE.SortKeyHeap
import KE.DataMinMax
import KE.DataMinKey
import PyProof.Draws
import KE.GoesZip
import KE.GoesEnum
import PySem.Challenge.RW_cayleywalk_k25_weights_that_fit
section
set_option Elab.async false
set_option linter.all false
set_option maxRecDepth 100000
set_option maxHeartbeats 4000000
noncomputable section
namespace DW
open PySem PySem.Spec PyProof.Rows L2

abbrev D := PyData
abbrev Exn := Str × List (Str × D)
inductive R (α : Type) where
  | stuck | ok (a : α) | err (e : Exn) | pick (k : Nat → R α)
/-- what a pick may give -/
abbrev top1000 : Nat := 1000
namespace R
def bind {α β : Type} (r : R α) (f : α → R β) : R β := R.rec (motive := fun _ => R β) .stuck (fun a => f a) (fun e => .err e) (fun _ ih => .pick ih) r
@[simp] theorem bind_ok {α β : Type} (a : α) (f : α → R β) : (R.ok a).bind f = f a := rfl
@[simp] theorem bind_stuck {α β : Type} (f : α → R β) : (R.stuck : R α).bind f = .stuck := rfl
@[simp] theorem bind_err {α β : Type} (e : Exn) (f : α → R β) : (R.err e : R α).bind f = .err e := rfl
theorem bind_pick {α β : Type} (k : Nat → R α) (f : α → R β) : (R.pick k).bind f = .pick fun n => (k n).bind f := rfl
/-- no error may leave -/
def quiet {α : Type} (r : R α) : R α := R.rec (motive := fun _ => R α) .stuck (fun a => .ok a) (fun _ => .stuck) (fun _ ih => .pick ih) r
@[simp] theorem quiet_ok {α : Type} (a : α) : (R.ok a).quiet = .ok a := rfl
@[simp] theorem quiet_err {α : Type} (e : Exn) : (R.err e : R α).quiet = .stuck := rfl
@[simp] theorem quiet_stuck {α : Type} : (R.stuck : R α).quiet = .stuck := rfl
theorem quiet_pick {α : Type} (k : Nat → R α) : (R.pick k).quiet = .pick fun n => (k n).quiet := rfl
/-- neither an error nor a pick may leave -/
def sure {α : Type} : R α → R α
  | .ok a => .ok a
  | _ => .stuck
@[simp] theorem sure_ok {α : Type} (a : α) : (R.ok a).sure = .ok a := rfl
@[simp] theorem sure_err {α : Type} (e : Exn) : (R.err e : R α).sure = .stuck := rfl
@[simp] theorem sure_stuck {α : Type} : (R.stuck : R α).sure = .stuck := rfl
def guard (b : Bool) : R Unit := if b then .ok () else .stuck
@[simp] theorem guard_true : guard true = .ok () := rfl
@[simp] theorem guard_false : guard false = .stuck := rfl
end R

theorem Same.new {H : Hp} {p : Addr} {o : HO} (h : H p = none) : Same H (upd H p o) := fun b x e => by
  rw [upd_ne (ne_of_none e h)]
  exact e
structure Fr (H H0 H' H0' : Hp) : Prop where
  ex : Same H H'
  ez : Same H0 H0'
  sb : Same H0' H'
  ow : ∀ p, H0 p = none → H p ≠ none → H0' p = none
section
variable {H H0 H1 H01 H2 H02 : Hp}
theorem Fr.refl (h : Same H0 H) : Fr H H0 H H0 := ⟨Same.refl _, Same.refl _, h, fun _ h _ => h⟩
theorem Fr.trans (a : Fr H H0 H1 H01) (b : Fr H1 H01 H2 H02) : Fr H H0 H2 H02 :=
  ⟨a.ex.trans b.ex, a.ez.trans b.ez, b.sb, fun p h0 h => b.ow p (a.ow p h0 h) (by
    cases e : H p with
    | none => exact absurd e h
    | some o => rw [a.ex p o e]; simp)⟩
/-- a new object, known at once -/
theorem Fr.new {p : Addr} {o : HO} (h : Same H0 H) (n : H p = none) : Fr H H0 (upd H p o) (upd H0 p o) := by
  have n0 : H0 p = none := h.free n
  refine ⟨Same.new n, Same.new n0, fun b x e => ?_, fun q h0 hq => ?_⟩
  · by_cases hb : b = p
    · subst hb; rw [upd_same] at e ⊢; exact e
    · rw [upd_ne hb] at e ⊢; exact h b x e
  · have : q ≠ p := fun z => hq (by rw [z]; exact n)
    rw [upd_ne this]; exact h0
/-- a new object, not known to the base -/
theorem Fr.loose {p : Addr} {o : HO} (h : Same H0 H) (n : H p = none) : Fr H H0 (upd H p o) H0 :=
  ⟨Same.new n, Same.refl _, fun b x e => Same.new n b x (h b x e), fun _ h0 _ => h0⟩
end

section
variable {K : PySem.W.Frag} {H H' : Hp}
theorem sqT_mono {a : Addr} {xs : List V} (e : Same H H') (h : SqT K H a xs) : SqT K H' a xs := by
  rcases h with (h | ⟨o, h⟩) | h
  · exact .inl (.inl (e _ _ h))
  · exact .inl (.inr ⟨o, e _ _ h⟩)
  · exact .inr h
mutual
theorem dp_mono (e : Same H H') : ∀ (d : D) (v : V), Dp K H v d → Dp K H' v d
  | .none, _, h => by cases h; exact .non
  | .bool _, _, h => by cases h; exact .bl _
  | .int _, _, h => by cases h; exact .int _
  | .str _, _, h => by cases h; exact .str _
  | .list ds, _, h => by cases h with | lst hs ha => exact .lst (e.seq hs) (dpAll_mono e ds _ ha)
  | .tuple ds, _, h => by cases h with | tup hs ha => exact .tup (sqT_mono e hs) (dpAll_mono e ds _ ha)
  | .dict _, _, h => by cases h
theorem dpAll_mono (e : Same H H') : ∀ (ds : List D) (vs : List V), DpAll K H vs ds → DpAll K H' vs ds
  | [], _, h => by cases h; exact .nil
  | d :: ds, _, h => by cases h with | cons h1 h2 => exact .cons (dp_mono e d _ h1) (dpAll_mono e ds _ h2)
end
theorem DpAll.length : ∀ {vs : List V} {ds : List D}, DpAll K H vs ds → vs.length = ds.length
  | _, _, .nil => rfl
  | _, _, .cons _ t => by rw [List.length_cons, List.length_cons, DpAll.length t]
theorem DpAll.get : ∀ {vs : List V} {ds : List D} {i : Nat} {d : D}, DpAll K H vs ds → ds[i]? = some d → ∃ v, vs[i]? = some v ∧ Dp K H v d
  | _, _, _, _, .nil, e => by simp at e
  | _, _, 0, _, .cons r _, e => by simp at e; subst e; exact ⟨_, rfl, r⟩
  | _, _, i + 1, _, .cons _ t, e => by
    obtain ⟨v, h1, h2⟩ := DpAll.get (i := i) t (by simpa using e)
    exact ⟨v, by simpa using h1, h2⟩
theorem DpAll.append : ∀ {vs ws : List V} {ds es : List D}, DpAll K H vs ds → DpAll K H ws es → DpAll K H (vs ++ ws) (ds ++ es)
  | _, _, _, _, .nil, s => s
  | _, _, _, _, .cons r t, s => .cons r (DpAll.append t s)
theorem DpAll.take : ∀ {vs : List V} {ds : List D} (n : Nat), DpAll K H vs ds → DpAll K H (vs.take n) (ds.take n)
  | _, _, 0, _ => .nil
  | _, _, _ + 1, .nil => .nil
  | _, _, n + 1, .cons r t => .cons r (DpAll.take n t)
theorem DpAll.drop : ∀ {vs : List V} {ds : List D} (n : Nat), DpAll K H vs ds → DpAll K H (vs.drop n) (ds.drop n)
  | _, _, 0, r => r
  | _, _, _ + 1, .nil => .nil
  | _, _, n + 1, .cons _ t => DpAll.drop n t
theorem DpAll.set {v : V} {d : D} (r : Dp K H v d) : ∀ {vs : List V} {ds : List D} (n : Nat), DpAll K H vs ds → DpAll K H (vs.set n v) (ds.set n d)
  | _, _, _, .nil => .nil
  | _, _, 0, .cons _ t => .cons r t
  | _, _, n + 1, .cons q t => .cons q (DpAll.set r n t)
theorem DpAll.reverse : ∀ {vs : List V} {ds : List D}, DpAll K H vs ds → DpAll K H vs.reverse ds.reverse
  | _, _, .nil => .nil
  | _, _, .cons r t => by
    rw [List.reverse_cons, List.reverse_cons]
    exact DpAll.append (DpAll.reverse t) (.cons r .nil)
/-- all ints, all texts, all bools -/
theorem DpAll.ints : ∀ {vs : List V} {ns : List Int}, DpAll K H vs (ns.map PyData.int) → vs = ns.map V.int
  | _, [], h => by cases h; rfl
  | _, n :: ns, h => by
    cases h with
    | cons h1 h2 => cases h1; rw [List.map_cons, DpAll.ints h2]
theorem DpAll.strs : ∀ {vs : List V} {ns : List Str}, DpAll K H vs (ns.map PyData.str) → vs = ns.map V.str
  | _, [], h => by cases h; rfl
  | _, n :: ns, h => by
    cases h with
    | cons h1 h2 => cases h1; rw [List.map_cons, DpAll.strs h2]
theorem DpAll.bools : ∀ {vs : List V} {ns : List Bool}, DpAll K H vs (ns.map PyData.bool) → vs = ns.map V.bl
  | _, [], h => by cases h; rfl
  | _, n :: ns, h => by
    cases h with
    | cons h1 h2 => cases h1; rw [List.map_cons, DpAll.bools h2]
end

def ErrOk (K : PySem.W.Frag) (mg : Str → Option Value) (E : XK) (e : Exn) (H H0 : Hp) : Prop := ∃ C, mg e.1 = some (.ref C) ∧ match e.2 with
  | [] => E (.ref C) none H
  | (f, d) :: _ => ∀ v dx, Dp K H0 v d → H dx = none → E (.ref C) (some dx) (upd H dx (.xd [(f, v)]))

/-- what is to be shown of a result -/
def Post {α β : Type} (rel : Hp → β → α → Prop) (K : PySem.W.Frag) (mg : Str → Option Value) (md : Bool) (H H0 : Hp) (r : R α) (Q : β → Hp → Prop) (E : XK) : Prop :=
  R.rec (motive := fun _ => Prop) False (fun d => ∀ v H' H0', Fr H H0 H' H0' → rel (bif md then H0' else H') v d → Q v H')
    (fun e => ∀ H' H0', Fr H H0 H' H0' → ErrOk K mg E e H' H0') (fun _ ih => ∀ n, n < top1000 → ih n) r
section
variable {K : PySem.W.Frag} {mg : Str → Option Value} {α β γ δ : Type} {rel : Hp → β → α → Prop} {rel' : Hp → δ → γ → Prop} {md md' : Bool} {H H0 H' H0' : Hp} {r : R α} {Q Q1 : β → Hp → Prop} {E : XK}
theorem Post.step (h : Post rel K mg md H H0 r Q E) (f : Fr H H0 H' H0') : Post rel K mg md H' H0' r Q E := by
  induction r with
  | stuck => exact h
  | ok d => exact fun v H2 H02 g => h v H2 H02 (f.trans g)
  | err e => exact fun H2 H02 g => h H2 H02 (f.trans g)
  | pick k ih => exact fun n hn => ih n (h n hn)
theorem Post.imp (h : Post rel K mg md H H0 r Q E) (q : ∀ v H', Q v H' → Q1 v H') : Post rel K mg md H H0 r Q1 E := by
  induction r with
  | stuck => exact h
  | ok d => exact fun v H2 H02 g x => q _ _ (h v H2 H02 g x)
  | err e => exact h
  | pick k ih => exact fun n hn => ih n (h n hn)
theorem Post.bind {f : α → R γ} {Q : δ → Hp → Prop} (h : Post rel' K mg md' H H0 (r.bind f) Q E) :
    Post rel K mg md H H0 r (fun v H' => ∃ d H0', True ∧ Fr H H0 H' H0' ∧ rel (bif md then H0' else H') v d ∧ Post rel' K mg md' H' H0' (f d) Q E) E := by
  induction r with
  | stuck => exact h
  | ok d => exact fun v H2 H02 g x => ⟨d, H02, trivial, g, x, Post.step h g⟩
  | err e => exact h
  | pick k ih => exact fun n hn => ih n (h n hn)
theorem Post.quiet (h : Post rel K mg md H H0 r.quiet Q E) : Post rel K mg md H H0 r Q (fun _ _ _ => False) := by
  induction r with
  | stuck => exact h
  | ok d => exact h
  | err e => exact False.elim h
  | pick k ih => exact fun n hn => ih n (h n hn)
theorem Post.sure (h : Post rel K mg md H H0 r.sure Q E) : Post rel K mg md H H0 r Q (fun _ _ _ => False) := by
  cases r with
  | ok d => exact h
  | _ => exact False.elim h
theorem Post.ok {d : α} {v : β} (h : Post rel K mg md H H0 (.ok d) Q E) (f : Fr H H0 H' H0') (x : rel (bif md then H0' else H') v d) : Q v H' := h v H' H0' f x
end

/-! ### slots -/
inductive SD where
  | sh (d : D) | own (ds : List D) | exc (n : Str) (fs : List (Str × D)) | rnd
/-- the error that is handled: where it is, and what it must be -/
structure EA where
  a : Addr
  ok : Str → List (Str × D) → Hp → Prop
  mono : ∀ n fs H H', Same H H' → ok n fs H → ok n fs H'
def EA.none : EA := ⟨0, fun _ _ _ => False, fun _ _ _ _ _ h => h⟩
def eaOf (K : PySem.W.Frag) (mg : Str → Option Value) (a : Addr) (cls : Value) (d : Option Addr) : EA where
  a := a
  ok := fun n fs H0 => ∃ C, mg n = some (.ref C) ∧ cls = .ref C ∧ match fs with
    | [] => d = Option.none
    | (f, x) :: _ => ∃ dx v, d = some dx ∧ H0 dx = some (.xd [(f, v)]) ∧ Dp K H0 v x
  mono := fun n fs H H' s ⟨C, h1, h2, h3⟩ => ⟨C, h1, h2, by
    cases fs with
    | nil => exact h3
    | cons f _ =>
      obtain ⟨dx, v, e1, e2, e3⟩ := h3
      exact ⟨dx, v, e1, s _ _ e2, dp_mono s _ _ e3⟩⟩
/-- a list of small numbers that anyone may pop -/
def RndP (a : Addr) (h : Heap) : Prop := ∃ (vs : Array Value) (n : Nat) (ns : List Int), h.get? a = some { cls := .type "list", data := .seq vs n } ∧ IntsAre vs.toList ns ∧ ns.length ≤ sizeLine ∧ ∀ z ∈ ns, 0 ≤ z ∧ z < 1000
def RndO (a : Addr) : HO := .ext (RndP a)
abbrev En := List (Option SD)
structure Rel (K : PySem.W.Frag) (ea : EA) (Hs H0s : Hp) (σ : L2.St) (H H0 : Hp) (ρ : En) : Prop where
  fr : Fr Hs H0s H H0
  len : σ.length = ρ.length
  sh : ∀ (i : Nat) (d : D), ρ[i]? = some (some (.sh d)) → ∃ v, σ[i]? = some (some v) ∧ Dp K H0 v d
  own : ∀ (i : Nat) (ds : List D), ρ[i]? = some (some (.own ds)) → ∃ p vs, σ[i]? = some (some (.ref p)) ∧ Hs p = none ∧ H0 p = none ∧ H p = some (.lst vs) ∧ DpAll K H0 vs ds
  dis : ∀ (i j : Nat) (ds es : List D) (p : Addr), i ≠ j → ρ[i]? = some (some (.own ds)) → ρ[j]? = some (some (.own es)) → σ[i]? = some (some (.ref p)) → σ[j]? = some (some (.ref p)) → False
  exc : ∀ (i : Nat) n fs, ρ[i]? = some (some (.exc n fs)) → σ[i]? = some (some (.ref ea.a)) ∧ ea.ok n fs H0
  rnd : ∀ (i : Nat), ρ[i]? = some (some .rnd) → ∃ p, σ[i]? = some (some (.ref p)) ∧ H0 p = some (RndO p)
section
variable {K : PySem.W.Frag} {ea : EA} {Hs H0s H H0 H' H0' : Hp} {σ : L2.St} {ρ : En}
theorem Rel.sub (h : Rel K ea Hs H0s σ H H0 ρ) : Same H0 H := h.fr.sb
theorem Rel.step (h : Rel K ea Hs H0s σ H H0 ρ) (f : Fr H H0 H' H0') : Rel K ea Hs H0s σ H' H0' ρ where
  fr := h.fr.trans f
  len := h.len
  sh := fun i d e => let ⟨v, h1, h2⟩ := h.sh i d e; ⟨v, h1, dp_mono f.ez _ _ h2⟩
  own := fun i ds e => let ⟨p, vs, h1, h2, h3, h4, h5⟩ := h.own i ds e
    ⟨p, vs, h1, h2, f.ow p h3 (by rw [h4]; simp), f.ex _ _ h4, dpAll_mono f.ez _ _ h5⟩
  dis := h.dis
  exc := fun i n fs q => ⟨(h.exc i n fs q).1, ea.mono _ _ _ _ f.ez (h.exc i n fs q).2⟩
  rnd := fun i q => let ⟨p, h1, h2⟩ := h.rnd i q; ⟨p, h1, f.ez _ _ h2⟩
/-- a slot set to something of the base, or forgotten -/
theorem Rel.set (h : Rel K ea Hs H0s σ H H0 ρ) {v : V} {d : D} (i : Nat) (x : Dp K H0 v d) : Rel K ea Hs H0s (σ.set i (some v)) H H0 (ρ.set i (some (.sh d))) where
  fr := h.fr
  len := by rw [List.length_set, List.length_set, h.len]
  sh := fun j e q => by
    by_cases hj : i = j
    · subst hj
      rw [List.getElem?_set] at q ⊢
      rw [if_pos rfl] at q ⊢
      split at q
      · rename_i hl
        cases q
        exact ⟨v, by rw [if_pos (by rw [h.len]; exact hl)], x⟩
      · cases q
    · rw [List.getElem?_set_ne hj] at q ⊢
      exact h.sh j e q
  own := fun j ds q => by
    by_cases hj : i = j
    · subst hj
      rw [List.getElem?_set] at q
      rw [if_pos rfl] at q
      split at q <;> cases q
    · rw [List.getElem?_set_ne hj] at q ⊢
      exact h.own j ds q
  dis := fun j k ds es p hjk q1 q2 q3 q4 => by
    have nj : i ≠ j := fun z => by
      subst z
      rw [List.getElem?_set, if_pos rfl] at q1
      split at q1 <;> cases q1
    have nk : i ≠ k := fun z => by
      subst z
      rw [List.getElem?_set, if_pos rfl] at q2
      split at q2 <;> cases q2
    rw [List.getElem?_set_ne nj] at q1 q3
    rw [List.getElem?_set_ne nk] at q2 q4
    exact h.dis j k ds es p hjk q1 q2 q3 q4
  exc := fun j n fs q => by
    by_cases hj : i = j
    · subst hj
      rw [List.getElem?_set, if_pos rfl] at q
      split at q <;> cases q
    · rw [List.getElem?_set_ne hj] at q ⊢
      exact h.exc j n fs q
  rnd := fun j q => by
    by_cases hj : i = j
    · subst hj
      rw [List.getElem?_set, if_pos rfl] at q
      split at q <;> cases q
    · rw [List.getElem?_set_ne hj] at q ⊢
      exact h.rnd j q
theorem Rel.forget (h : Rel K ea Hs H0s σ H H0 ρ) (i : Nat) (v : Option V) : Rel K ea Hs H0s (σ.set i v) H H0 (ρ.set i none) where
  fr := h.fr
  len := by rw [List.length_set, List.length_set, h.len]
  sh := fun j e q => by
    by_cases hj : i = j
    · subst hj
      rw [List.getElem?_set, if_pos rfl] at q
      split at q <;> cases q
    · rw [List.getElem?_set_ne hj] at q ⊢
      exact h.sh j e q
  own := fun j ds q => by
    by_cases hj : i = j
    · subst hj
      rw [List.getElem?_set, if_pos rfl] at q
      split at q <;> cases q
    · rw [List.getElem?_set_ne hj] at q ⊢
      exact h.own j ds q
  dis := fun j k ds es p hjk q1 q2 q3 q4 => by
    have nj : i ≠ j := fun z => by
      subst z
      rw [List.getElem?_set, if_pos rfl] at q1
      split at q1 <;> cases q1
    have nk : i ≠ k := fun z => by
      subst z
      rw [List.getElem?_set, if_pos rfl] at q2
      split at q2 <;> cases q2
    rw [List.getElem?_set_ne nj] at q1 q3
    rw [List.getElem?_set_ne nk] at q2 q4
    exact h.dis j k ds es p hjk q1 q2 q3 q4
  exc := fun j n fs q => by
    by_cases hj : i = j
    · subst hj
      rw [List.getElem?_set, if_pos rfl] at q
      split at q <;> cases q
    · rw [List.getElem?_set_ne hj] at q ⊢
      exact h.exc j n fs q
  rnd := fun j q => by
    by_cases hj : i = j
    · subst hj
      rw [List.getElem?_set, if_pos rfl] at q
      split at q <;> cases q
    · rw [List.getElem?_set_ne hj] at q ⊢
      exact h.rnd j q
/-- a slot set to a list that is its own: new, in no other slot, not in the base -/
theorem Rel.setOwn (h : Rel K ea Hs H0s σ H H0 ρ) {p : Addr} {vs : List V} {ds : List D} (i : Nat) (hs : Hs p = none) (h0 : H0 p = none) (hp : H p = some (.lst vs)) (x : DpAll K H0 vs ds)
    (hd : ∀ (j : Nat) (es : List D), j ≠ i → ρ[j]? = some (some (.own es)) → σ[j]? = some (some (.ref p)) → False) : Rel K ea Hs H0s (σ.set i (some (.ref p))) H H0 (ρ.set i (some (.own ds))) where
  fr := h.fr
  len := by rw [List.length_set, List.length_set, h.len]
  sh := fun j e q => by
    by_cases hj : i = j
    · subst hj
      rw [List.getElem?_set, if_pos rfl] at q
      split at q <;> cases q
    · rw [List.getElem?_set_ne hj] at q ⊢
      exact h.sh j e q
  own := fun j es q => by
    by_cases hj : i = j
    · subst hj
      rw [List.getElem?_set] at q ⊢
      rw [if_pos rfl] at q ⊢
      split at q
      · rename_i hl
        cases q
        exact ⟨p, vs, by rw [if_pos (by rw [h.len]; exact hl)], hs, h0, hp, x⟩
      · cases q
    · rw [List.getElem?_set_ne hj] at q ⊢
      exact h.own j es q
  dis := fun j k es fs q hjk q1 q2 q3 q4 => by
    by_cases hj : i = j
    · subst hj
      by_cases hk : i = k
      · exact hjk hk
      · rw [List.getElem?_set_ne hk] at q2 q4
        rw [List.getElem?_set, if_pos rfl] at q3
        split at q3
        · have e : p = q := by injection q3 with q3; injection q3 with q3; injection q3
          subst e
          exact hd k fs (Ne.symm hk) q2 q4
        · cases q3
    · rw [List.getElem?_set_ne hj] at q1 q3
      by_cases hk : i = k
      · subst hk
        rw [List.getElem?_set, if_pos rfl] at q4
        split at q4
        · have e : p = q := by injection q4 with q4; injection q4 with q4; injection q4
          subst e
          exact hd j es (Ne.symm hj) q1 q3
        · cases q4
      · rw [List.getElem?_set_ne hk] at q2 q4
        exact h.dis j k es fs q hjk q1 q2 q3 q4
  exc := fun j n fs q => by
    by_cases hj : i = j
    · subst hj
      rw [List.getElem?_set, if_pos rfl] at q
      split at q <;> cases q
    · rw [List.getElem?_set_ne hj] at q ⊢
      exact h.exc j n fs q
  rnd := fun j q => by
    by_cases hj : i = j
    · subst hj
      rw [List.getElem?_set, if_pos rfl] at q
      split at q <;> cases q
    · rw [List.getElem?_set_ne hj] at q ⊢
      exact h.rnd j q
/-- an own list becomes part of the base -/
theorem Rel.freeze (h : Rel K ea Hs H0s σ H H0 ρ) {i : Nat} {ds : List D} (e : ρ[i]? = some (some (.own ds))) : ∃ H0', Same H0 H0' ∧ Rel K ea Hs H0s σ H H0' (ρ.set i (some (.sh (.list ds)))) := by
  obtain ⟨p, vs, h1, h2, h3, h4, h5⟩ := h.own i ds e
  have ex : Same H0 (upd H0 p (.lst vs)) := Same.new h3
  refine ⟨upd H0 p (.lst vs), ex, ⟨h.fr.ex, h.fr.ez.trans ex, fun b x q => ?_, fun q z1 z2 => ?_⟩, by rw [List.length_set, h.len], fun j d q => ?_, fun j es q => ?_, fun j k es fs q hjk q1 q2 q3 q4 => ?_, fun j n fs q => ?_, fun j q => ?_⟩
  · by_cases hb : b = p
    · subst hb; rw [upd_same] at q; rw [← q]; exact h4
    · rw [upd_ne hb] at q; exact h.fr.sb b x q
  · have : q ≠ p := fun z => z2 (by rw [z]; exact h2)
    rw [upd_ne this]
    exact h.fr.ow q z1 z2
  · by_cases hj : i = j
    · subst hj
      rw [List.getElem?_set, if_pos rfl] at q
      split at q
      · cases q
        exact ⟨.ref p, h1, .lst (.inl (.inl upd_same)) (dpAll_mono ex _ _ h5)⟩
      · cases q
    · rw [List.getElem?_set_ne hj] at q
      obtain ⟨v, a, b⟩ := h.sh j d q
      exact ⟨v, a, dp_mono ex _ _ b⟩
  · by_cases hj : i = j
    · subst hj
      rw [List.getElem?_set, if_pos rfl] at q
      split at q <;> cases q
    · rw [List.getElem?_set_ne hj] at q
      obtain ⟨p', vs', a1, a2, a3, a4, a5⟩ := h.own j es q
      have np : p' ≠ p := fun z => h.dis i j ds es p hj e q h1 (z ▸ a1)
      exact ⟨p', vs', a1, a2, by rw [upd_ne np]; exact a3, a4, dpAll_mono ex _ _ a5⟩
  · have nj : i ≠ j := fun z => by
      subst z
      rw [List.getElem?_set, if_pos rfl] at q1
      split at q1 <;> cases q1
    have nk : i ≠ k := fun z => by
      subst z
      rw [List.getElem?_set, if_pos rfl] at q2
      split at q2 <;> cases q2
    rw [List.getElem?_set_ne nj] at q1
    rw [List.getElem?_set_ne nk] at q2
    exact h.dis j k es fs q hjk q1 q2 q3 q4
  · have nj : i ≠ j := fun z => by
      subst z
      rw [List.getElem?_set, if_pos rfl] at q
      split at q <;> cases q
    rw [List.getElem?_set_ne nj] at q
    exact ⟨(h.exc j n fs q).1, ea.mono _ _ _ _ ex (h.exc j n fs q).2⟩
  · have nj : i ≠ j := fun z => by
      subst z
      rw [List.getElem?_set, if_pos rfl] at q
      split at q <;> cases q
    rw [List.getElem?_set_ne nj] at q
    obtain ⟨p', a1, a2⟩ := h.rnd j q
    exact ⟨p', a1, ex _ _ a2⟩
/-- an own list is written -/
theorem Rel.write (h : Rel K ea Hs H0s σ H H0 ρ) {i : Nat} {ds es : List D} {p : Addr} {ws : List V} (e : ρ[i]? = some (some (.own ds))) (hp : σ[i]? = some (some (.ref p))) (x : DpAll K H0 ws es) :
    Rel K ea Hs H0s σ (upd H p (.lst ws)) H0 (ρ.set i (some (.own es))) := by
  obtain ⟨p', vs, h1, h2, h3, h4, h5⟩ := h.own i ds e
  have ep : p' = p := by rw [h1] at hp; injection hp with hp; injection hp with hp; injection hp
  subst ep
  refine ⟨⟨fun b x q => ?_, h.fr.ez, fun b x q => ?_, h.fr.ow⟩, by rw [List.length_set, h.len], fun j d q => ?_, fun j fs q => ?_, fun j k fs gs q hjk q1 q2 q3 q4 => ?_, fun j n fs q => ?_, fun j q => ?_⟩
  · have : b ≠ p' := fun z => by rw [z, h2] at q; cases q
    rw [upd_ne this]; exact h.fr.ex b x q
  · have : b ≠ p' := fun z => by rw [z, h3] at q; cases q
    rw [upd_ne this]; exact h.fr.sb b x q
  · by_cases hj : i = j
    · subst hj
      rw [List.getElem?_set, if_pos rfl] at q
      split at q <;> cases q
    · rw [List.getElem?_set_ne hj] at q
      exact h.sh j d q
  · by_cases hj : i = j
    · subst hj
      rw [List.getElem?_set, if_pos rfl] at q
      split at q
      · cases q
        exact ⟨p', ws, h1, h2, h3, upd_same, x⟩
      · cases q
    · rw [List.getElem?_set_ne hj] at q
      obtain ⟨p2, vs', a1, a2, a3, a4, a5⟩ := h.own j fs q
      have np : p2 ≠ p' := fun z => h.dis i j ds fs p' hj e q h1 (z ▸ a1)
      exact ⟨p2, vs', a1, a2, a3, by rw [upd_ne np]; exact a4, a5⟩
  · have own' : ∀ (m : Nat) (zs : List D), (ρ.set i (some (.own es)))[m]? = some (some (.own zs)) → ∃ ys, ρ[m]? = some (some (.own ys)) := fun m zs q => by
      by_cases hm : i = m
      · subst hm; exact ⟨ds, e⟩
      · rw [List.getElem?_set_ne hm] at q; exact ⟨zs, q⟩
    obtain ⟨y1, r1⟩ := own' j fs q1
    obtain ⟨y2, r2⟩ := own' k gs q2
    exact h.dis j k y1 y2 q hjk r1 r2 q3 q4
  · have nj : i ≠ j := fun z => by
      subst z
      rw [List.getElem?_set, if_pos rfl] at q
      split at q <;> cases q
    rw [List.getElem?_set_ne nj] at q
    exact h.exc j n fs q
  · have nj : i ≠ j := fun z => by
      subst z
      rw [List.getElem?_set, if_pos rfl] at q
      split at q <;> cases q
    rw [List.getElem?_set_ne nj] at q
    exact h.rnd j q
/-- a slot set to the caught error -/
theorem Rel.setExc (h : Rel K ea Hs H0s σ H H0 ρ) (i : Nat) {n : Str} {fs : List (Str × D)} (ok : ea.ok n fs H0) : Rel K ea Hs H0s (σ.set i (some (.ref ea.a))) H H0 (ρ.set i (some (.exc n fs))) where
  fr := h.fr
  len := by rw [List.length_set, List.length_set, h.len]
  sh := fun j e q => by
    by_cases hj : i = j
    · subst hj
      rw [List.getElem?_set, if_pos rfl] at q
      split at q <;> cases q
    · rw [List.getElem?_set_ne hj] at q ⊢
      exact h.sh j e q
  own := fun j ds q => by
    by_cases hj : i = j
    · subst hj
      rw [List.getElem?_set, if_pos rfl] at q
      split at q <;> cases q
    · rw [List.getElem?_set_ne hj] at q ⊢
      exact h.own j ds q
  dis := fun j k ds es p hjk q1 q2 q3 q4 => by
    have nj : i ≠ j := fun z => by
      subst z
      rw [List.getElem?_set, if_pos rfl] at q1
      split at q1 <;> cases q1
    have nk : i ≠ k := fun z => by
      subst z
      rw [List.getElem?_set, if_pos rfl] at q2
      split at q2 <;> cases q2
    rw [List.getElem?_set_ne nj] at q1 q3
    rw [List.getElem?_set_ne nk] at q2 q4
    exact h.dis j k ds es p hjk q1 q2 q3 q4
  exc := fun j n fs q => by
    by_cases hj : i = j
    · subst hj
      rw [List.getElem?_set] at q ⊢
      rw [if_pos rfl] at q ⊢
      split at q
      · rename_i hl
        cases q
        exact ⟨by rw [if_pos (by rw [h.len]; exact hl)], ok⟩
      · cases q
    · rw [List.getElem?_set_ne hj] at q ⊢
      exact h.exc j n fs q
  rnd := fun j q => by
    by_cases hj : i = j
    · subst hj
      rw [List.getElem?_set, if_pos rfl] at q
      split at q <;> cases q
    · rw [List.getElem?_set_ne hj] at q ⊢
      exact h.rnd j q
/-- errors forgotten -/
def unx : Option SD → Option SD
  | some (.exc _ _) => none
  | s => s
def clean (ρ : En) : En := ρ.map unx
theorem clean_at {ρ : En} {i : Nat} {s : SD} (h : (clean ρ)[i]? = some (some s)) : ρ[i]? = some (some s) ∧ ∀ n fs, s ≠ .exc n fs := by
  unfold clean at h
  rw [List.getElem?_map] at h
  cases e : ρ[i]? with
  | none => rw [e] at h; cases h
  | some x =>
    rw [e] at h
    have h : some (unx x) = some (some s) := h
    have h : unx x = some s := Option.some.inj h
    cases x with
    | none => cases h
    | some y =>
      cases y with
      | exc _ _ => cases h
      | rnd => have h : some SD.rnd = some s := h; cases h; exact ⟨rfl, fun _ _ z => nomatch z⟩
      | sh d => have h : some (SD.sh d) = some s := h; cases h; exact ⟨rfl, fun _ _ z => nomatch z⟩
      | own d => have h : some (SD.own d) = some s := h; cases h; exact ⟨rfl, fun _ _ z => nomatch z⟩
theorem Rel.clean {ea' : EA} (h : Rel K ea Hs H0s σ H H0 ρ) : Rel K ea' Hs H0s σ H H0 (clean ρ) where
  fr := h.fr
  len := by unfold DW.clean; rw [List.length_map, h.len]
  sh := fun j e q => h.sh j e (clean_at q).1
  own := fun j ds q => h.own j ds (clean_at q).1
  dis := fun j k ds es p hjk q1 q2 q3 q4 => h.dis j k ds es p hjk (clean_at q1).1 (clean_at q2).1 q3 q4
  exc := fun j n fs q => absurd rfl ((clean_at q).2 n fs)
  rnd := fun j q => h.rnd j (clean_at q).1
end
end DW

end
end
section
set_option Elab.async false
set_option linter.all false
set_option maxRecDepth 100000
set_option maxHeartbeats 4000000
noncomputable section
namespace DW
open PySem PySem.Spec PyProof.Rows L2

abbrev ME := En → R D
abbrev MT := En → R Bool
abbrev MA := En → R (List D)
abbrev MO := En → R (Option Int)
abbrev beqr {α : Type} : Hp → α → α → Prop := fun _ a b => a = b

/-- the error that a suite handles -/
def excOf (X : Cx) : EA := match X.pn with
  | p :: _ => eaOf X.K X.mg p.1 p.2.cls p.2.dict
  | [] => EA.none
structure BE (X : Cx) (W : WX) (md : Bool) (e : Expr) (t : TE) (m : ME) : Prop where
  pe : PE X e t
  ev : ∀ Hs H0s σ H H0 ρ Q, Rel X.K (excOf X) Hs H0s σ H H0 ρ → Post (Dp X.K) X.K X.mg md H H0 (m ρ) Q (WE W σ) → t σ H Q
structure BT (X : Cx) (W : WX) (e : Expr) (t : TT) (m : MT) : Prop where
  pe : PT X e t
  ev : ∀ Hs H0s σ H H0 ρ Q, Rel X.K (excOf X) Hs H0s σ H H0 ρ → Post beqr X.K X.mg true H H0 (m ρ) Q (WE W σ) → t σ H Q
structure BW (X : Cx) (W : WX) (e : Expr) (t : TT) (m : MT) : Prop where
  pe : PW X e t
  ev : ∀ Hs H0s σ H H0 ρ Q, Rel X.K (excOf X) Hs H0s σ H H0 ρ → Post beqr X.K X.mg true H H0 (m ρ) Q (WE W σ) → t σ H Q
structure BA (X : Cx) (W : WX) (md : Bool) (es : List Expr) (t : TA) (m : MA) : Prop where
  pe : PA X es t
  ev : ∀ Hs H0s σ H H0 ρ Q, Rel X.K (excOf X) Hs H0s σ H H0 ρ → Post (DpAll X.K) X.K X.mg md H H0 (m ρ) Q (WE W σ) → t σ H Q
structure BO (X : Cx) (W : WX) (e : Option Expr) (t : TO) (m : MO) : Prop where
  pe : PO X e t
  ev : ∀ Hs H0s σ H H0 ρ Q, Rel X.K (excOf X) Hs H0s σ H H0 ρ → Post beqr X.K X.mg true H H0 (m ρ) Q (WE W σ) → t σ H Q

section
variable {X : Cx} {W : WX} {md : Bool} {e a b c : Expr} {t ta tb tc te : TE} {m ma mb mc : ME} {pos : Pos}
theorem dp_md {K : PySem.W.Frag} {H H0 : Hp} {v : V} {d : D} (s : Same H0 H) (h : Dp K (bif md then H0 else H) v d) : Dp K H v d := by
  cases md with
  | true => exact dp_mono s _ _ h
  | false => exact h
theorem dpAll_md {K : PySem.W.Frag} {H H0 : Hp} {v : List V} {d : List D} (s : Same H0 H) (h : DpAll K (bif md then H0 else H) v d) : DpAll K H v d := by
  cases md with
  | true => exact dpAll_mono s _ _ h
  | false => exact h
theorem Post.loose {K : PySem.W.Frag} {mg : Str → Option Value} {H H0 : Hp} {r : R D} {Q : VK} {E : XK} (h : Post (Dp K) K mg false H H0 r Q E) : Post (Dp K) K mg true H H0 r Q E := by
  induction r with
  | stuck => exact h
  | ok d => exact fun v H' H0' f x => h v H' H0' f (dp_mono f.sb _ _ x)
  | err e => exact h
  | pick k ih => exact fun n hn => ih n (h n hn)
theorem Post.loose' {K : PySem.W.Frag} {mg : Str → Option Value} {H H0 : Hp} {r : R D} {Q : VK} {E : XK} (h : Post (Dp K) K mg md H H0 r Q E) : Post (Dp K) K mg true H H0 r Q E := by
  cases md with
  | true => exact h
  | false => exact h.loose
theorem BE.p (h : BE X W true e t m) : BE X W false e t m := ⟨h.pe, fun Hs H0s σ H H0 ρ Q r p => h.ev Hs H0s σ H H0 ρ Q r p.loose⟩

/-! ### names, constants -/
def mVar (i : Nat) : ME := fun ρ => match ρ[i]? with | some (some (.sh d)) => .ok d | _ => .stuck
def mVarP (i : Nat) : ME := fun ρ => match ρ[i]? with | some (some (.sh d)) => .ok d | some (some (.own ds)) => .ok (.list ds) | _ => .stuck
def mC (d : D) : ME := fun _ => .ok d
theorem be_var (i : Nat) {x : Str} (h : PE X (.Name x pos) (tVar i)) : BE X W true (.Name x pos) (tVar i) (mVar i) := by
  refine ⟨h, fun Hs H0s σ H H0 ρ Q r p => ?_⟩
  unfold mVar at p
  split at p
  · rename_i d e
    obtain ⟨v, h1, h2⟩ := r.sh _ _ e
    exact ⟨v, h1, p v H H0 (.refl r.sub) h2⟩
  · exact False.elim p
theorem be_varP (i : Nat) {x : Str} (h : PE X (.Name x pos) (tVar i)) : BE X W false (.Name x pos) (tVar i) (mVarP i) := by
  refine ⟨h, fun Hs H0s σ H H0 ρ Q r p => ?_⟩
  unfold mVarP at p
  split at p
  · rename_i d e
    obtain ⟨v, h1, h2⟩ := r.sh _ _ e
    exact ⟨v, h1, p v H H0 (.refl r.sub) (dp_mono r.sub _ _ h2)⟩
  · rename_i ds e
    obtain ⟨q, vs, h1, h2, h3, h4, h5⟩ := r.own _ _ e
    exact ⟨_, h1, p _ H H0 (.refl r.sub) (.lst (.inl (.inl h4)) (dpAll_mono r.sub _ _ h5))⟩
  · exact False.elim p
theorem be_c {v : V} {d : D} (h : PE X e (tC v)) (hd : ∀ H, Dp X.K H v d) : BE X W md e (tC v) (mC d) :=
  ⟨h, fun Hs H0s σ H H0 ρ Q r p => p v H H0 (.refl r.sub) (by cases md <;> exact hd _)⟩
theorem be_int {i : Int} {j : Nat} : BE X W md (.Constant (.int i) j pos) (tC (.int i)) (mC (.int i)) := be_c pe_int fun _ => .int i
theorem be_str {x : Str} {j : Nat} : BE X W md (.Constant (.str x) j pos) (tC (.str x)) (mC (.str x)) := be_c pe_str fun _ => .str x
theorem be_bool {x : Bool} {j : Nat} : BE X W md (.Constant (.bool x) j pos) (tC (.bl x)) (mC (.bool x)) := be_c pe_bl fun _ => .bl x
theorem be_none {j : Nat} : BE X W md (.Constant .none j pos) (tC .non) (mC .none) := be_c pe_non fun _ => .non
theorem be_glob {x : Str} {v : V} {u : Value} {d : D} (hg : Gl X x) (hm : X.mg x = some u) (r : RelV v u) (hd : ∀ H, Dp X.K H v d) (hdb : (x == ("__debug__" : Str)) = false := by decide) : BE X W md (.Name x pos) (tC v) (mC d) := be_c (pe_glob hg hm r hdb) hd

theorem be_globI {x : Str} {i : Int} {tk : Tok} (hg : Gl X x) (hm : X.mg x = some (.int i tk)) (hdb : (x == ("__debug__" : Str)) = false := by decide) : BE X W md (.Name x pos) (tC (.int i)) (mC (.int i)) := be_c (pe_glob hg hm ⟨_, rfl⟩ hdb) fun _ => .int _
theorem be_globS {x : Str} {i : Str} {tk : Tok} (hg : Gl X x) (hm : X.mg x = some (.str i tk)) (hdb : (x == ("__debug__" : Str)) = false := by decide) : BE X W md (.Name x pos) (tC (.str i)) (mC (.str i)) := be_c (pe_glob hg hm ⟨_, rfl⟩ hdb) fun _ => .str _
/-! ### operations on two values -/
def Op2 (K : PySem.W.Frag) (mg : Str → Option Value) (md : Bool) (r : R2) (f : D → D → R D) : Prop :=
  ∀ (x y : V) (d e : D) (H H0 : Hp) (Q : VK) (E : XK), Same H0 H → Dp K (bif md then H0 else H) x d → Dp K (bif md then H0 else H) y e → Post (Dp K) K mg true H H0 (f d e) Q E → r x y H Q
def m2 (f : D → D → R D) (ma mb : ME) : ME := fun ρ => (ma ρ).bind fun d => (mb ρ).bind fun e => f d e
theorem keep_md {K : PySem.W.Frag} {H H0 H' H0' : Hp} {v : V} {d : D} (f : Fr H H0 H' H0') (h : Dp K (bif md then H0 else H) v d) : Dp K (bif md then H0' else H') v d := by
  cases md with
  | true => exact dp_mono f.ez _ _ h
  | false => exact dp_mono f.ex _ _ h
theorem keepAll_md {K : PySem.W.Frag} {H H0 H' H0' : Hp} {v : List V} {d : List D} (f : Fr H H0 H' H0') (h : DpAll K (bif md then H0 else H) v d) : DpAll K (bif md then H0' else H') v d := by
  cases md with
  | true => exact dpAll_mono f.ez _ _ h
  | false => exact dpAll_mono f.ex _ _ h
theorem ev_op {r : R2} {f : D → D → R D} (hr : Op2 X.K X.mg md r f) (ha : BE X W md a ta ma) (hb : BE X W md b tb mb) :
    ∀ Hs H0s σ H H0 ρ Q, Rel X.K (excOf X) Hs H0s σ H H0 ρ → Post (Dp X.K) X.K X.mg true H H0 (m2 f ma mb ρ) Q (WE W σ) → tOp r ta tb σ H Q := fun Hs H0s σ H H0 ρ Q rl p => by
  refine ha.ev Hs H0s σ H H0 ρ _ rl ((Post.bind p).imp ?_)
  rintro v H1 ⟨d, H01, _, f1, x1, p1⟩
  refine hb.ev Hs H0s σ H1 H01 ρ _ (rl.step f1) ((Post.bind p1).imp ?_)
  rintro u H2 ⟨e, H02, _, f2, x2, p2⟩
  exact hr v u d e H2 H02 Q _ f2.sb (keep_md f2 x1) x2 p2
theorem be_op {r : R2} {op : Operator} (f : D → D → R D) (ho : OpR X (binaryOp op) r) (hr : Op2 X.K X.mg md r f) (ha : BE X W md a ta ma) (hb : BE X W md b tb mb) : BE X W true (.BinOp a op b pos) (tOp r ta tb) (m2 f ma mb) :=
  ⟨pe_op ho ha.pe hb.pe, ev_op hr ha hb⟩
theorem be_cmp {r : R2} {op : CmpOp} (f : D → D → R D) (ho : OpR X (compareOp op) r) (hr : Op2 X.K X.mg md r f) (ha : BE X W md a ta ma) (hb : BE X W md b tb mb) (hm : behindInMarks op b = false) : BE X W true (.Compare a [op] [b] pos) (tOp r ta tb) (m2 f ma mb) :=
  ⟨pe_cmpR ho ha.pe hb.pe hm, ev_op hr ha hb⟩
def asB : D → R Bool
  | .bool b => .ok b
  | _ => .stuck
theorem post_asB {K : PySem.W.Frag} {mg : Str → Option Value} {H H0 : Hp} {r : R D} {Q : Bool → Hp → Prop} {E : XK} (h : Post beqr K mg true H H0 (r.bind asB) Q E) :
    Post (Dp K) K mg true H H0 r (fun x H' => ∃ k, x = .bl k ∧ Q k H') E := by
  induction r with
  | stuck => exact h
  | ok d =>
    cases d with
    | bool b => exact fun v H' H0' f x => by cases x; exact ⟨b, rfl, h b H' H0' f rfl⟩
    | _ => exact False.elim h
  | err e => exact h
  | pick k ih => exact fun n hn => ih n (h n hn)
def mT (m : ME) : MT := fun ρ => (m ρ).bind asB
theorem bt_cmp {r : R2} {op : CmpOp} (f : D → D → R D) (ho : OpR X (compareOp op) r) (hr : Op2 X.K X.mg md r f) (ha : BE X W md a ta ma) (hb : BE X W md b tb mb) (hm : behindInMarks op b = false) : BT X W (.Compare a [op] [b] pos) (tTest (tOp r ta tb)) (mT (m2 f ma mb)) :=
  ⟨pt_cmpR ho ha.pe hb.pe hm, fun Hs H0s σ H H0 ρ Q rl p => ev_op hr ha hb Hs H0s σ H H0 ρ _ rl (post_asB p)⟩
/-- a op b op' c -/
def mChain (f g : D → D → R D) (ma mb mc : ME) : ME := fun ρ => (ma ρ).bind fun d => (mb ρ).bind fun e => (f d e).bind fun k => (asB k).bind fun k => if k then (mc ρ).bind fun z => g e z else .ok (.bool false)
theorem ev_chain {r r' : R2} {f g : D → D → R D} (hr : Op2 X.K X.mg false r f) (hr' : Op2 X.K X.mg false r' g) (ha : BE X W false a ta ma) (hb : BE X W false b tb mb) (hc : BE X W false c tc mc) :
    ∀ Hs H0s σ H H0 ρ Q, Rel X.K (excOf X) Hs H0s σ H H0 ρ → Post (Dp X.K) X.K X.mg true H H0 (mChain f g ma mb mc ρ) Q (WE W σ) → tChain r r' ta tb tc σ H Q := fun Hs H0s σ H H0 ρ Q rl p => by
  refine ha.ev Hs H0s σ H H0 ρ _ rl ((Post.bind p).imp ?_)
  rintro v H1 ⟨d, H01, _, f1, x1, p1⟩
  refine hb.ev Hs H0s σ H1 H01 ρ _ (rl.step f1) ((Post.bind p1).imp ?_)
  rintro u H2 ⟨e, H02, _, f2, x2, p2⟩
  refine hr v u d e H2 H02 _ (WE W σ) f2.sb (keep_md (md := false) f2 x1) x2 ((Post.bind (rel := Dp X.K) (md := true) p2).imp ?_)
  rintro k H3 ⟨kd, H03, _, f3, x3, p3⟩
  cases kd with
  | bool b =>
    cases x3
    refine ⟨b, rfl, ?_⟩
    cases b with
    | true =>
      rw [if_pos rfl]
      refine hc.ev Hs H0s σ H3 H03 ρ _ (((rl.step f1).step f2).step f3) ((Post.bind (rel := Dp X.K) p3).imp ?_)
      rintro z H4 ⟨ze, H04, _, f4, x4, p4⟩
      exact hr' u z e ze H4 H04 Q (WE W σ) f4.sb (keep_md (md := false) (f3.trans f4) x2) x4 p4
    | false =>
      rw [if_neg (by decide)]
      exact p3 (.bl false) H3 H03 (.refl f3.sb) (.bl false)
  | _ => exact False.elim p3
theorem be_chain {r r' : R2} {op op' : CmpOp} (f g : D → D → R D) (ho : OpR X (compareOp op) r) (ho' : OpR X (compareOp op') r') (hr : Op2 X.K X.mg false r f) (hr' : Op2 X.K X.mg false r' g) (ha : BE X W false a ta ma) (hb : BE X W false b tb mb) (hc : BE X W false c tc mc)
    (h1 : lastMarks [op, op'] [b, c] = false) : BE X W true (.Compare a [op, op'] [b, c] pos) (tChain r r' ta tb tc) (mChain f g ma mb mc) := ⟨pe_chain ho ho' ha.pe hb.pe hc.pe h1, ev_chain hr hr' ha hb hc⟩
theorem bt_chain {r r' : R2} {op op' : CmpOp} (f g : D → D → R D) (ho : OpR X (compareOp op) r) (ho' : OpR X (compareOp op') r') (hr : Op2 X.K X.mg false r f) (hr' : Op2 X.K X.mg false r' g) (ha : BE X W false a ta ma) (hb : BE X W false b tb mb) (hc : BE X W false c tc mc)
    (h1 : lastMarks [op, op'] [b, c] = false) : BT X W (.Compare a [op, op'] [b, c] pos) (tTest (tChain r r' ta tb tc)) (mT (mChain f g ma mb mc)) :=
  ⟨pt_chain ho ho' ha.pe hb.pe hc.pe h1, fun Hs H0s σ H H0 ρ Q rl p => ev_chain hr hr' ha hb hc Hs H0s σ H H0 ρ _ rl (post_asB p)⟩

/-! ### truth -/
def dTruth : D → R Bool
  | .none => .ok false
  | .bool b => .ok b
  | .int i => .ok (i != 0)
  | .str x => if x.length ≤ sizeLine then .ok ((x.length : Int) != 0) else .stuck
  | .list xs => .ok (!xs.isEmpty)
  | .tuple xs => .ok (!xs.isEmpty)
  | .dict _ => .stuck
theorem isEmpty_all {K : PySem.W.Frag} {H : Hp} {xs : List V} {ds : List D} (h : DpAll K H xs ds) : xs.isEmpty = ds.isEmpty := by cases h <;> rfl
theorem tru_of {K : PySem.W.Frag} {H : Hp} {v : V} {d : D} {k : Bool} (x : Dp K H v d) (e : dTruth d = .ok k) : TruV K v H k := by
  cases x with
  | non => exact (R.ok.inj e).symm
  | bl b => exact (R.ok.inj e).symm
  | int i => exact (R.ok.inj e).symm
  | str x =>
    have e : (if x.length ≤ sizeLine then R.ok ((x.length : Int) != 0) else R.stuck) = R.ok k := e
    by_cases h : x.length ≤ sizeLine
    · rw [if_pos h] at e; exact ⟨h, (R.ok.inj e).symm⟩
    · rw [if_neg h] at e; cases e
  | lst hs ha => exact .inl ⟨_, hs, by rw [isEmpty_all ha]; exact (R.ok.inj e).symm⟩
  | tup hs ha => exact .inr (.inl ⟨_, hs, by rw [isEmpty_all ha]; exact (R.ok.inj e).symm⟩)
theorem dTruth_ne {d : D} {e : Exn} : dTruth d ≠ .err e := by
  cases d with
  | str x =>
    show (if x.length ≤ sizeLine then R.ok ((x.length : Int) != 0) else R.stuck) ≠ R.err e
    split <;> simp
  | _ => simp [dTruth]
theorem dTruth_np {d : D} {k : Nat → R Bool} : dTruth d ≠ .pick k := by
  cases d with
  | str x =>
    show (if x.length ≤ sizeLine then R.ok ((x.length : Int) != 0) else R.stuck) ≠ R.pick k
    split <;> simp
  | _ => simp [dTruth]
theorem post_truth {K : PySem.W.Frag} {mg : Str → Option Value} {H H0 : Hp} {r : R D} {Q : Bool → Hp → Prop} {E : XK} (h : Post beqr K mg true H H0 (r.bind dTruth) Q E) :
    Post (Dp K) K mg false H H0 r (fun x H' => ∃ k, TruV K x H' k ∧ Q k H') E := by
  induction r with
  | stuck => exact h
  | ok d =>
    intro v H' H0' f x
    have h : Post beqr K mg true H H0 (dTruth d) Q E := h
    cases q : dTruth d with
    | stuck => rw [q] at h; exact False.elim h
    | ok k => rw [q] at h; exact ⟨k, tru_of x q, h k H' H0' f rfl⟩
    | err z => exact absurd q dTruth_ne
    | pick k => exact absurd q dTruth_np
  | err e => exact h
  | pick k ih => exact fun n hn => ih n (h n hn)
def mTru (m : ME) : MT := fun ρ => (m ρ).bind dTruth
theorem bt_truth (ha : BE X W false a ta ma) (he : ∀ whole, isTrue a X.env whole = (do let v ← whole; standAt a.pos; holding [v] (truthy v)) := by intro _; rfl) : BT X W a (fun σ H Q => ta σ H fun x H' => ∃ k, TruV X.K x H' k ∧ Q k H') (mTru ma) :=
  ⟨pt_truth ha.pe he, fun Hs H0s σ H H0 ρ Q rl p => ha.ev Hs H0s σ H H0 ρ _ rl (post_truth p)⟩
variable {tA tB' : TT} {mA mB : MT} {rest : List Expr}
theorem bw_and1 (ha : BT X W a tA mA) : BW X W (.BoolOp .And [a] pos) tA mA := ⟨pw_and1 ha.pe, ha.ev⟩
theorem bw_or1 (ha : BT X W a tA mA) : BW X W (.BoolOp .Or [a] pos) tA mA := ⟨pw_or1 ha.pe, ha.ev⟩
def mAndT (x y : MT) : MT := fun ρ => (x ρ).bind fun k => if k then y ρ else .ok false
def mOrT (x y : MT) : MT := fun ρ => (x ρ).bind fun k => if k then .ok true else y ρ
def mNotT (x : MT) : MT := fun ρ => (x ρ).bind fun k => .ok (!k)
theorem bw_and (ha : BT X W a tA mA) (hb : BW X W (.BoolOp .And (b :: rest) pos) tB' mB) : BW X W (.BoolOp .And (a :: b :: rest) pos) (tAnd tA tB') (mAndT mA mB) := by
  refine ⟨pw_and ha.pe hb.pe, fun Hs H0s σ H H0 ρ Q rl p => ha.ev Hs H0s σ H H0 ρ _ rl ((Post.bind p).imp ?_)⟩
  rintro k H1 ⟨d, H01, _, f1, x1, p1⟩
  have x1 : k = d := x1
  subst x1
  cases k with
  | true => exact hb.ev Hs H0s σ H1 H01 ρ Q (rl.step f1) p1
  | false => exact p1 false H1 H01 (.refl f1.sb) rfl
theorem bw_or (ha : BT X W a tA mA) (hb : BW X W (.BoolOp .Or (b :: rest) pos) tB' mB) : BW X W (.BoolOp .Or (a :: b :: rest) pos) (tOr tA tB') (mOrT mA mB) := by
  refine ⟨pw_or ha.pe hb.pe, fun Hs H0s σ H H0 ρ Q rl p => ha.ev Hs H0s σ H H0 ρ _ rl ((Post.bind p).imp ?_)⟩
  rintro k H1 ⟨d, H01, _, f1, x1, p1⟩
  have x1 : k = d := x1
  subst x1
  cases k with
  | false => exact hb.ev Hs H0s σ H1 H01 ρ Q (rl.step f1) p1
  | true => exact p1 true H1 H01 (.refl f1.sb) rfl
theorem bt_w (h : BW X W e tA mA) : BT X W e tA mA := ⟨h.pe.pt, h.ev⟩
theorem bt_not (ha : BT X W a tA mA) : BT X W (.UnaryOp .Not a pos) (tNot tA) (mNotT mA) := by
  refine ⟨pt_not ha.pe, fun Hs H0s σ H H0 ρ Q rl p => ha.ev Hs H0s σ H H0 ρ _ rl ((Post.bind p).imp ?_)⟩
  rintro k H1 ⟨d, H01, _, f1, x1, p1⟩
  have x1 : k = d := x1
  subst x1
  exact p1 _ H1 H01 (.refl f1.sb) rfl
/-! .. as values -/
def mAnd (x y : ME) : ME := fun ρ => (x ρ).bind fun d => (dTruth d).bind fun k => if k then y ρ else .ok d
def mOr (x y : ME) : ME := fun ρ => (x ρ).bind fun d => (dTruth d).bind fun k => if k then .ok d else y ρ
def mNot (x : ME) : ME := fun ρ => (x ρ).bind fun d => (dTruth d).bind fun k => .ok (.bool (!k))
theorem be_one {op : BoolOp} (h : BE X W md a ta ma) : BE X W md (.BoolOp op [a] pos) ta ma := ⟨pe_one h.pe, h.ev⟩
theorem be_and (ha : BE X W md a ta ma) (hb : BE X W md (.BoolOp .And (b :: rest) pos) tb mb) : BE X W md (.BoolOp .And (a :: b :: rest) pos) (tAndT X.K ta tb) (mAnd ma mb) := by
  refine ⟨pe_andT ha.pe hb.pe, fun Hs H0s σ H H0 ρ Q rl p => ha.ev Hs H0s σ H H0 ρ _ rl ((Post.bind p).imp ?_)⟩
  rintro v H1 ⟨d, H01, _, f1, x1, p1⟩
  cases q : dTruth d with
  | stuck => rw [q] at p1; exact False.elim p1
  | err z => exact absurd q dTruth_ne
  | ok k =>
    rw [q] at p1
    refine ⟨k, tru_of (dp_md f1.sb x1) q, ?_⟩
    cases k with
    | true => rw [if_pos rfl]; exact hb.ev Hs H0s σ H1 H01 ρ Q (rl.step f1) p1
    | false => rw [if_neg (by decide)]; exact p1 v H1 H01 (.refl f1.sb) x1
  | pick k => exact absurd q dTruth_np
theorem be_or (ha : BE X W md a ta ma) (hb : BE X W md (.BoolOp .Or (b :: rest) pos) tb mb) : BE X W md (.BoolOp .Or (a :: b :: rest) pos) (tOrT X.K ta tb) (mOr ma mb) := by
  refine ⟨pe_orT ha.pe hb.pe, fun Hs H0s σ H H0 ρ Q rl p => ha.ev Hs H0s σ H H0 ρ _ rl ((Post.bind p).imp ?_)⟩
  rintro v H1 ⟨d, H01, _, f1, x1, p1⟩
  cases q : dTruth d with
  | stuck => rw [q] at p1; exact False.elim p1
  | err z => exact absurd q dTruth_ne
  | ok k =>
    rw [q] at p1
    refine ⟨k, tru_of (dp_md f1.sb x1) q, ?_⟩
    cases k with
    | false => rw [if_neg (by decide)]; exact hb.ev Hs H0s σ H1 H01 ρ Q (rl.step f1) p1
    | true => rw [if_pos rfl]; exact p1 v H1 H01 (.refl f1.sb) x1
  | pick k => exact absurd q dTruth_np
theorem be_not (ha : BE X W false a ta ma) : BE X W true (.UnaryOp .Not a pos) (tNotT X.K ta) (mNot ma) := by
  refine ⟨pe_notT ha.pe, fun Hs H0s σ H H0 ρ Q rl p => ha.ev Hs H0s σ H H0 ρ _ rl ((Post.bind p).imp ?_)⟩
  rintro v H1 ⟨d, H01, _, f1, x1, p1⟩
  cases q : dTruth d with
  | stuck => rw [q] at p1; exact False.elim p1
  | err z => exact absurd q dTruth_ne
  | ok k =>
    rw [q] at p1
    exact ⟨k, tru_of (dp_md f1.sb x1) q, p1 _ H1 H01 (.refl f1.sb) (.bl _)⟩
  | pick k => exact absurd q dTruth_np
def mIf (x : MT) (y z : ME) : ME := fun ρ => (x ρ).bind fun k => if k then y ρ else z ρ
theorem be_if (hc : BT X W c tA mA) (ha : BE X W md a ta ma) (hb : BE X W md b tb mb) : BE X W md (.IfExp c a b pos) (tIf tA ta tb) (mIf mA ma mb) := by
  refine ⟨pe_ifExp hc.pe ha.pe hb.pe, fun Hs H0s σ H H0 ρ Q rl p => hc.ev Hs H0s σ H H0 ρ _ rl ((Post.bind p).imp ?_)⟩
  rintro k H1 ⟨d, H01, _, f1, x1, p1⟩
  have x1 : k = d := x1
  subst x1
  cases k with
  | true => rw [if_pos rfl]; exact ha.ev Hs H0s σ H1 H01 ρ Q (rl.step f1) p1
  | false => rw [if_neg (by decide)]; exact hb.ev Hs H0s σ H1 H01 ρ Q (rl.step f1) p1

/-! ### unary minus -/
def dNeg : D → R D
  | .int i => .ok (.int (-i))
  | _ => .stuck
def m1 (f : D → R D) (ma : ME) : ME := fun ρ => (ma ρ).bind f
theorem be_neg (ha : BE X W false a ta ma) : BE X W true (.UnaryOp .USub a pos) (tUn (rU fun i => .int (-i)) ta) (m1 dNeg ma) := by
  refine ⟨pe_un un_neg ha.pe, fun Hs H0s σ H H0 ρ Q rl p => ha.ev Hs H0s σ H H0 ρ _ rl ((Post.bind p).imp ?_)⟩
  rintro v H1 ⟨d, H01, _, f1, x1, p1⟩
  cases d with
  | int i => cases x1; exact ⟨i, rfl, p1 _ H1 H01 (.refl f1.sb) (.int _)⟩
  | _ => exact False.elim p1

/-! ### arguments, displays -/
variable {es : List Expr} {tr : TA} {mr : MA}
def aNil : MA := fun _ => .ok []
def aCons (m : ME) (r : MA) : MA := fun ρ => (m ρ).bind fun d => (r ρ).bind fun ds => .ok (d :: ds)
theorem ba_nil : BA X W md [] tNil aNil := ⟨pa_nil, fun Hs H0s σ H H0 ρ Q rl p => p [] H H0 (.refl rl.sub) (by cases md <;> exact .nil)⟩
theorem ba_cons (ha : BE X W md e te m) (hr : BA X W md es tr mr) (hs : starEach (e :: es) X.env = (false, eval e X.env) :: starEach es X.env := by rfl) : BA X W md (e :: es) (tCons te tr) (aCons m mr) := by
  refine ⟨pa_cons ha.pe hr.pe hs, fun Hs H0s σ H H0 ρ Q rl p => ha.ev Hs H0s σ H H0 ρ _ rl ((Post.bind p).imp ?_)⟩
  rintro v H1 ⟨d, H01, _, f1, x1, p1⟩
  refine hr.ev Hs H0s σ H1 H01 ρ _ (rl.step f1) ((Post.bind p1).imp ?_)
  rintro vs H2 ⟨ds, H02, _, f2, x2, p2⟩
  exact p2 (v :: vs) H2 H02 (.refl f2.sb) (by
    have x1 := keep_md f2 x1
    cases md with
    | true => exact .cons x1 x2
    | false => exact .cons x1 x2)
def mTup (r : MA) : ME := fun ρ => (r ρ).bind fun ds => if ds.length ≤ sizeLine then .ok (.tuple ds) else .stuck
def mLst (r : MA) : ME := fun ρ => (r ρ).bind fun ds => if ds.length ≤ sizeLine then .ok (.list ds) else .stuck
theorem be_tup {k : Nat} (h : BA X W true es tr mr) : BE X W true (.Tuple es k pos) (tTup tr) (mTup mr) := by
  refine ⟨pe_tup h.pe, fun Hs H0s σ H H0 ρ Q rl p => h.ev Hs H0s σ H H0 ρ _ rl ((Post.bind p).imp ?_)⟩
  rintro vs H1 ⟨ds, H01, _, f1, x1, p1⟩
  split at p1
  · rename_i hl
    exact ⟨by rw [DpAll.length x1]; exact hl, fun q hq => p1 _ _ _ (Fr.new f1.sb hq) (.tup (.inl (.inl upd_same)) (dpAll_mono (Same.new (f1.sb.free hq)) _ _ x1))⟩
  · exact False.elim p1
theorem be_lst (h : BA X W true es tr mr) : BE X W true (.List es pos) (tLst tr) (mLst mr) := by
  refine ⟨pe_lst h.pe, fun Hs H0s σ H H0 ρ Q rl p => h.ev Hs H0s σ H H0 ρ _ rl ((Post.bind p).imp ?_)⟩
  rintro vs H1 ⟨ds, H01, _, f1, x1, p1⟩
  split at p1
  · rename_i hl
    exact ⟨by rw [DpAll.length x1]; exact hl, fun q hq => p1 _ _ _ (Fr.new f1.sb hq) (.lst (.inl (.inl upd_same)) (dpAll_mono (Same.new (f1.sb.free hq)) _ _ x1))⟩
  · exact False.elim p1

/-! ### calls -/
/-- a built-in, by values -/
def Fn (K : PySem.W.Frag) (mg : Str → Option Value) (md : Bool) (r : List V → Hp → VK → Prop) (f : List D → R D) : Prop :=
  ∀ (xs : List V) (ds : List D) (H H0 : Hp) (Q : VK) (E : XK), Same H0 H → DpAll K (bif md then H0 else H) xs ds → Post (Dp K) K mg true H H0 (f ds) Q E → r xs H Q
def mF (f : List D → R D) (r : MA) : ME := fun ρ => (r ρ).bind f
theorem be_callB {x : Str} {p : Pos} {id : String} {r : List V → Hp → VK → Prop} (f : List D → R D) (hc : CallR X (.builtin id) r) (hf : Fn X.K X.mg md r f) (hg : Gl X x) (hm : X.mg x = none) (hv : bootBuiltins x = some (.builtin id)) (ha : BA X W md (e :: es) tr mr)
    (hn : x ≠ "__name__" := by decide) (hd : (x == ("__debug__" : Str)) = false := by decide) (he : starEach (e :: es) X.env = (false, eval e X.env) :: starEach es X.env := by rfl) (hpl : (backTo pos (starEach es X.env)).any (·.1) = false := by rfl) :
    BE X W true (.Call (.Name x p) (e :: es) [] pos) (tCB r tr) (mF f mr) := by
  refine ⟨pe_callB hc hg hm hv ha.pe hn hd he hpl, fun Hs H0s σ H H0 ρ Q rl p => ha.ev Hs H0s σ H H0 ρ _ rl ((Post.bind p).imp ?_)⟩
  rintro vs H1 ⟨ds, H01, _, f1, x1, p1⟩
  exact hf vs ds H1 H01 Q _ f1.sb x1 p1
theorem be_callTy {x : Str} {p : Pos} {T : String} {r : List V → Hp → VK → Prop} (f : List D → R D) (hc : CallR X (.type T) r) (hf : Fn X.K X.mg md r f) (hg : Gl X x) (hm : X.mg x = none) (hv : bootBuiltins x = some (.type T)) (ha : BA X W md (e :: es) tr mr)
    (hn : x ≠ "__name__" := by decide) (hd : (x == ("__debug__" : Str)) = false := by decide) (he : starEach (e :: es) X.env = (false, eval e X.env) :: starEach es X.env := by rfl) (hpl : (backTo pos (starEach es X.env)).any (·.1) = false := by rfl) :
    BE X W true (.Call (.Name x p) (e :: es) [] pos) (tCB r tr) (mF f mr) := by
  refine ⟨pe_callTy hc hg hm hv ha.pe hn hd he hpl, fun Hs H0s σ H H0 ρ Q rl p => ha.ev Hs H0s σ H H0 ρ _ rl ((Post.bind p).imp ?_)⟩
  rintro vs H1 ⟨ds, H01, _, f1, x1, p1⟩
  exact hf vs ds H1 H01 Q _ f1.sb x1 p1
/-- the promise of a def by its mirror -/
def spM (K : PySem.W.Frag) (mg : Str → Option Value) (n : Nat) (f : List D → R D) : Sp := fun vs H Q E => ∃ H0 ds, Same H0 H ∧ DpAll K H0 vs ds ∧ ds.length = n ∧ Post (Dp K) K mg true H H0 (f ds) Q E
/-- what is known of a def of one's own -/
structure Def (P : Program) (w : World) (K : PySem.W.Frag) (mg : Str → Option Value) (base : Heap) (x : Str) (ps : List Str) (k : Nat) (f : List D → R D) : Prop where
  ex : ∃ (a : Addr) (fd : FuncData), FnOk P w K mg base (L2.CX P w) k a fd ps (spM K mg ps.length f) ∧ mg x = some (.ref a) ∧ PySem.W.keepIn K (.ref a) = true ∧ L2.Binds K fd ps []
def mCall (n : Nat) (f : List D → R D) (r : MA) : ME := fun ρ => (r ρ).bind fun ds => if ds.length = n then f ds else .stuck
theorem be_call {x : Str} {p : Pos} {ps : List Str} {k j n : Nat} {f : List D → R D} (F : Def X.prog X.w X.K X.mg X.base x ps k f) (hr : Room j X.A) (hk : k ≤ j) (hg : Gl X x) (tk : Takes X W) (ha : BA X W true (e :: es) tr mr) (hn : ps.length = n := by rfl)
    (hd : (x == ("__debug__" : Str)) = false := by decide) (he : starEach (e :: es) X.env = (false, eval e X.env) :: starEach es X.env := by rfl) (hpl : (backTo pos (starEach es X.env)).any (·.1) = false := by rfl) :
    BE X W true (.Call (.Name x p) (e :: es) [] pos) (tCallS (spM X.K X.mg n f) (WE W) tr) (mCall n f mr) := by
  subst hn
  obtain ⟨a, fd, h1, h2, h3, h4⟩ := F.ex
  refine ⟨pe_callS h1 (hr.mono hk) hg h2 h3 h4 (fun σ => passAt tk σ) ha.pe hd he hpl, fun Hs H0s σ H H0 ρ Q rl p => ha.ev Hs H0s σ H H0 ρ _ rl ((Post.bind p).imp ?_)⟩
  rintro vs H1 ⟨ds, H01, _, f1, x1, p1⟩
  split at p1
  · rename_i hl
    exact ⟨H01, ds, f1.sb, x1, hl, p1⟩
  · exact False.elim p1

/-! ### slices -/
def oNone : MO := fun _ => .ok none
def oSome (m : ME) : MO := fun ρ => (m ρ).bind fun d => match d with | .int i => .ok (some i) | _ => .stuck
theorem bo_none : BO X W none tNoPart oNone := ⟨po_none, fun Hs H0s σ H H0 ρ Q rl p => p none H H0 (.refl rl.sub) rfl⟩
theorem bo_some (h : BE X W false e te m) : BO X W (some e) (tPart te) (oSome m) := by
  refine ⟨po_some h.pe, fun Hs H0s σ H H0 ρ Q rl p => h.ev Hs H0s σ H H0 ρ _ rl ((Post.bind p).imp ?_)⟩
  rintro v H1 ⟨d, H01, _, f1, x1, p1⟩
  cases d with
  | int i => cases x1; exact ⟨i, rfl, p1 _ H1 H01 (.refl f1.sb) rfl⟩
  | _ => exact False.elim p1
end
end DW

end
end
section
set_option Elab.async false
set_option linter.all false
set_option maxRecDepth 100000
set_option maxHeartbeats 4000000
noncomputable section
namespace DW
open PySem PySem.Spec PyProof.Rows L2

inductive O where
  | nx (ρ : En) | rt (d : D) | rto (ds : List D) | bk (ρ : En) | ct (ρ : En) | err (e : Exn) (ρ : En) | stuck | pick (k : Nat → O)
abbrev MS := En → O
/-- a change at the leaves -/
def O.lf (f : O → O) (o : O) : O := O.rec (motive := fun _ => O) (fun ρ => f (.nx ρ)) (fun d => f (.rt d)) (fun d => f (.rto d)) (fun ρ => f (.bk ρ)) (fun ρ => f (.ct ρ)) (fun e ρ => f (.err e ρ)) (f .stuck) (fun _ ih => .pick ih) o
def O.of {α : Type} (r : R α) (ρ : En) (f : α → O) : O := R.rec (motive := fun _ => O) .stuck (fun a => f a) (fun e => .err e ρ) (fun _ ih => .pick ih) r
@[simp] theorem O.of_ok {α : Type} (a : α) (ρ : En) (f : α → O) : O.of (.ok a) ρ f = f a := rfl
@[simp] theorem O.of_err {α : Type} (e : Exn) (ρ : En) (f : α → O) : O.of (.err e) ρ f = .err e ρ := rfl
@[simp] theorem O.of_stuck {α : Type} (ρ : En) (f : α → O) : O.of (.stuck : R α) ρ f = .stuck := rfl
theorem O.of_pick {α : Type} (k : Nat → R α) (ρ : En) (f : α → O) : O.of (.pick k) ρ f = .pick fun n => O.of (k n) ρ f := rfl
def O.thn1 (f : MS) : O → O
  | .nx ρ => f ρ
  | o => o
def O.thn (o : O) (f : MS) : O := O.lf (O.thn1 f) o
theorem O.thn_pick (k : Nat → O) (f : MS) : (O.pick k).thn f = .pick fun n => (k n).thn f := rfl
@[simp] theorem O.thn_rto (d : List D) (f : MS) : (O.rto d).thn f = .rto d := rfl
/-- behind the body of a loop -/
def O.lp1 (f : MS) : O → O
  | .nx ρ => f ρ
  | .ct ρ => f ρ
  | .bk ρ => .nx ρ
  | o => o
def O.lp (o : O) (f : MS) : O := O.lf (O.lp1 f) o
@[simp] theorem O.lp_nx (ρ : En) (f : MS) : (O.nx ρ).lp f = f ρ := rfl
@[simp] theorem O.lp_ct (ρ : En) (f : MS) : (O.ct ρ).lp f = f ρ := rfl
@[simp] theorem O.lp_bk (ρ : En) (f : MS) : (O.bk ρ).lp f = .nx ρ := rfl
@[simp] theorem O.lp_rt (d : D) (f : MS) : (O.rt d).lp f = .rt d := rfl
@[simp] theorem O.lp_rto (d : List D) (f : MS) : (O.rto d).lp f = .rto d := rfl
@[simp] theorem O.lp_err (e : Exn) (ρ : En) (f : MS) : (O.err e ρ).lp f = .err e ρ := rfl
@[simp] theorem O.lp_stuck (f : MS) : O.stuck.lp f = .stuck := rfl
theorem O.lp_pick (k : Nat → O) (f : MS) : (O.pick k).lp f = .pick fun n => (k n).lp f := rfl
@[simp] theorem O.thn_nx (ρ : En) (f : MS) : (O.nx ρ).thn f = f ρ := rfl
@[simp] theorem O.thn_rt (d : D) (f : MS) : (O.rt d).thn f = .rt d := rfl
@[simp] theorem O.thn_bk (ρ : En) (f : MS) : (O.bk ρ).thn f = .bk ρ := rfl
@[simp] theorem O.thn_ct (ρ : En) (f : MS) : (O.ct ρ).thn f = .ct ρ := rfl
@[simp] theorem O.thn_err (e : Exn) (ρ : En) (f : MS) : (O.err e ρ).thn f = .err e ρ := rfl
@[simp] theorem O.thn_stuck (f : MS) : O.stuck.thn f = .stuck := rfl

def PostS (K : PySem.W.Frag) (mg : Str → Option Value) (ea : EA) (Hs H0s : Hp) (o : O) (D : Ends) (W : WX) : Prop := O.rec (motive := fun _ => Prop)
  (fun ρ => ∀ σ H H0, Rel K ea Hs H0s σ H H0 ρ → D.nx σ H)
  (fun d => ∀ v H H0, Fr Hs H0s H H0 → Dp K H0 v d → D.rt v H)
  (fun ds => ∀ p vs H H0, Fr Hs H0s H H0 → Hs p = none → H0 p = none → H p = some (.lst vs) → DpAll K H0 vs ds → D.rt (.ref p) H)
  (fun ρ => ∀ σ H H0, Rel K ea Hs H0s σ H H0 ρ → D.bk σ H)
  (fun ρ => ∀ σ H H0, Rel K ea Hs H0s σ H H0 ρ → D.ct σ H)
  (fun e ρ => ∀ σ H H0, Rel K ea Hs H0s σ H H0 ρ → ErrOk K mg (WE W σ) e H H0)
  False (fun _ ih => ∀ n, n < top1000 → ih n) o
/-- leaf by leaf -/
theorem PostS.lf {K : PySem.W.Frag} {mg : Str → Option Value} {ea ea' : EA} {Hs H0s Hs' H0s' : Hp} {o : O} {f : O → O} {D D' : Ends} {W W' : WX} (h : PostS K mg ea Hs H0s (O.lf f o) D W)
    (q : ∀ o', (∀ k, o' ≠ .pick k) → PostS K mg ea Hs H0s (f o') D W → PostS K mg ea' Hs' H0s' o' D' W') : PostS K mg ea' Hs' H0s' o D' W' := by
  induction o with
  | pick k ih => exact fun n hn => ih n (h n hn)
  | _ => exact q _ (fun _ z => nomatch z) h
structure BS (X : Cx) (W : WX) (s : Stmt) (t : TS) (m : MS) : Prop where
  pe : PS X s t
  ev : ∀ Hs H0s σ H H0 ρ D, Rel X.K (excOf X) Hs H0s σ H H0 ρ → PostS X.K X.mg (excOf X) Hs H0s (m ρ) D W → t D σ H
structure BSs (X : Cx) (W : WX) (s : List Stmt) (t : TS) (m : MS) : Prop where
  pe : PSs X s t
  ev : ∀ Hs H0s σ H H0 ρ D, Rel X.K (excOf X) Hs H0s σ H H0 ρ → PostS X.K X.mg (excOf X) Hs H0s (m ρ) D W → t D σ H
theorem PostS.of {K : PySem.W.Frag} {mg : Str → Option Value} {ea : EA} {Hs H0s H H0 : Hp} {σ : L2.St} {ρ : En} {α β : Type} {rel : Hp → β → α → Prop} {md : Bool} {r : R α} {f : α → O} {D : Ends} {W : WX}
    (h : PostS K mg ea Hs H0s (O.of r ρ f) D W) (rl : Rel K ea Hs H0s σ H H0 ρ) :
    Post rel K mg md H H0 r (fun v H' => ∃ d H0', True ∧ Fr H H0 H' H0' ∧ rel (bif md then H0' else H') v d ∧ PostS K mg ea Hs H0s (f d) D W) (WE W σ) := by
  induction r with
  | stuck => exact h
  | ok d => exact fun v H' H0' g x => ⟨d, H0', trivial, g, x, h⟩
  | err e => exact fun H' H0' g => h σ H' H0' (rl.step g)
  | pick k ih => exact fun n hn => ih n (h n hn)
theorem Fr.rebase {Hs H0s H1 H01 H H0 : Hp} (f : Fr Hs H0s H1 H01) (g : Fr Hs H01 H H0) : Fr Hs H0s H H0 :=
  ⟨g.ex, f.ez.trans g.ez, g.sb, fun p h0 h => g.ow p (f.ow p h0 h) h⟩
theorem Rel.unbase {K : PySem.W.Frag} {ea : EA} {Hs H0s H1 H01 H H0 : Hp} {σ : L2.St} {ρ : En} (f : Fr Hs H0s H1 H01) (r : Rel K ea Hs H01 σ H H0 ρ) : Rel K ea Hs H0s σ H H0 ρ :=
  ⟨f.rebase r.fr, r.len, r.sh, r.own, r.dis, r.exc, r.rnd⟩
theorem Rel.rebase {K : PySem.W.Frag} {ea : EA} {Hs H0s H01 H H0 : Hp} {σ : L2.St} {ρ : En} (r : Rel K ea Hs H0s σ H H0 ρ) (s1 : Same H0s H01) (s2 : Same H01 H0) : Rel K ea Hs H01 σ H H0 ρ :=
  ⟨⟨r.fr.ex, s2, r.fr.sb, fun p h0 h => r.fr.ow p (s1.free h0) h⟩, r.len, r.sh, r.own, r.dis, r.exc, r.rnd⟩
section
variable {X : Cx} {W : WX} {md : Bool} {e a b c : Expr} {t ta tb tc te : TE} {m ma mb mc : ME} {pos : Pos} {st : Stmt} {sts rest : List Stmt} {s u : TS} {ms mu : MS}
/-! ### blocks -/
def sNil : MS := fun ρ => .nx ρ
def sCons (x y : MS) : MS := fun ρ => (x ρ).thn y
theorem bss_nil : BSs X W [] tNext sNil := ⟨pss_nil, fun Hs H0s σ H H0 ρ D rl p => p σ H H0 rl⟩
theorem bss_cons (h1 : BS X W st s ms) (h2 : BSs X W rest u mu) : BSs X W (st :: rest) (tSeq s u) (sCons ms mu) := by
  refine ⟨pss_cons h1.pe h2.pe, fun Hs H0s σ H H0 ρ D rl p => h1.ev Hs H0s σ H H0 ρ _ rl ?_⟩
  refine PostS.lf (f := O.thn1 mu) p fun o np p => ?_
  cases o with
  | nx ρ' => exact fun σ H H0 r => h2.ev Hs H0s σ H H0 ρ' D r p
  | pick k => exact absurd rfl (np k)
  | _ => exact p
theorem bss_one (h : BS X W st s ms) : BSs X W [st] s ms := ⟨pss_one h.pe, h.ev⟩
/-- own lists at these slots are given to the base ahead of a statement -/
def frz (i : Nat) (ρ : En) : En := match ρ[i]? with
  | some (some (.own ds)) => ρ.set i (some (.sh (.list ds)))
  | _ => ρ
def sFrz (i : Nat) (x : MS) : MS := fun ρ => x (frz i ρ)
theorem Rel.frz {K : PySem.W.Frag} {ea : EA} {Hs H0s H H0 : Hp} {σ : L2.St} {ρ : En} (i : Nat) (h : Rel K ea Hs H0s σ H H0 ρ) : ∃ H0', Rel K ea Hs H0s σ H H0' (frz i ρ) := by
  unfold DW.frz
  split
  · rename_i ds e
    obtain ⟨H0', _, r⟩ := h.freeze e
    exact ⟨H0', r⟩
  · exact ⟨H0, h⟩
theorem bs_frz (i : Nat) (h : BS X W st s ms) : BS X W st s (sFrz i ms) := ⟨h.pe, fun Hs H0s σ H H0 ρ D rl p => by
  obtain ⟨H0', r⟩ := rl.frz i
  exact h.ev Hs H0s σ H H0' _ D r p⟩

/-! ### plain statements -/
theorem bs_pass : BS X W (.Pass pos) tNext sNil := ⟨ps_pass, fun Hs H0s σ H H0 ρ D rl p => p σ H H0 rl⟩
def sBreak : MS := fun ρ => .bk ρ
def sCont : MS := fun ρ => .ct ρ
theorem bs_break : BS X W (.Break pos) tBreak sBreak := ⟨ps_break, fun Hs H0s σ H H0 ρ D rl p => p σ H H0 rl⟩
theorem bs_cont : BS X W (.Continue pos) tCont sCont := ⟨ps_continue, fun Hs H0s σ H H0 ρ D rl p => p σ H H0 rl⟩
def sRet (m : ME) : MS := fun ρ => O.of (m ρ) ρ .rt
def sRetN : MS := fun _ => .rt .none
theorem bs_ret (h : BE X W true e t m) : BS X W (.Return (some e) pos) (tRet t) (sRet m) := by
  refine ⟨ps_ret h.pe, fun Hs H0s σ H H0 ρ D rl p => h.ev Hs H0s σ H H0 ρ _ rl ((PostS.of p rl).imp ?_)⟩
  rintro v H1 ⟨d, H01, _, f1, x1, p1⟩
  exact p1 v H1 H01 (rl.fr.trans f1) x1
theorem bs_retN : BS X W (.Return none pos) tRetN sRetN := ⟨ps_retN, fun Hs H0s σ H H0 ρ D rl p => p .non H H0 rl.fr .non⟩
def sExpr (m : ME) : MS := fun ρ => O.of (m ρ) ρ fun _ => .nx ρ
theorem bs_expr (h : BE X W md e t m) (hs : swapsWith e none pos.line X.env = pure false := by rfl) : BS X W (.Expr e pos) (tDrop t) (sExpr m) := by
  refine ⟨ps_expr h.pe hs, fun Hs H0s σ H H0 ρ D rl p => h.ev Hs H0s σ H H0 ρ _ rl ((PostS.of p rl).imp ?_)⟩
  rintro v H1 ⟨d, H01, _, f1, x1, p1⟩
  exact p1 σ H1 H01 (rl.step f1)
def sIf (x : MT) (y z : MS) : MS := fun ρ => O.of (x ρ) ρ fun k => if k then y ρ else z ρ
theorem bs_if {tA : TT} {mA : MT} {b1 b2 : List Stmt} (hc : BT X W c tA mA) (h1 : BSs X W b1 s ms) (h2 : BSs X W b2 u mu) : BS X W (.If c b1 b2 pos) (tIfS tA s u) (sIf mA ms mu) := by
  refine ⟨ps_if hc.pe h1.pe h2.pe, fun Hs H0s σ H H0 ρ D rl p => hc.ev Hs H0s σ H H0 ρ _ rl ((PostS.of p rl).imp ?_)⟩
  rintro k H1 ⟨d, H01, _, f1, x1, p1⟩
  have x1 : k = d := x1
  subst x1
  cases k with
  | true => rw [if_pos rfl]; exact h1.ev Hs H0s σ H1 H01 ρ D (rl.step f1) p1
  | false => rw [if_neg (by decide)]; exact h2.ev Hs H0s σ H1 H01 ρ D (rl.step f1) p1

/-! ### targets -/
/-- alike but at the slots of the list -/
def Ag (sl : List Nat) (σ σ' : L2.St) : Prop := σ'.length = σ.length ∧ ∀ j : Nat, j ∉ sl → σ'[j]? = σ[j]?
structure BG (X : Cx) (tg : Expr) (g : TG) (sl : List Nat) (mt : D → En → R En) : Prop where
  pe : PG X tg g
  ev : ∀ Hs H0s σ H H0 ρ v d ρ' (Q : L2.St → Hp → Prop), Rel X.K (excOf X) Hs H0s σ H H0 ρ → Dp X.K H0 v d → mt d ρ = .ok ρ' → (∀ σ', Rel X.K (excOf X) Hs H0s σ' H H0 ρ' → Ag sl σ σ' → Q σ' H) → g v σ H Q
structure BGs (X : Cx) (tgs : List Expr) (g : TGs) (sl : List Nat) (mt : List D → En → R En) : Prop where
  pe : PGs X tgs g
  ev : ∀ Hs H0s σ H H0 ρ v d ρ' (Q : L2.St → Hp → Prop), Rel X.K (excOf X) Hs H0s σ H H0 ρ → DpAll X.K H0 v d → mt d ρ = .ok ρ' → (∀ σ', Rel X.K (excOf X) Hs H0s σ' H H0 ρ' → Ag sl σ σ' → Q σ' H) → g v σ H Q
def gN (i : Nat) : D → En → R En := fun d ρ => .ok (ρ.set i (some (.sh d)))
theorem bg_name (i : Nat) {x : Str} (h : PG X (.Name x pos) (gName i)) : BG X (.Name x pos) (gName i) [i] (gN i) := by
  refine ⟨h, fun Hs H0s σ H H0 ρ v d ρ' Q rl x e q => ?_⟩
  cases e
  refine q _ (rl.set i x) ⟨List.length_set, fun j hj => ?_⟩
  have : i ≠ j := fun z => hj (by rw [z]; exact List.mem_cons_self)
  exact List.getElem?_set_ne this
def gsN : List D → En → R En := fun ds ρ => match ds with | [] => .ok ρ | _ => .stuck
def gsC (g : D → En → R En) (gs : List D → En → R En) : List D → En → R En := fun ds ρ => match ds with | d :: ds => (g d ρ).bind (gs ds) | [] => .stuck
theorem bgs_nil : BGs X [] gNil [] gsN := by
  refine ⟨pgs_nil, fun Hs H0s σ H H0 ρ v d ρ' Q rl x e q => ?_⟩
  cases x with
  | nil => cases e; exact ⟨rfl, q _ rl ⟨rfl, fun _ _ => rfl⟩⟩
  | cons _ _ => cases e
theorem bgs_cons {tg : Expr} {tgs : List Expr} {g : TG} {gs : TGs} {mt : D → En → R En} {mts : List D → En → R En} {sl sls : List Nat} (h : BG X tg g sl mt) (hs : BGs X tgs gs sls mts) (pe : PGs X (tg :: tgs) (gCons g gs)) : BGs X (tg :: tgs) (gCons g gs) (sl ++ sls) (gsC mt mts) := by
  refine ⟨pe, fun Hs H0s σ H H0 ρ v d ρ' Q rl x e q => ?_⟩
  cases x with
  | nil => cases e
  | cons x1 x2 =>
    rename_i v1 vs d1 ds
    have e : (mt d1 ρ).bind (mts ds) = .ok ρ' := e
    cases z : mt d1 ρ with
    | ok ρ1 =>
      rw [z] at e
      exact ⟨v1, vs, rfl, h.ev Hs H0s σ H H0 ρ v1 d1 ρ1 _ rl x1 z fun σ' r' a' => hs.ev Hs H0s σ' H H0 ρ1 vs ds ρ' _ r' x2 e fun σ'' r'' a'' => q σ'' r'' ⟨a''.1.trans a'.1, fun j hj => (a''.2 j fun z => hj (List.mem_append_right _ z)).trans (a'.2 j fun z => hj (List.mem_append_left _ z))⟩⟩
    | stuck => rw [z] at e; cases e
    | err _ => rw [z] at e; cases e
    | pick _ => rw [z] at e; cases e
def gT (n : Nat) (gs : List D → En → R En) : D → En → R En := fun d ρ => match d with
  | .tuple ds => if ds.length = n then gs ds ρ else .stuck
  | .list ds => if ds.length = n then gs ds ρ else .stuck
  | _ => .stuck
def gTL (K : PySem.W.Frag) (n : Nat) (t : TGs) : TG := fun v σ H Q => gTup K n t v σ H Q ∨ gLst K n t v σ H Q
theorem bg_tup {es : List Expr} {k : Nat} {gs : TGs} {n : Nat} {mts : List D → En → R En} {sl : List Nat} (h : BGs X es gs sl mts) (hc : X.calm = true) (pe : PGs X es gs)
    (hn : (assignEach es X.env).length = n := by rfl) (hst : (assignEach es X.env).findIdx? (·.1) = none := by rfl) : BG X (.Tuple es k pos) (gTL X.K n gs) sl (gT n mts) := by
  refine ⟨⟨fun pins s σ H v u Q I r q => q.elim (fun q => (pg_tup hc pe hn hst).run pins s σ H v u Q I r q) fun q => (pg_lst hc pe hn hst).run pins s σ H v u Q I r q⟩, fun Hs H0s σ H H0 ρ v d ρ' Q rl x e q => ?_⟩
  cases x with
  | tup hs ha =>
    rename_i p xs ds
    have e : (if ds.length = n then mts ds ρ else .stuck) = .ok ρ' := e
    split at e
    · rename_i hl
      exact .inl ⟨p, xs, rfl, sqT_mono rl.sub hs, by rw [DpAll.length ha]; exact hl, h.ev Hs H0s σ H H0 ρ xs ds ρ' Q rl ha e q⟩
    · cases e
  | lst hs ha =>
    rename_i p xs ds
    have e : (if ds.length = n then mts ds ρ else .stuck) = .ok ρ' := e
    split at e
    · rename_i hl
      exact .inr ⟨p, xs, rfl, rl.sub.seq hs, by rw [DpAll.length ha]; exact hl, h.ev Hs H0s σ H H0 ρ xs ds ρ' Q rl ha e q⟩
    · cases e
  | _ => cases e
def sAsg (g : D → En → R En) (m : ME) : MS := fun ρ => O.of (m ρ) ρ fun d => O.of (g d ρ).sure ρ .nx
theorem bs_asg {tg : Expr} {g : TG} {mt : D → En → R En} {sl : List Nat} (hb : BE X W true e t m) (hg : BG X tg g sl mt) (pe : PS X (.Assign [tg] e pos) (tAsg t g)) : BS X W (.Assign [tg] e pos) (tAsg t g) (sAsg mt m) := by
  refine ⟨pe, fun Hs H0s σ H H0 ρ D rl p => hb.ev Hs H0s σ H H0 ρ _ rl ((PostS.of p rl).imp ?_)⟩
  rintro v H1 ⟨d, H01, _, f1, x1, p1⟩
  cases z : mt d ρ with
  | ok ρ1 =>
    rw [z] at p1
    exact hg.ev Hs H0s σ H1 H01 ρ v d ρ1 _ (rl.step f1) x1 z fun σ' r' _ => p1 σ' H1 H01 r'
  | stuck => rw [z] at p1; exact False.elim p1
  | err _ => rw [z] at p1; exact False.elim p1
  | pick k => rw [z] at p1; exact False.elim p1
theorem bs_aug {i : Nat} {x : Str} {op : Operator} {ti : TIp} {pos' : Pos} (f : D → D → R D) (pe : PS X (.AugAssign (.Name x pos') op e pos) (tAug i t ti)) (hf : Op2 X.K X.mg md (fun x y H Q => ti x y H Q) f) (hb : BE X W md e t m) (ha : ∀ (md : Bool), md = md) :
    BS X W (.AugAssign (.Name x pos') op e pos) (tAug i t ti) (sAsg (gN i) (m2 f (mVar i) m)) := by
  refine ⟨pe, fun Hs H0s σ H H0 ρ D rl p => ?_⟩
  have p : PostS X.K X.mg (excOf X) Hs H0s (O.of ((mVar i ρ).bind fun d => (m ρ).bind fun e => f d e) ρ fun d => O.of (gN i d ρ).sure ρ .nx) D W := p
  cases z : mVar i ρ with
  | stuck => rw [z] at p; exact False.elim p
  | err ee =>
    unfold mVar at z
    split at z <;> cases z
  | pick k =>
    unfold mVar at z
    split at z <;> cases z
  | ok d =>
    rw [z] at p
    unfold mVar at z
    split at z
    · rename_i d' e'
      cases z
      obtain ⟨v, h1, h2⟩ := rl.sh _ _ e'
      have p : PostS X.K X.mg (excOf X) Hs H0s (O.of ((m ρ).bind fun e => f d e) ρ fun d => O.of (gN i d ρ).sure ρ .nx) D W := p
      refine ⟨v, h1, hb.ev Hs H0s σ H H0 ρ _ rl ((Post.bind (rel' := Dp X.K) (md' := true) (PostS.of p rl)).imp ?_)⟩
      rintro u H1 ⟨e1, H01, _, f1, x1, p1⟩
      refine hf v u d e1 H1 H01 _ (WE W σ) f1.sb (keep_md f1 (by cases md; exact dp_mono rl.sub _ _ h2; exact h2)) x1 (p1.imp ?_)
      rintro w H2 ⟨d2, H02, _, f2, x2, p2⟩
      exact p2 _ H2 H02 ((rl.step f2).set i x2)
    · cases z

/-! ### new lists -/
/-- what is to be shown of a list that is new and nobody else's -/
def PostN (K : PySem.W.Frag) (mg : Str → Option Value) (H H0 : Hp) (r : R (List D)) (Q : VK) (E : XK) : Prop := R.rec (motive := fun _ => Prop) False
  (fun ds => ∀ p vs H' H0', Fr H H0 H' H0' → H p = none → H0' p = none → H' p = some (.lst vs) → DpAll K H0' vs ds → Q (.ref p) H')
  (fun e => ∀ H' H0', Fr H H0 H' H0' → ErrOk K mg E e H' H0') (fun _ ih => ∀ n, n < top1000 → ih n) r
structure BN (X : Cx) (W : WX) (e : Expr) (t : TE) (m : MA) : Prop where
  pe : PE X e t
  ev : ∀ Hs H0s σ H H0 ρ Q, Rel X.K (excOf X) Hs H0s σ H H0 ρ → PostN X.K X.mg H H0 (m ρ) Q (WE W σ) → t σ H Q
theorem Fr.freeze {H H0 H' H0' : Hp} {p : Addr} {vs : List V} (f : Fr H H0 H' H0') (h : H p = none) (h0 : H0' p = none) (hp : H' p = some (.lst vs)) : Fr H H0 H' (upd H0' p (.lst vs)) := by
  refine ⟨f.ex, f.ez.trans (Same.new h0), fun b x q => ?_, fun q z1 z2 => ?_⟩
  · by_cases hb : b = p
    · subst hb; rw [upd_same] at q; rw [← q]; exact hp
    · rw [upd_ne hb] at q; exact f.sb b x q
  · have : q ≠ p := fun z => z2 (by rw [z]; exact h)
    rw [upd_ne this]
    exact f.ow q z1 z2
def mN (m : MA) : ME := fun ρ => (m ρ).bind fun ds => .ok (.list ds)
theorem PostN.of {K : PySem.W.Frag} {mg : Str → Option Value} {H H0 : Hp} {r : R (List D)} {Q : VK} {E : XK} (h : Post (Dp K) K mg true H H0 (r.bind fun ds => .ok (.list ds)) Q E) : PostN K mg H H0 r Q E := by
  induction r with
  | stuck => exact h
  | ok ds => exact fun p vs H' H0' f n n0 hp x => h (.ref p) H' _ (f.freeze n n0 hp) (.lst (.inl (.inl upd_same)) (dpAll_mono (Same.new n0) _ _ x))
  | err e => exact h
  | pick k ih => exact fun n hn => ih n (h n hn)
theorem be_n {mm : MA} (h : BN X W e t mm) : BE X W true e t (mN mm) := ⟨h.pe, fun Hs H0s σ H H0 ρ Q rl p => h.ev Hs H0s σ H H0 ρ Q rl (PostN.of p)⟩
/-- x = a new list, the slot's own from then on -/
def sOwn (i : Nat) (m : MA) : MS := fun ρ => O.of (m ρ) ρ fun ds => .nx (ρ.set i (some (.own ds)))
theorem bs_own {i : Nat} {x : Str} {pos' : Pos} {mm : MA} (h : BN X W e t mm) (pe : PS X (.Assign [.Name x pos'] e pos) (tAsg t (gName i))) : BS X W (.Assign [.Name x pos'] e pos) (tAsg t (gName i)) (sOwn i mm) := by
  refine ⟨pe, fun Hs H0s σ H H0 ρ D rl p => h.ev Hs H0s σ H H0 ρ _ rl ?_⟩
  unfold sOwn at p
  generalize mm ρ = r at p
  induction r with
  | stuck => exact p
  | pick k ih => exact fun n hn => ih n (p n hn)
  | err z => exact fun H' H0' f => p σ H' H0' (rl.step f)
  | ok ds =>
    intro pp vs H' H0' f n n0 hp x
    refine p _ H' H0' ((rl.step f).setOwn i (rl.fr.ex.free n) n0 hp x fun j es hj e1 e2 => ?_)
    obtain ⟨p2, vs2, a1, a2, a3, a4, a5⟩ := rl.own j es e1
    rw [e2] at a1
    injection a1 with a1; injection a1 with a1; injection a1 with a1
    rw [← a1, n] at a4
    cases a4
def aLst (r : MA) : MA := fun ρ => (r ρ).bind fun ds => if ds.length ≤ sizeLine then .ok ds else .stuck
theorem bn_lst {es : List Expr} {tr : TA} {mr : MA} (h : BA X W true es tr mr) : BN X W (.List es pos) (tLst tr) (aLst mr) := by
  refine ⟨pe_lst h.pe, fun Hs H0s σ H H0 ρ Q rl p => h.ev Hs H0s σ H H0 ρ _ rl ?_⟩
  unfold aLst at p
  generalize mr ρ = r at p
  induction r with
  | stuck => exact p
  | pick k ih => exact fun n hn => ih n (p n hn)
  | err z => exact p
  | ok ds =>
    have p : PostN X.K X.mg H H0 (if ds.length ≤ sizeLine then .ok ds else .stuck) Q (WE W σ) := p
    intro vs H' H0' f x
    split at p
    · rename_i hl
      exact ⟨by rw [DpAll.length x]; exact hl, fun pp hp => p pp vs _ _ (f.trans (Fr.loose f.sb hp)) (f.ex.free hp) (f.sb.free hp) upd_same x⟩
    · exact False.elim p
/-- x.append(e) -/
def sApp (i : Nat) (m : ME) : MS := fun ρ => match ρ[i]? with
  | some (some (.own ds)) => O.of (m ρ) ρ fun d => if ds.length < sizeLine then .nx (ρ.set i (some (.own (ds ++ [d])))) else .stuck
  | _ => .stuck
theorem bs_app {i : Nat} {x : Str} {p0 p1 : Pos} (h : BE X W true e t m) (pe : PS X (.Expr (.Call (.Attribute (.Name x p0) "append" p1) [e] [] pos) pos) (tDrop (tBM X.K "list" rAppend (tVar i) (tCons t tNil)))) :
    BS X W (.Expr (.Call (.Attribute (.Name x p0) "append" p1) [e] [] pos) pos) (tDrop (tBM X.K "list" rAppend (tVar i) (tCons t tNil))) (sApp i m) := by
  refine ⟨pe, fun Hs H0s σ H H0 ρ D rl p => ?_⟩
  unfold sApp at p
  split at p
  · rename_i ds e1
    obtain ⟨q, vs, h1, h2, h3, h4, h5⟩ := rl.own _ _ e1
    refine ⟨.ref q, h1, .inl ⟨rfl, _, .inl (.inl h4)⟩, h.ev Hs H0s σ H H0 ρ _ rl ((PostS.of p rl).imp ?_)⟩
    rintro v H1 ⟨d, H01, _, f1, x1, p1⟩
    split at p1
    · rename_i hl
      have h4' := f1.ex _ _ h4
      refine ⟨q, vs, v, rfl, rfl, h4', by rw [DpAll.length h5]; exact hl, ?_⟩
      exact p1 σ _ H01 ((rl.step f1).write e1 h1 (DpAll.append (dpAll_mono f1.ez _ _ h5) (.cons x1 .nil)))
    · exact False.elim p1
  · exact False.elim p
theorem DpAll.dropLast {K : PySem.W.Frag} {H : Hp} : ∀ {vs : List V} {ds : List D}, DpAll K H vs ds → DpAll K H vs.dropLast ds.dropLast
  | _, _, .nil => .nil
  | _, _, .cons r .nil => .nil
  | _, _, .cons r (.cons r2 t) => .cons r (DpAll.dropLast (.cons r2 t))
/-- x.pop() -/
def sPop (i : Nat) : MS := fun ρ => match ρ[i]? with
  | some (some (.own ds)) => match ds[ds.length - 1]? with
    | some _ => .nx (ρ.set i (some (.own ds.dropLast)))
    | none => .stuck
  | _ => .stuck
theorem bs_pop {i : Nat} {x : Str} {p0 p1 : Pos} (pe : PS X (.Expr (.Call (.Attribute (.Name x p0) "pop" p1) [] [] pos) pos) (tDrop (tBM0 X.K "list" rPop (tVar i)))) :
    BS X W (.Expr (.Call (.Attribute (.Name x p0) "pop" p1) [] [] pos) pos) (tDrop (tBM0 X.K "list" rPop (tVar i))) (sPop i) := by
  refine ⟨pe, fun Hs H0s σ H H0 ρ D rl p => ?_⟩
  unfold sPop at p
  split at p
  · rename_i ds e1
    obtain ⟨q, vs, h1, h2, h3, h4, h5⟩ := rl.own _ _ e1
    split at p
    · rename_i d e2
      obtain ⟨y, hy, _⟩ := DpAll.get h5 e2
      refine ⟨.ref q, h1, .inl ⟨rfl, _, .inl (.inl h4)⟩, q, vs, y, rfl, rfl, h4, by rw [DpAll.length h5]; exact hy, ?_⟩
      exact p σ _ H0 (rl.write e1 h1 (DpAll.dropLast h5))
    · exact False.elim p
  · exact False.elim p
/-- y = x.pop() -/
def sPopTo (j i : Nat) : MS := fun ρ => match ρ[i]? with
  | some (some (.own ds)) => match ds[ds.length - 1]? with
    | some d => .nx ((ρ.set i (some (.own ds.dropLast))).set j (some (.sh d)))
    | none => .stuck
  | _ => .stuck
theorem bs_popTo {i j : Nat} {x y : Str} {p0 p1 p2 cp : Pos} (pe : PS X (.Assign [.Name y p2] (.Call (.Attribute (.Name x p0) "pop" p1) [] [] cp) pos) (tAsg (tBM0 X.K "list" rPop (tVar i)) (gName j))) :
    BS X W (.Assign [.Name y p2] (.Call (.Attribute (.Name x p0) "pop" p1) [] [] cp) pos) (tAsg (tBM0 X.K "list" rPop (tVar i)) (gName j)) (sPopTo j i) := by
  refine ⟨pe, fun Hs H0s σ H H0 ρ D rl p => ?_⟩
  unfold sPopTo at p
  split at p
  · rename_i ds e1
    obtain ⟨q, vs, h1, h2, h3, h4, h5⟩ := rl.own _ _ e1
    split at p
    · rename_i d e2
      obtain ⟨y, hy, hd⟩ := DpAll.get h5 e2
      refine ⟨.ref q, h1, .inl ⟨rfl, _, .inl (.inl h4)⟩, q, vs, y, rfl, rfl, h4, by rw [DpAll.length h5]; exact hy, ?_⟩
      exact p _ _ H0 ((rl.write e1 h1 (DpAll.dropLast h5)).set j hd)
    · exact False.elim p
  · exact False.elim p
/-- x[k] = v -/
def sSetIx (i : Nat) (mi mv : ME) : MS := fun ρ => O.of (mv ρ) ρ fun d => match ρ[i]? with
  | some (some (.own ds)) => O.of (mi ρ) ρ fun k => match k with
    | .int z => match ixN ds.length z with
      | some j => .nx (ρ.set i (some (.own (ds.set j d))))
      | none => .stuck
    | _ => .stuck
  | _ => .stuck
theorem bs_setIx {i : Nat} {x : Str} {k : Expr} {tk : TE} {mi : ME} {p0 p1 : Pos} (hv : BE X W true e t m) (hi : BE X W true k tk mi) (pe : PS X (.Assign [.Subscript (.Name x p0) k p1] e pos) (tAsg t (gSub (tVar i) tk rSetL))) :
    BS X W (.Assign [.Subscript (.Name x p0) k p1] e pos) (tAsg t (gSub (tVar i) tk rSetL)) (sSetIx i mi m) := by
  refine ⟨pe, fun Hs H0s σ H H0 ρ D rl p => hv.ev Hs H0s σ H H0 ρ _ rl ((PostS.of p rl).imp ?_)⟩
  rintro v H1 ⟨d, H01, _, f1, x1, p1⟩
  have rl1 := rl.step f1
  split at p1
  · rename_i ds e1
    obtain ⟨q, vs, h1, h2, h3, h4, h5⟩ := rl1.own _ _ e1
    refine ⟨.ref q, h1, hi.ev Hs H0s σ H1 H01 ρ _ rl1 ((PostS.of p1 rl1).imp ?_)⟩
    rintro kv H2 ⟨kd, H02, _, f2, x2, p2⟩
    cases kd with
    | int z =>
      cases x2
      have p2 : PostS X.K X.mg (excOf X) Hs H0s (match ixN ds.length z with | some j => .nx (ρ.set i (some (.own (ds.set j d)))) | none => .stuck) D W := p2
      split at p2
      · rename_i j e2
        refine ⟨q, vs, z, j, rfl, rfl, f2.ex _ _ h4, by rw [DpAll.length h5]; exact e2, ?_⟩
        exact p2 σ _ H02 ((rl1.step f2).write e1 h1 (DpAll.set (dp_mono f2.ez _ _ x1) j (dpAll_mono f2.ez _ _ h5)))
      · exact False.elim p2
    | _ => exact False.elim p2
  · exact False.elim p1

/-! ### raise -/
def sRaise (x : Str) : MS := fun ρ => .err (x, []) ρ
theorem bs_raise {x : Str} {C : Addr} {ex : Expr} (hg : X.mg x = some (.ref C)) (pe : PS X (.Raise (some ex) none pos) (fun _ σ H => W (.ref C) none σ H)) : BS X W (.Raise (some ex) none pos) (fun _ σ H => W (.ref C) none σ H) (sRaise x) := by
  refine ⟨pe, fun Hs H0s σ H H0 ρ D rl p => ?_⟩
  obtain ⟨C', h1, h2⟩ := p σ H H0 rl
  have h1 : X.mg x = some (.ref C') := h1
  rw [hg] at h1
  cases h1
  exact h2

/-! ### while -/
def mWhile (c : MT) (b : MS) : Nat → MS
  | 0 => fun _ => .stuck
  | n + 1 => fun ρ => O.of (c ρ) ρ fun k => if k then (b ρ).lp (mWhile c b n) else .nx ρ
theorem bs_while (n : Nat) {tA : TT} {mA : MT} {body : List Stmt} (hp : PassesOwn (model X.prog X.w) X.A X.env X.xe) (hc : BT X W c tA mA) (hb : BSs X W body s ms) : BS X W (.While c body [] pos) (tWhile tA s) (mWhile mA ms n) := by
  refine ⟨ps_while hp hc.pe hb.pe, fun Hs H0s σ H H0 ρ D rl p => ?_⟩
  refine ⟨fun k σ H => ∃ ρ H0, Rel X.K (excOf X) Hs H0s σ H H0 ρ ∧ PostS X.K X.mg (excOf X) Hs H0s (mWhile mA ms k ρ) D W, ⟨n, ρ, H0, rl, p⟩, ?_⟩
  rintro k σ1 H1 ⟨ρ1, H01, rl1, p1⟩
  cases k with
  | zero => exact False.elim p1
  | succ k =>
    refine hc.ev Hs H0s σ1 H1 H01 ρ1 _ rl1 ((PostS.of (show PostS X.K X.mg (excOf X) Hs H0s (O.of (mA ρ1) ρ1 _) D W from p1) rl1).imp ?_)
    rintro b H2 ⟨d, H02, _, f2, x2, p2⟩
    have x2 : b = d := x2
    subst x2
    cases b with
    | false => rw [if_neg (by decide)]; exact p2 σ1 H2 H02 (rl1.step f2)
    | true =>
      rw [if_pos rfl]
      refine ⟨fun σ' H' => ∃ ρ H0, Rel X.K (excOf X) Hs H0s σ' H' H0 ρ ∧ PostS X.K X.mg (excOf X) Hs H0s (mWhile mA ms k ρ) D W, fun σ' H' h => ⟨k, Nat.lt_succ_self k, h⟩, ?_⟩
      refine hb.ev Hs H0s σ1 H2 H02 ρ1 _ (rl1.step f2) ?_
      refine PostS.lf (f := O.lp1 (mWhile mA ms k)) p2 fun o np p2 => ?_
      cases o with
      | nx ρ' => exact fun σ H H0 r => ⟨ρ', H0, r, p2⟩
      | ct ρ' => exact fun σ H H0 r => ⟨ρ', H0, r, p2⟩
      | pick k => exact absurd rfl (np k)
      | _ => exact p2

/-! ### for -/
def Walks (K : PySem.W.Frag) (J : It) (ds : List D) (Hb : Hp) : Prop := ∀ (i : Nat) (H' H0' : Hp), Same Hb H0' → Same H0' H' →
  (ds.length ≤ i → J.stop i H') ∧ ∀ d, ds[i]? = some d → J.go i H' ∧ ∀ x H'', J.yld i H' x H'' → ∃ H0'', Fr H' H0' H'' H0'' ∧ Dp K H0'' x d
def PostI (K : PySem.W.Frag) (mg : Str → Option Value) (H H0 : Hp) (r : R (List D)) (Rk : It → Hp → Prop) (E : XK) : Prop := R.rec (motive := fun _ => Prop) False
  (fun ds => ∀ J H' H0', Fr H H0 H' H0' → Walks K J ds H0' → Rk J H')
  (fun e => ∀ H' H0', Fr H H0 H' H0' → ErrOk K mg E e H' H0') (fun _ ih => ∀ n, n < top1000 → ih n) r
structure BI (X : Cx) (W : WX) (tg e : Expr) (wi : TI) (m : MA) : Prop where
  pe : PI X tg e wi
  ev : ∀ Hs H0s σ H H0 ρ Rk, Rel X.K (excOf X) Hs H0s σ H H0 ρ → PostI X.K X.mg H H0 (m ρ) Rk (WE W σ) → wi σ H Rk
def mLoop (g : D → En → R En) (b : MS) : List D → MS
  | [] => fun ρ => .nx ρ
  | d :: ds => fun ρ => O.of (g d ρ).sure ρ fun ρ1 => (b ρ1).lp (mLoop g b ds)
def sFor (mi : MA) (g : D → En → R En) (b : MS) : MS := fun ρ => O.of (mi ρ) ρ fun ds => mLoop g b ds ρ
theorem bs_for {tg it : Expr} {wi : TI} {mi : MA} {g : TG} {mt : D → En → R En} {sl : List Nat} {body : List Stmt} (hp : PassesOwn (model X.prog X.w) X.A X.env X.xe) (hc : X.calm = true) (hi : BI X W tg it wi mi) (hg : BG X tg g sl mt) (hb : BSs X W body s ms)
    (hs : ∀ x, foldedSetIterable it X.env x = pure x := by intro _; rfl) : BS X W (.For tg it body [] pos) (tFor wi g s) (sFor mi mt ms) := by
  refine ⟨ps_for hp hc hi.pe hg.pe hb.pe hs, fun Hs H0s σ H H0 ρ D rl p => hi.ev Hs H0s σ H H0 ρ _ rl ?_⟩
  unfold sFor at p
  generalize mi ρ = r at p
  induction r with
  | stuck => exact p
  | pick k ih => exact fun n hn => ih n (p n hn)
  | err z => exact fun H' H0' f => p σ H' H0' (rl.step f)
  | ok ds =>
    have p : PostS X.K X.mg (excOf X) Hs H0s (mLoop mt ms ds ρ) D W := p
    intro J H1 H01 f1 w1
    refine ⟨fun i k σ' H' => i + k = ds.length ∧ ∃ ρ' H0', Rel X.K (excOf X) Hs H0s σ' H' H0' ρ' ∧ Same H01 H0' ∧ PostS X.K X.mg (excOf X) Hs H0s (mLoop mt ms (ds.drop i) ρ') D W, ⟨ds.length, by omega, ρ, H01, rl.step f1, Same.refl _, p⟩, ?_⟩
    rintro i k σ2 H2 ⟨ek, ρ2, H02, rl2, s2, p2⟩
    obtain ⟨wS, wG⟩ := w1 i H2 H02 s2 rl2.sub
    cases k with
    | zero =>
      have e1 : ds.drop i = [] := List.drop_eq_nil_of_le (by omega)
      rw [e1] at p2
      exact .inl ⟨wS (by omega), p2 σ2 H2 H02 rl2⟩
    | succ k =>
      have hi' : i < ds.length := by omega
      have e1 : ds.drop i = ds[i] :: ds.drop (i + 1) := List.drop_eq_getElem_cons hi'
      rw [e1] at p2
      obtain ⟨go, yl⟩ := wG ds[i] (List.getElem?_eq_getElem hi')
      refine .inr ⟨go, fun σ' H' => ∃ ρ' H0', Rel X.K (excOf X) Hs H0s σ' H' H0' ρ' ∧ Same H01 H0' ∧ PostS X.K X.mg (excOf X) Hs H0s (mLoop mt ms (ds.drop (i + 1)) ρ') D W, fun σ' H' h => ⟨k, Nat.lt_succ_self k, by omega, h⟩, fun x H3 y => ?_⟩
      obtain ⟨H03, f3, x3⟩ := yl x H3 y
      have p2 : PostS X.K X.mg (excOf X) Hs H0s (O.of (mt ds[i] ρ2).sure ρ2 fun ρ1 => (ms ρ1).lp (mLoop mt ms (ds.drop (i + 1)))) D W := p2
      cases z : mt ds[i] ρ2 with
      | stuck => rw [z] at p2; exact False.elim p2
      | err _ => rw [z] at p2; exact False.elim p2
      | pick _ => rw [z] at p2; exact False.elim p2
      | ok ρ3 =>
        rw [z] at p2
        have p2 : PostS X.K X.mg (excOf X) Hs H0s ((ms ρ3).lp (mLoop mt ms (ds.drop (i + 1)))) D W := p2
        refine hg.ev Hs H0s σ2 H3 H03 ρ2 x _ ρ3 _ (rl2.step f3) x3 z fun σ3 rl3 _ => ?_
        -- the base behind the body holds what the loop walks: the body is run over the base at the loop's start
        have fr1 := (rl.step f1).fr
        refine hb.ev Hs H01 σ3 H3 H03 ρ3 _ (rl3.rebase fr1.ez (s2.trans f3.ez)) ?_
        refine PostS.lf (f := O.lp1 (mLoop mt ms (ds.drop (i + 1)))) p2 fun o np p2 => ?_
        cases o with
        | nx ρ' => exact fun σ H H0 r => ⟨ρ', H0, r.unbase fr1, r.fr.ez, p2⟩
        | ct ρ' => exact fun σ H H0 r => ⟨ρ', H0, r.unbase fr1, r.fr.ez, p2⟩
        | bk ρ' => exact fun σ H H0 r => p2 σ H H0 (r.unbase fr1)
        | rt d => exact fun v H H0 f xx => p2 v H H0 (fr1.rebase f) xx
        | rto d => exact fun q vs H H0 f n1 n2 hq xx => p2 q vs H H0 (fr1.rebase f) n1 n2 hq xx
        | err e ρ' => exact fun σ H H0 r => p2 σ H H0 (r.unbase fr1)
        | stuck => exact p2
        | pick k => exact absurd rfl (np k)
end
end DW

end
end
section
set_option Elab.async false
set_option linter.all false
set_option maxRecDepth 100000
set_option maxHeartbeats 4000000
noncomputable section
namespace DW
open PySem PySem.Spec PyProof.Rows L2

/-! ### comprehensions -/
def wipeD (ρ : En) : List Nat → En
  | [] => ρ
  | v :: vs => (wipeD ρ vs).set v none
theorem Rel.wipe {K : PySem.W.Frag} {ea : EA} {Hs H0s H H0 : Hp} {σ : L2.St} {ρ : En} (r : Rel K ea Hs H0s σ H H0 ρ) : ∀ vs : List Nat, Rel K ea Hs H0s (L2.wipe σ vs) H H0 (wipeD ρ vs)
  | [] => r
  | v :: vs => (Rel.wipe r vs).forget v none
theorem wipe_at (σ : L2.St) (j : Nat) : ∀ vs : List Nat, (L2.wipe σ vs)[j]? = if j ∈ vs then (if j < σ.length then some none else none) else σ[j]?
  | [] => by simp [L2.wipe]
  | v :: vs => by
    show ((L2.wipe σ vs).set v none)[j]? = _
    have hl : (L2.wipe σ vs).length = σ.length := wipe_length σ vs
    by_cases h : v = j
    · subst h
      rw [List.getElem?_set, if_pos rfl, hl, if_pos List.mem_cons_self]
    · rw [List.getElem?_set_ne h, wipe_at σ j vs]
      have : (j ∈ v :: vs) ↔ j ∈ vs := by
        rw [List.mem_cons]
        exact ⟨fun z => z.elim (fun q => absurd q.symm h) id, .inr⟩
      by_cases hm : j ∈ vs
      · rw [if_pos hm, if_pos (this.mpr hm)]
      · rw [if_neg hm, if_neg fun z => hm (this.mp z)]
theorem wipe_ag {σ σ2 : L2.St} {sl vs : List Nat} (a : Ag sl (L2.wipe σ vs) σ2) (hs : ∀ j ∈ sl, j ∈ vs) : L2.wipe σ2 vs = L2.wipe σ vs := by
  have hl : σ2.length = σ.length := a.1.trans (wipe_length σ vs)
  refine List.ext_getElem? fun j => ?_
  rw [wipe_at, wipe_at]
  by_cases hm : j ∈ vs
  · rw [if_pos hm, if_pos hm, hl]
  · rw [if_neg hm, if_neg hm, a.2 j fun z => hm (hs j z), wipe_at, if_neg hm]
/-- an object of no slot, not in the base, is written -/
theorem Rel.loose {K : PySem.W.Frag} {ea : EA} {Hs H0s H H0 : Hp} {σ : L2.St} {ρ : En} {p : Addr} {o : HO} (h : Rel K ea Hs H0s σ H H0 ρ) (hs : Hs p = none) (h0 : H0 p = none)
    (hn : ∀ (j : Nat) (es : List D), ρ[j]? = some (some (.own es)) → σ[j]? = some (some (.ref p)) → False) : Rel K ea Hs H0s σ (upd H p o) H0 ρ := by
  refine ⟨⟨fun b x q => ?_, h.fr.ez, fun b x q => ?_, h.fr.ow⟩, h.len, h.sh, fun j es q => ?_, h.dis, h.exc, h.rnd⟩
  · have : b ≠ p := fun z => by rw [z, hs] at q; cases q
    rw [upd_ne this]; exact h.fr.ex b x q
  · have : b ≠ p := fun z => by rw [z, h0] at q; cases q
    rw [upd_ne this]; exact h.fr.sb b x q
  · obtain ⟨q', vs, a1, a2, a3, a4, a5⟩ := h.own j es q
    have : q' ≠ p := fun z => hn j es q (z ▸ a1)
    exact ⟨q', vs, a1, a2, a3, by rw [upd_ne this]; exact a4, a5⟩
/-- the items made of the items -/
def lcLoop (g : D → En → R En) (mt : MT) (m : ME) (ρ : En) : List D → R (List D)
  | [] => .ok []
  | d :: ds => (g d ρ).sure.bind fun ρ1 => (mt ρ1).sure.bind fun k => if k then (m ρ1).sure.bind fun y => (lcLoop g mt m ρ ds).bind fun ys => .ok (y :: ys) else lcLoop g mt m ρ ds
def mLc (vs : List Nat) (mi : MA) (g : D → En → R En) (mt : MT) (m : ME) : MA := fun ρ => (mi ρ).bind fun ds => if ds.length ≤ sizeLine then (lcLoop g mt m (wipeD (clean ρ) vs) ds).sure else .stuck
theorem lcLoop_len {g : D → En → R En} {mt : MT} {m : ME} {ρ : En} : ∀ {ds ys : List D}, lcLoop g mt m ρ ds = .ok ys → ys.length ≤ ds.length
  | [], ys, h => by cases h; exact Nat.le_refl _
  | d :: ds, ys, h => by
    unfold lcLoop at h
    cases e1 : (g d ρ).sure with
    | stuck => rw [e1] at h; cases h
    | err _ => rw [e1] at h; cases h
    | pick _ => rw [e1] at h; cases h
    | ok ρ1 =>
      rw [e1, R.bind_ok] at h
      cases e2 : (mt ρ1).sure with
      | stuck => rw [e2] at h; cases h
      | err _ => rw [e2] at h; cases h
      | pick _ => rw [e2] at h; cases h
      | ok k =>
        rw [e2, R.bind_ok] at h
        cases k with
        | false => exact Nat.le_succ_of_le (lcLoop_len h)
        | true =>
          rw [if_pos rfl] at h
          cases e3 : (m ρ1).sure with
          | stuck => rw [e3] at h; cases h
          | err _ => rw [e3] at h; cases h
          | pick _ => rw [e3] at h; cases h
          | ok y =>
            rw [e3, R.bind_ok] at h
            cases e4 : lcLoop g mt m ρ ds with
            | stuck => rw [e4] at h; cases h
            | err _ => rw [e4] at h; cases h
            | pick _ => rw [e4] at h; cases h
            | ok zs =>
              rw [e4] at h
              cases h
              exact Nat.succ_le_succ (lcLoop_len e4)

abbrev W0 : WX := fun _ _ _ _ => False
section
variable {X : Cx} {W : WX} {md : Bool} {e a b c : Expr} {t ta tb tc te : TE} {m ma mb mc : ME} {pos : Pos} {st : Stmt} {sts rest : List Stmt} {s u : TS} {ms mu : MS}
structure BTs (X : Cx) (W : WX) (ifs : List Expr) (t : TT) (m : MT) : Prop where
  pe : PTs X ifs t
  ev : ∀ Hs H0s σ H H0 ρ Q, Rel X.K (excOf X) Hs H0s σ H H0 ρ → Post beqr X.K X.mg true H H0 (m ρ) Q (WE W σ) → t σ H Q
def mYes : MT := fun _ => .ok true
theorem bts_nil : BTs X W [] tYes mYes := ⟨pts_nil, fun Hs H0s σ H H0 ρ Q rl p => p true H H0 (.refl rl.sub) rfl⟩
theorem bts_one {t : TT} {m : MT} (h : BT X W c t m) : BTs X W [c] t m := ⟨pts_one h.pe, h.ev⟩
/-! ### readings by the mirror alone -/
def TE0 (K : PySem.W.Frag) (mg : Str → Option Value) (ea : EA) (W : WX) (md : Bool) (m : ME) : TE := fun σ H Q => ∃ Hs H0s H0 ρ, Rel K ea Hs H0s σ H H0 ρ ∧ Post (Dp K) K mg md H H0 (m ρ) Q (WE W σ)
def TT0 (K : PySem.W.Frag) (mg : Str → Option Value) (ea : EA) (W : WX) (m : MT) : TT := fun σ H Q => ∃ Hs H0s H0 ρ, Rel K ea Hs H0s σ H H0 ρ ∧ Post beqr K mg true H H0 (m ρ) Q (WE W σ)
def TG0 (K : PySem.W.Frag) (ea : EA) (sl : List Nat) (mt : D → En → R En) : TG := fun v σ H Q => ∃ Hs H0s H0 ρ d ρ', Rel K ea Hs H0s σ H H0 ρ ∧ Dp K H0 v d ∧ mt d ρ = .ok ρ' ∧ ∀ σ', Rel K ea Hs H0s σ' H H0 ρ' → Ag sl σ σ' → Q σ' H
theorem BE.canon (h : BE X W md e t m) : BE X W md e (TE0 X.K X.mg (excOf X) W md m) m :=
  ⟨⟨fun pins s σ H Q I ⟨Hs, H0s, H0, ρ, rl, p⟩ => h.pe.run pins s σ H Q I (h.ev Hs H0s σ H H0 ρ Q rl p)⟩, fun Hs H0s σ H H0 ρ Q rl p => ⟨Hs, H0s, H0, ρ, rl, p⟩⟩
theorem BTs.canon {ifs : List Expr} {t : TT} {m : MT} (h : BTs X W ifs t m) : BTs X W ifs (TT0 X.K X.mg (excOf X) W m) m :=
  ⟨⟨fun pins s σ H Q I ⟨Hs, H0s, H0, ρ, rl, p⟩ => h.pe.run pins s σ H Q I (h.ev Hs H0s σ H H0 ρ Q rl p)⟩, fun Hs H0s σ H H0 ρ Q rl p => ⟨Hs, H0s, H0, ρ, rl, p⟩⟩
theorem BG.canon {tg : Expr} {g : TG} {sl : List Nat} {mt : D → En → R En} (h : BG X tg g sl mt) : BG X tg (TG0 X.K (excOf X) sl mt) sl mt :=
  ⟨⟨fun pins s σ H v u Q I r ⟨Hs, H0s, H0, ρ, d, ρ', rl, x, e, q⟩ => h.pe.run pins s σ H v u Q I r (h.ev Hs H0s σ H H0 ρ v d ρ' Q rl x e q)⟩, fun Hs H0s σ H H0 ρ v d ρ' Q rl x e q => ⟨Hs, H0s, H0, ρ, d, ρ', rl, x, e, q⟩⟩
theorem ev_lc {elt tg iter : Expr} {ifs : List Expr} {scope : Scope} {vs sl : List Nat} {wi : TI} {mi : MA} {g : TG} {mt : D → En → R En} {tt : TT} {mtt : MT} (hi : BI X W tg iter wi mi) (hvs : ∀ j ∈ sl, j ∈ vs)
    (hg : ∀ (s : Shared) (H : Hp) (C : Addr) (cl : List (Str × Addr)) (fp : List Addr), BG (X.blk s H scope (compEnvC scope cl C X.env) fp) tg g sl mt) (ht : ∀ (s : Shared) (H : Hp) (C : Addr) (cl : List (Str × Addr)) (fp : List Addr), BTs (X.blk s H scope (compEnvC scope cl C X.env) fp) W0 ifs tt mtt)
    (he : ∀ (s : Shared) (H : Hp) (C : Addr) (cl : List (Str × Addr)) (fp : List Addr), BE (X.blk s H scope (compEnvC scope cl C X.env) fp) W0 true elt te m) :
    ∀ Hs H0s σ H H0 ρ Q, Rel X.K (excOf X) Hs H0s σ H H0 ρ → PostN X.K X.mg H H0 (mLc vs mi mt mtt m ρ) Q (WE W σ) → tLc wi g tt te vs σ H Q := by
  intro Hs H0s σ H H0 ρ Q rl p
  have hg := hg X.s_0 X.H_0 0 [] []
  have ht := ht X.s_0 X.H_0 0 [] []
  have he := he X.s_0 X.H_0 0 [] []
  refine hi.ev Hs H0s σ H H0 ρ _ rl ?_
  unfold mLc at p
  generalize mi ρ = r at p
  induction r with
  | stuck => exact p
  | pick k ih => exact fun n hn => ih n (p n hn)
  | err z => exact p
  | ok ds =>
    have p : PostN X.K X.mg H H0 (if ds.length ≤ sizeLine then (lcLoop mt mtt m (wipeD (clean ρ) vs) ds).sure else .stuck) Q (WE W σ) := p
    split at p
    · rename_i hsz
      intro J H1 H01 f1 w1 LD hLD
      cases tot : lcLoop mt mtt m (wipeD (clean ρ) vs) ds with
      | stuck => rw [tot] at p; exact False.elim p
      | err _ => rw [tot] at p; exact False.elim p
      | pick _ => rw [tot] at p; exact False.elim p
      | ok total =>
        rw [tot] at p
        have p : ∀ p vs H' H0', Fr H H0 H' H0' → H p = none → H0' p = none → H' p = some (.lst vs) → DpAll X.K H0' vs total → Q (.ref p) H' := p
        have htl := lcLoop_len tot
        have nD : H LD = none := f1.ex.free hLD
        have nDs : Hs LD = none := rl.fr.ex.free nD
        have rlw : Rel X.K EA.none Hs H0s (L2.wipe σ vs) H1 H01 (wipeD (clean ρ) vs) := Rel.wipe (Rel.clean (rl.step f1)) vs
        have ownD : ∀ (j : Nat) (es : List D), (wipeD (clean ρ) vs)[j]? = some (some (.own es)) → (L2.wipe σ vs)[j]? = some (some (.ref LD)) → False := fun j es e1 e2 => by
          obtain ⟨q', ws, a1, a2, a3, a4, a5⟩ := rlw.own j es e1
          rw [e2] at a1
          injection a1 with a1; injection a1 with a1; injection a1 with a1
          rw [← a1, hLD] at a4
          cases a4
        refine ⟨fun i k H' => i + k = ds.length ∧ ∃ H0' ws ys zs, Rel X.K EA.none Hs H0s (L2.wipe σ vs) H' H0' (wipeD (clean ρ) vs) ∧ Same H01 H0' ∧ Fr H H0 H' H0' ∧ H0' LD = none ∧ H' LD = some (.lst ws) ∧ DpAll X.K H0' ws ys ∧ lcLoop mt mtt m (wipeD (clean ρ) vs) (ds.drop i) = .ok zs ∧ total = ys ++ zs,
          ⟨ds.length, by omega, H01, [], [], total, rlw.loose nDs (f1.sb.free hLD) ownD, Same.refl _, f1.trans (Fr.loose f1.sb hLD), f1.sb.free hLD, upd_same, .nil, tot, rfl⟩, ?_⟩
        rintro i k H2 ⟨ek, H02, ws, ys, zs, rl2, s2, f2, n2, hw, hys, hz, ht2⟩
        obtain ⟨wS, wG⟩ := w1 i H2 H02 s2 f2.sb
        cases k with
        | zero =>
          have e1 : ds.drop i = [] := List.drop_eq_nil_of_le (by omega)
          rw [e1] at hz
          cases hz
          rw [List.append_nil] at ht2
          subst ht2
          exact .inl ⟨wS (by omega), p LD ws H2 H02 f2 nD n2 hw hys⟩
        | succ k =>
          have hi' : i < ds.length := by omega
          have e1 : ds.drop i = ds[i] :: ds.drop (i + 1) := List.drop_eq_getElem_cons hi'
          rw [e1] at hz
          obtain ⟨go, yl⟩ := wG ds[i] (List.getElem?_eq_getElem hi')
          refine .inr ⟨go, fun H' => i + 1 + k = ds.length ∧ ∃ H0' ws ys zs, Rel X.K EA.none Hs H0s (L2.wipe σ vs) H' H0' (wipeD (clean ρ) vs) ∧ Same H01 H0' ∧ Fr H H0 H' H0' ∧ H0' LD = none ∧ H' LD = some (.lst ws) ∧ DpAll X.K H0' ws ys ∧ lcLoop mt mtt m (wipeD (clean ρ) vs) (ds.drop (i + 1)) = .ok zs ∧ total = ys ++ zs, fun H' h => ⟨k, Nat.lt_succ_self k, h⟩, fun x H3 y => ?_⟩
          obtain ⟨H03, f3, x3⟩ := yl x H3 y
          have hLL2 : H2 LD ≠ none := by rw [hw]; simp
          have n3 : H03 LD = none := f3.ow LD n2 hLL2
          have hw3 := f3.ex _ _ hw
          unfold lcLoop at hz
          cases z1 : (mt ds[i] (wipeD (clean ρ) vs)) with
          | stuck => rw [z1] at hz; cases hz
          | err _ => rw [z1] at hz; cases hz
          | pick _ => rw [z1] at hz; cases hz
          | ok ρ1 =>
            rw [z1, R.sure_ok, R.bind_ok] at hz
            refine hg.ev Hs H0s (L2.wipe σ vs) H3 H03 _ x _ ρ1 _ (rl2.step f3) x3 z1 fun σ3 rl3 ag => ⟨wipe_ag ag hvs, ?_⟩
            refine ht.ev Hs H0s σ3 H3 H03 ρ1 _ rl3 (Post.sure (E := fun _ _ _ => False) ?_)
            cases z2 : (mtt ρ1).sure with
            | stuck => rw [z2] at hz; cases hz
            | err _ => rw [z2] at hz; cases hz
            | pick _ => rw [z2] at hz; cases hz
            | ok kk =>
              rw [z2, R.bind_ok] at hz
              intro bb H4 H04 f4 xb
              have xb : bb = kk := xb
              subst xb
              have f34 := f3.trans f4
              have n4 : H04 LD = none := f34.ow LD n2 hLL2
              have hw4 := f34.ex _ _ hw
              cases bb with
              | false =>
                rw [if_neg (by decide)] at hz ⊢
                exact ⟨by omega, H04, ws, ys, zs, rl2.step f34, (s2.trans f3.ez).trans f4.ez, f2.trans f34, n4, hw4, dpAll_mono f34.ez _ _ hys, hz, ht2⟩
              | true =>
                rw [if_pos rfl] at hz ⊢
                refine he.ev Hs H0s σ3 H4 H04 ρ1 _ (rl3.step f4) (Post.sure (E := fun _ _ _ => False) ?_)
                cases z3 : (m ρ1).sure with
                | stuck => rw [z3] at hz; cases hz
                | err _ => rw [z3] at hz; cases hz
                | pick _ => rw [z3] at hz; cases hz
                | ok y1 =>
                  rw [z3, R.bind_ok] at hz
                  cases z4 : lcLoop mt mtt m (wipeD (clean ρ) vs) (ds.drop (i + 1)) with
                  | stuck => rw [z4] at hz; cases hz
                  | err _ => rw [z4] at hz; cases hz
                  | pick _ => rw [z4] at hz; cases hz
                  | ok zs' =>
                    rw [z4] at hz
                    cases hz
                    intro v5 H5 H05 f5 x5
                    have f35 := f34.trans f5
                    have n5 : H05 LD = none := f35.ow LD n2 hLL2
                    have hw5 := f35.ex _ _ hw
                    have hlen : ws.length < sizeLine := by
                      rw [DpAll.length hys]
                      have : total.length = ys.length + (zs'.length + 1) := by rw [ht2, List.length_append, List.length_cons]
                      omega
                    refine ⟨ws, hw5, hlen, by omega, H05, ws ++ [v5], ys ++ [y1], zs', (rl2.step f35).loose nDs n5 ownD, (s2.trans f3.ez).trans (f4.ez.trans f5.ez), ?_, n5, upd_same, DpAll.append (dpAll_mono f35.ez _ _ hys) (.cons x5 .nil), rfl, by rw [ht2, List.append_assoc]; rfl⟩
                    have ff := f2.trans f35
                    refine ⟨fun b x q => ?_, ff.ez, fun b x q => ?_, ff.ow⟩
                    · have : b ≠ LD := fun z => by rw [z, nD] at q; cases q
                      rw [upd_ne this]; exact ff.ex b x q
                    · have : b ≠ LD := fun z => by rw [z, n5] at q; cases q
                      rw [upd_ne this]; exact ff.sb b x q
    · exact False.elim p
theorem bn_lc {elt tg iter : Expr} {ifs : List Expr} {scope : Scope} {own : List (Str × Nat)} {sl : List Nat} {wi : TI} {mi : MA} {mt : D → En → R En} {mtt : MT} (hc : X.calm = true) (hN : X.N.Nodup) (hi : BI X W tg iter wi mi) (ok : BlkOk X.N X.env.scope scope own) (hvs : ∀ j ∈ sl, j ∈ own.map (·.2))
    (hg : ∀ (s : Shared) (H : Hp) (C : Addr) (cl : List (Str × Addr)) (fp : List Addr), ∃ g, BG (X.blk s H scope (compEnvC scope cl C X.env) fp) tg g sl mt) (ht : ∀ (s : Shared) (H : Hp) (C : Addr) (cl : List (Str × Addr)) (fp : List Addr), ∃ tt, BTs (X.blk s H scope (compEnvC scope cl C X.env) fp) W0 ifs tt mtt)
    (he : ∀ (s : Shared) (H : Hp) (C : Addr) (cl : List (Str × Addr)) (fp : List Addr), ∃ te, BE (X.blk s H scope (compEnvC scope cl C X.env) fp) W0 true elt te m) (hs : ∀ x, foldedSetIterable iter X.env x = pure x := by intro _; rfl) :
    BN X W (.ListComp elt [⟨tg, iter, ifs, 0⟩] scope pos) (tLc wi (TG0 X.K EA.none sl mt) (TT0 X.K X.mg EA.none W0 mtt) (TE0 X.K X.mg EA.none W0 true m) (own.map (·.2))) (mLc (own.map (·.2)) mi mt mtt m) :=
  have hg := fun s H C cl fp => (hg s H C cl fp).elim fun _ h => h.canon
  have ht := fun s H C cl fp => (ht s H C cl fp).elim fun _ h => h.canon
  have he := fun s H C cl fp => (he s H C cl fp).elim fun _ h => h.canon
  ⟨pe_lc hc hN hi.pe ok (fun s H C cl fp => (hg s H C cl fp).pe) (fun s H C cl fp => (ht s H C cl fp).pe) (fun s H C cl fp => (he s H C cl fp).pe) hs, ev_lc hi hvs hg ht he⟩
/-- name = [..]: on one line -/
structure BL (X : Cx) (W : WX) (st : Stmt) (i : Nat) (t : TE) (m : MA) : Prop where
  pe : PS X st (tAsg t (gName i))
  ev : ∀ Hs H0s σ H H0 ρ Q, Rel X.K (excOf X) Hs H0s σ H H0 ρ → PostN X.K X.mg H H0 (m ρ) Q (WE W σ) → t σ H Q
theorem bl_lc {i : Nat} {y : Str} {py spos : Pos} {elt tg iter : Expr} {ifs : List Expr} {scope : Scope} {own : List (Str × Nat)} {sl : List Nat} {wi : TI} {mi : MA} {mt : D → En → R En} {mtt : MT} (hc : X.calm = true) (hN : X.N.Nodup) (hy : X.N[i]? = some y) (hyl : X.env.scope.names.lookup y = some .local)
    (hsw : swapsWith (.ListComp elt [⟨tg, iter, ifs, 0⟩] scope pos) (some (.Name y py)) spos.line X.env = pure true) (hi : BI X W tg iter wi mi) (ok : BlkOk X.N X.env.scope scope own) (hvs : ∀ j ∈ sl, j ∈ own.map (·.2))
    (hg : ∀ (s : Shared) (H : Hp) (C : Addr) (cl : List (Str × Addr)) (fp : List Addr), ∃ g, BG (X.blk s H scope (compEnvC scope cl C X.env) fp) tg g sl mt) (ht : ∀ (s : Shared) (H : Hp) (C : Addr) (cl : List (Str × Addr)) (fp : List Addr), ∃ tt, BTs (X.blk s H scope (compEnvC scope cl C X.env) fp) W0 ifs tt mtt)
    (he : ∀ (s : Shared) (H : Hp) (C : Addr) (cl : List (Str × Addr)) (fp : List Addr), ∃ te, BE (X.blk s H scope (compEnvC scope cl C X.env) fp) W0 true elt te m) (hs : ∀ x, foldedSetIterable iter X.env x = pure x := by intro _; rfl) :
    BL X W (.Assign [.Name y py] (.ListComp elt [⟨tg, iter, ifs, 0⟩] scope pos) spos) i (tLc wi (TG0 X.K EA.none sl mt) (TT0 X.K X.mg EA.none W0 mtt) (TE0 X.K X.mg EA.none W0 true m) (own.map (·.2))) (mLc (own.map (·.2)) mi mt mtt m) :=
  have hg := fun s H C cl fp => (hg s H C cl fp).elim fun _ h => h.canon
  have ht := fun s H C cl fp => (ht s H C cl fp).elim fun _ h => h.canon
  have he := fun s H C cl fp => (he s H C cl fp).elim fun _ h => h.canon
  ⟨ps_setLc hc hN hy hyl hsw hi.pe ok (fun s H C cl fp => (hg s H C cl fp).pe) (fun s H C cl fp => (ht s H C cl fp).pe) (fun s H C cl fp => (he s H C cl fp).pe) hs, ev_lc hi hvs hg ht he⟩
theorem bs_ownL {i : Nat} {mm : MA} (h : BL X W st i t mm) : BS X W st (tAsg t (gName i)) (sOwn i mm) := by
  refine ⟨h.pe, fun Hs H0s σ H H0 ρ D rl p => h.ev Hs H0s σ H H0 ρ _ rl ?_⟩
  unfold sOwn at p
  generalize mm ρ = r at p
  induction r with
  | stuck => exact p
  | pick k ih => exact fun n hn => ih n (p n hn)
  | err z => exact fun H' H0' f => p σ H' H0' (rl.step f)
  | ok ds =>
    intro pp vs H' H0' f n n0 hp x
    refine p _ H' H0' ((rl.step f).setOwn i (rl.fr.ex.free n) n0 hp x fun j es hj e1 e2 => ?_)
    obtain ⟨p2, vs2, a1, a2, a3, a4, a5⟩ := rl.own j es e1
    rw [e2] at a1
    injection a1 with a1; injection a1 with a1; injection a1 with a1
    rw [← a1, n] at a4
    cases a4
theorem bs_asgL {i : Nat} {mm : MA} (h : BL X W st i t mm) : BS X W st (tAsg t (gName i)) (sAsg (gN i) (mN mm)) := by
  refine ⟨h.pe, fun Hs H0s σ H H0 ρ D rl p => h.ev Hs H0s σ H H0 ρ _ rl (PostN.of ((PostS.of p rl).imp ?_))⟩
  rintro v H1 ⟨d, H01, _, f1, x1, p1⟩
  exact p1 _ H1 H01 ((rl.step f1).set i x1)

/-! ### what is walked -/
/-- a list, a tuple, a text -/
def iAny (K : PySem.W.Frag) (tl : TE) : TI := fun σ H Rk => tl σ H fun x H1 => (∃ a, x = .ref a ∧ (∃ xs, SqL K H1 a xs) ∧ Rk (Itl K a) H1) ∨ (∃ a, x = .ref a ∧ (∃ xs, SqT K H1 a xs) ∧ Rk (Itt K a) H1) ∨ (∃ z, x = .str z ∧ Rk (Its z) H1)
theorem pi_any {tg l : Expr} {tl : TE} (hl : PE X l tl) : PI X tg l (iAny X.K tl) := by
  refine ⟨fun pins s σ H Rk I h => ?_⟩
  refine thn (hl.run pins s σ H _ I h) fun v s1 ⟨x, H1, I1, r1, q1⟩ => ?_
  rcases q1 with ⟨a, e, ⟨xs, hq⟩, q⟩ | ⟨a, e, ⟨xs, hq⟩, q⟩ | ⟨z, e, q⟩
  · subst e
    cases r1
    obtain ⟨its, rv, p, hz⟩ := I1.list hq
    refine wpAny_pyIter_list p.isList ?_
    refine ⟨s1.heap.objs.size, [s1.heap.objs.size], _, _, H1, rfl, I1.kept (t' := s1.toks) fun b o e => Heap.get?_push_of_some _ e, turn_list a _, ⟨_, Heap.get?_push_size _ rfl, rfl, rfl⟩, fun b hb => ?_, q⟩
    have e : b = s1.heap.objs.size := by simpa using hb
    subst e
    exact I1.fpOk (Nat.le_refl _) (I1.hok.fresh (Nat.le_refl _))
  · subst e
    cases r1
    obtain ⟨its, rv, p, hz⟩ := I1.tuple hq
    refine wpAny_pyIter_tuple (show s1.heap.IsTuple a its.toArray from p) ?_
    refine ⟨s1.heap.objs.size, [s1.heap.objs.size], _, _, H1, rfl, I1.kept (t' := s1.toks) fun b o e => Heap.get?_push_of_some _ e, turn_tuple a _, ⟨_, Heap.get?_push_size _ rfl, rfl, rfl⟩, fun b hb => ?_, q⟩
    have e : b = s1.heap.objs.size := by simpa using hb
    subst e
    exact I1.fpOk (Nat.le_refl _) (I1.hok.fresh (Nat.le_refl _))
  · subst e
    obtain ⟨t, rfl⟩ := r1
    cases ha : z.cps.all (· < 128)
    · exact wpAny_pyIter_wide ha (pi_one (tk := s1.toks) I1 _ (turn_str _ z t "str_iterator" (.inr rfl)) ⟨_, Heap.get?_push_size _ rfl, rfl, rfl⟩ q)
    · exact wpAny_pyIter_ascii ha (pi_one (tk := s1.toks) I1 _ (turn_str _ z t "str_ascii_iterator" (.inl rfl)) ⟨_, Heap.get?_push_size _ rfl, rfl, rfl⟩ q)
/-- the signs of a text -/
def signs (z : Str) : List D := z.cps.toList.map fun c => .str ⟨#[c]⟩
def dItems : D → R (List D)
  | .list ds => .ok ds
  | .tuple ds => .ok ds
  | .str z => .ok (signs z)
  | _ => .stuck
def iSeq (m : ME) : MA := fun ρ => (m ρ).bind dItems
theorem walks_list {K : PySem.W.Frag} {Hb : Hp} {a : Addr} {xs : List V} {ds : List D} (h : SqL K Hb a xs) (x : DpAll K Hb xs ds) : Walks K (Itl K a) ds Hb := by
  intro i H' H0' s1 s2
  have h' : SqL K H' a xs := (s1.trans s2).seq h
  refine ⟨fun hi => ⟨xs, h', by rw [DpAll.length x]; exact hi⟩, fun d hd => ?_⟩
  obtain ⟨v, hv, xv⟩ := DpAll.get x hd
  refine ⟨⟨xs, v, h', hv⟩, fun y H'' hy => ?_⟩
  obtain ⟨rfl, q⟩ := hy
  have e : some y = some v := (q xs h').symm.trans hv
  cases e
  exact ⟨H0', .refl s2, dp_mono s1 _ _ xv⟩
theorem walks_tup {K : PySem.W.Frag} {Hb : Hp} {a : Addr} {xs : List V} {ds : List D} (h : SqT K Hb a xs) (x : DpAll K Hb xs ds) : Walks K (Itt K a) ds Hb := by
  intro i H' H0' s1 s2
  have h' : SqT K H' a xs := sqT_mono (s1.trans s2) h
  refine ⟨fun hi => ⟨xs, h', by rw [DpAll.length x]; exact hi⟩, fun d hd => ?_⟩
  obtain ⟨v, hv, xv⟩ := DpAll.get x hd
  refine ⟨⟨xs, v, h', hv⟩, fun y H'' hy => ?_⟩
  obtain ⟨rfl, q⟩ := hy
  have e : some y = some v := (q xs h').symm.trans hv
  cases e
  exact ⟨H0', .refl s2, dp_mono s1 _ _ xv⟩
theorem walks_str {K : PySem.W.Frag} {Hb : Hp} (z : Str) : Walks K (Its z) (signs z) Hb := by
  intro i H' H0' s1 s2
  have hl : (signs z).length = z.cps.size := by unfold signs; rw [List.length_map, Array.length_toList]
  refine ⟨fun hi => by show z.cps.size ≤ i; omega, fun d hd => ?_⟩
  have hi : i < z.cps.size := by rw [← hl]; exact (List.getElem?_eq_some_iff.mp hd).1
  refine ⟨hi, fun y H'' hy => ?_⟩
  obtain ⟨rfl, c, hc, rfl⟩ := hy
  unfold signs at hd
  rw [List.getElem?_map, Array.getElem?_toList, hc] at hd
  cases hd
  exact ⟨H0', .refl s2, .str _⟩
theorem PostI.of {K : PySem.W.Frag} {mg : Str → Option Value} {H H0 : Hp} {r : R D} {f : D → R (List D)} {Rk : It → Hp → Prop} {E : XK} (h : PostI K mg H H0 (r.bind f) Rk E) :
    Post (Dp K) K mg true H H0 r (fun v H' => ∃ d H0', True ∧ Fr H H0 H' H0' ∧ Dp K H0' v d ∧ PostI K mg H' H0' (f d) Rk E) E := by
  induction r with
  | stuck => exact h
  | err e => exact h
  | pick k ih => exact fun n hn => ih n (h n hn)
  | ok d =>
    intro v H' H0' f1 x
    refine ⟨d, H0', trivial, f1, x, ?_⟩
    have h : PostI K mg H H0 (f d) Rk E := h
    generalize f d = r at h
    induction r with
    | stuck => exact h
    | pick k ih => exact fun n hn => ih n (h n hn)
    | err e => exact fun H2 H02 g => h H2 H02 (f1.trans g)
    | ok ds => exact fun J H2 H02 g w => h J H2 H02 (f1.trans g) w
theorem bi_seq {tg : Expr} (h : BE X W true e t m) : BI X W tg e (iAny X.K t) (iSeq m) := by
  refine ⟨pi_any h.pe, fun Hs H0s σ H H0 ρ Rk rl p => h.ev Hs H0s σ H H0 ρ _ rl ((PostI.of p).imp ?_)⟩
  rintro v H1 ⟨d, H01, _, f1, x1, p1⟩
  cases x1 with
  | lst hs ha => exact .inl ⟨_, rfl, ⟨_, f1.sb.seq hs⟩, p1 _ H1 H01 (.refl f1.sb) (walks_list hs ha)⟩
  | tup hs ha => exact .inr (.inl ⟨_, rfl, ⟨_, sqT_mono f1.sb hs⟩, p1 _ H1 H01 (.refl f1.sb) (walks_tup hs ha)⟩)
  | str z => exact .inr (.inr ⟨z, rfl, p1 _ H1 H01 (.refl f1.sb) (walks_str z)⟩)
  | _ => exact False.elim p1
/-- range -/
def rangeL (lo hi : Int) : List D := (List.range (hi - lo).toNat).map fun (k : Nat) => PyData.int (lo + (k : Int))
def small (i : Int) : Bool := decide (-(2 ^ 62) ≤ i ∧ i < 2 ^ 62)
def dRange1 : List D → R (List D)
  | [.int j] => if small j then .ok (rangeL 0 j) else .stuck
  | _ => .stuck
def dRange2 : List D → R (List D)
  | [.int i, .int j] => if small i && small j then .ok (rangeL i j) else .stuck
  | _ => .stuck
def iRange1 (r : MA) : MA := fun ρ => (r ρ).bind dRange1
def iRange2 (r : MA) : MA := fun ρ => (r ρ).bind dRange2
theorem walks_range {K : PySem.W.Frag} {Hb : Hp} (lo hi : Int) : Walks K (Itr lo (hi - lo).toNat) (rangeL lo hi) Hb := by
  intro i H' H0' s1 s2
  have hl : (rangeL lo hi).length = (hi - lo).toNat := by unfold rangeL; rw [List.length_map, List.length_range]
  refine ⟨fun hi => by show _ ≤ i; omega, fun d hd => ?_⟩
  have hi' : i < (hi - lo).toNat := by rw [← hl]; exact (List.getElem?_eq_some_iff.mp hd).1
  refine ⟨hi', fun y H'' hy => ?_⟩
  obtain ⟨rfl, rfl⟩ := hy
  unfold rangeL at hd
  rw [List.getElem?_map, List.getElem?_range hi'] at hd
  cases hd
  exact ⟨H0', .refl s2, .int _⟩
theorem PostI.ofL {K : PySem.W.Frag} {mg : Str → Option Value} {md : Bool} {H H0 : Hp} {r : R (List D)} {f : List D → R (List D)} {Rk : It → Hp → Prop} {E : XK} (h : PostI K mg H H0 (r.bind f) Rk E) :
    Post (DpAll K) K mg md H H0 r (fun v H' => ∃ d H0', True ∧ Fr H H0 H' H0' ∧ DpAll K (bif md then H0' else H') v d ∧ PostI K mg H' H0' (f d) Rk E) E := by
  induction r with
  | stuck => exact h
  | err e => exact h
  | pick k ih => exact fun n hn => ih n (h n hn)
  | ok d =>
    intro v H' H0' f1 x
    refine ⟨d, H0', trivial, f1, x, ?_⟩
    have h : PostI K mg H H0 (f d) Rk E := h
    generalize f d = r at h
    induction r with
    | stuck => exact h
    | pick k ih => exact fun n hn => ih n (h n hn)
    | err e => exact fun H2 H02 g => h H2 H02 (f1.trans g)
    | ok ds => exact fun J H2 H02 g w => h J H2 H02 (f1.trans g) w
theorem small_of {i : Int} (h : small i = true) : -(2 ^ 62) ≤ i ∧ i < 2 ^ 62 := of_decide_eq_true h
theorem bi_range1 {tg : Expr} {p : Pos} {tr : TA} {mr : MA} (hg : Gl X "range") (hm : X.mg "range" = none) (ha : BA X W false [a] tr mr) (hs : starEach [a] X.env = [(false, eval a X.env)] := by rfl) : BI X W tg (.Call (.Name "range" p) [a] [] pos) (iRng1 tr) (iRange1 mr) := by
  refine ⟨pi_range1 hg hm ha.pe hs, fun Hs H0s σ H H0 ρ Rk rl p => ha.ev Hs H0s σ H H0 ρ _ rl ((PostI.ofL p).imp ?_)⟩
  rintro v H1 ⟨ds, H01, _, f1, x1, p1⟩
  unfold dRange1 at p1
  split at p1
  · cases x1 with
    | cons y1 y2 =>
      cases y2
      cases y1
      rename_i j
      split at p1
      · rename_i hh
        have := small_of hh
        refine ⟨j, rfl, this.1, this.2, ?_⟩
        have q := p1 _ H1 H01 (.refl f1.sb) (walks_range 0 j)
        rwa [Int.sub_zero] at q
      · exact False.elim p1
  · exact False.elim p1
theorem bi_range2 {tg : Expr} {p : Pos} {tr : TA} {mr : MA} (hg : Gl X "range") (hm : X.mg "range" = none) (ha : BA X W false [a, b] tr mr) (hs : starEach [a, b] X.env = [(false, eval a X.env), (false, eval b X.env)] := by rfl) (hs2 : starEach [b] X.env = [(false, eval b X.env)] := by rfl) :
    BI X W tg (.Call (.Name "range" p) [a, b] [] pos) (iRng2 tr) (iRange2 mr) := by
  refine ⟨pi_range2 hg hm ha.pe hs hs2, fun Hs H0s σ H H0 ρ Rk rl p => ha.ev Hs H0s σ H H0 ρ _ rl ((PostI.ofL p).imp ?_)⟩
  rintro v H1 ⟨ds, H01, _, f1, x1, p1⟩
  unfold dRange2 at p1
  split at p1
  · cases x1 with
    | cons y1 y2 =>
      cases y2 with
      | cons y3 y4 =>
        cases y4
        cases y1
        cases y3
        rename_i i j
        split at p1
        · rename_i hh
          have hh := (Bool.and_eq_true_iff.mp hh)
          have h1 := small_of hh.1
          have h2 := small_of hh.2
          exact ⟨i, j, rfl, ⟨h1.1, h1.2, h2.1, h2.2⟩, p1 _ H1 H01 (.refl f1.sb) (walks_range i j)⟩
        · exact False.elim p1
  · exact False.elim p1

/-! ### try -/
/-- what catches what: of an error by its name, whether the clause catches it -/
structure Catch (K : PySem.W.Frag) (mg : Str → Option Value) (x : Str) (C : Addr) (sub : Str → Option Bool) : Prop where
  g : mg x = some (.ref C)
  h : ∀ n b C', sub n = some b → mg n = some (.ref C') → PySem.W.exmOne K (.ref C') (.ref C) = some b
  k : ∀ n b, sub n = some b → ∃ C', mg n = some (.ref C')
/-- behind a try's body -/
def tryE (hd : Exn → En → O) : O → O
  | .nx ρ => .nx (clean ρ)
  | .bk ρ => .bk (clean ρ)
  | .ct ρ => .ct (clean ρ)
  | .rt d => .rt d
  | .rto d => .rto d
  | .err e ρ => hd e ρ
  | _ => .stuck
/-- behind a suite: nothing may leave it -/
def endS1 : O → O
  | .err _ _ => .stuck
  | .nx ρ => .nx (clean ρ)
  | .bk ρ => .bk (clean ρ)
  | .ct ρ => .ct (clean ρ)
  | o => o
def endS (o : O) : O := O.lf endS1 o
def endI1 (i : Nat) : O → O
  | .err _ _ => .stuck
  | .nx ρ => .nx (clean (ρ.set i none))
  | .bk ρ => .bk (clean (ρ.set i none))
  | .ct ρ => .ct (clean (ρ.set i none))
  | o => o
def endI (i : Nat) (o : O) : O := O.lf (endI1 i) o
abbrev Clause := Str × (Str → Option Bool) × MS
def hdl : List Clause → Exn → En → O
  | [], e, ρ => .err e (clean ρ)
  | (_, sub, su) :: r, e, ρ => match sub e.1 with
    | some true => endS (su (clean ρ))
    | some false => hdl r e ρ
    | none => .stuck
def sTryN (cs : List Clause) (body : MS) : MS := fun ρ => O.lf (tryE (hdl cs)) (body (clean ρ))
def hdlAs (i : Nat) (sub : Str → Option Bool) (su : MS) : Exn → En → O := fun e ρ => match sub e.1 with
    | some true => endI i (su ((clean ρ).set i (some (.exc e.1 e.2))))
    | some false => .err e (clean ρ)
    | none => .stuck
def sTryAs (_x : Str) (i : Nat) (sub : Str → Option Bool) (body suite : MS) : MS := fun ρ => O.lf (tryE (hdlAs i sub suite)) (body (clean ρ))
theorem clean_clean (ρ : En) : clean (clean ρ) = clean ρ := by
  unfold clean
  rw [List.map_map]
  congr 1
  funext y
  cases y with
  | none => rfl
  | some y => cases y <;> rfl
theorem PostS.su {K : PySem.W.Frag} {mg : Str → Option Value} {ea ea' : EA} {Hs H0s : Hp} {o : O} {D : Ends} {W W' : WX}
    (h : PostS K mg ea Hs H0s (endS o) D W) : PostS K mg ea' Hs H0s o D W' := PostS.lf h fun o np h => by
  cases o with
  | stuck => exact h
  | nx ρ => exact fun σ H H0 r => h σ H H0 r.clean
  | bk ρ => exact fun σ H H0 r => h σ H H0 r.clean
  | ct ρ => exact fun σ H H0 r => h σ H H0 r.clean
  | rt d => exact h
  | rto d => exact h
  | err e ρ => exact False.elim h
  | pick k => exact absurd rfl (np k)
theorem PostS.suI {K : PySem.W.Frag} {mg : Str → Option Value} {ea ea' : EA} {Hs H0s : Hp} {o : O} {D : Ends} {W W' : WX} {i : Nat}
    (h : PostS K mg ea Hs H0s (endI i o) D W) :
    PostS K mg ea' Hs H0s o { nx := fun σ' H' => D.nx (σ'.set i none) H', rt := D.rt, bk := fun σ' H' => D.bk (σ'.set i none) H', ct := fun σ' H' => D.ct (σ'.set i none) H' } W' := PostS.lf h fun o np h => by
  cases o with
  | stuck => exact h
  | nx ρ => exact fun σ H H0 r => h _ H H0 (r.forget i none).clean
  | bk ρ => exact fun σ H H0 r => h _ H H0 (r.forget i none).clean
  | ct ρ => exact fun σ H H0 r => h _ H H0 (r.forget i none).clean
  | rt d => exact h
  | rto d => exact h
  | err e ρ => exact False.elim h
  | pick k => exact absurd rfl (np k)
def TSu (K : PySem.W.Frag) (mg : Str → Option Value) (ea : EA) (W : WX) (m : MS) : TS := fun D σ H => ∃ Hs H0s H0 ρ, Rel K ea Hs H0s σ H H0 ρ ∧ PostS K mg ea Hs H0s (m ρ) D W
def TTr (K : PySem.W.Frag) (mg : Str → Option Value) (m : MS) (W : WX) : TS := fun D σ H => ∃ Hs H0s H0 ρ, (∀ ea, Rel K ea Hs H0s σ H H0 ρ) ∧ ∀ ea, PostS K mg ea Hs H0s (m ρ) D W
def lookXe (X : Cx) : Value → Shared → Prop := fun e s₁ => wpAny (model X.prog X.w) X.A (noteFrame e X.env) (fun _ s₂ => wpAny (model X.prog X.w) X.A (setFlight e none) (fun _ _ => True) X.xe s₂) X.xe s₁
theorem take_any (hs : X.stack = X.env :: X.outer) (hf : X.env.frame = some X.env.locals) (W : WX) : Takes (X.tr [] (lookXe X)) W := by
  rintro u s' ⟨a, B, sI, pins, σ, H, cls, d, rfl, I, nb, up, sky, na, os, ag, w⟩
  have hfr : X.A.frames = some (X.env :: X.outer) := by have := I.ok.frames; rw [← hs]; exact this
  have sky' : Sky B (X.env :: X.outer) a (Zc cls d) X.env.locals s'.heap := by rw [← hs]; exact sky
  show wpAny _ X.A (noteFrame (.ref a) X.env) _ _ _
  exact Sky.land Zc.steady hfr hf sky' fun h3 fl3 up3 => trivial
theorem own_any : PassesOwn (model X.prog X.w) X.A X.env (lookXe X) := PassesOwn.looking
section
variable {X : Cx} {W : WX}
/-- the suite's reading, of whatever error -/
def tSuite (K : PySem.W.Frag) (mg : Str → Option Value) (msu : MS) : Addr → Value → Option Addr → TS := fun a cls d => TSu K mg (eaOf K mg a cls d) W0 msu
theorem suite_pss {body : List Stmt} {msu : MS} (hsu : ∀ (a : Addr) (oe : Obj) (pn : List (Addr × Obj)), (∃ vs, oe.data = .fields vs) → ∃ t, BSs (X.suite a ((a, oe) :: pn)) W0 body t msu) (a : Addr) (oe : Obj) (cls : Value) (d : Option Addr) (pn : List (Addr × Obj))
    (hz : Zc cls d oe) (hd : ∃ vs, oe.data = .fields vs) : PSs (X.suite a ((a, oe) :: pn)) body (tSuite X.K X.mg msu a cls d) := by
  obtain ⟨t, h⟩ := hsu a oe pn hd
  obtain ⟨rfl, rfl⟩ := hz
  exact ⟨fun pins s σ H D I ⟨Hs, H0s, H0, ρ, rl, p⟩ => h.pe.run pins s σ H D I (h.ev Hs H0s σ H H0 ρ D rl p)⟩
/-- an error as it lies behind the body -/
theorem err_ok {K : PySem.W.Frag} {mg : Str → Option Value} {E : XK} {e : Exn} {H H0 Hs H0s : Hp} {ea : EA} {σ : L2.St} {ρ : En} (r : Rel K ea Hs H0s σ H H0 ρ)
    (h : ∀ (C : Addr) (d : Option Addr) (H' H0' : Hp), mg e.1 = some (.ref C) → Fr H H0 H' H0' → (∀ a, (eaOf K mg a (.ref C) d).ok e.1 e.2 H0') → E (.ref C) d H') (hm : ∃ C, mg e.1 = some (.ref C)) : ErrOk K mg E e H H0 := by
  obtain ⟨C, hC⟩ := hm
  refine ⟨C, hC, ?_⟩
  obtain ⟨n, fs⟩ := e
  cases fs with
  | nil => exact h C none H H0 hC (.refl r.sub) fun a => ⟨C, hC, rfl, rfl⟩
  | cons f fs =>
    obtain ⟨fn, fd⟩ := f
    intro v dx xv hn
    have n0 : H0 dx = none := r.sub.free hn
    exact h C (some dx) _ (upd H0 dx (.xd [(fn, v)])) hC (Fr.new r.sub hn) fun a => ⟨C, hC, rfl, dx, v, rfl, upd_same, dp_mono (Same.new n0) _ _ xv⟩
inductive HdsM (X : Cx) : List ExceptHandler → List Clause → List (Value × (Addr → Value → Option Addr → TS)) → Prop
  | nil : HdsM X [] [] []
  | cons {x : Str} {C : Addr} {sub : Str → Option Bool} {suite : List Stmt} {b₀ : Stmt} {np pos' : Pos} {msu : MS} {hds : List ExceptHandler} {cs : List Clause} {l : List (Value × (Addr → Value → Option Addr → TS))} (cc : Catch X.K X.mg x C sub) (hc : Names X x (.ref C))
      (hsu : ∀ (a : Addr) (oe : Obj) (pn : List (Addr × Obj)), (∃ vs, oe.data = .fields vs) → ∃ t, BSs (X.suite a ((a, oe) :: pn)) W0 (b₀ :: suite) t msu) (r : HdsM X hds cs l) :
      HdsM X (.ExceptHandler (some (.Name x np)) none (b₀ :: suite) pos' :: hds) ((x, sub, msu) :: cs) ((.ref C, tSuite X.K X.mg msu) :: l)
theorem HdsM.ok : ∀ {hds : List ExceptHandler} {cs : List Clause} {l : List (Value × (Addr → Value → Option Addr → TS))}, HdsM X hds cs l → HdsOk X hds l
  | _, _, _, .nil => .nil
  | _, _, _, .cons cc hc hsu r => .cons hc (suite_pss hsu) (HdsM.ok r)
theorem HdsM.want {D : Ends} {Hs H0s : Hp} : ∀ {hds : List ExceptHandler} {cs : List Clause} {l : List (Value × (Addr → Value → Option Addr → TS))}, HdsM X hds cs l →
    ∀ {e : Exn} {ρ : En}, PostS X.K X.mg (excOf X) Hs H0s (hdl cs e ρ) D W → ∀ σ H H0, Rel X.K (excOf X) Hs H0s σ H H0 (clean ρ) → ErrOk X.K X.mg (WE (wMany X.K W D l) σ) e H H0
  | _, _, _, .nil, e, ρ, p, σ, H, H0, r => p σ H H0 r
  | _, _, _, .cons (C := C) (sub := sub) (msu := msu) (cs := cs) (l := l) cc hc hsu rr, e, ρ, p, σ, H, H0, r => by
    unfold hdl at p
    cases z : sub e.1 with
    | none => rw [z] at p; exact False.elim p
    | some b =>
      rw [z] at p
      cases b with
      | true =>
        refine err_ok r (fun C' d H' H0' hC f ok => ?_) (cc.k _ _ z)
        refine ⟨true, cc.h _ true C' z hC, fun _ a na => ?_, fun h => nomatch h⟩
        have r2 := (Rel.clean r (ea' := eaOf X.K X.mg a (.ref C') d)).step f
        rw [clean_clean] at r2
        exact ⟨Hs, H0s, H0', _, r2, PostS.su (ea := excOf X) p⟩
      | false =>
        obtain ⟨C', h1, h2⟩ := HdsM.want rr (show PostS X.K X.mg (excOf X) Hs H0s (hdl cs e ρ) D W from p) σ H H0 r
        refine ⟨C', h1, ?_⟩
        obtain ⟨en, fs⟩ := e
        cases fs with
        | nil => exact ⟨false, cc.h en false C' z h1, (fun h => nomatch h), fun _ => h2⟩
        | cons f fs =>
          obtain ⟨fn, fd⟩ := f
          exact fun v dx xv hn => ⟨false, cc.h en false C' z h1, (fun h => nomatch h), fun _ => h2 v dx xv hn⟩
/-- behind the body, by its reading -/
theorem try_tr {Hs H0s : Hp} {hd : Exn → En → O} {o : O} {D : Ends} {W' : WX} (p : PostS X.K X.mg (excOf X) Hs H0s (O.lf (tryE hd) o) D W)
    (h : ∀ e ρ, PostS X.K X.mg (excOf X) Hs H0s (hd e ρ) D W → ∀ σ H H0, Rel X.K (excOf X) Hs H0s σ H H0 (clean ρ) → ErrOk X.K X.mg (WE W' σ) e H H0) (ea : EA) : PostS X.K X.mg ea Hs H0s o D W' := PostS.lf p fun o np p => by
  cases o with
  | stuck => exact p
  | nx ρ => exact fun σ H H0 r => p σ H H0 r.clean
  | bk ρ => exact fun σ H H0 r => p σ H H0 r.clean
  | ct ρ => exact fun σ H H0 r => p σ H H0 r.clean
  | rt d => exact p
  | rto d => exact p
  | err e ρ => exact fun σ H H0 r => h e ρ p σ H H0 r.clean
  | pick k => exact absurd rfl (np k)
theorem bs_tryN {body : List Stmt} {h₀ : ExceptHandler} {hds : List ExceptHandler} {c₀ : Clause} {cs : List Clause} {l : List (Value × (Addr → Value → Option Addr → TS))} {pos : Pos} {mb : MS} (hs : X.stack = X.env :: X.outer) (hf : X.env.frame = some X.env.locals) (tk : Takes X W)
    (hb : ∀ (W : WX) (pn : List (Addr × Obj)) (xe : Value → Shared → Prop), Takes (X.tr pn xe) W → PassesOwn (model X.prog X.w) X.A X.env xe → ∃ t, BSs (X.tr pn xe) W body t mb)
    (hh : HdsM X (h₀ :: hds) (c₀ :: cs) l) :
    BS X W (.Try body (h₀ :: hds) [] [] pos) (fun D σ H => TTr X.K X.mg mb (wMany X.K W D l) D σ H) (sTryN (c₀ :: cs) mb) := by
  refine ⟨ps_try_many hs hf tk (fun W pn xe tk ho => (hb W pn xe tk ho).elim fun _ h => ⟨fun pins s σ H D I ⟨Hs, H0s, H0, ρ, rl, p⟩ => h.pe.run pins s σ H D I (h.ev Hs H0s σ H H0 ρ D (rl _) (p _))⟩) hh.ok, fun Hs H0s σ H H0 ρ D rl p => ?_⟩
  exact ⟨Hs, H0s, H0, clean ρ, fun _ => rl.clean, try_tr p fun e ρ1 p => hh.want p⟩
theorem bs_tryAs {x n : Str} {i : Nat} {C : Addr} {sub : Str → Option Bool} {body suite : List Stmt} {b₀ : Stmt} {np pos pos' : Pos} {mb msu : MS} (hs : X.stack = X.env :: X.outer) (hf : X.env.frame = some X.env.locals) (hN : X.N.Nodup) (hi : X.N[i]? = some n) (hk : X.env.kindOf n = some NameKind.local)
    (cc : Catch X.K X.mg x C sub) (hc : Names X x (.ref C)) (tk : Takes X W)
    (hb : ∀ (W : WX) (pn : List (Addr × Obj)) (xe : Value → Shared → Prop), Takes (X.tr pn xe) W → PassesOwn (model X.prog X.w) X.A X.env xe → ∃ t, BSs (X.tr pn xe) W body t mb)
    (hsu : ∀ (a : Addr) (oe : Obj) (pn : List (Addr × Obj)), (∃ vs, oe.data = .fields vs) → ∃ t, BSs (X.suite a ((a, oe) :: pn)) W0 (b₀ :: suite) t msu) :
    BS X W (.Try body [.ExceptHandler (some (.Name x np)) (some n) (b₀ :: suite) pos'] [] [] pos) (fun D σ H => TTr X.K X.mg mb (wAs X.K (.ref C) i (tSuite X.K X.mg msu) W D) D σ H) (sTryAs x i sub mb msu) := by
  refine ⟨ps_try_as hs hf hN hi hk hc tk (fun W pn xe tk ho => (hb W pn xe tk ho).elim fun _ h => ⟨fun pins s σ H D I ⟨Hs, H0s, H0, ρ, rl, p⟩ => h.pe.run pins s σ H D I (h.ev Hs H0s σ H H0 ρ D (rl _) (p _))⟩) (suite_pss hsu), fun Hs H0s σ H H0 ρ D rl p => ?_⟩
  refine ⟨Hs, H0s, H0, clean ρ, fun _ => rl.clean, try_tr p fun e ρ1 p σ H H0 r => ?_⟩
  unfold hdlAs at p
  cases z : sub e.1 with
  | none => rw [z] at p; exact False.elim p
  | some b =>
    rw [z] at p
    cases b with
    | true =>
      refine err_ok r (fun C' d H' H0' hC f ok => ?_) (cc.k _ _ z)
      refine ⟨true, cc.h _ true C' z hC, fun _ a na => ?_, fun h => nomatch h⟩
      have r2 := (Rel.clean r (ea' := eaOf X.K X.mg a (.ref C') d)).step f
      rw [clean_clean] at r2
      exact ⟨Hs, H0s, H0', _, r2.setExc i (ok a), PostS.suI p⟩
    | false =>
      obtain ⟨C', h1, h2⟩ := (show PostS X.K X.mg (excOf X) Hs H0s (.err e (clean ρ1)) D W from p) σ H H0 r
      refine ⟨C', h1, ?_⟩
      obtain ⟨en, fs⟩ := e
      cases fs with
      | nil => exact ⟨false, cc.h en false C' z h1, (fun h => nomatch h), fun _ => h2⟩
      | cons f fs =>
        obtain ⟨fn, fd⟩ := f
        exact fun v dx xv hn => ⟨false, cc.h en false C' z h1, (fun h => nomatch h), fun _ => h2 v dx xv hn⟩
end
end
end DW

end
end
section
set_option Elab.async false
set_option linter.all false
set_option maxRecDepth 100000
set_option maxHeartbeats 4000000
noncomputable section
namespace DW
open PySem PySem.Spec PyProof.Rows L2
open SX (S S_tl S_len S_cat)

theorem sz_str (x : Str) : x.length = x.cps.toList.length := by simp [Str.length]
section
variable {K : PySem.W.Frag} {mg : Str → Option Value} {md : Bool}
/-- a value of no object may be handed on at once -/
theorem post_here {H H0 : Hp} {d : D} {v : V} {Q : VK} {E : XK} (p : Post (Dp K) K mg true H H0 (.ok d) Q E) (s : Same H0 H) (x : ∀ H, Dp K H v d) : Q v H := p v H H0 (.refl s) (x H0)

/-! ### int operations -/
def dSub : D → D → R D
  | .int i, .int j => .ok (.int (i - j))
  | _, _ => .stuck
theorem op2_sub : Op2 K mg md (rI0 fun i j => .int (i - j)) dSub := by
  intro x y d e H H0 Q E s hx hy p
  unfold dSub at p
  split at p
  · cases dp_md s hx; cases dp_md s hy; exact ⟨_, _, rfl, rfl, post_here p s fun _ => .int _⟩
  · exact False.elim p
def dFdiv : D → D → R D
  | .int i, .int j => if 0 < j ∧ j.natAbs.log2 < 9000 then .ok (.int (i / j)) else .stuck
  | _, _ => .stuck
theorem op2_fdiv : Op2 K mg md (rI CDivW fun i j => .int (i / j)) dFdiv := by
  intro x y d e H H0 Q E s hx hy p
  unfold dFdiv at p
  split at p
  · split at p
    · rename_i h
      cases dp_md s hx; cases dp_md s hy; exact ⟨_, _, rfl, rfl, h, post_here p s fun _ => .int _⟩
    · exact False.elim p
  · exact False.elim p
def dMod : D → D → R D
  | .int i, .int j => if 0 < j then .ok (.int (i % j)) else .stuck
  | _, _ => .stuck
theorem op2_mod : Op2 K mg md (rI (fun _ j => 0 < j) fun i j => .int (i % j)) dMod := by
  intro x y d e H H0 Q E s hx hy p
  unfold dMod at p
  split at p
  · split at p
    · rename_i h
      cases dp_md s hx; cases dp_md s hy; exact ⟨_, _, rfl, rfl, h, post_here p s fun _ => .int _⟩
    · exact False.elim p
  · exact False.elim p
def dPow : D → D → R D
  | .int i, .int j => if 0 ≤ j ∧ j ≤ 1000000 ∧ i.natAbs < 2 ^ 64 then .ok (.int (i ^ j.toNat)) else .stuck
  | _, _ => .stuck
theorem op2_pow : Op2 K mg md (rI CPow fun i j => .int (i ^ j.toNat)) dPow := by
  intro x y d e H H0 Q E s hx hy p
  unfold dPow at p
  split at p
  · split at p
    · rename_i h
      cases dp_md s hx; cases dp_md s hy; exact ⟨_, _, rfl, rfl, h, post_here p s fun _ => .int _⟩
    · exact False.elim p
  · exact False.elim p

/-! ### + -/
def rCatLL (K : PySem.W.Frag) : R2 := fun x y H Q => ∃ l b xs zs, x = .ref l ∧ y = .ref b ∧ SqL K H l xs ∧ SqL K H b zs ∧ xs.length + zs.length ≤ sizeLine ∧ ∀ p, H p = none → Q (.ref p) (upd H p (.lst (xs ++ zs)))
theorem op_catLL {X : Cx} : OpR X (binaryOp .Add) (rCatLL X.K) := by
  intro pins s σ H x y v u Q I rx ry h
  obtain ⟨l, b, xs, zs, rfl, rfl, hH, hB, hz, q⟩ := h
  cases rx
  cases ry
  obtain ⟨its, r, pl, hs⟩ := I.list hH
  obtain ⟨its2, r2, pl2, hs2⟩ := I.list hB
  have hl := r.length
  have hl2 := r2.length
  obtain ⟨⟨c1, d1, dt1, sl1⟩, ho, hc, n, hd⟩ := pl.isList
  obtain ⟨⟨c2, d2, dt2, sl2⟩, ho2, hc2, n2, hd2⟩ := pl2.isList
  simp only at hc hd hc2 hd2
  subst hc hd hc2 hd2
  refine concat_meets ⟨_, ho, rfl⟩ ⟨_, ho2, rfl⟩ noFill_list_add seq_list_add PySem.F.slot_list_add PySem.F.entry_list_add (PySem.F.args_list_add_2 _ _)
    (list_addW l b its.toArray its2.toArray n n2 d1 d2 sl1 sl2 (by rw [List.size_toArray, List.size_toArray]; omega)) ⟨ho, ho2, ?_⟩
  have ea : its.toArray ++ its2.toArray = (its ++ its2).toArray := by simp
  rw [ea]
  exact ⟨.ref _, _, I.lnew (t' := s.toks) (r.append r2) (by rw [List.length_append]; omega), rfl, q _ I.fresh⟩
def rAddA (K : PySem.W.Frag) : R2 := fun x y H Q => (rI0 (fun i j => .int (i + j)) x y H Q ∨ (fun x y H Q => ∃ i j, x = .str i ∧ y = .str j ∧ i.length + j.length ≤ sizeLine ∧ Q (.str (i ++ j)) H) x y H Q) ∨ (rCatLL K x y H Q ∨ rCatA K x y H Q)
theorem op_addA {X : Cx} : OpR X (binaryOp .Add) (rAddA X.K) := OpR.or (OpR.or op_add op_add_str) (OpR.or op_catLL op_catA)
def dAdd : D → D → R D
  | .int i, .int j => .ok (.int (i + j))
  | .str a, .str b => if a.cps.toList.length + b.cps.toList.length ≤ sizeLine then .ok (.str (S (a.cps.toList ++ b.cps.toList))) else .stuck
  | .list a, .list b => if a.length + b.length ≤ sizeLine then .ok (.list (a ++ b)) else .stuck
  | .tuple a, .tuple b => if a.length + b.length ≤ sizeLine then .ok (.tuple (a ++ b)) else .stuck
  | _, _ => .stuck
theorem op2_add : Op2 K mg true (rAddA K) dAdd := by
  intro x y d e H H0 Q E s hx hy p
  replace hx : Dp K H0 x d := hx
  replace hy : Dp K H0 y e := hy
  unfold dAdd at p
  split at p
  · cases hx; cases hy; exact .inl (.inl ⟨_, _, rfl, rfl, post_here p s fun _ => .int _⟩)
  · split at p
    · rename_i a b h
      cases hx; cases hy
      refine .inl (.inr ⟨_, _, rfl, rfl, by rw [sz_str, sz_str]; exact h, ?_⟩)
      have e : S (a.cps.toList ++ b.cps.toList) = a ++ b := by rw [← S_cat, S_tl, S_tl]
      rw [e] at p
      exact post_here p s fun _ => .str _
    · exact False.elim p
  · split at p
    · rename_i h
      cases hx with
      | lst h1 a1 =>
        cases hy with
        | lst h2 a2 =>
          refine .inr (.inl ⟨_, _, _, _, rfl, rfl, s.seq h1, s.seq h2, by rw [DpAll.length a1, DpAll.length a2]; exact h, fun q hq => ?_⟩)
          exact p _ _ _ (Fr.new s hq) (.lst (.inl (.inl upd_same)) (dpAll_mono (Same.new (s.free hq)) _ _ (DpAll.append a1 a2)))
    · exact False.elim p
  · split at p
    · rename_i da db h
      cases hx with
      | @tup a0 _ xs h1 a1 =>
        cases hy with
        | @tup b0 _ ys h2 a2 =>
          refine .inr (.inr ⟨_, _, _, _, rfl, rfl, sqT_mono s h1, sqT_mono s h2, by rw [DpAll.length a1, DpAll.length a2]; exact h, fun e => ?_, fun ne e => ?_, fun ne ne2 q hq => ?_⟩)
          · subst e
            cases a1
            exact p _ _ _ (.refl s) (.tup h2 a2)
          · subst e
            cases a2
            rw [List.append_nil] at p
            exact p _ _ _ (.refl s) (.tup h1 a1)
          · exact p _ _ _ (Fr.new s hq) (.tup (.inl (.inl upd_same)) (dpAll_mono (Same.new (s.free hq)) _ _ (DpAll.append a1 a2)))
    · exact False.elim p
  · exact False.elim p

/-! ### * -/
theorem foldl_cat : ∀ (n : Nat) (x acc : Array Nat), ((List.replicate n x).foldl (· ++ ·) acc).toList = acc.toList ++ (List.replicate n x.toList).flatten
  | 0, x, acc => by simp
  | n + 1, x, acc => by
    rw [List.replicate_succ, List.foldl_cons, foldl_cat n x (acc ++ x), List.replicate_succ, List.flatten_cons, Array.toList_append, List.append_assoc]
def repL (n : Nat) (x : List Nat) : List Nat := (List.replicate n x).flatten
theorem mul_rep (x : Str) (n : Int) : Txt.mul x n = S (repL n.toNat x.cps.toList) := by
  unfold Txt.mul repL
  by_cases h : n < 1
  · rw [if_pos h]
    have : n.toNat = 0 := by omega
    rw [this]
    rfl
  · rw [if_neg h]
    by_cases h2 : (n == 1 || x.length == 0) = true
    · rw [if_pos h2]
      rcases Bool.or_eq_true_iff.mp h2 with h3 | h3
      · have : n = 1 := by simpa using h3
        subst this
        show x = S ([x.cps.toList].flatten)
        rw [List.flatten_cons, List.flatten_nil, List.append_nil, S_tl]
      · have h4 : x.cps.toList = [] := by
          have : x.length = 0 := by simpa using h3
          rw [sz_str] at this
          exact List.eq_nil_of_length_eq_zero this
        rw [h4]
        have e : (List.replicate n.toNat ([] : List Nat)).flatten = [] := by simp
        rw [e, ← h4, S_tl]
    · rw [if_neg h2]
      have e := foldl_cat n.toNat x.cps #[]
      show (⟨_⟩ : Str) = ⟨_⟩
      congr 1
      apply Array.ext'
      rw [e]
      simp
def rMulS : R2 := fun x y H Q => ∃ z n, x = .str z ∧ y = .int n ∧ n < 1000000 ∧ -1000000 < n ∧ z.cps.toList.length * n.toNat ≤ 1000000 ∧ Q (.str (S (repL n.toNat z.cps.toList))) H
theorem op_mulS {X : Cx} : OpR X (binaryOp .Mult) rMulS := by
  intro pins s σ H x y v u Q I rx ry h
  obtain ⟨z, n, rfl, rfl, h1, h2, h3, q⟩ := h
  obtain ⟨t, rfl⟩ := rx
  obtain ⟨t', rfl⟩ := ry
  refine PySem.SB.mul ⟨?_, fun g1 g2 => ?_, fun g1 g2 => ?_⟩ fun t' k => ⟨.str _, H, I.tok _, ⟨_, rfl⟩, by rw [mul_rep]; exact q⟩
  · rw [Bool.or_eq_false_iff]
    exact ⟨decide_eq_false (by omega), decide_eq_false (by omega)⟩
  · intro g3
    have hz : z.length = z.cps.toList.length := sz_str z
    have hn : 0 < n := by omega
    have hz2 : (z.length : Int) ≤ 1000000 := by
      rcases Nat.eq_zero_or_pos n.toNat with q0 | q0
      · omega
      · have := Nat.le_mul_of_pos_right z.cps.toList.length q0
        omega
    have : (1000000 : Int) ≤ (2 ^ 63 - 1) / n := by
      refine Int.le_ediv_of_mul_le hn ?_
      have : (1000000 : Int) * n ≤ 1000000 * 1000000 := by omega
      omega
    omega
  · have hz : z.length = z.cps.toList.length := sz_str z
    rw [hz]
    show decide (_ > sizeLine) = false
    have := sizeLine_eq
    exact decide_eq_false (by omega)

def dMul : D → D → R D
  | .int i, .int j => if i.natAbs.log2 + j.natAbs.log2 < 1000000 then .ok (.int (i * j)) else .stuck
  | .str z, .int n => if n < 1000000 ∧ -1000000 < n ∧ z.cps.toList.length * n.toNat ≤ 1000000 then .ok (.str (S (repL n.toNat z.cps.toList))) else .stuck
  | .tuple ds, .int n => if 1 ≤ ds.length ∧ 2 ≤ n ∧ n ≤ 1000 ∧ ds.length ≤ 1000 then .ok (.tuple (List.replicate n.toNat ds).flatten) else .stuck
  | _, _ => .stuck
def rMulA (K : PySem.W.Frag) : R2 := fun x y H Q => (rI CMulW (fun i j => .int (i * j)) x y H Q ∨ rMulS x y H Q) ∨ rRepT K x y H Q
theorem op_mulA {X : Cx} : OpR X (binaryOp .Mult) (rMulA X.K) := OpR.or (OpR.or op_mulW op_mulS) op_repT
theorem dpAll_rep {H : Hp} {vs : List V} {ds : List D} (h : DpAll K H vs ds) : ∀ n : Nat, DpAll K H (List.replicate n vs).flatten (List.replicate n ds).flatten
  | 0 => .nil
  | n + 1 => by
    rw [List.replicate_succ, List.replicate_succ, List.flatten_cons, List.flatten_cons]
    exact DpAll.append h (dpAll_rep h n)
theorem op2_mul : Op2 K mg true (rMulA K) dMul := by
  intro x y d e H H0 Q E s hx hy p
  unfold dMul at p
  split at p
  · split at p
    · rename_i h
      cases dp_md s hx; cases dp_md s hy; exact .inl (.inl ⟨_, _, rfl, rfl, h, post_here p s fun _ => .int _⟩)
    · exact False.elim p
  · split at p
    · rename_i h
      cases dp_md s hx; cases dp_md s hy; exact .inl (.inr ⟨_, _, rfl, rfl, h.1, h.2.1, h.2.2, post_here p s fun _ => .str _⟩)
    · exact False.elim p
  · split at p
    · rename_i h
      cases dp_md s hy
      have hx' : Dp K H0 _ _ := hx
      cases hx' with
      | tup hl ha =>
        have el := DpAll.length ha
        refine .inr ⟨_, _, _, rfl, rfl, sqT_mono s hl, fun z => ?_, h.2.1, h.2.2.1, by rw [el]; exact h.2.2.2, fun q hq => ?_⟩
        · rw [z] at el
          have := h.1
          rw [← el] at this
          exact absurd this (by decide)
        · exact p _ _ _ (Fr.new s hq) (.tup (.inl (.inl upd_same)) (dpAll_mono (Same.new (s.free hq)) _ _ (dpAll_rep ha _)))
    · exact False.elim p
  · exact False.elim p

/-! ### comparisons -/
def someN : D → Bool
  | .none => false
  | _ => true
/-- data that Python can put in order, place by place -/
def canCmp (d e : D) : Bool := PySem.W.alike d e && someN d && decide (d.depth ≤ 64)
def dLt : D → D → R D
  | .int i, .int j => .ok (.bool (decide (i < j)))
  | .str a, .str b => .ok (.bool (decide (a.cps.toList < b.cps.toList)))
  | d, e => if canCmp d e = true then .ok (.bool (PySem.W.dataLt d e)) else .stuck
def dLe : D → D → R D
  | .int i, .int j => .ok (.bool (decide (i ≤ j)))
  | .str a, .str b => .ok (.bool (!decide (b.cps.toList < a.cps.toList)))
  | d, e => if canCmp d e = true then .ok (.bool (!PySem.W.dataLt e d)) else .stuck
def dGt : D → D → R D
  | .int i, .int j => .ok (.bool (decide (j < i)))
  | .str a, .str b => .ok (.bool (decide (b.cps.toList < a.cps.toList)))
  | d, e => if canCmp d e = true then .ok (.bool (PySem.W.dataLt e d)) else .stuck
def dGe : D → D → R D
  | .int i, .int j => .ok (.bool (decide (j ≤ i)))
  | .str a, .str b => .ok (.bool (!decide (a.cps.toList < b.cps.toList)))
  | d, e => if canCmp d e = true then .ok (.bool (!PySem.W.dataLt d e)) else .stuck
def rCmpA (K : PySem.W.Frag) (f : Int → Int → Bool) (g : List Nat → List Nat → Bool) (h : D → D → Bool) : R2 := fun x y H Q => (rI0 (fun i j => .bl (f i j)) x y H Q ∨ (fun x y H Q => ∃ i j, x = .str i ∧ y = .str j ∧ Q (.bl (g i.cps.toList j.cps.toList)) H) x y H Q) ∨
  ∃ d e, Dp K H x d ∧ Dp K H y e ∧ canCmp d e = true ∧ Q (.bl (h d e)) H
theorem someN_ne {d : D} (h : someN d = true) : d ≠ .none := fun e => by rw [e] at h; cases h
theorem op_cmpD {X : Cx} {op : CmpOp} {h : D → D → Bool} (hu : X.A.units + 64 < cLine) (rule : ∀ {prog : Program} {w : World} {A : Around} {E : Value → Shared → Prop} {s : Shared} {a b : Value} {da db : PyData} {as bs : List Addr} {Q : Value → Shared → Prop}, Reads s.heap a da as → Reads s.heap b db bs → PySem.W.alike da db = true → da ≠ .none → A.units + min da.depth db.depth < cLine → Q (.bool (h da db)) s → wpAny (model prog w) A (compareOp op a b) Q E s) :
    OpR X (compareOp op) (fun x y H Q => ∃ d e, Dp X.K H x d ∧ Dp X.K H y e ∧ canCmp d e = true ∧ Q (.bl (h d e)) H) := by
  intro pins s σ H x y v u Q I rx ry hh
  obtain ⟨d, e, hd, he, hc, q⟩ := hh
  obtain ⟨as, r1⟩ := Dp.reads I d x v hd rx
  obtain ⟨bs, r2⟩ := Dp.reads I e y u he ry
  unfold canCmp at hc
  rw [Bool.and_eq_true, Bool.and_eq_true, decide_eq_true_eq] at hc
  exact rule r1 r2 hc.1.1 (someN_ne hc.1.2) (by have := hc.2; omega) ⟨.bl _, H, I, rfl, q⟩
theorem op_ltA {X : Cx} (hu : X.A.units + 64 < cLine) : OpR X (compareOp .Lt) (rCmpA X.K (fun i j => decide (i < j)) (fun a b => decide (a < b)) fun d e => PySem.W.dataLt d e) := OpR.or (OpR.or op_lt op_lt_str) (op_cmpD hu PySem.W.lt_data)
theorem op_leA {X : Cx} (hu : X.A.units + 64 < cLine) : OpR X (compareOp .LtE) (rCmpA X.K (fun i j => decide (i ≤ j)) (fun a b => !decide (b < a)) fun d e => !PySem.W.dataLt e d) := OpR.or (OpR.or op_le op_le_str) (op_cmpD hu PySem.W.le_data)
theorem op_gtA {X : Cx} (hu : X.A.units + 64 < cLine) : OpR X (compareOp .Gt) (rCmpA X.K (fun i j => decide (j < i)) (fun a b => decide (b < a)) fun d e => PySem.W.dataLt e d) := OpR.or (OpR.or op_gt op_gt_str) (op_cmpD hu PySem.W.gt_data)
theorem op_geA {X : Cx} (hu : X.A.units + 64 < cLine) : OpR X (compareOp .GtE) (rCmpA X.K (fun i j => decide (j ≤ i)) (fun a b => !decide (a < b)) fun d e => !PySem.W.dataLt d e) := OpR.or (OpR.or op_ge op_ge_str) (op_cmpD hu PySem.W.ge_data)
theorem op2_lt : Op2 K mg md (rCmpA K (fun i j => decide (i < j)) (fun a b => decide (a < b)) fun d e => PySem.W.dataLt d e) dLt := by
  intro x y d e H H0 Q E s hx hy p
  unfold dLt at p
  split at p
  · cases dp_md s hx; cases dp_md s hy; exact .inl (.inl ⟨_, _, rfl, rfl, post_here p s fun _ => .bl _⟩)
  · cases dp_md s hx; cases dp_md s hy; exact .inl (.inr ⟨_, _, rfl, rfl, post_here p s fun _ => .bl _⟩)
  · split at p
    · rename_i hc
      exact .inr ⟨_, _, dp_md s hx, dp_md s hy, hc, post_here p s fun _ => .bl _⟩
    · exact False.elim p
theorem op2_le : Op2 K mg md (rCmpA K (fun i j => decide (i ≤ j)) (fun a b => !decide (b < a)) fun d e => !PySem.W.dataLt e d) dLe := by
  intro x y d e H H0 Q E s hx hy p
  unfold dLe at p
  split at p
  · cases dp_md s hx; cases dp_md s hy; exact .inl (.inl ⟨_, _, rfl, rfl, post_here p s fun _ => .bl _⟩)
  · cases dp_md s hx; cases dp_md s hy; exact .inl (.inr ⟨_, _, rfl, rfl, post_here p s fun _ => .bl _⟩)
  · split at p
    · rename_i hc
      exact .inr ⟨_, _, dp_md s hx, dp_md s hy, hc, post_here p s fun _ => .bl _⟩
    · exact False.elim p
theorem op2_gt : Op2 K mg md (rCmpA K (fun i j => decide (j < i)) (fun a b => decide (b < a)) fun d e => PySem.W.dataLt e d) dGt := by
  intro x y d e H H0 Q E s hx hy p
  unfold dGt at p
  split at p
  · cases dp_md s hx; cases dp_md s hy; exact .inl (.inl ⟨_, _, rfl, rfl, post_here p s fun _ => .bl _⟩)
  · cases dp_md s hx; cases dp_md s hy; exact .inl (.inr ⟨_, _, rfl, rfl, post_here p s fun _ => .bl _⟩)
  · split at p
    · rename_i hc
      exact .inr ⟨_, _, dp_md s hx, dp_md s hy, hc, post_here p s fun _ => .bl _⟩
    · exact False.elim p
theorem op2_ge : Op2 K mg md (rCmpA K (fun i j => decide (j ≤ i)) (fun a b => !decide (a < b)) fun d e => !PySem.W.dataLt d e) dGe := by
  intro x y d e H H0 Q E s hx hy p
  unfold dGe at p
  split at p
  · cases dp_md s hx; cases dp_md s hy; exact .inl (.inl ⟨_, _, rfl, rfl, post_here p s fun _ => .bl _⟩)
  · cases dp_md s hx; cases dp_md s hy; exact .inl (.inr ⟨_, _, rfl, rfl, post_here p s fun _ => .bl _⟩)
  · split at p
    · rename_i hc
      exact .inr ⟨_, _, dp_md s hx, dp_md s hy, hc, post_here p s fun _ => .bl _⟩
    · exact False.elim p
/-- equal: scalars of any kinds, else data of any depth -/
def deepEq (d e : D) : R Bool := if SeqAt.shaped d && SeqAt.shaped e then .ok (PyData.eqv d e) else .stuck
def dEqB : D → D → R Bool
  | .int i, .int j => .ok (decide (i = j))
  | .str a, .str b => .ok (decide (a.cps.toList = b.cps.toList))
  | .bool a, .bool b => .ok (decide (a = b))
  | .none, .none => .ok true
  | .none, .int _ => .ok false
  | .none, .str _ => .ok false
  | .none, .bool _ => .ok false
  | .int _, .none => .ok false
  | .str _, .none => .ok false
  | .bool _, .none => .ok false
  | .int _, .str _ => .ok false
  | .str _, .int _ => .ok false
  | .bool _, .str _ => .ok false
  | .str _, .bool _ => .ok false
  | d, e => deepEq d e
def dEq (d e : D) : R D := (dEqB d e).bind fun k => .ok (.bool k)
def dNe (d e : D) : R D := (dEqB d e).bind fun k => .ok (.bool (!k))
def rEqA (K : PySem.W.Frag) : R2 := fun x y H Q => rEq x y H Q ∨ rEqD K x y H Q
def rNeA (K : PySem.W.Frag) : R2 := fun x y H Q => rNe x y H Q ∨ rNeD K x y H Q
theorem op_eqA {X : Cx} (hu : X.A.units + 64 < cLine) : OpR X (compareOp .Eq) (rEqA X.K) := OpR.or op_eq (op_eqD hu)
theorem op_neA {X : Cx} (hu : X.A.units + 64 < cLine) : OpR X (compareOp .NotEq) (rNeA X.K) := OpR.or op_ne (op_neD hu)
theorem tl_eq {a b : Str} : a.cps.toList = b.cps.toList ↔ a = b := ⟨fun h => by rw [← S_tl a, ← S_tl b, h], fun h => by rw [h]⟩
/-- what a scalar test says -/
theorem eqB_cases {H : Hp} {x y : V} {d e : D} {k : Bool} (hx : Dp K H x d) (hy : Dp K H y e) (h : dEqB d e = .ok k) : (scal x y = true ∧ decide (x = y) = k) ∨ (SeqAt.shaped d = true ∧ SeqAt.shaped e = true ∧ PyData.eqv d e = k) := by
  have deep : ∀ {d e : D}, deepEq d e = .ok k → SeqAt.shaped d = true ∧ SeqAt.shaped e = true ∧ PyData.eqv d e = k := fun {d e} h => by
    unfold deepEq at h
    split at h
    · rename_i q
      have q := Bool.and_eq_true_iff.mp q
      exact ⟨q.1, q.2, R.ok.inj h⟩
    · cases h
  cases hx <;> cases hy <;> first
    | (right; exact deep h)
    | (left; have h := R.ok.inj h; subst h; exact ⟨rfl, decide_eq_decide.mpr ⟨fun z => by cases z; rfl, fun z => by rw [tl_eq.mp z]⟩⟩)
    | (left; have h := R.ok.inj h; subst h; refine ⟨rfl, ?_⟩; simp [tl_eq])
theorem dEqB_ne {d e : D} {z : Exn} : dEqB d e ≠ .err z := by
  have deep : ∀ {d e : D}, deepEq d e ≠ .err z := fun {d e} => by
    unfold deepEq
    split <;> simp
  unfold dEqB
  split <;> first | exact deep | simp
theorem dEqB_np {d e : D} {z : Nat → R Bool} : dEqB d e ≠ .pick z := by
  have deep : ∀ {d e : D}, deepEq d e ≠ .pick z := fun {d e} => by
    unfold deepEq
    split <;> simp
  unfold dEqB
  split <;> first | exact deep | simp
theorem op2_eq : Op2 K mg md (rEqA K) dEq := by
  intro x y d e H H0 Q E s hx hy p
  unfold dEq at p
  cases q : dEqB d e with
  | stuck => rw [q] at p; exact False.elim p
  | err z => exact absurd q dEqB_ne
  | pick z => exact absurd q dEqB_np
  | ok k =>
    rw [q] at p
    rcases eqB_cases (dp_md s hx) (dp_md s hy) q with ⟨h1, h2⟩ | ⟨h1, h2, h3⟩
    · exact .inl ⟨h1, by rw [h2]; exact post_here p s fun _ => .bl _⟩
    · exact .inr ⟨d, e, dp_md s hx, dp_md s hy, h1, h2, by rw [h3]; exact post_here p s fun _ => .bl _⟩
theorem op2_ne : Op2 K mg md (rNeA K) dNe := by
  intro x y d e H H0 Q E s hx hy p
  unfold dNe at p
  cases q : dEqB d e with
  | stuck => rw [q] at p; exact False.elim p
  | err z => exact absurd q dEqB_ne
  | pick z => exact absurd q dEqB_np
  | ok k =>
    rw [q] at p
    rcases eqB_cases (dp_md s hx) (dp_md s hy) q with ⟨h1, h2⟩ | ⟨h1, h2, h3⟩
    · exact .inl ⟨h1, by rw [h2]; exact post_here p s fun _ => .bl _⟩
    · exact .inr ⟨d, e, dp_md s hx, dp_md s hy, h1, h2, by rw [h3]; exact post_here p s fun _ => .bl _⟩
/-- is None, is not None -/
def isNone : D → Bool
  | .none => true
  | _ => false
def dIsN : D → D → R D
  | d, .none => .ok (.bool (isNone d))
  | _, _ => .stuck
def dNotN : D → D → R D
  | d, .none => .ok (.bool (!isNone d))
  | _, _ => .stuck
theorem isN_of {H : Hp} {v : V} {d : D} (x : Dp K H v d) : decide (v = .non) = isNone d := by
  cases x <;> simp [isNone]
theorem op2_isN : Op2 K mg md (fun x y H Q => y = .non ∧ Q (.bl (decide (x = .non))) H) dIsN := by
  intro x y d e H H0 Q E s hx hy p
  unfold dIsN at p
  split at p
  · cases dp_md s hy; exact ⟨rfl, by rw [isN_of (dp_md s hx)]; exact post_here p s fun _ => .bl _⟩
  · exact False.elim p
theorem op2_notN : Op2 K mg md (fun x y H Q => y = .non ∧ Q (.bl (!decide (x = .non))) H) dNotN := by
  intro x y d e H H0 Q E s hx hy p
  unfold dNotN at p
  split at p
  · cases dp_md s hy; exact ⟨rfl, by rw [isN_of (dp_md s hx)]; exact post_here p s fun _ => .bl _⟩
  · exact False.elim p
/-- a sign in a text; something in a list or a tuple of scalars -/
def flat : D → Bool
  | .list _ | .tuple _ | .dict _ => false
  | _ => true
def rInA : R2 := fun x y H Q => ∃ (c : Nat) (z : Str), x = .str ⟨#[c]⟩ ∧ y = .str z ∧ Q (.bl (decide (c ∈ z.cps.toList))) H
def dInB : D → D → R Bool
  | .str x, .str z => match x.cps.toList with
    | [c] => .ok (decide (c ∈ z.cps.toList))
    | _ => .stuck
  | _, _ => .stuck
def dIn (d e : D) : R D := (dInB d e).bind fun k => .ok (.bool k)
def dNotIn (d e : D) : R D := (dInB d e).bind fun k => .ok (.bool (!k))
theorem one_sign {x : Str} {c : Nat} (h : x.cps.toList = [c]) : x = ⟨#[c]⟩ := by rw [← S_tl x, h]
theorem op2_in : Op2 K mg md rInA dIn := by
  intro x y d e H H0 Q E s hx hy p
  unfold dIn dInB at p
  split at p
  · split at p
    · rename_i c h
      cases dp_md s hx; cases dp_md s hy
      rw [one_sign h]
      exact ⟨c, _, rfl, rfl, post_here p s fun _ => .bl _⟩
    · exact False.elim p
  · exact False.elim p
end
end DW

end
end
section
set_option Elab.async false
set_option linter.all false
set_option maxRecDepth 100000
set_option maxHeartbeats 4000000
noncomputable section
namespace DW
open PySem PySem.Spec PyProof.Rows L2
open SX (S S_tl S_len S_cat)

section
variable {K : PySem.W.Frag} {mg : Str → Option Value} {md : Bool}
theorem CallR.or {X : Cx} {f : Value} {r r' : List V → Hp → VK → Prop} (h : CallR X f r) (h' : CallR X f r') : CallR X f (fun xs H Q => r xs H Q ∨ r' xs H Q) := by
  intro pins s σ H xs us Q I rx q
  rcases q with q | q
  · exact h pins s σ H xs us Q I rx q
  · exact h' pins s σ H xs us Q I rx q
/-! ### len -/
def rLenA (K : PySem.W.Frag) : List V → Hp → VK → Prop := fun xs H Q => (fun xs H Q => ∃ p ys, xs = [.ref p] ∧ (SqL K H p ys ∨ SqT K H p ys) ∧ Q (.int ys.length) H) xs H Q ∨ (fun xs H Q => ∃ z, xs = [.str z] ∧ z.length ≤ sizeLine ∧ Q (.int z.length) H) xs H Q
theorem call_lenA {X : Cx} : CallR X (.builtin "len") (rLenA X.K) := CallR.or call_len_seq call_len_str
def dLen : List D → R D
  | [.str z] => if z.cps.toList.length ≤ sizeLine then .ok (.int z.cps.toList.length) else .stuck
  | [.list ds] => .ok (.int ds.length)
  | [.tuple ds] => .ok (.int ds.length)
  | _ => .stuck
theorem fn_len : Fn K mg md (rLenA K) dLen := by
  intro xs ds H H0 Q E s hx p
  replace hx := dpAll_md s hx
  unfold dLen at p
  split at p
  · split at p
    · rename_i h
      cases hx with
      | cons h1 h2 => cases h2; cases h1; exact .inr ⟨_, rfl, by rw [sz_str]; exact h, by rw [sz_str]; exact post_here p s fun _ => .int _⟩
    · exact False.elim p
  · cases hx with
    | cons h1 h2 =>
      cases h2
      cases h1 with
      | lst a b => exact .inl ⟨_, _, rfl, .inl a, by rw [DpAll.length b]; exact post_here p s fun _ => .int _⟩
  · cases hx with
    | cons h1 h2 =>
      cases h2
      cases h1 with
      | tup a b => exact .inl ⟨_, _, rfl, .inr a, by rw [DpAll.length b]; exact post_here p s fun _ => .int _⟩
  · exact False.elim p
/-! ### all, any -/
def bools : List D → R (List Bool)
  | [] => .ok []
  | .bool b :: ds => (bools ds).bind fun bs => .ok (b :: bs)
  | _ => .stuck
theorem bools_eq : ∀ {ds : List D} {bs : List Bool}, bools ds = .ok bs → ds = bs.map PyData.bool
  | [], bs, h => by cases h; rfl
  | d :: ds, bs, h => by
    cases d with
    | bool b =>
      have h : (bools ds).bind (fun bs => .ok (b :: bs)) = R.ok bs := h
      cases q : bools ds with
      | ok cs => rw [q] at h; cases h; rw [bools_eq q]; rfl
      | stuck => rw [q] at h; cases h
      | err _ => rw [q] at h; cases h
      | pick _ => rw [q] at h; cases h
    | _ => cases h
theorem bools_map : ∀ bs : List Bool, bools (bs.map PyData.bool) = .ok bs
  | [] => rfl
  | b :: bs => by show (bools (bs.map PyData.bool)).bind _ = _; rw [bools_map bs]; rfl
theorem bools_ne {e : Exn} : ∀ ds : List D, bools ds ≠ .err e
  | [] => by simp [bools]
  | d :: ds => by
    cases d with
    | bool b =>
      show (bools ds).bind (fun bs => .ok (b :: bs)) ≠ _
      cases q : bools ds with
      | err z => exact absurd (q.trans rfl) (bools_ne (e := z) ds)
      | pick k => intro z; cases z
      | _ => simp
    | _ => simp [bools]
theorem bools_np {e : Nat → R (List Bool)} : ∀ ds : List D, bools ds ≠ .pick e
  | [] => by simp [bools]
  | d :: ds => by
    cases d with
    | bool b =>
      show (bools ds).bind (fun bs => .ok (b :: bs)) ≠ _
      cases q : bools ds with
      | pick z => exact absurd (q.trans rfl) (bools_np (e := z) ds)
      | err k => intro z; cases z
      | _ => simp
    | _ => simp [bools]
def dAll : List D → R D
  | [.list ds] => (bools ds).bind fun bs => .ok (.bool (bs.all id))
  | _ => .stuck
def dAny : List D → R D
  | [.list ds] => (bools ds).bind fun bs => .ok (.bool (bs.any id))
  | _ => .stuck
theorem fn_all : Fn K mg md (rAll K) dAll := by
  intro xs ds H H0 Q E s hx p
  replace hx := dpAll_md s hx
  unfold dAll at p
  split at p
  · rename_i es
    cases q : bools es with
    | ok bs =>
      rw [q] at p
      have e := bools_eq q
      subst e
      cases hx with
      | cons h1 h2 =>
        cases h2
        cases h1 with
        | lst a b =>
          have e2 := DpAll.bools b
          subst e2
          exact ⟨_, bs, rfl, a, post_here p s fun _ => .bl _⟩
    | stuck => rw [q] at p; exact False.elim p
    | err _ => exact absurd q (bools_ne _)
    | pick _ => exact absurd q (bools_np _)
  · exact False.elim p
theorem fn_any : Fn K mg md (rAny K) dAny := by
  intro xs ds H H0 Q E s hx p
  replace hx := dpAll_md s hx
  unfold dAny at p
  split at p
  · rename_i es
    cases q : bools es with
    | ok bs =>
      rw [q] at p
      have e := bools_eq q
      subst e
      cases hx with
      | cons h1 h2 =>
        cases h2
        cases h1 with
        | lst a b =>
          have e2 := DpAll.bools b
          subst e2
          exact ⟨_, bs, rfl, a, post_here p s fun _ => .bl _⟩
    | stuck => rw [q] at p; exact False.elim p
    | err _ => exact absurd q (bools_ne _)
    | pick _ => exact absurd q (bools_np _)
  · exact False.elim p
/-! ### int(int) -/
def dInt1 : List D → R D
  | [.int i] => .ok (.int i)
  | [.bool k] => .ok (.int (if k then 1 else 0))
  | _ => .stuck
theorem fn_int1 : Fn K mg md (fun xs H Q => (∃ i, xs = [.int i] ∧ Q (.int i) H) ∨ ∃ k, xs = [.bl k] ∧ Q (.int (if k then 1 else 0)) H) dInt1 := by
  intro xs ds H H0 Q E s hx p
  replace hx := dpAll_md s hx
  unfold dInt1 at p
  split at p
  · cases hx with
    | cons h1 h2 => cases h2; cases h1; exact .inl ⟨_, rfl, post_here p s fun _ => .int _⟩
  · cases hx with
    | cons h1 h2 => cases h2; cases h1; exact .inr ⟨_, rfl, post_here p s fun _ => .int _⟩
  · exact False.elim p
/-! ### repr of scalars -/
def rReprS : List V → Hp → VK → Prop := fun xs H Q => (∃ z, xs = [.str z] ∧ (reprText z).length ≤ sizeLine ∧ Q (.str (reprText z)) H) ∨ (∃ i, xs = [.int i] ∧ i.natAbs.log2 < 1920 ∧ Q (.str (toString i)) H) ∨ (∃ b, xs = [.bl b] ∧ Q (.str (if b = true then "True" else "False")) H) ∨ (xs = [.non] ∧ Q (.str "None") H)
theorem call_reprS {X : Cx} : CallR X (.builtin "repr") rReprS := by
  intro pins s σ H xs us Q I rx h
  rcases h with ⟨z, rfl, hz, q⟩ | ⟨i, rfl, hz, q⟩ | ⟨b, rfl, q⟩ | ⟨rfl, q⟩
  · cases rx with
    | cons r1 r2 =>
      cases r2
      obtain ⟨t, rfl⟩ := r1
      exact PySem.P.repr_of_str ⟨.str _, H, I.tok _, ⟨_, rfl⟩, q⟩ hz
  · cases rx with
    | cons r1 r2 =>
      cases r2
      obtain ⟨t, rfl⟩ := r1
      exact PySem.P.repr_of_int hz ⟨.str _, H, I.tok _, ⟨_, rfl⟩, q⟩
  · cases rx with
    | cons r1 r2 =>
      cases r2
      cases r1
      refine PySem.P.repr_of_bool ⟨.str _, H, I.tok _, ⟨_, rfl⟩, ?_⟩
      cases b <;> exact q
  · cases rx with
    | cons r1 r2 =>
      cases r2
      cases r1
      exact PySem.P.repr_of_none ⟨.str _, H, I.tok _, ⟨_, rfl⟩, q⟩
def dRepr : List D → R D
  | [.str z] => if (reprText z).length ≤ sizeLine then .ok (.str (PyData.shown (.str z))) else .stuck
  | [.int i] => if i.natAbs.log2 < 1920 then .ok (.str (PyData.shown (.int i))) else .stuck
  | [.bool b] => .ok (.str (PyData.shown (.bool b)))
  | [.none] => .ok (.str (PyData.shown .none))
  | _ => .stuck
theorem fn_reprS : Fn K mg md rReprS dRepr := by
  intro xs ds H H0 Q E s hx p
  replace hx := dpAll_md s hx
  unfold dRepr at p
  split at p
  · split at p
    · rename_i h
      cases hx with
      | cons h1 h2 =>
        cases h2; cases h1
        have e : ∀ z, PyData.shown (.str z) = reprText z := fun z => by simp only [PyData.shown]
        rw [e] at p
        exact .inl ⟨_, rfl, h, post_here p s fun _ => .str _⟩
    · exact False.elim p
  · split at p
    · rename_i h
      cases hx with
      | cons h1 h2 =>
        cases h2; cases h1
        have e : ∀ z, PyData.shown (.int z) = toString z := fun z => by simp only [PyData.shown]
        rw [e] at p
        exact .inr (.inl ⟨_, rfl, h, post_here p s fun _ => .str _⟩)
    · exact False.elim p
  · rename_i bb
    cases hx with
    | cons h1 h2 =>
      cases h2; cases h1
      have e : PyData.shown (.bool bb) = (if bb = true then ("True" : Str) else "False") := by cases bb <;> simp only [PyData.shown]
      rw [e] at p
      exact .inr (.inr (.inl ⟨bb, rfl, by cases bb <;> exact post_here p s fun _ => .str _⟩))
  · cases hx with
    | cons h1 h2 =>
      cases h2; cases h1
      have e : PyData.shown .none = "None" := by simp only [PyData.shown]
      rw [e] at p
      exact .inr (.inr (.inr ⟨rfl, post_here p s fun _ => .str _⟩))
  · exact False.elim p
end

section
variable {X : Cx} {W : WX} {md : Bool} {e a b c : Expr} {t ta tb tc te : TE} {m ma mb mc : ME} {pos : Pos}
/-! ### isinstance(e, T), T a built-in class -/
def tyName : D → String
  | .none => "NoneType"
  | .bool _ => "bool"
  | .int _ => "int"
  | .str _ => "str"
  | .list _ => "list"
  | .tuple _ => "tuple"
  | .dict _ => "dict"
def isTy (T : String) (d : D) : Bool := (tyName d == T) || (T == "int" && tyName d == "bool")
def dIsT (T : String) (d : D) : R D := .ok (.bool (isTy T d))
theorem tyx_of {K : PySem.W.Frag} {H : Hp} {v : V} {d : D} (x : Dp K H v d) : TyX K H v (.type (tyName d)) := by
  cases x with
  | non => exact .base .non
  | bl b => exact .base (.bl b)
  | int i => exact .base (.int i)
  | str z => exact .base (.str z)
  | lst h _ =>
    rcases h with (h | ⟨o, h⟩) | ⟨o, its, n, h, hc, _⟩
    · exact .base (.lst h)
    · exact .base (.frz h)
    · exact .kList h hc
  | tup h _ =>
    rcases h with (h | ⟨o, h⟩) | ⟨o, its, n, h, hc, _⟩
    · exact .base (.tup h)
    · exact .fTuple h
    · exact .kTuple h hc
def IsiOk (T : String) : Prop := ∀ a ∈ ["NoneType", "bool", "int", "str", "list", "tuple"], L2.kitB a T = some ((a == T) || (T == "int" && a == "bool"))
theorem tyName_mem {K : PySem.W.Frag} {H : Hp} {v : V} {d : D} (x : Dp K H v d) : tyName d ∈ ["NoneType", "bool", "int", "str", "list", "tuple"] := by
  cases x <;> simp [tyName]
theorem be_isi {p0 p1 : Pos} {T : String} {Tx : Str} (hT : IsiOk T) (hg : Gl X "isinstance") (hm : X.mg "isinstance" = none) (hb : bootBuiltins "isinstance" = some (.builtin "isinstance")) (ht : PE X (.Name Tx p1) (tC (.ty T))) (h : BE X W false e te m)
    (he : starEach [e, .Name Tx p1] X.env = (false, eval e X.env) :: starEach [.Name Tx p1] X.env := by rfl) (hpl : (backTo pos (starEach [.Name Tx p1] X.env)).any (·.1) = false := by rfl) (hs : starEach [.Name Tx p1] X.env = (false, eval (.Name Tx p1) X.env) :: starEach [] X.env := by rfl) :
    BE X W true (.Call (.Name "isinstance" p0) [e, .Name Tx p1] [] pos) (tCB (rIsi X.K) (tCons te (tCons (tC (.ty T)) tNil))) (m1 (dIsT T) m) := by
  refine ⟨pe_callB call_isi hg hm hb (pa_cons h.pe (pa_cons ht pa_nil hs) he) (by decide) (by decide) he hpl, fun Hs H0s σ H H0 ρ Q rl p => h.ev Hs H0s σ H H0 ρ _ rl ((Post.bind p).imp ?_)⟩
  rintro v H1 ⟨d, H01, _, f1, x1, p1⟩
  exact ⟨v, .ty T, _, _, isTy T d, rfl, .ty T, tyx_of x1, kit_ty (hT _ (tyName_mem x1)), p1 _ H1 H01 (.refl f1.sb) (.bl _)⟩
/-- isinstance(e, C), e the caught error -/
def mIsX (i : Nat) (isx : Str → Option Bool) : ME := fun ρ => match ρ[i]? with
  | some (some (.exc n _)) => match isx n with
    | some b => .ok (.bool b)
    | none => .stuck
  | _ => .stuck
/-! ### texts: join, index -/
def strsD : List D → R (List Str)
  | [] => .ok []
  | .str z :: ds => (strsD ds).bind fun zs => .ok (z :: zs)
  | _ => .stuck
theorem strs_eq : ∀ {ds : List D} {zs : List Str}, strsD ds = .ok zs → ds = zs.map PyData.str
  | [], zs, h => by cases h; rfl
  | d :: ds, zs, h => by
    cases d with
    | str b =>
      have h : (strsD ds).bind (fun bs => .ok (b :: bs)) = R.ok zs := h
      cases q : strsD ds with
      | ok cs => rw [q] at h; cases h; rw [strs_eq q]; rfl
      | stuck => rw [q] at h; cases h
      | err _ => rw [q] at h; cases h
      | pick _ => rw [q] at h; cases h
    | _ => cases h
theorem strs_map : ∀ zs : List Str, strsD (zs.map PyData.str) = .ok zs
  | [] => rfl
  | b :: bs => by show (strsD (bs.map PyData.str)).bind _ = _; rw [strs_map bs]; rfl
theorem strs_ne {e : Exn} : ∀ ds : List D, strsD ds ≠ .err e
  | [] => by simp [strsD]
  | d :: ds => by
    cases d with
    | str b =>
      show (strsD ds).bind (fun bs => .ok (b :: bs)) ≠ _
      cases q : strsD ds with
      | err z => exact absurd (q.trans rfl) (strs_ne (e := z) ds)
      | pick k => intro z; cases z
      | _ => simp
    | _ => simp [strsD]
theorem strs_np {e : Nat → R (List Str)} : ∀ ds : List D, strsD ds ≠ .pick e
  | [] => by simp [strsD]
  | d :: ds => by
    cases d with
    | str b =>
      show (strsD ds).bind (fun bs => .ok (b :: bs)) ≠ _
      cases q : strsD ds with
      | pick z => exact absurd (q.trans rfl) (strs_np (e := z) ds)
      | err k => intro z; cases z
      | _ => simp
    | _ => simp [strsD]
def joinN (ys : List Str) : List Nat := (ys.map fun y => y.cps.toList).flatten
def dItemsL : D → R (List D)
  | .list ds => .ok ds
  | .tuple ds => .ok ds
  | _ => .stuck
/-- ''.join(..) -/
def dJoin0 : D → R D := fun d => (dItemsL d).bind fun ds => (strsD ds).bind fun ys => if (ys.map (·.length)).sum ≤ 16777216 then .ok (.str (S (joinN ys))) else .stuck
theorem join0 : ∀ ys : List Str, Str.join Str.empty ys = S (joinN ys)
  | [] => rfl
  | [y] => by
    show y = S (y.cps.toList ++ [])
    rw [List.append_nil, S_tl]
  | y :: z :: r => by
    have ih := join0 (z :: r)
    have e1 : Str.join Str.empty (y :: z :: r) = y ++ Str.empty ++ Str.join Str.empty (z :: r) := rfl
    rw [e1, ih]
    have e2 : y ++ Str.empty = y := by
      have : y = S y.cps.toList := (S_tl y).symm
      have e3 : Str.empty = S [] := rfl
      rw [e3]
      conv => lhs; rw [this]
      rw [S_cat, List.append_nil, S_tl]
    rw [e2]
    conv => lhs; rw [← S_tl y]
    rw [S_cat]
    rfl
theorem be_join0 {p0 p1 : Pos} {k : Nat} {apos : Pos} (h : BE X W md e te m) (pe : PE X (.Call (.Attribute (.Constant (.str "") k p0) "join" apos) [e] [] pos) (tM1
      (fun x xs H Q => ∃ a p, ∃ ys : List Str, x = .str a ∧ xs = [.ref p] ∧ (SqL X.K H p (ys.map V.str) ∨ SqT X.K H p (ys.map V.str)) ∧ (ys.map (·.length)).sum + ys.length * a.length ≤ 16777216 ∧ Q (.str (Txt.join a ys)) H) (tC (.str "")) te)) :
    BE X W true (.Call (.Attribute (.Constant (.str "") k p0) "join" apos) [e] [] pos) (tM1
      (fun x xs H Q => ∃ a p, ∃ ys : List Str, x = .str a ∧ xs = [.ref p] ∧ (SqL X.K H p (ys.map V.str) ∨ SqT X.K H p (ys.map V.str)) ∧ (ys.map (·.length)).sum + ys.length * a.length ≤ 16777216 ∧ Q (.str (Txt.join a ys)) H) (tC (.str "")) te) (m1 dJoin0 m) := by
  refine ⟨pe, fun Hs H0s σ H H0 ρ Q rl p => ⟨⟨_, rfl⟩, h.ev Hs H0s σ H H0 ρ _ rl ((Post.bind p).imp ?_)⟩⟩
  rintro v H1 ⟨d, H01, _, f1, x1, p1⟩
  replace x1 := dp_md f1.sb x1
  have fin : ∀ (ys : List Str) (pp : Addr), (SqL X.K H1 pp (ys.map V.str) ∨ SqT X.K H1 pp (ys.map V.str)) → v = .ref pp → Post (Dp X.K) X.K X.mg true H1 H01 (if (ys.map (·.length)).sum ≤ 16777216 then .ok (.str (S (joinN ys))) else .stuck) Q (WE W σ) →
      ∃ a p, ∃ ys : List Str, V.str "" = .str a ∧ [v] = [.ref p] ∧ (SqL X.K H1 p (ys.map V.str) ∨ SqT X.K H1 p (ys.map V.str)) ∧ (ys.map (·.length)).sum + ys.length * a.length ≤ 16777216 ∧ Q (.str (Txt.join a ys)) H1 := fun ys pp hs hv q => by
    split at q
    · rename_i hl
      refine ⟨_, pp, ys, rfl, by rw [hv], hs, ?_, ?_⟩
      · have : (Str.ofString "").length = 0 := by decide +kernel
        rw [this]
        omega
      · have e1 : Txt.join (Str.ofString "") ys = S (joinN ys) := by
          rw [TL.join_eq, show Str.ofString "" = Str.empty by decide +kernel, join0]
        rw [e1]
        exact q _ H1 H01 (.refl f1.sb) (.str _)
    · exact False.elim q
  cases x1 with
  | lst hs ha =>
    rename_i pp xs ds
    have p2 : Post (Dp X.K) X.K X.mg true H1 H01 ((strsD ds).bind fun ys => if (ys.map (·.length)).sum ≤ 16777216 then .ok (.str (S (joinN ys))) else .stuck) Q (WE W σ) := p1
    cases q : strsD ds with
    | stuck => rw [q] at p2; exact False.elim p2
    | err _ => exact absurd q (strs_ne _)
    | pick _ => exact absurd q (strs_np _)
    | ok ys =>
      rw [q] at p2
      have e := strs_eq q
      subst e
      have e2 := DpAll.strs ha
      subst e2
      exact fin ys pp (.inl hs) rfl p2
  | tup hs ha =>
    rename_i pp xs ds
    have p2 : Post (Dp X.K) X.K X.mg true H1 H01 ((strsD ds).bind fun ys => if (ys.map (·.length)).sum ≤ 16777216 then .ok (.str (S (joinN ys))) else .stuck) Q (WE W σ) := p1
    cases q : strsD ds with
    | stuck => rw [q] at p2; exact False.elim p2
    | err _ => exact absurd q (strs_ne _)
    | pick _ => exact absurd q (strs_np _)
    | ok ys =>
      rw [q] at p2
      have e := strs_eq q
      subst e
      have e2 := DpAll.strs ha
      subst e2
      exact fin ys pp (.inr hs) rfl p2
  | _ => exact False.elim p1
/-- a text's method of one argument -/
def mM1 (f : Str → D → R D) (mo m : ME) : ME := fun ρ => (mo ρ).bind fun d => match d with
  | .str a => (m ρ).bind fun e => f a e
  | _ => .stuck
def dIndexS (a : Str) : D → R D
  | .str b => match Builtin.Str.occurrences a b 0 a.length 1 with
    | i :: _ => .ok (.int (i : Nat))
    | [] => .stuck
  | _ => .stuck
abbrev rIndexS : V → List V → Hp → VK → Prop := fun x xs H Q => ∃ a b i rest, x = .str a ∧ xs = [.str b] ∧ Builtin.Str.occurrences a b 0 a.length 1 = i :: rest ∧ Q (.int (i : Nat)) H
def Mt1 (K : PySem.W.Frag) (mg : Str → Option Value) (r : V → List V → Hp → VK → Prop) (f : Str → D → R D) : Prop :=
  ∀ (a : Str) (y : V) (e : D) (H H0 : Hp) (Q : VK) (E : XK), Same H0 H → Dp K H y e → Post (Dp K) K mg true H H0 (f a e) Q E → r (.str a) [y] H Q
theorem ev_m1 {o : Expr} {to : TE} {mo : ME} {r : V → List V → Hp → VK → Prop} {f : Str → D → R D} (hf : Mt1 X.K X.mg r f) (ho : BE X W false o to mo) (h : BE X W false e te m) :
    ∀ Hs H0s σ H H0 ρ Q, Rel X.K (excOf X) Hs H0s σ H H0 ρ → Post (Dp X.K) X.K X.mg true H H0 (mM1 f mo m ρ) Q (WE W σ) → tM1 r to te σ H Q := fun Hs H0s σ H H0 ρ Q rl p => by
  refine ho.ev Hs H0s σ H H0 ρ _ rl ((Post.bind p).imp ?_)
  rintro v H1 ⟨d, H01, _, f1, x1, p1⟩
  cases d with
  | str a =>
    cases x1
    refine ⟨⟨a, rfl⟩, h.ev Hs H0s σ H1 H01 ρ _ (rl.step f1) ((Post.bind p1).imp ?_)⟩
    rintro u H2 ⟨d2, H02, _, f2, x2, p2⟩
    exact hf a u d2 H2 H02 Q _ f2.sb x2 p2
  | _ => exact False.elim p1
theorem mt1_index {K : PySem.W.Frag} {mg : Str → Option Value} : Mt1 K mg rIndexS dIndexS := by
  intro a y e H H0 Q E s hy p
  unfold dIndexS at p
  split at p
  · split at p
    · rename_i h
      cases hy
      exact ⟨a, _, _, _, rfl, rfl, h, post_here p s fun _ => .int _⟩
    · exact False.elim p
  · exact False.elim p
theorem be_m1 {o : Expr} {to : TE} {mo : ME} {name id : String} {apos : Pos} {r : V → List V → Hp → VK → Prop} (f : Str → D → R D) (slot : Slot "str" name id) (hty : typeOf (.builtin id) = pure (.type "method_descriptor")) (hm : MtR X id r) (hf : Mt1 X.K X.mg r f) (ho : BE X W false o to mo) (h : BE X W false e te m)
    (hs : starEach [e] X.env = [(false, eval e X.env)] := by rfl) (hbase : attributeBase o name X.env (eval o X.env) = eval o X.env := by rfl) (hline : (apos.endLine == pos.line) = true := by rfl) :
    BE X W true (.Call (.Attribute o name apos) [e] [] pos) (tM1 r to te) (mM1 f mo m) := ⟨pe_m1 slot hty hm ho.pe h.pe hs hbase hline, ev_m1 hf ho h⟩

/-! ### items -/
def dIdx : D → D → R D
  | .list ds, .int i => match atI ds i with | some d => .ok d | none => .stuck
  | .tuple ds, .int i => match atI ds i with | some d => .ok d | none => .stuck
  | .str z, .int i => if z.cps.toList.length ≤ sizeLine then (match atI z.cps.toList i with | some c => .ok (.str (S [c])) | none => .stuck) else .stuck
  | _, _ => .stuck
theorem atI_get {K : PySem.W.Frag} {H : Hp} {xs : List V} {ds : List D} {i : Int} {d : D} (h : DpAll K H xs ds) (e : atI ds i = some d) : ∃ v, atI xs i = some v ∧ Dp K H v d := by
  unfold atI at e ⊢
  rw [DpAll.length h]
  cases q : ixN ds.length i with
  | none => rw [q] at e; cases e
  | some j =>
    rw [q] at e
    exact DpAll.get h e
theorem be_ix {o i : Expr} {to ti : TE} {mo mi : ME} (ho : BE X W true o to mo) (hi : BE X W false i ti mi) (hs : PlainIx i) : BE X W true (.Subscript o i pos) (tOp (rIx X.K) to ti) (m2 dIdx mo mi) := by
  refine ⟨pe_ix ix_seq ho.pe hi.pe hs, fun Hs H0s σ H H0 ρ Q rl p => ho.ev Hs H0s σ H H0 ρ _ rl ((Post.bind p).imp ?_)⟩
  rintro v H1 ⟨d, H01, _, f1, x1, p1⟩
  refine hi.ev Hs H0s σ H1 H01 ρ _ (rl.step f1) ((Post.bind p1).imp ?_)
  rintro u H2 ⟨d2, H02, _, f2, x2, p2⟩
  replace x1 : Dp X.K H02 v d := dp_mono f2.ez _ _ x1
  unfold dIdx at p2
  split at p2
  · split at p2
    · rename_i h
      cases x2
      cases x1 with
      | lst hl ha =>
        obtain ⟨w, hw, xw⟩ := atI_get ha h
        exact .inl ⟨_, _, _, w, rfl, rfl, f2.sb.seq hl, hw, p2 w H2 H02 (.refl f2.sb) xw⟩
    · exact False.elim p2
  · split at p2
    · rename_i h
      cases x2
      cases x1 with
      | tup hl ha =>
        obtain ⟨w, hw, xw⟩ := atI_get ha h
        exact .inr (.inl ⟨_, _, _, w, rfl, rfl, sqT_mono f2.sb hl, hw, p2 w H2 H02 (.refl f2.sb) xw⟩)
    · exact False.elim p2
  · split at p2
    · rename_i hz
      split at p2
      · rename_i h
        cases x2
        cases x1
        exact .inr (.inr ⟨_, _, _, rfl, rfl, by rw [sz_str]; exact hz, h, p2 _ H2 H02 (.refl f2.sb) (.str _)⟩)
      · exact False.elim p2
    · exact False.elim p2
  · exact False.elim p2
/-- x[i], x a name: of a list of the slot's own too -/
theorem be_ixV {x : Str} {p0 : Pos} {i : Nat} {k : Expr} {ti : TE} {mi : ME} (hx : PE X (.Name x p0) (tVar i)) (hi : BE X W false k ti mi) (hs : PlainIx k) : BE X W true (.Subscript (.Name x p0) k pos) (tOp (rIx X.K) (tVar i) ti) (m2 dIdx (mVarP i) mi) := by
  refine ⟨pe_ix ix_seq hx hi.pe hs, fun Hs H0s σ H H0 ρ Q rl p => ?_⟩
  cases e : ρ[i]? with
  | none =>
    have : mVarP i ρ = .stuck := by unfold mVarP; rw [e]
    unfold m2 at p
    rw [this] at p
    exact False.elim p
  | some s =>
    cases s with
    | none =>
      have : mVarP i ρ = .stuck := by unfold mVarP; rw [e]
      unfold m2 at p
      rw [this] at p
      exact False.elim p
    | some s =>
      cases s with
      | exc =>
        have : mVarP i ρ = .stuck := by unfold mVarP; rw [e]
        unfold m2 at p
        rw [this] at p
        exact False.elim p
      | rnd =>
        have : mVarP i ρ = .stuck := by unfold mVarP; rw [e]
        unfold m2 at p
        rw [this] at p
        exact False.elim p
      | sh d =>
        have e1 : mVarP i ρ = mVar i ρ := by unfold mVarP mVar; rw [e]
        have p : Post (Dp X.K) X.K X.mg true H H0 (m2 dIdx (mVar i) mi ρ) Q (WE W σ) := by
          unfold m2 at p ⊢
          rw [← e1]
          exact p
        exact (be_ix (be_var i hx) hi hs (pos := pos)).ev Hs H0s σ H H0 ρ Q rl p
      | own ds =>
        have e1 : mVarP i ρ = .ok (.list ds) := by unfold mVarP; rw [e]
        unfold m2 at p
        rw [e1] at p
        obtain ⟨q, vs, h1, h2, h3, h4, h5⟩ := rl.own _ _ e
        refine ⟨.ref q, h1, hi.ev Hs H0s σ H H0 ρ _ rl ((Post.bind (rel' := Dp X.K) (md' := true) (show Post (Dp X.K) X.K X.mg true H H0 ((mi ρ).bind fun e => dIdx (.list ds) e) Q (WE W σ) from p)).imp ?_)⟩
        rintro u H2 ⟨d2, H02, _, f2, x2, p2⟩
        have h4' := f2.ex _ _ h4
        have h5' := dpAll_mono f2.ez _ _ h5
        unfold dIdx at p2
        split at p2
        · rename_i eb
          cases eb
          split at p2
          · rename_i h
            cases x2
            obtain ⟨w, hw, xw⟩ := atI_get h5' h
            exact .inl ⟨_, _, _, w, rfl, rfl, .inl (.inl h4'), hw, p2 w H2 H02 (.refl f2.sb) xw⟩
          · exact False.elim p2
        · rename_i eb; cases eb
        · rename_i eb; cases eb
        · exact False.elim p2
/-! ### slices -/
def cutG {α : Type} (xs : List α) (lo hi : Option Int) : List α := (xs.drop (HT.sIx xs.length 0 lo)).take (HT.sIx xs.length xs.length hi - HT.sIx xs.length 0 lo)
theorem cut_all {K : PySem.W.Frag} {H : Hp} {xs : List V} {ds : List D} (lo hi : Option Int) (h : DpAll K H xs ds) : DpAll K H (cutV xs lo hi) (cutG ds lo hi) := by
  unfold cutV cutG
  rw [DpAll.length h]
  exact DpAll.take _ (DpAll.drop _ h)
theorem SlR.or {r r' : V → Option Int → Option Int → Hp → VK → Prop} (h : SlR X r) (h' : SlR X r') : SlR X (fun x lo hi H Q => r x lo hi H Q ∨ r' x lo hi H Q) := by
  intro pins s σ H x v vl vu lo hi sl Q I rx hs pl pu q
  rcases q with q | q
  · exact h pins s σ H x v vl vu lo hi sl Q I rx hs pl pu q
  · exact h' pins s σ H x v vl vu lo hi sl Q I rx hs pl pu q
def rSlA (K : PySem.W.Frag) : V → Option Int → Option Int → Hp → VK → Prop := fun x lo hi H Q => rSlL K x lo hi H Q ∨ (rSlT K x lo hi H Q ∨ rSlS x lo hi H Q)
theorem sl_A : SlR X (rSlA X.K) := SlR.or sl_list (SlR.or sl_tup sl_str)
def dSl (d : D) (lo hi : Option Int) : R D := match d with
  | .list ds => .ok (.list (cutG ds lo hi))
  | .tuple ds => if ¬ (HT.sIx ds.length 0 lo = 0 ∧ HT.sIx ds.length ds.length hi = ds.length) then .ok (.tuple (cutG ds lo hi)) else .stuck
  | .str z => if z.cps.toList.length ≤ sizeLine then .ok (.str (S (cutG z.cps.toList lo hi))) else .stuck
  | _ => .stuck
def mSl (mo : ME) (l h : MO) : ME := fun ρ => (mo ρ).bind fun d => (l ρ).bind fun lo => (h ρ).bind fun hi => dSl d lo hi
theorem cutS_eq (z : Str) (lo hi : Option Int) : cutS z lo hi = S (cutG z.cps.toList lo hi) := by
  unfold cutS cutG
  rw [sz_str]
theorem sl_val {v : V} {d : D} {lo hi : Option Int} {H H0 : Hp} {Q : VK} {E : XK} (s : Same H0 H) (x : Dp X.K H0 v d) (p : Post (Dp X.K) X.K X.mg true H H0 (dSl d lo hi) Q E) : rSlA X.K v lo hi H Q := by
  unfold dSl at p
  split at p
  · cases x with
    | lst hl ha => exact .inl ⟨_, _, rfl, s.seq hl, fun q hq => p _ _ _ (Fr.new s hq) (.lst (.inl (.inl upd_same)) (dpAll_mono (Same.new (s.free hq)) _ _ (cut_all lo hi ha)))⟩
  · split at p
    · rename_i h
      cases x with
      | tup hl ha => exact .inr (.inl ⟨_, _, rfl, sqT_mono s hl, by rw [DpAll.length ha]; exact h, fun q hq => p _ _ _ (Fr.new s hq) (.tup (.inl (.inl upd_same)) (dpAll_mono (Same.new (s.free hq)) _ _ (cut_all lo hi ha)))⟩)
    · exact False.elim p
  · split at p
    · rename_i h
      cases x
      exact .inr (.inr ⟨_, rfl, by rw [sz_str]; exact h, by rw [cutS_eq]; exact post_here p s fun _ => .str _⟩)
    · exact False.elim p
  · exact False.elim p
theorem be_sl {o : Expr} {lo hi : Option Expr} {to : TE} {tl th : TO} {mo : ME} {ml mh : MO} {p2 : Pos} (ho : BE X W true o to mo) (hl : BO X W lo tl ml) (hh : BO X W hi th mh) : BE X W true (.Subscript o (.Slice lo hi none p2) pos) (tSl (rSlA X.K) to tl th) (mSl mo ml mh) := by
  refine ⟨pe_slice sl_A ho.pe hl.pe hh.pe, fun Hs H0s σ H H0 ρ Q rl p => ho.ev Hs H0s σ H H0 ρ _ rl ((Post.bind p).imp ?_)⟩
  rintro v H1 ⟨d, H01, _, f1, x1, p1⟩
  refine hl.ev Hs H0s σ H1 H01 ρ _ (rl.step f1) ((Post.bind p1).imp ?_)
  rintro l H2 ⟨l2, H02, _, f2, x2, p2⟩
  replace x2 : l = l2 := x2
  subst x2
  refine hh.ev Hs H0s σ H2 H02 ρ _ ((rl.step f1).step f2) ((Post.bind p2).imp ?_)
  rintro u H3 ⟨u2, H03, _, f3, x3, p3⟩
  replace x3 : u = u2 := x3
  subst x3
  exact sl_val f3.sb (dp_mono (f2.ez.trans f3.ez) _ _ x1) p3
/-- x[..:..], x a name -/
theorem be_slV {x : Str} {p0 : Pos} {i : Nat} {lo hi : Option Expr} {tl th : TO} {ml mh : MO} {p2 : Pos} (hx : PE X (.Name x p0) (tVar i)) (hl : BO X W lo tl ml) (hh : BO X W hi th mh) : BE X W true (.Subscript (.Name x p0) (.Slice lo hi none p2) pos) (tSl (rSlA X.K) (tVar i) tl th) (mSl (mVarP i) ml mh) := by
  refine ⟨pe_slice sl_A hx hl.pe hh.pe, fun Hs H0s σ H H0 ρ Q rl p => ?_⟩
  cases e : ρ[i]? with
  | none =>
    have : mVarP i ρ = .stuck := by unfold mVarP; rw [e]
    unfold mSl at p
    rw [this] at p
    exact False.elim p
  | some s =>
    cases s with
    | none =>
      have : mVarP i ρ = .stuck := by unfold mVarP; rw [e]
      unfold mSl at p
      rw [this] at p
      exact False.elim p
    | some s =>
      cases s with
      | exc =>
        have : mVarP i ρ = .stuck := by unfold mVarP; rw [e]
        unfold mSl at p
        rw [this] at p
        exact False.elim p
      | rnd =>
        have : mVarP i ρ = .stuck := by unfold mVarP; rw [e]
        unfold mSl at p
        rw [this] at p
        exact False.elim p
      | sh d =>
        have e1 : mVarP i ρ = mVar i ρ := by unfold mVarP mVar; rw [e]
        have p : Post (Dp X.K) X.K X.mg true H H0 (mSl (mVar i) ml mh ρ) Q (WE W σ) := by
          unfold mSl at p ⊢
          rw [← e1]
          exact p
        exact (be_sl (be_var i hx) hl hh (pos := pos) (p2 := p2)).ev Hs H0s σ H H0 ρ Q rl p
      | own ds =>
        have e1 : mVarP i ρ = .ok (.list ds) := by unfold mVarP; rw [e]
        unfold mSl at p
        rw [e1] at p
        obtain ⟨q, vs, h1, h2, h3, h4, h5⟩ := rl.own _ _ e
        refine ⟨.ref q, h1, hl.ev Hs H0s σ H H0 ρ _ rl ((Post.bind (rel' := Dp X.K) (md' := true) (show Post (Dp X.K) X.K X.mg true H H0 ((ml ρ).bind fun lo => (mh ρ).bind fun hi => dSl (.list ds) lo hi) Q (WE W σ) from p)).imp ?_)⟩
        rintro l H2 ⟨l2, H02, _, f2, x2, p2⟩
        replace x2 : l = l2 := x2
        subst x2
        refine hh.ev Hs H0s σ H2 H02 ρ _ (rl.step f2) ((Post.bind p2).imp ?_)
        rintro u H3 ⟨u2, H03, _, f3, x3, p3⟩
        replace x3 : u = u2 := x3
        subst x3
        have f23 := f2.trans f3
        exact .inl ⟨_, _, rfl, .inl (.inl (f23.ex _ _ h4)), fun q hq => p3 _ _ _ (Fr.new f3.sb hq) (.lst (.inl (.inl upd_same)) (dpAll_mono (f23.ez.trans (Same.new (f3.sb.free hq))) _ _ (cut_all _ _ h5)))⟩
end
end DW

end
end
section
set_option Elab.async false
set_option linter.all false
set_option maxRecDepth 100000
set_option maxHeartbeats 4000000
noncomputable section
namespace DW
open PySem PySem.Spec PyProof.Rows L2
open SX (S S_tl S_len S_cat)
section
variable {X : Cx} {W : WX} {md : Bool} {e a b c : Expr} {t ta tb tc te : TE} {m ma mb mc : ME} {pos : Pos}
/-! ### t[::-1] -/
theorem back_ix (n : Nat) : Builtin.Str.strSliceIndices none none (-1) n = (List.range n).map fun k => n - 1 - k := by
  show PySem.sliceRange (if (-1 : Int) > 0 then 0 else (n : Int) - 1) (if (-1 : Int) > 0 then (n : Int) else -1) (-1) = _
  rw [if_neg (by decide), if_neg (by decide)]
  unfold PySem.sliceRange
  dsimp only
  have e1 : (if (-1 : Int) > 0 then (if (n : Int) - 1 < -1 then (-1 - ((n : Int) - 1) + -1 - 1) / -1 else 0) else (if (n : Int) - 1 > -1 then ((n : Int) - 1 - -1 - -1 - 1) / (- -1) else 0)) = n := by
    rw [if_neg (by decide)]
    by_cases h : (n : Int) - 1 > -1
    · rw [if_pos h, show (- -1 : Int) = 1 by decide, Int.ediv_one]; omega
    · rw [if_neg h]; omega
  rw [e1, Int.toNat_natCast]
  refine List.map_congr_left fun k hk => ?_
  have := List.mem_range.mp hk
  omega
theorem fm_map {α β : Type} {f : α → Option β} {g : α → β} : ∀ l : List α, (∀ x ∈ l, f x = some (g x)) → l.filterMap f = l.map g
  | [], _ => rfl
  | x :: l, h => by
    rw [List.filterMap_cons_some (h x List.mem_cons_self), List.map_cons, fm_map l fun y hy => h y (List.mem_cons_of_mem _ hy)]
theorem back_pick (z : Str) : ((List.range z.length).map fun k => z.length - 1 - k).filterMap (z.cps[·]?) = z.cps.toList.reverse := by
  have hl : z.length = z.cps.toList.length := sz_str z
  rw [List.filterMap_map]
  refine List.ext_getElem? fun i => ?_
  have key : (List.range z.length).filterMap ((fun x => z.cps[x]?) ∘ fun k => z.length - 1 - k) = (List.range z.length).map fun k => z.cps.toList.getD (z.length - 1 - k) 0 := by
    refine fm_map _ fun k hk => ?_
    have hk := List.mem_range.mp hk
    show z.cps[z.length - 1 - k]? = some _
    rw [← Array.getElem?_toList, List.getD_eq_getElem?_getD]
    rw [List.getElem?_eq_getElem (show z.length - 1 - k < z.cps.toList.length by omega)]
    rfl
  rw [key, List.getElem?_map]
  by_cases hi : i < z.length
  · rw [List.getElem?_range hi, List.getElem?_reverse (by omega)]
    show some (z.cps.toList.getD (z.length - 1 - i) 0) = _
    rw [List.getD_eq_getElem?_getD, hl, List.getElem?_eq_getElem (show z.cps.toList.length - 1 - i < z.cps.toList.length by omega)]
    rfl
  · rw [List.getElem?_eq_none (by rw [List.length_range]; omega), List.getElem?_eq_none (by rw [List.length_reverse]; omega)]
    rfl
def tRevA (K : PySem.W.Frag) (te : TE) : TE := fun σ H Q => te σ H fun x H1 => (∃ a xs, x = .ref a ∧ SqL K H1 a xs ∧ ∀ p, H1 p = none → Q (.ref p) (upd H1 p (.lst xs.reverse))) ∨ (∃ z, x = .str z ∧ z.length ≤ sizeLine ∧ Q (.str (S z.cps.toList.reverse)) H1)
theorem pe_revA {k : Nat} {p1 p2 p3 : Pos} (he : PE X e te) : PE X (.Subscript e (.Slice none none (some (.UnaryOp .USub (.Constant (.int 1) k p1) p2)) p3) pos) (tRevA X.K te) := by
  refine ⟨fun pins s σ H Q I h => ?_⟩
  refine Subscript_ (thn (he.run pins s σ H _ I h) fun v s1 ⟨x, H1, I1, r1, q1⟩ => ?_)
  have hst : PO X (some (.UnaryOp .USub (.Constant (.int 1) k p1) p2)) (tPart (tUn (rU fun i => .int (-i)) (tC (.int 1)))) := po_some (pe_un un_neg pe_int)
  refine wpAny_Slice (thn (po_none.run pins s1 σ H1 (fun o H2 => o = none ∧ H2 = H1) I1 ⟨rfl, rfl⟩) fun vl s2 ⟨l, H2, I2, pl, el, e2⟩ => ?_)
  subst el e2
  refine thn (po_none.run pins s2 σ H2 (fun o H3 => o = none ∧ H3 = H2) I2 ⟨rfl, rfl⟩) fun vu s3 ⟨u, H3, I3, pu, eu, e3⟩ => ?_
  subst eu e3
  refine thn (hst.run pins s3 σ H3 (fun o H4 => o = some (-1) ∧ H4 = H3) I3 ⟨1, rfl, -1, rfl, rfl, rfl⟩) fun vs s4 ⟨o, H4, I4, ps, eo, e4⟩ => ?_
  subst eo e4
  have I5 : Inv X pins σ H4 { s4 with heap := s4.heap.push { cls := .type "slice", data := .fields #[vl, vu, vs] } } := I4.kept (t' := s4.toks) fun b ob q => Heap.get?_push_of_some _ q
  rcases q1 with ⟨a, xs, rfl, hx, q⟩ | ⟨z, rfl, hz, q⟩
  · cases r1
    obtain ⟨its, r, ht, hzz⟩ := I5.list hx
    have hlen := r.length
    refine tail_any (ops := [.ref a, .ref s4.heap.objs.size]) ht.isList.typeIs (PySem.slot_list_getitem.lookup) ?_ (by with_unfolding_all rfl)
    refine wpAny_getItem_list_slice ht.isList (Heap.IsSliceOf.new _ vl vu vs) pl pu ps (by decide) ?_ (by rw [List.size_toArray]; omega)
    rw [PySem.W.krv_pick]
    refine ⟨.ref _, _, I5.laid (t' := s4.toks) (o := .lst xs.reverse) (fun b ob q => Heap.get?_push_of_some _ q) (Nat.le_refl _) ?_, rfl, q _ (I5.hok.fresh (Nat.le_refl _))⟩
    exact ⟨by rw [List.length_reverse]; exact hzz, _, 0, r.reverse, Heap.get?_push_size _ rfl⟩
  · obtain ⟨tz, rfl⟩ := r1
    refine tail_any (ops := [.str z tz, .ref s4.heap.objs.size]) (typeIs_str _ _ _) F.slot_str_getitem.lookup ?_ (by with_unfolding_all rfl)
    obtain ⟨l', rfl, hl'⟩ := IsPart.raw pl
    obtain ⟨u', rfl, hu'⟩ := IsPart.raw pu
    obtain ⟨s', rfl, hs'⟩ := IsPart.raw ps
    refine wpAny_getItem_str_slice (l := l') (u := u') (st := s') ⟨_, Heap.get?_push_size _ rfl, rfl, rfl⟩ (by rw [hs']; decide) ?_
    unfold sliceMade slicePicked
    rw [hl', hu', hs']
    show Made.post (if ((-1 : Int) == 1 && _) = true then _ else _) _ _
    rw [show ((-1 : Int) == 1) = false from rfl, Bool.false_and, if_neg (by decide)]
    show Made.post (Made.str ⟨((Builtin.Str.strSliceIndices none none (-1) z.length).filterMap (z.cps[·]?)).toArray⟩) _ _
    rw [back_ix, back_pick]
    exact ⟨by show (S z.cps.toList.reverse).length ≤ sizeLine; rw [S_len, List.length_reverse, ← sz_str]; exact hz, .str _, H4, I5.tok _, ⟨_, rfl⟩, q⟩
def dRev : D → R D
  | .list ds => .ok (.list ds.reverse)
  | .str z => if z.cps.toList.length ≤ sizeLine then .ok (.str (S z.cps.toList.reverse)) else .stuck
  | _ => .stuck
theorem be_rev {k : Nat} {p1 p2 p3 : Pos} (h : BE X W true e te m) : BE X W true (.Subscript e (.Slice none none (some (.UnaryOp .USub (.Constant (.int 1) k p1) p2)) p3) pos) (tRevA X.K te) (m1 dRev m) := by
  refine ⟨pe_revA h.pe, fun Hs H0s σ H H0 ρ Q rl p => h.ev Hs H0s σ H H0 ρ _ rl ((Post.bind p).imp ?_)⟩
  rintro v H1 ⟨d, H01, _, f1, x1, p1⟩
  unfold dRev at p1
  split at p1
  · cases x1 with
    | lst hl ha => exact .inl ⟨_, _, rfl, f1.sb.seq hl, fun q hq => p1 _ _ _ (Fr.new f1.sb hq) (.lst (.inl (.inl upd_same)) (dpAll_mono (Same.new (f1.sb.free hq)) _ _ (DpAll.reverse ha)))⟩
  · split at p1
    · rename_i hz
      cases x1
      exact .inr ⟨_, rfl, by rw [sz_str]; exact hz, p1 _ H1 H01 (.refl f1.sb) (.str _)⟩
    · exact False.elim p1
  · exact False.elim p1

/-! ### a written dict with text keys -/
/-- the table: its keys and what they hold -/
structure Tab (K : PySem.W.Frag) (w : World) (d : Addr) (tb : List (Str × D)) : Prop where
  kd : ∃ es n, KDict K w d es n
  no : ∀ z, tb.lookup z = none → PySem.W.nsIn K d z = some none
  yes : ∀ z v, tb.lookup z = some v → ∃ (u : Value) (x : V), PySem.W.nsIn K d z = some (some u) ∧ RelV x u ∧ ∀ H, Dp K H x v
def dTabIn (tb : List (Str × D)) : D → R D
  | .str z => .ok (.bool (tb.lookup z).isSome)
  | _ => .stuck
def dTabNi (tb : List (Str × D)) : D → R D
  | .str z => .ok (.bool (!(tb.lookup z).isSome))
  | _ => .stuck
def dTabAt (tb : List (Str × D)) : D → R D
  | .str z => match tb.lookup z with
    | some v => .ok v
    | none => .stuck
  | _ => .stuck
abbrev rTabIn (K : PySem.W.Frag) (d : Addr) : R2 := fun x y H Q => ∃ (z : Str) (r : Option Value), x = .str z ∧ y = .ref d ∧ PySem.W.nsIn K d z = some r ∧ Q (.bl r.isSome) H
abbrev rTabNi (K : PySem.W.Frag) (d : Addr) : R2 := fun x y H Q => ∃ (z : Str) (r : Option Value), x = .str z ∧ y = .ref d ∧ PySem.W.nsIn K d z = some r ∧ Q (.bl (!r.isSome)) H
variable {tb : List (Str × D)} {d : Addr} {x : Str} {p0 : Pos}
theorem Tab.ns {K : PySem.W.Frag} {w : World} (T : Tab K w d tb) (z : Str) : ∃ r, PySem.W.nsIn K d z = some r ∧ r.isSome = (tb.lookup z).isSome := by
  cases q : tb.lookup z with
  | none => exact ⟨none, T.no z q, rfl⟩
  | some v =>
    obtain ⟨u, y, h, _⟩ := T.yes z v q
    exact ⟨some u, h, rfl⟩
theorem bt_tabIn (T : Tab X.K X.w d tb) (h : BE X W false e te m) (hd : PE X (.Name x p0) (tC (.ref d))) (hm : behindInMarks .In (.Name x p0) = false := by rfl) : BT X W (.Compare e [.In] [.Name x p0] pos) (tTest (tOp (rTabIn X.K d) te (tC (.ref d)))) (mT (m1 (dTabIn tb) m)) := by
  obtain ⟨es, n, kd⟩ := T.kd
  refine ⟨pt_cmpR (op_in_kd kd) h.pe hd hm, fun Hs H0s σ H H0 ρ Q rl p => h.ev Hs H0s σ H H0 ρ _ rl ((Post.bind (rel := Dp X.K) (md := false) (post_asB p)).imp ?_)⟩
  rintro v H1 ⟨dd, H01, _, f1, x1, p1⟩
  cases dd with
  | str z =>
    cases x1
    obtain ⟨r, h1, h2⟩ := T.ns z
    refine ⟨z, r, rfl, rfl, h1, ?_⟩
    rw [h2]
    exact p1 _ H1 H01 (.refl f1.sb) (.bl _)
  | _ => exact False.elim p1
theorem bt_tabNi (T : Tab X.K X.w d tb) (h : BE X W false e te m) (hd : PE X (.Name x p0) (tC (.ref d))) (hm : behindInMarks .NotIn (.Name x p0) = false := by rfl) : BT X W (.Compare e [.NotIn] [.Name x p0] pos) (tTest (tOp (rTabNi X.K d) te (tC (.ref d)))) (mT (m1 (dTabNi tb) m)) := by
  obtain ⟨es, n, kd⟩ := T.kd
  refine ⟨pt_cmpR (op_notIn_kd kd) h.pe hd hm, fun Hs H0s σ H H0 ρ Q rl p => h.ev Hs H0s σ H H0 ρ _ rl ((Post.bind (rel := Dp X.K) (md := false) (post_asB p)).imp ?_)⟩
  rintro v H1 ⟨dd, H01, _, f1, x1, p1⟩
  cases dd with
  | str z =>
    cases x1
    obtain ⟨r, h1, h2⟩ := T.ns z
    refine ⟨z, r, rfl, rfl, h1, ?_⟩
    rw [h2]
    exact p1 _ H1 H01 (.refl f1.sb) (.bl _)
  | _ => exact False.elim p1
/-- T[e] -/
theorem be_tab (T : Tab X.K X.w d tb) (hd : PE X (.Name x p0) (tC (.ref d))) (h : BE X W false e te m) (hs : PlainIx e) : BE X W true (.Subscript (.Name x p0) e pos) (tOp (rIxD X.K X.w) (tC (.ref d)) te) (m1 (dTabAt tb) m) := by
  refine ⟨pe_ix ix_kdict hd h.pe hs, fun Hs H0s σ H H0 ρ Q rl p => h.ev Hs H0s σ H H0 ρ _ rl ((Post.bind p).imp ?_)⟩
  rintro v H1 ⟨dd, H01, _, f1, x1, p1⟩
  cases dd with
  | str z =>
    cases x1
    have p1 : Post (Dp X.K) X.K X.mg true H1 H01 (match tb.lookup z with | some v => .ok v | none => .stuck) Q (WE W σ) := p1
    cases q : tb.lookup z with
    | none => rw [q] at p1; exact False.elim p1
    | some w =>
      rw [q] at p1
      obtain ⟨u, y, h1, h2, h3⟩ := T.yes z w q
      obtain ⟨es, n, kd⟩ := T.kd
      exact ⟨d, z, y, rfl, rfl, ⟨es, n, u, kd.at_, kd.lit, h1, h2⟩, p1 _ H1 H01 (.refl f1.sb) (h3 _)⟩
  | _ => exact False.elim p1
end
end DW

end
end
section
set_option Elab.async false
set_option linter.all false
set_option maxRecDepth 100000
set_option maxHeartbeats 4000000
noncomputable section
namespace DW
open PySem PySem.Spec PyProof.Rows L2
open SX (S S_tl S_len S_cat)
section
variable {X : Cx} {W : WX} {md : Bool} {e a b c : Expr} {t ta tb tc te : TE} {m ma mb mc : ME} {pos : Pos} {x : Str} {pos' : Pos}
theorem bs_set (i : Nat) (h : BE X W true e t m) (hN : X.N.Nodup) (hi : X.N[i]? = some x) (hx : L2.Loc X.env.scope x) (hs : swapsWith e (some (.Name x pos')) pos.line X.env = pure false := by rfl) (hf : X.fn x = true ∨ X.env.scope.names.lookup x = some .local := by first | exact .inl rfl | exact .inr rfl) :
    BS X W (.Assign [.Name x pos'] e pos) (tAsg t (gName i)) (sAsg (gN i) m) :=
  bs_asg h (bg_name i (pg_name hN hi hx hf)) (ps_set hN hi hx h.pe hs hf)
theorem bs_setOwn (i : Nat) {mm : MA} (h : BN X W e t mm) (hN : X.N.Nodup) (hi : X.N[i]? = some x) (hx : L2.Loc X.env.scope x) (hs : swapsWith e (some (.Name x pos')) pos.line X.env = pure false := by rfl) (hf : X.fn x = true ∨ X.env.scope.names.lookup x = some .local := by first | exact .inl rfl | exact .inr rfl) :
    BS X W (.Assign [.Name x pos'] e pos) (tAsg t (gName i)) (sOwn i mm) :=
  bs_own h (ps_set hN hi hx h.pe hs hf)
theorem bs_setT {tg : Expr} {g : TG} {mt : D → En → R En} {sl : List Nat} (h : BE X W true e t m) (hg : BG X tg g sl mt) (hs : swapsWithSole [tg] e pos.line X.env = pure false := by rfl) (hw : swappedStores [tg] e X.env = pure none := by rfl)
    (h3 : (assignEach [tg] X.env).map (·.2) = [assign tg X.env] := by rfl) : BS X W (.Assign [tg] e pos) (tAsg t g) (sAsg mt m) := bs_asg h hg (ps_asg h.pe hg.pe hs hw h3)
def dAddI : D → D → R D
  | .int i, .int j => .ok (.int (i + j))
  | _, _ => .stuck
theorem bs_addI (i : Nat) (h : BE X W true e t m) (hN : X.N.Nodup) (hi : X.N[i]? = some x) (hx : L2.Loc X.env.scope x) (hf : X.fn x = true ∨ X.env.scope.names.lookup x = some .local := by first | exact .inl rfl | exact .inr rfl) :
    BS X W (.AugAssign (.Name x pos') .Add e pos) (tAug i t (ipI fun i j => i + j)) (sAsg (gN i) (m2 dAddI (mVar i) m)) := by
  refine bs_aug (md := true) dAddI (ps_aug hN hi hx h.pe ip_add hf) ?_ h (fun _ => rfl)
  intro x y d e H H0 Q E s hx hy p
  unfold dAddI at p
  split at p
  · cases dp_md s hx; cases dp_md s hy; exact ⟨_, _, rfl, rfl, post_here p s fun _ => .int _⟩
  · exact False.elim p
theorem bs_appN {i : Nat} {p0 p1 : Pos} (h : BE X W true e t m) (hx : PE X (.Name x p0) (tVar i)) (hb1 : attributeBase (.Name x p0) "append" X.env (eval (.Name x p0) X.env) = eval (.Name x p0) X.env := by rfl)
    (pe : PE X (.Call (.Attribute (.Name x p0) "append" p1) [e] [] pos) (tBM X.K "list" rAppend (tVar i) (tCons t tNil))) (hs : swapsWith (.Call (.Attribute (.Name x p0) "append" p1) [e] [] pos) none pos.line X.env = pure false := by rfl) :
    BS X W (.Expr (.Call (.Attribute (.Name x p0) "append" p1) [e] [] pos) pos) (tDrop (tBM X.K "list" rAppend (tVar i) (tCons t tNil))) (sApp i m) :=
  bs_app h (ps_expr pe hs)
/-- an own error class -/
structure ExcF (K : PySem.W.Frag) (mg : Str → Option Value) (x : Str) (C : Addr) : Prop where
  g : mg x = some (.ref C)
  xi : PySem.W.excIn K C [.type "ValueError", .type "Exception", .type "BaseException", .type "object"] "ValueError.__new__" = true
  kp : PySem.W.keepIn K (.ref C) = true
  sb : PySem.W.subIn K (.ref C) (.type "BaseException") = some true
  ty : PySem.W.typeIn K (.ref C) = some (.type "type")
theorem bs_raiseS {C : Addr} {ms : Str} {j : Nat} {p p2 p3 : Pos} (F : ExcF X.K X.mg x C) (hc : X.calm = true) (tk : Takes X W) (hg : Gl X x) (hdb : (x == ("__debug__" : Str)) = false := by decide) :
    BS X W (.Raise (some (.Call (.Name x p) [.Constant (.str ms) j p2] [] p3)) none pos) (fun _ σ H => W (.ref C) none σ H) (sRaise x) :=
  bs_raise F.g (ps_raise hc tk (pmk_own PySem.F.excBase_ValueError F.xi F.g F.kp (raises_own F.sb F.ty) hg hdb))
end

/-! ### a def by its mirror -/
def startS (n : Nat) (ss : List SD) : En := ss.map some ++ List.replicate (n - ss.length) none
def startD (n : Nat) (ds : List D) : En := ds.map (fun d => some (.sh d)) ++ List.replicate (n - ds.length) none
theorem startD_eq (n : Nat) (ds : List D) : startD n ds = startS n (ds.map SD.sh) := by
  unfold startD startS
  rw [List.map_map, List.length_map]
  rfl
def fin (o : O) : R D := O.rec (motive := fun _ => R D) (fun _ => .ok .none) (fun d => .ok d) (fun _ => .stuck) (fun _ => .stuck) (fun _ => .stuck) (fun e _ => .err e) .stuck (fun _ ih => .pick ih) o
/-- of a def that hands over a new list -/
def finN (o : O) : R (List D) := O.rec (motive := fun _ => R (List D)) (fun _ => .stuck) (fun _ => .stuck) (fun ds => .ok ds) (fun _ => .stuck) (fun _ => .stuck) (fun e _ => .err e) .stuck (fun _ ih => .pick ih) o
def runDef (n : Nat) (m : MS) : List D → R D := fun ds => fin (m (startD n ds))
structure FD (K : PySem.W.Frag) (mg : Str → Option Value) (x : Str) (st : Stmt) : Prop where
  ex : ∃ f fd, Fun K x x st f fd ∧ mg x = some (.ref f)
inductive ArgOk (K : PySem.W.Frag) (ea : EA) (H0 : Hp) : V → SD → Prop
  | sh {v : V} {d : D} (h : Dp K H0 v d) : ArgOk K ea H0 v (.sh d)
  | rnd {p : Addr} (h : H0 p = some (RndO p)) : ArgOk K ea H0 (.ref p) .rnd
  | exc {n : Str} {fs : List (Str × D)} (h : ea.ok n fs H0) : ArgOk K ea H0 (.ref ea.a) (.exc n fs)
inductive ArgsOk (K : PySem.W.Frag) (ea : EA) (H0 : Hp) : List V → List SD → Prop
  | nil : ArgsOk K ea H0 [] []
  | cons {v : V} {s : SD} {vs : List V} {ss : List SD} (h : ArgOk K ea H0 v s) (r : ArgsOk K ea H0 vs ss) : ArgsOk K ea H0 (v :: vs) (s :: ss)
section
variable {P : Program} {w : World} {K : PySem.W.Frag} {mg : Str → Option Value} {base : Heap}
theorem ArgsOk.length {ea : EA} {H0 : Hp} : ∀ {vs : List V} {ss : List SD}, ArgsOk K ea H0 vs ss → vs.length = ss.length
  | _, _, .nil => rfl
  | _, _, .cons _ r => by rw [List.length_cons, List.length_cons, ArgsOk.length r]
theorem ArgsOk.get {ea : EA} {H0 : Hp} : ∀ {vs : List V} {ss : List SD}, ArgsOk K ea H0 vs ss → ∀ {i : Nat} {s : SD}, ss[i]? = some s → ∃ v, vs[i]? = some v ∧ ArgOk K ea H0 v s
  | _, _, .nil, _, _, e => by simp at e
  | _, _, .cons h r, 0, _, e => by simp at e; subst e; exact ⟨_, rfl, h⟩
  | _, _, .cons h r, i + 1, _, e => by
    obtain ⟨v, h1, h2⟩ := ArgsOk.get r (i := i) (by simpa using e)
    exact ⟨v, by simpa using h1, h2⟩
theorem ArgsOk.dp {ea : EA} {H0 : Hp} : ∀ {vs : List V} {ds : List D}, DpAll K H0 vs ds → ArgsOk K ea H0 vs (ds.map SD.sh)
  | _, _, .nil => .nil
  | _, _, .cons h r => .cons (.sh h) (ArgsOk.dp r)
theorem start_relS {ea : EA} {H H0 : Hp} {N : List Str} {vs : List V} {ss : List SD} (s : Same H0 H) (h : ArgsOk K ea H0 vs ss) (hn : ss.length ≤ N.length) : Rel K ea H H0 (L2.start N vs) H H0 (startS N.length ss) := by
  have hl := h.length
  have at_ : ∀ (i : Nat) (y : SD), (startS N.length ss)[i]? = some (some y) → ∃ v, (L2.start N vs)[i]? = some (some v) ∧ ArgOk K ea H0 v y := fun i y e => by
    unfold startS at e
    by_cases hi : i < ss.length
    · rw [List.getElem?_append_left (by rw [List.length_map]; exact hi), List.getElem?_map] at e
      cases q : ss[i]? with
      | none => rw [q] at e; cases e
      | some y' =>
        rw [q] at e
        cases e
        obtain ⟨v, hv, x⟩ := h.get q
        refine ⟨v, ?_, x⟩
        unfold L2.start
        have hi : i < vs.length := (List.getElem?_eq_some_iff.mp hv).1
        rw [List.getElem?_append_left (by rw [List.length_map]; exact hi), List.getElem?_map, hv]
        rfl
    · rw [List.getElem?_append_right (by rw [List.length_map]; omega), List.getElem?_replicate] at e
      split at e <;> cases e
  refine ⟨.refl s, ?_, fun i d e => ?_, fun i es e => ?_, fun i j es fs p _ e _ _ _ => ?_, fun i n fs e => ?_, fun i e => ?_⟩
  · unfold L2.start startS
    rw [List.length_append, List.length_append, List.length_map, List.length_map, List.length_replicate, List.length_replicate, hl]
  · obtain ⟨v, h1, h2⟩ := at_ i _ e
    cases h2 with
    | sh x => exact ⟨v, h1, x⟩
  · obtain ⟨v, h1, h2⟩ := at_ i _ e
    cases h2
  · obtain ⟨v, h1, h2⟩ := at_ i _ e
    cases h2
  · obtain ⟨v, h1, h2⟩ := at_ i _ e
    cases h2 with
    | exc x => exact ⟨h1, x⟩
  · obtain ⟨v, h1, h2⟩ := at_ i _ e
    cases h2 with
    | rnd x => exact ⟨_, h1, x⟩
theorem start_rel {ea : EA} {H H0 : Hp} {N : List Str} {vs : List V} {ds : List D} (s : Same H0 H) (h : DpAll K H0 vs ds) (hn : ds.length ≤ N.length) : Rel K ea H H0 (L2.start N vs) H H0 (startD N.length ds) := by
  rw [startD_eq]
  exact start_relS s (ArgsOk.dp h) (by rw [List.length_map]; exact hn)
theorem post_fin {ea : EA} {H H0 : Hp} {o : O} {Q : VK} {E : XK} (p : Post (Dp K) K mg true H H0 (fin o) Q E) : PostS K mg ea H H0 o { nx := fun _ H' => Q .non H', rt := Q } (fun cls d _ H => E cls d H) := by
  induction o with
  | nx ρ => exact fun σ H' H0' r => p .non H' H0' r.fr .non
  | rt d => exact fun v H' H0' f x => p v H' H0' f x
  | err e ρ => exact fun σ H' H0' r => p H' H0' r.fr
  | pick k ih => exact fun n hn => ih n (p n hn)
  | rto d => exact False.elim p
  | bk ρ => exact False.elim p
  | ct ρ => exact False.elim p
  | stuck => exact False.elim p
theorem post_finN {ea : EA} {H H0 : Hp} {o : O} {Q : VK} {E : XK} (p : PostN K mg H H0 (finN o) Q E) : PostS K mg ea H H0 o { nx := fun _ H' => Q .non H', rt := Q } (fun cls d _ H => E cls d H) := by
  induction o with
  | rto ds => exact fun a vs H' H0' f h1 h2 h3 x => p a vs H' H0' f h1 h2 h3 x
  | err e ρ => exact fun σ H' H0' r => p H' H0' r.fr
  | pick k ih => exact fun n hn => ih n (p n hn)
  | nx ρ => exact False.elim p
  | rt d => exact False.elim p
  | bk ρ => exact False.elim p
  | ct ρ => exact False.elim p
  | stuck => exact False.elim p
theorem mk_def {x : Str} {st : Stmt} {N ps : List Str} {k : Nat} {mb : MS} (F : FD K mg x st) (S : FnScope N ps (defScope st)) (hn : ps.length ≤ N.length)
    (hb : ∀ (kV doc pm : Value) (an : Option Addr) (cdv ct : Value) (us : List Value), us.length = ps.length → bindArgs (PySem.W.fnOf x x (defArgs st) (defBody st) (defScope st) .none kV doc pm an cdv ct) ⟨us, []⟩ = pure (ps.zip us))
    (hbody : ∀ (f : Addr) (cdv : Value) (A : Around) (outer : List Env) (s : Shared) (H : Hp) (E : XK), Room k (A.deeper (envOfC x (defScope st) s.heap.objs.size f cdv)) →
      ∃ t, BSs (cxOf (L2.CX P w) P w K mg base N x (defScope st) f cdv A outer s H E) (fun cls d _ H => E cls d H) (defBody st) t mb) : Def P w K mg base x ps (k + 1) (runDef N.length mb) := by
  obtain ⟨f, fd, F, g⟩ := F.ex
  refine ⟨f, fd, F.okX S (fun vs H Q E h => ?_) (fun cdv A outer s H vs Q E hr h => ?_), g, F.kp, F.binds hb⟩
  · obtain ⟨H0, ds, _, h1, h2, _⟩ := h
    rw [DpAll.length h1, h2]
  · obtain ⟨H0, ds, sm, h1, h2, p⟩ := h
    obtain ⟨t, ht⟩ := hbody f cdv A outer s H E hr
    exact ⟨t, ht.pe, ht.ev H H0 (L2.start N vs) H H0 (startD N.length ds) _ (start_rel sm h1 (by omega)) (post_fin p)⟩
end
end DW

end
end
section
set_option Elab.async false
set_option linter.all false
set_option maxRecDepth 100000
set_option maxHeartbeats 4000000
noncomputable section
namespace DW
open PySem PySem.Spec PyProof.Rows L2
open SX (S S_tl S_len S_cat)
section
variable {X : Cx} {W : WX} {md : Bool} {e a b c : Expr} {t ta tb tc te : TE} {m ma mb mc : ME} {pos : Pos} {x : Str} {pos' : Pos}
theorem bs_appS {i : Nat} {p0 p1 cpos : Pos} (h : BE X W true e t m) (hx : PE X (.Name x p0) (tVar i)) (hbase : attributeBase (.Name x p0) "append" X.env (eval (.Name x p0) X.env) = eval (.Name x p0) X.env := by rfl)
    (hall : ((((backTo cpos (starEach (e :: []) X.env)).all fun x => !x.fst) && (backToKw cpos (keywordEach [] X.env)).all fun x => x.fst.isSome) && decide (((e :: []).length + ([] : List Keyword).length + if ([] : List Keyword).isEmpty = true then 0 else 1) < 30)) = true := by rfl)
    (hline : (p1.endLine == cpos.line) = true := by rfl) (he : starEach (e :: []) X.env = (false, eval e X.env) :: starEach [] X.env := by rfl) (hpl : ((backTo cpos (starEach [] X.env)).any fun x => x.fst) = false := by rfl)
    (hs : swapsWith (.Call (.Attribute (.Name x p0) "append" p1) [e] [] cpos) none pos.line X.env = pure false := by rfl) :
    BS X W (.Expr (.Call (.Attribute (.Name x p0) "append" p1) [e] [] cpos) pos) (tDrop (tBM X.K "list" rAppend (tVar i) (tCons t tNil))) (sApp i m) := by
  refine ⟨ps_expr (pe_bm PySem.F.plainAttrs_list PySem.F.slot_list_append PySem.F.type_list_append mt_append hx (pa_cons h.pe pa_nil he) hbase hall hline he hpl) hs, fun Hs H0s σ H H0 ρ D rl p => ?_⟩
  unfold sApp at p
  split at p
  · rename_i ds e1
    obtain ⟨q, vs, h1, h2, h3, h4, h5⟩ := rl.own _ _ e1
    refine ⟨.ref q, h1, .inl ⟨rfl, _, .inl (.inl h4)⟩, h.ev Hs H0s σ H H0 ρ _ rl ((PostS.of p rl).imp ?_)⟩
    rintro v H1 ⟨d, H01, _, f1, x1, p1⟩
    split at p1
    · rename_i hl
      have h4' := f1.ex _ _ h4
      refine ⟨q, vs, v, rfl, rfl, h4', by rw [DpAll.length h5]; exact hl, ?_⟩
      exact p1 σ _ H01 ((rl.step f1).write e1 h1 (DpAll.append (dpAll_mono f1.ez _ _ h5) (.cons x1 .nil)))
    · exact False.elim p1
  · exact False.elim p
theorem bs_popS {i : Nat} {p0 p1 cpos : Pos} (hx : PE X (.Name x p0) (tVar i)) (hbase : attributeBase (.Name x p0) "pop" X.env (eval (.Name x p0) X.env) = eval (.Name x p0) X.env := by rfl) (hline : (p1.endLine == cpos.line) = true := by rfl)
    (hs : swapsWith (.Call (.Attribute (.Name x p0) "pop" p1) [] [] cpos) none pos.line X.env = pure false := by rfl) :
    BS X W (.Expr (.Call (.Attribute (.Name x p0) "pop" p1) [] [] cpos) pos) (tDrop (tBM0 X.K "list" rPop (tVar i))) (sPop i) := by
  refine ⟨ps_expr (pe_bm0 PySem.F.plainAttrs_list PySem.F.slot_list_pop PySem.F.type_list_pop mt_pop hx hbase hline) hs, fun Hs H0s σ H H0 ρ D rl p => ?_⟩
  unfold sPop at p
  split at p
  · rename_i ds e1
    obtain ⟨q, vs, h1, h2, h3, h4, h5⟩ := rl.own _ _ e1
    split at p
    · rename_i d e2
      obtain ⟨y, hy, _⟩ := DpAll.get h5 e2
      refine ⟨.ref q, h1, .inl ⟨rfl, _, .inl (.inl h4)⟩, q, vs, y, rfl, rfl, h4, by rw [DpAll.length h5]; exact hy, ?_⟩
      exact p σ _ H0 (rl.write e1 h1 (DpAll.dropLast h5))
    · exact False.elim p
  · exact False.elim p
theorem bs_popToS (i j : Nat) {y : Str} {p0 p1 cpos : Pos} (hx : PE X (.Name y p0) (tVar i)) (hN : X.N.Nodup) (hi : X.N[j]? = some x) (hlx : L2.Loc X.env.scope x) (hbase : attributeBase (.Name y p0) "pop" X.env (eval (.Name y p0) X.env) = eval (.Name y p0) X.env := by rfl) (hline : (p1.endLine == cpos.line) = true := by rfl)
    (hs : swapsWith (.Call (.Attribute (.Name y p0) "pop" p1) [] [] cpos) (some (.Name x pos')) pos.line X.env = pure false := by rfl) (hf : X.fn x = true ∨ X.env.scope.names.lookup x = some .local := by first | exact .inl rfl | exact .inr rfl) :
    BS X W (.Assign [.Name x pos'] (.Call (.Attribute (.Name y p0) "pop" p1) [] [] cpos) pos) (tAsg (tBM0 X.K "list" rPop (tVar i)) (gName j)) (sPopTo j i) :=
  bs_popTo (ps_set hN hi hlx (pe_bm0 PySem.F.plainAttrs_list PySem.F.slot_list_pop PySem.F.type_list_pop mt_pop hx hbase hline) hs hf)
theorem bs_setIxS {i : Nat} {k : Expr} {tk : TE} {mi : ME} {p0 p1 : Pos} (hv : BE X W true e t m) (hi : BE X W true k tk mi) (hx : PE X (.Name x p0) (tVar i)) 
    (ha : ∀ v, assign (.Subscript (.Name x p0) k p1) X.env v = (do
      let ov ← holding [v] (eval (.Name x p0) X.env)
      let iv ← holding [v, ov] (eval k X.env)
      standAt p1
      holding [v, ov, iv] (setItem ov iv v)
      release [v, ov, iv] []) := by intro _; rfl)
    (hs : swapsWithSole [.Subscript (.Name x p0) k p1] e pos.line X.env = pure false := by rfl) (hw : swappedStores [.Subscript (.Name x p0) k p1] e X.env = pure none := by rfl)
    (h3 : (assignEach [.Subscript (.Name x p0) k p1] X.env).map (·.2) = [assign (.Subscript (.Name x p0) k p1) X.env] := by rfl) :
    BS X W (.Assign [.Subscript (.Name x p0) k p1] e pos) (tAsg t (gSub (tVar i) tk rSetL)) (sSetIx i mi m) :=
  bs_setIx hv hi (ps_asg hv.pe (pg_sub hx hi.pe set_list ha) hs hw h3)
theorem be_join0S {p0 : Pos} {k : Nat} {apos : Pos} (h : BE X W md e te m) (hs : starEach [e] X.env = [(false, eval e X.env)] := by rfl) (hbase : attributeBase (.Constant (.str "") k p0) "join" X.env (eval (.Constant (.str "") k p0) X.env) = eval (.Constant (.str "") k p0) X.env := by rfl) (hline : (apos.endLine == pos.line) = true := by rfl) :
    BE X W true (.Call (.Attribute (.Constant (.str "") k p0) "join" apos) [e] [] pos) (tM1
      (fun x xs H Q => ∃ a p, ∃ ys : List Str, x = .str a ∧ xs = [.ref p] ∧ (SqL X.K H p (ys.map V.str) ∨ SqT X.K H p (ys.map V.str)) ∧ (ys.map (·.length)).sum + ys.length * a.length ≤ 16777216 ∧ Q (.str (Txt.join a ys)) H) (tC (.str "")) te) (m1 dJoin0 m) :=
  be_join0 (p1 := p0) h (pe_join pe_str h.pe hs hbase hline)
end
/-- isinstance of an error, asked of u: by the error's name -/
structure IsX (K : PySem.W.Frag) (mg : Str → Option Value) (u : Value) (isx : Str → Option Bool) : Prop where
  h : ∀ n b, isx n = some b → ∀ C, mg n = some (.ref C) → ExcC K C ∧ PySem.W.kitOne K (.ref C) u = some b
/-- isinstance of a pinned error -/
theorem call_isP {X : Cx} {a D : Addr} {oe : Obj} (hp : (a, oe) ∈ X.pn) (C : ExcC X.K D) (hcl : oe.cls = .ref D) (hf : ∃ vs, oe.data = .fields vs) {H : Hp} (hx : oe.dict = none ∨ ∃ dx fs, oe.dict = some dx ∧ H dx = some (.xd fs)) {pins : List (Addr × Obj)} {s : Shared} {σ : L2.St} {c : V} {cv : Value} {b : Bool} {us : List Value} {Q : VK}
    (I : Inv X pins σ H s) (r : Vals [.ref a, c] us) (hc : ∀ u, RelV c u → u = cv) (hk : PySem.W.kitOne X.K (.ref D) cv = some b) (q : Q (.bl b) H) :
    wpAny (model X.prog X.w) X.A (call (.builtin "isinstance") us) (EP X pins σ Q) X.xe s := by
  obtain ⟨u, w', rfl, ru, rw'⟩ := vals2 r
  obtain rfl : u = Value.ref a := ru
  have ec := hc _ rw'
  subst ec
  obtain ⟨at_, _⟩ := I.pin (a, oe) (List.mem_append_left _ hp)
  obtain ⟨fl, hfl⟩ := hf
  have nc : PySem.W.notCls oe = true := by unfold PySem.W.notCls; rw [hfl] <;> rfl
  have cl : (PySem.W.clsIn X.K D).isSome = true := by obtain ⟨cd, e, _⟩ := PySem.W.any_some C.hd; rw [e]; rfl
  have inst : ∃ od, PySem.W.InstAt s.heap a oe D od := by
    rcases hx with hn | ⟨dx, fs, hd, hx⟩
    · exact ⟨none, at_, hcl, nc, by rw [hn]; trivial⟩
    · have okd : ObjOk X.prog X.w H s.heap dx (.xd fs) := I.hok dx _ hx
      obtain ⟨mA, hns, _⟩ := okd
      obtain ⟨od, ho, _⟩ := lookIn_ns hns
      exact ⟨some od, at_, hcl, nc, by rw [hd]; exact ho⟩
  obtain ⟨od, inst⟩ := inst
  exact PySem.W.kia_one (PySem.W.kitx_exc cl C.hg C.hk C.hs C.ha C.hn C.ht C.hm) I.kIn inst hk (fun z => nomatch z) fun tk => ⟨.bl b, H, I.kept (t' := tk) fun _ _ z => z, rfl, q⟩
structure CatchF (K : PySem.W.Frag) (mg : Str → Option Value) (x : Str) (C : Addr) (sub : Str → Str → Option Bool) : Prop where
  c : Catch K mg x C (sub x)
section
variable {P : Program} {w : World} {K : PySem.W.Frag} {mg : Str → Option Value} {base : Heap}
theorem ints_all {H : Hp} : ∀ ns : List Int, DpAll K H (ns.map V.int) (ns.map PyData.int)
  | [] => .nil
  | n :: ns => .cons (.int n) (ints_all ns)
theorem cx_never {H : Hp} {s s' : Shared} {e : Value} (h : L2.CX P w [] H s (fun _ _ _ => False) e s') : False := by
  obtain ⟨_, _, _, _, _, _, _, _, _, _, _, _, z⟩ := h
  exact z
end
end DW
namespace DW
open PySem PySem.Spec PyProof.Rows L2
/-- the entries of a written dict, by a table -/
inductive TabIs : List DictEntry → List (Str × D) → Prop
  | nil : TabIs [] []
  | cons {e : DictEntry} {k : Str} {t : Tok} {x : V} {v : D} {es : List DictEntry} {tb : List (Str × D)} (hk : e.key = .str k t) (hv : RelV x e.val) (hd : ∀ K H, Dp K H x v) (r : TabIs es tb) : TabIs (e :: es) ((k, v) :: tb)
theorem isStr_str (k z : Str) (t : Tok) : (Value.str k t).isStr z = (k == z) := rfl
theorem TabIs.find {K : PySem.W.Frag} : ∀ {es : List DictEntry} {tb : List (Str × D)}, TabIs es tb → ∀ z : Str,
    (tb.lookup z = none → es.find? (fun x => x.key.isStr z) = none) ∧ ∀ v, tb.lookup z = some v → ∃ e x, es.find? (fun x => x.key.isStr z) = some e ∧ RelV x e.val ∧ ∀ H, Dp K H x v
  | _, _, .nil, z => ⟨fun _ => rfl, fun v h => nomatch h⟩
  | _, _, .cons (e := e) (k := k) (t := t) (x := x) (v := v) (es := es) (tb := tb) hk hv hd r, z => by
    obtain ⟨i1, i2⟩ := TabIs.find (K := K) r z
    have e1 : e.key.isStr z = (k == z) := by rw [hk, isStr_str]
    by_cases hz : k = z
    · subst hz
      refine ⟨fun h => ?_, fun v' h => ?_⟩
      · rw [List.lookup_cons, beq_self_eq_true] at h; cases h
      · rw [List.lookup_cons, beq_self_eq_true] at h
        cases h
        refine ⟨e, x, ?_, hv, hd K⟩
        rw [List.find?_cons_of_pos (by rw [e1]; exact beq_self_eq_true _)]
    · have n1 : (k == z) = false := beq_false_of_ne hz
      have n2 : (z == k) = false := beq_false_of_ne fun q => hz q.symm
      have e2 : (e :: es).find? (fun x => x.key.isStr z) = es.find? (fun x => x.key.isStr z) := List.find?_cons_of_neg (by rw [e1, n1]; exact Bool.false_ne_true)
      have e3 : ((k, v) :: tb).lookup z = tb.lookup z := by rw [List.lookup_cons, n2]
      rw [e2, e3]
      exact ⟨i1, i2⟩
theorem TabIs.noref : ∀ {es : List DictEntry} {tb : List (Str × D)}, TabIs es tb → (es.any fun x => x.refKey) = false
  | _, _, .nil => rfl
  | _, _, .cons (e := e) (k := k) (t := t) (es := es) hk _ _ r => by
    rw [List.any_cons, TabIs.noref r, Bool.or_false]
    unfold DictEntry.refKey
    rw [hk]
theorem tab_of {K : PySem.W.Frag} {w : World} {d : Addr} {es : Array DictEntry} {n : Nat} {tb : List (Str × D)} (hl : K.lookup d = some ⟨.type "dict", none, .dict es n, #[]⟩) (hk : PySem.W.KeysLit w.params es.toList) (hw : (d == sysModules) = false) (ht : TabIs es.toList tb) : Tab K w d tb := by
  refine ⟨⟨es, n, hl, hk, hw⟩, fun z h => ?_, fun z v h => ?_⟩
  · unfold PySem.W.nsIn
    rw [show List.lookup d K = _ from hl]
    dsimp only
    rw [(ht.find (K := K) z).1 h, ht.noref]
    rfl
  · obtain ⟨e, x, h1, h2, h3⟩ := (ht.find (K := K) z).2 v h
    refine ⟨e.val, x, ?_, h2, h3⟩
    unfold PySem.W.nsIn
    rw [show List.lookup d K = _ from hl]
    dsimp only
    rw [h1]
end DW
namespace DW
open PySem PySem.Spec PyProof.Rows L2
theorem kit_excT {K : PySem.W.Frag} {C : Addr} {T : String} {b : Bool} (hm : PySem.W.kitMeta T = true) (hs : PySem.W.subIn K (.ref C) (.type T) = some b) : PySem.W.kitOne K (.ref C) (.type T) = some b := by
  unfold PySem.W.kitOne
  rw [if_neg (by simp)]
  show (if PySem.W.kitMeta T = true then PySem.W.subIn K (.ref C) (.type T) else none) = some b
  rw [if_pos hm]
  exact hs
theorem kit_excS {K : PySem.W.Frag} {C : Addr} : PySem.W.kitOne K (.ref C) (.ref C) = some true := by
  unfold PySem.W.kitOne
  rw [if_pos (by simp)]
theorem kit_excR {K : PySem.W.Frag} {C E : Addr} {b : Bool} (hne : (C == E) = false) (hc : (PySem.W.clsIn K E).isSome = true) (ht : PySem.W.typeIn K (.ref E) = some (.type "type")) (hs : PySem.W.subIn K (.ref C) (.ref E) = some b) : PySem.W.kitOne K (.ref C) (.ref E) = some b := by
  unfold PySem.W.kitOne
  have h1 : (Value.ref C == Value.ref E) = false := by
    have : C ≠ E := fun h => by rw [h, beq_self_eq_true] at hne; cases hne
    simp [this]
  rw [h1, if_neg Bool.false_ne_true]
  show (if ((PySem.W.clsIn K E).isSome && PySem.W.typeIn K (.ref E) == some (.type "type")) = true then PySem.W.subIn K (.ref C) (.ref E) else none) = some b
  rw [hc, ht, if_pos (by decide)]
  exact hs
/-- what a clause catches, name by name -/
theorem catch_of {K : PySem.W.Frag} {mg : Str → Option Value} {x : Str} {C : Addr} {l : List (Str × Bool)} {sub : Str → Option Bool} (g : mg x = some (.ref C)) (hs : ∀ n, sub n = l.lookup n) (h : ∀ n b, l.lookup n = some b → ∃ D, mg n = some (.ref D) ∧ PySem.W.exmOne K (.ref D) (.ref C) = some b) : Catch K mg x C sub :=
  ⟨g, fun n b C' e hm => by
    rw [hs n] at e
    obtain ⟨D, h1, h2⟩ := h n b e
    rw [hm] at h1
    cases h1
    exact h2, fun n b e => by
    rw [hs n] at e
    obtain ⟨D, h1, _⟩ := h n b e
    exact ⟨D, h1⟩⟩
/-- the answers of isinstance, name by name -/
theorem isx_of {K : PySem.W.Frag} {mg : Str → Option Value} {u : Value} {l : List (Str × Bool)} {isx : Str → Option Bool} (hs : ∀ n, isx n = l.lookup n) (h : ∀ n b, l.lookup n = some b → ∃ D, mg n = some (.ref D) ∧ ExcC K D ∧ PySem.W.kitOne K (.ref D) u = some b) : IsX K mg u isx :=
  ⟨fun n b e C hm => by
    rw [hs n] at e
    obtain ⟨D, h1, h2⟩ := h n b e
    rw [hm] at h1
    cases h1
    exact h2⟩
theorem look_nil {α : Type} {P : Str → α → Prop} : ∀ (n : Str) (b : α), ([] : List (Str × α)).lookup n = some b → P n b := fun _ _ h => nomatch h
theorem look_cons {α : Type} {P : Str → α → Prop} {k : Str} {v : α} {l : List (Str × α)} (h : P k v) (r : ∀ n b, l.lookup n = some b → P n b) : ∀ n b, ((k, v) :: l).lookup n = some b → P n b := fun n b e => by
  by_cases hn : n = k
  · subst hn
    rw [List.lookup_cons, beq_self_eq_true] at e
    cases e
    exact h
  · have : (n == k) = false := beq_false_of_ne hn
    rw [List.lookup_cons, this] at e
    exact r n b e
end DW

end
end
section
set_option Elab.async false
set_option linter.all false
set_option maxRecDepth 100000
set_option maxHeartbeats 4000000
noncomputable section
namespace DW
open PySem PySem.Spec PyProof.Rows L2
open SX (S S_tl S_len S_cat)
section
variable {X : Cx} {W : WX}
/-- isinstance(e, C) in a suite: the reading -/
def tIsX (K : PySem.W.Frag) (a : Addr) (oe : Obj) (u : Value) (i : Nat) : TE := fun σ H Q => σ[i]? = some (some (.ref a)) ∧ ∃ (D : Addr) (b : Bool), ExcC K D ∧ oe.cls = .ref D ∧ PySem.W.kitOne K (.ref D) u = some b ∧ (oe.dict = none ∨ ∃ dx fs, oe.dict = some dx ∧ H dx = some (.xd fs)) ∧ Q (.bl b) H
theorem pe_isX {i : Nat} {n Cn : Str} {p0 p1 p2 pos : Pos} {a : Addr} {oe : Obj} (hp : (a, oe) ∈ X.pn) (hf : ∃ vs, oe.data = .fields vs) (hg : Gl X "isinstance") (hm : X.mg "isinstance" = none) (hb : bootBuiltins "isinstance" = some (.builtin "isinstance"))
    (hn : PE X (.Name n p1) (tVar i)) (u : Value) (vC : V) (hu : ∀ w, RelV vC w → w = u) (ht : PE X (.Name Cn p2) (tC vC)) :
    PE X (.Call (.Name "isinstance" p0) [.Name n p1, .Name Cn p2] [] pos) (tIsX X.K a oe u i) := by
  have rule : CallR X (.builtin "isinstance") (fun xs H Q => ∃ (c : V) (D : Addr) (b : Bool), xs = [.ref a, c] ∧ (∀ w, RelV c w → w = u) ∧ ExcC X.K D ∧ oe.cls = .ref D ∧ PySem.W.kitOne X.K (.ref D) u = some b ∧ (oe.dict = none ∨ ∃ dx fs, oe.dict = some dx ∧ H dx = some (.xd fs)) ∧ Q (.bl b) H) := by
    intro pins s σ H xs us Q I r h
    obtain ⟨c, D, b, rfl, hc, eC, hcl, hk, hd, q⟩ := h
    exact call_isP hp eC hcl hf hd I r hc hk q
  have main := pe_callB (pos := pos) (p := p0) rule hg hm hb (pa_cons hn (pa_cons ht pa_nil)) (by decide) (by decide)
  exact ⟨fun pins s σ H Q I ⟨e, D, b, eC, hcl, hk, hd, q⟩ => main.run pins s σ H Q I ⟨.ref a, e, vC, D, b, rfl, hu, eC, hcl, hk, hd, q⟩⟩
theorem be_isX {i : Nat} {n Cn : Str} {p0 p1 p2 pos : Pos} {a : Addr} {oe : Obj} {pn : List (Addr × Obj)} {isx : Str → Option Bool} {u : Value} (hX : IsX X.K X.mg u isx) (hf : ∃ vs, oe.data = .fields vs) (hg : Gl X "isinstance") (hm : X.mg "isinstance" = none) (hb : bootBuiltins "isinstance" = some (.builtin "isinstance"))
    (hn : PE X (.Name n p1) (tVar i)) (vC : V) (hu : ∀ w, RelV vC w → w = u) (ht : PE X (.Name Cn p2) (tC vC)) (hpn : X.pn = (a, oe) :: pn := by rfl) :
    BE X W true (.Call (.Name "isinstance" p0) [.Name n p1, .Name Cn p2] [] pos) (tIsX X.K a oe u i) (mIsX i isx) := by
  refine ⟨pe_isX (by rw [hpn]; exact List.mem_cons_self) hf hg hm hb hn u vC hu ht, fun Hs H0s σ H H0 ρ Q rl p => ?_⟩
  have ee : excOf X = eaOf X.K X.mg a oe.cls oe.dict := by unfold excOf; rw [hpn]
  rw [ee] at rl
  unfold mIsX at p
  split at p
  · rename_i nm fs e1
    split at p
    · rename_i b eb
      obtain ⟨e2, C, h1, h2, h3⟩ := rl.exc _ _ _ e1
      obtain ⟨k1, k2⟩ := hX.h _ _ eb C h1
      refine ⟨e2, C, b, k1, h2, k2, ?_, p _ H H0 (.refl rl.sub) (.bl _)⟩
      cases fs with
      | nil => exact .inl h3
      | cons f fs =>
        obtain ⟨dx, v, d1, d2, d3⟩ := h3
        exact .inr ⟨dx, _, d1, rl.sub _ _ d2⟩
    · exact False.elim p
  · exact False.elim p
/-- e.f of the caught error, where it is one of the class x -/
def mXf (i : Nat) (x f : Str) : ME := fun ρ => match ρ[i]? with
  | some (some (.exc n ((g, d) :: _))) => if n = x ∧ g = f then .ok d else .stuck
  | _ => .stuck
theorem be_xf {i : Nat} {n f x : Str} {p1 pos : Pos} {a C : Addr} {oe : Obj} {pn : List (Addr × Obj)} (hx : X.mg x = some (.ref C)) (T : XfC X.K C) (hno : PySem.W.findIn X.K (.ref C) f = some none) (hf : ∃ vs, oe.data = .fields vs) (hn : PE (X.suite a ((a, oe) :: pn)) (.Name n p1) (tVar i))
    (hb : attributeBase (.Name n p1) f X.env (eval (.Name n p1) X.env) = eval (.Name n p1) X.env := by rfl) :
    BE (X.suite a ((a, oe) :: pn)) W true (.Attribute (.Name n p1) f pos) (tXf a oe.cls oe.dict C f (tVar i)) (mXf i x f) := by
  refine ⟨pe_xf (cls := oe.cls) (d := oe.dict) T hno ⟨rfl, rfl⟩ hf hn hb, fun Hs H0s σ H H0 ρ Q rl p => ?_⟩
  unfold mXf at p
  split at p
  · rename_i nm g d fs e1
    split at p
    · rename_i hh
      obtain ⟨rfl, rfl⟩ := hh
      obtain ⟨e2, C', h1, h2, dx, v, h3, h4, h5⟩ := rl.exc _ _ _ e1
      have h1 : X.mg nm = some (.ref C') := h1
      rw [hx] at h1
      cases h1
      refine ⟨.ref a, e2, rfl, h2, dx, _, v, h3, rl.sub _ _ h4, ?_, p v H H0 (.refl rl.sub) h5⟩
      rw [List.lookup_cons, beq_self_eq_true]
    · exact False.elim p
  · exact False.elim p
end
end DW

end
end
section
set_option Elab.async false
set_option linter.all false
set_option maxRecDepth 100000
set_option maxHeartbeats 4000000
noncomputable section
namespace DW
open PySem PySem.Spec PyProof.Rows L2
open SX (S S_tl S_len S_cat)
/-! ### a list that anyone may pop -/
def Loose1 : HO → Prop
  | .lst _ => True
  | .ext _ => True
  | _ => False
section
variable {X : Cx} {pins : List (Addr × Obj)} {σ : L2.St} {H : Hp} {s : Shared} {p : Addr} {o1 o2 : HO}
/-- the same object told of in another way -/
theorem Inv.retell (I : Inv X pins σ H s) (h1 : H p = some o1) (l1 : Loose1 o1) (ok : ObjOk X.prog X.w (upd H p o2) s.heap p o2) : Inv X pins σ (upd H p o2) s := by
  have ne : ∀ {b : Addr} {u : HO}, H b = some u → ¬ Loose1 u → b ≠ p := fun {b u} e n z => by
    subst z
    rw [h1] at e
    cases e
    exact n l1
  have un : Un X.fs [] H (upd H p o2) s.heap s.heap :=
    { keep := fun b o e _ _ _ => e
      slot := fun b o e _ _ _ => ⟨o.slots, e⟩
      free := fun b o e n _ => by rw [upd_ne (fun z => by rw [z, h1] at n; cases n)]; exact n
      there := fun b o e _ => ⟨o, e⟩
      tups := fun b xs e => by rw [upd_ne (ne e id)]; exact e
      frzs := fun b o u e => by rw [upd_ne (ne e id)]; exact e
      tbls := fun b ps e => ⟨#[], by rw [upd_ne (ne e id), e]; simp⟩ }
  have hok : HOk X.prog X.w (upd H p o2) s.heap := fun b u e => by
    by_cases hb : b = p
    · subst hb
      rw [upd_same] at e
      cases e
      exact ok
    · rw [upd_ne hb] at e
      exact (I.hok b u e).stay (fun _ _ _ e => e) (fun c e => by rw [upd_ne (ne e id)]; exact e) fun c xs e => by rw [upd_ne (ne e id)]; exact e
  exact I.un (t' := s.toks) un hok
/-- small numbers -/
def Few (ns : List Int) : Prop := ns.length ≤ sizeLine ∧ ∀ z ∈ ns, 0 ≤ z ∧ z < 1000
theorem RndP.stay {a : Addr} {h1 h2 : Heap} (x : RndP a h1) (k : ∀ o, h1.get? a = some o → h2.get? a = some o) : RndP a h2 := by
  obtain ⟨vs, n, ns, e, r⟩ := x
  exact ⟨vs, n, ns, k _ e, r⟩
theorem ints_vals : ∀ {vs : List Value} {ns : List Int}, Vals (ns.map V.int) vs → IntsAre vs ns := fun h => h.ints
theorem Inv.open_ (I : Inv X pins σ H s) (h : H p = some (RndO p)) : ∃ ns, Few ns ∧ Inv X pins σ (upd H p (.lst (ns.map V.int))) s := by
  have ok : ObjOk X.prog X.w H s.heap p (.ext (RndP p)) := I.hok p _ h
  obtain ⟨⟨vs, n, ns, e, r, l, z⟩, _, _⟩ := ok
  refine ⟨ns, ⟨l, z⟩, DW.Inv.retell I h trivial ⟨by rw [List.length_map]; exact l, vs.toList, n, vals_ints r, ?_⟩⟩
  rw [Array.toArray_toList]
  exact e
theorem Inv.hide (I : Inv X pins σ H s) {ns : List Int} (h : H p = some (.lst (ns.map V.int))) (few : Few ns) : Inv X pins σ (upd H p (RndO p)) s := by
  have ok : ObjOk X.prog X.w H s.heap p (.lst (ns.map V.int)) := I.hok p _ h
  obtain ⟨l, its, n, r, e⟩ := ok
  refine DW.Inv.retell I h trivial ⟨⟨its.toArray, n, ns, e, ?_, few.1, few.2⟩, ⟨_, e⟩, fun h1 h2 x k => x.stay k⟩
  show IntsAre its.toArray.toList ns
  exact ints_vals r
theorem upd_back {o : HO} (h : H p = some o) : ∀ {u : HO}, upd (upd H p u) p o = H := fun {u} => by
  funext b
  by_cases hb : b = p
  · subst hb; rw [upd_same, h]
  · rw [upd_ne hb, upd_ne hb]
/-- a block, run where the list is told of; told of as little behind it as ahead -/
def endV (p : Addr) (D : Ends) : Ends where
  nx := fun σ' H' => ∃ ns, Few ns ∧ H' p = some (.lst (ns.map V.int)) ∧ D.nx σ' (upd H' p (RndO p))
  rt := fun v H' => ∃ ns, Few ns ∧ H' p = some (.lst (ns.map V.int)) ∧ D.rt v (upd H' p (RndO p))
  bk := fun σ' H' => ∃ ns, Few ns ∧ H' p = some (.lst (ns.map V.int)) ∧ D.bk σ' (upd H' p (RndO p))
  ct := fun σ' H' => ∃ ns, Few ns ∧ H' p = some (.lst (ns.map V.int)) ∧ D.ct σ' (upd H' p (RndO p))
def tView (t : TS) : TS := fun D σ H => ∃ p, H p = some (RndO p) ∧ ∀ ns, Few ns → t (endV p D) σ (upd H p (.lst (ns.map V.int)))
theorem pss_view {body : List Stmt} {t : TS} (h : PSs X body t) : PSs X body (tView t) := by
  refine ⟨fun pins s σ H D I ⟨p, hp, q⟩ => ?_⟩
  obtain ⟨ns, few, I1⟩ := Inv.open_ I hp
  refine wpAny_mono (h.run pins s σ _ _ I1 (q ns few)) (fun f s1 z => ?_) fun _ _ z => z
  cases f with
  | next => obtain ⟨σ2, H2, J, ms, fm, e, q2⟩ := z; exact ⟨σ2, _, Inv.hide J e fm, q2⟩
  | brk => obtain ⟨σ2, H2, J, ms, fm, e, q2⟩ := z; exact ⟨σ2, _, Inv.hide J e fm, q2⟩
  | cont => obtain ⟨σ2, H2, J, ms, fm, e, q2⟩ := z; exact ⟨σ2, _, Inv.hide J e fm, q2⟩
  | ret u => obtain ⟨v, σ2, H2, J, rv, ms, fm, e, q2⟩ := z; exact ⟨v, σ2, _, Inv.hide J e fm, rv, q2⟩
end
end DW

end
end
section
set_option Elab.async false
set_option linter.all false
set_option maxRecDepth 100000
set_option maxHeartbeats 4000000
noncomputable section
namespace DW
open PySem PySem.Spec PyProof.Rows L2
open SX (S S_tl S_len S_cat)
section
variable {X : Cx} {W : WX} {md : Bool} {e a b c : Expr} {es : List Expr} {t ta tb tc te : TE} {tr : TA} {m ma mb mc : ME} {mr : MA} {pos : Pos} {x : Str} {pos' : Pos}
/-! ### if draws: return draws.pop(); return 0 -/
def sNext (i : Nat) : MS := fun ρ => match ρ[i]? with
  | some (some .rnd) => .pick fun n => .rt (.int (n : Int))
  | _ => .stuck
theorem few_pop {ns : List Int} {z : Int} (h : Few ns) (hz : ns[ns.length - 1]? = some z) : Few ns.dropLast ∧ ∃ n : Nat, n < top1000 ∧ z = (n : Int) := by
  refine ⟨⟨Nat.le_trans (by rw [List.length_dropLast]; omega) h.1, fun y hy => h.2 y (List.dropLast_subset _ hy)⟩, z.toNat, ?_, ?_⟩
  · have := h.2 z (List.mem_of_getElem? hz)
    show z.toNat < 1000
    omega
  · have := h.2 z (List.mem_of_getElem? hz)
    omega
theorem bss_next {i : Nat} {d : Str} {p0 p1 p2 cp rp zp kp : Pos} {j : Nat} (hx0 : PE X (.Name d p0) (tVar i)) (hx : PE X (.Name d p1) (tVar i))
    (he : ∀ whole, isTrue (.Name d p0) X.env whole = (do let v ← whole; standAt (Expr.Name d p0).pos; holding [v] (truthy v)) := by intro _; rfl)
    (hbase : attributeBase (.Name d p1) "pop" X.env (eval (.Name d p1) X.env) = eval (.Name d p1) X.env := by rfl) (hline : (p2.endLine == cp.line) = true := by rfl) :
    BSs X W [.If (.Name d p0) [.Return (some (.Call (.Attribute (.Name d p1) "pop" p2) [] [] cp)) rp] [] pos, .Return (some (.Constant (.int 0) j kp)) zp]
      (tView (tSeq (tIfS (fun σ H Q => tVar i σ H fun x H' => ∃ k, TruV X.K x H' k ∧ Q k H') (tRet (tBM0 X.K "list" rPop (tVar i))) tNext) (tRet (tC (.int 0))))) (sNext i) := by
  refine ⟨pss_view (pss_cons (ps_if (pt_truth hx0 he) (pss_one (ps_ret (pe_bm0 PySem.F.plainAttrs_list PySem.F.slot_list_pop PySem.F.type_list_pop mt_pop hx hbase hline))) pss_nil) (pss_one (ps_ret pe_int))), fun Hs H0s σ H H0 ρ D rl p => ?_⟩
  unfold sNext at p
  split at p
  · rename_i e1
    obtain ⟨q, h1, h2⟩ := rl.rnd _ e1
    have back : ∀ {u : HO}, upd (upd H q u) q (RndO q) = H := fun {u} => upd_back (rl.sub _ _ h2)
    have done : ∀ n : Nat, n < top1000 → D.rt (.int (n : Int)) H := fun n hn => p n hn _ H H0 rl.fr (.int _)
    refine ⟨q, rl.sub _ _ h2, fun ns few => ?_⟩
    refine ⟨.ref q, h1, !(ns.map V.int).isEmpty, .inl ⟨_, .inl (.inl upd_same), rfl⟩, ?_⟩
    cases ns with
    | nil =>
      refine ⟨[], few, upd_same, ?_⟩
      rw [back]
      exact done 0 (by decide)
    | cons z zs =>
      obtain ⟨y, hy⟩ : ∃ y, (z :: zs)[(z :: zs).length - 1]? = some y := ⟨_, List.getElem?_eq_getElem (by rw [List.length_cons]; omega)⟩
      obtain ⟨f2, n, hn, rfl⟩ := few_pop few hy
      refine ⟨.ref q, h1, .inl ⟨rfl, _, .inl (.inl upd_same)⟩, q, _, .int (n : Int), rfl, rfl, upd_same, ?_, ?_⟩
      · rw [List.getElem?_map, List.length_map, hy]; rfl
      · refine ⟨(z :: zs).dropLast, f2, ?_, ?_⟩
        · rw [upd_same, List.map_dropLast]
        · have e3 : upd (upd (upd H q (.lst (((z :: zs)).map V.int))) q (.lst (((z :: zs)).map V.int).dropLast)) q (RndO q) = H := by
            funext bb
            by_cases hb : bb = q
            · subst hb; rw [upd_same]; exact (rl.sub _ _ h2).symm
            · rw [upd_ne hb, upd_ne hb, upd_ne hb]
          rw [e3]
          exact done n hn
  · exact False.elim p
/-! ### defs whose first parameter is such a list -/
def spR (K : PySem.W.Frag) (mg : Str → Option Value) (n : Nat) (f : List D → R D) : Sp := fun vs H Q E => ∃ H0 ds p rest, Same H0 H ∧ vs = .ref p :: rest ∧ H0 p = some (RndO p) ∧ DpAll K H0 rest ds ∧ ds.length = n ∧ Post (Dp K) K mg true H H0 (f ds) Q E
structure DefR (P : Program) (w : World) (K : PySem.W.Frag) (mg : Str → Option Value) (base : Heap) (x : Str) (ps : List Str) (k n : Nat) (f : List D → R D) : Prop where
  ex : ∃ (a : Addr) (fd : FuncData), FnOk P w K mg base (L2.CX P w) k a fd ps (spR K mg n f) ∧ mg x = some (.ref a) ∧ PySem.W.keepIn K (.ref a) = true ∧ L2.Binds K fd ps []
def mCallR (i n : Nat) (f : List D → R D) (r : MA) : ME := fun ρ => match ρ[i]? with
  | some (some .rnd) => (r ρ).bind fun ds => if ds.length = n then f ds else .stuck
  | _ => .stuck
theorem be_callR {i : Nat} {d : Str} {pd p : Pos} {ps : List Str} {k j n : Nat} {f : List D → R D} (F : DefR X.prog X.w X.K X.mg X.base x ps k n f) (hr : Room j X.A) (hk : k ≤ j) (hg : Gl X x) (tk : Takes X W) (hx : PE X (.Name d pd) (tVar i)) (ha : BA X W true es tr mr)
    (hd : (x == ("__debug__" : Str)) = false := by decide) (he : starEach (.Name d pd :: es) X.env = (false, eval (.Name d pd) X.env) :: starEach es X.env := by rfl) (hpl : (backTo pos (starEach es X.env)).any (·.1) = false := by rfl) :
    BE X W true (.Call (.Name x p) (.Name d pd :: es) [] pos) (tCallS (spR X.K X.mg n f) (WE W) (tCons (tVar i) tr)) (mCallR i n f mr) := by
  obtain ⟨a, fd, h1, h2, h3, h4⟩ := F.ex
  refine ⟨pe_callS h1 (hr.mono hk) hg h2 h3 h4 (fun σ => passAt tk σ) (pa_cons hx ha.pe he) hd he hpl, fun Hs H0s σ H H0 ρ Q rl p => ?_⟩
  unfold mCallR at p
  split at p
  · rename_i e1
    obtain ⟨q, g1, g2⟩ := rl.rnd _ e1
    refine ⟨.ref q, g1, ha.ev Hs H0s σ H H0 ρ _ rl ((Post.bind p).imp ?_)⟩
    rintro vs H1 ⟨ds, H01, _, f1, x1, p1⟩
    split at p1
    · rename_i hl
      exact ⟨H01, ds, q, vs, f1.sb, rfl, f1.ez _ _ g2, x1, hl, p1⟩
    · exact False.elim p1
  · exact False.elim p
def runDefR (n : Nat) (m : MS) : List D → R D := fun ds => fin (m (some .rnd :: startD (n - 1) ds))
end
section
variable {P : Program} {w : World} {K : PySem.W.Frag} {mg : Str → Option Value} {base : Heap}
theorem startR_eq (n : Nat) (ds : List D) : some SD.rnd :: startD (n - 1) ds = startS n (.rnd :: ds.map SD.sh) := by
  unfold startD startS
  rw [List.map_cons, List.map_map, List.length_cons, List.length_map, Nat.sub_sub, Nat.add_comm 1]
  rfl
theorem mk_defR {x : Str} {st : Stmt} {N ps : List Str} {k n : Nat} {mb : MS} (F : FD K mg x st) (S : FnScope N ps (defScope st)) (hn : ps.length ≤ N.length) (hp : ps.length = n + 1)
    (hb : ∀ (kV doc pm : Value) (an : Option Addr) (cdv ct : Value) (us : List Value), us.length = ps.length → bindArgs (PySem.W.fnOf x x (defArgs st) (defBody st) (defScope st) .none kV doc pm an cdv ct) ⟨us, []⟩ = pure (ps.zip us))
    (hbody : ∀ (f : Addr) (cdv : Value) (A : Around) (outer : List Env) (s : Shared) (H : Hp) (E : XK), Room k (A.deeper (envOfC x (defScope st) s.heap.objs.size f cdv)) →
      ∃ t, BSs (cxOf (L2.CX P w) P w K mg base N x (defScope st) f cdv A outer s H E) (fun cls d _ H => E cls d H) (defBody st) t mb) : DefR P w K mg base x ps (k + 1) n (runDefR N.length mb) := by
  obtain ⟨f, fd, F, g⟩ := F.ex
  refine ⟨f, fd, F.okX S (fun vs H Q E h => ?_) (fun cdv A outer s H vs Q E hr h => ?_), g, F.kp, F.binds hb⟩
  · obtain ⟨H0, ds, p, rest, _, rfl, _, h1, h2, _⟩ := h
    rw [List.length_cons, DpAll.length h1, h2, hp]
  · obtain ⟨H0, ds, p, rest, sm, rfl, h0, h1, h2, pp⟩ := h
    obtain ⟨t, ht⟩ := hbody f cdv A outer s H E hr
    refine ⟨t, ht.pe, ht.ev H H0 (L2.start N (.ref p :: rest)) H H0 (some .rnd :: startD (N.length - 1) ds) _ ?_ (post_fin pp)⟩
    rw [startR_eq]
    exact start_relS sm (.cons (.rnd h0) (ArgsOk.dp h1)) (by rw [List.length_cons, List.length_map]; omega)
/-! ### defs that hand over a new list -/
def spN (K : PySem.W.Frag) (mg : Str → Option Value) (n : Nat) (f : List D → R (List D)) : Sp := fun vs H Q E => ∃ H0 ds, Same H0 H ∧ DpAll K H0 vs ds ∧ ds.length = n ∧ PostN K mg H H0 (f ds) Q E
structure DefN (P : Program) (w : World) (K : PySem.W.Frag) (mg : Str → Option Value) (base : Heap) (x : Str) (ps : List Str) (k : Nat) (f : List D → R (List D)) : Prop where
  ex : ∃ (a : Addr) (fd : FuncData), FnOk P w K mg base (L2.CX P w) k a fd ps (spN K mg ps.length f) ∧ mg x = some (.ref a) ∧ PySem.W.keepIn K (.ref a) = true ∧ L2.Binds K fd ps []
def runDefN (n : Nat) (m : MS) : List D → R (List D) := fun ds => finN (m (startD n ds))
theorem mk_defN {x : Str} {st : Stmt} {N ps : List Str} {k : Nat} {mb : MS} (F : FD K mg x st) (S : FnScope N ps (defScope st)) (hn : ps.length ≤ N.length)
    (hb : ∀ (kV doc pm : Value) (an : Option Addr) (cdv ct : Value) (us : List Value), us.length = ps.length → bindArgs (PySem.W.fnOf x x (defArgs st) (defBody st) (defScope st) .none kV doc pm an cdv ct) ⟨us, []⟩ = pure (ps.zip us))
    (hbody : ∀ (f : Addr) (cdv : Value) (A : Around) (outer : List Env) (s : Shared) (H : Hp) (E : XK), Room k (A.deeper (envOfC x (defScope st) s.heap.objs.size f cdv)) →
      ∃ t, BSs (cxOf (L2.CX P w) P w K mg base N x (defScope st) f cdv A outer s H E) (fun cls d _ H => E cls d H) (defBody st) t mb) : DefN P w K mg base x ps (k + 1) (runDefN N.length mb) := by
  obtain ⟨f, fd, F, g⟩ := F.ex
  refine ⟨f, fd, F.okX S (fun vs H Q E h => ?_) (fun cdv A outer s H vs Q E hr h => ?_), g, F.kp, F.binds hb⟩
  · obtain ⟨H0, ds, _, h1, h2, _⟩ := h
    rw [DpAll.length h1, h2]
  · obtain ⟨H0, ds, sm, h1, h2, p⟩ := h
    obtain ⟨t, ht⟩ := hbody f cdv A outer s H E hr
    exact ⟨t, ht.pe, ht.ev H H0 (L2.start N vs) H H0 (startD N.length ds) _ (start_rel sm h1 (by omega)) (post_finN p)⟩
end
section
variable {X : Cx} {W : WX} {md : Bool} {e a b c : Expr} {es : List Expr} {t ta tb tc te : TE} {tr : TA} {m ma mb mc : ME} {mr : MA} {pos : Pos} {x : Str} {pos' : Pos}
def mCallN (n : Nat) (f : List D → R (List D)) (r : MA) : MA := fun ρ => (r ρ).bind fun ds => if ds.length = n then f ds else .stuck
theorem PostN.step {K : PySem.W.Frag} {mg : Str → Option Value} {H H0 H' H0' : Hp} {r : R (List D)} {Q : VK} {E : XK} (h : PostN K mg H H0 r Q E) (f : Fr H H0 H' H0') : PostN K mg H' H0' r Q E := by
  induction r with
  | stuck => exact h
  | ok ds => exact fun p vs H2 H02 g n n0 hp x => h p vs H2 H02 (f.trans g) (f.ex.free n) n0 hp x
  | err e => exact fun H2 H02 g => h H2 H02 (f.trans g)
  | pick k ih => exact fun n hn => ih n (h n hn)
theorem PostN.bind {K : PySem.W.Frag} {mg : Str → Option Value} {H H0 : Hp} {α β : Type} {rel : Hp → β → α → Prop} {r : R α} {f : α → R (List D)} {Q : VK} {E : XK} (h : PostN K mg H H0 (r.bind f) Q E) :
    Post rel K mg md H H0 r (fun v H' => ∃ d H0', Fr H H0 H' H0' ∧ rel (bif md then H0' else H') v d ∧ PostN K mg H' H0' (f d) Q E) E := by
  induction r with
  | stuck => exact h
  | ok d => exact fun v H2 H02 g x => ⟨d, H02, g, x, PostN.step h g⟩
  | err e => exact h
  | pick k ih => exact fun n hn => ih n (h n hn)
theorem bn_call {p : Pos} {ps : List Str} {k j n : Nat} {f : List D → R (List D)} (F : DefN X.prog X.w X.K X.mg X.base x ps k f) (hr : Room j X.A) (hk : k ≤ j) (hg : Gl X x) (tk : Takes X W) (ha : BA X W true (e :: es) tr mr) (hn : ps.length = n := by rfl)
    (hd : (x == ("__debug__" : Str)) = false := by decide) (he : starEach (e :: es) X.env = (false, eval e X.env) :: starEach es X.env := by rfl) (hpl : (backTo pos (starEach es X.env)).any (·.1) = false := by rfl) :
    BN X W (.Call (.Name x p) (e :: es) [] pos) (tCallS (spN X.K X.mg n f) (WE W) tr) (mCallN n f mr) := by
  subst hn
  obtain ⟨a, fd, h1, h2, h3, h4⟩ := F.ex
  refine ⟨pe_callS h1 (hr.mono hk) hg h2 h3 h4 (fun σ => passAt tk σ) ha.pe hd he hpl, fun Hs H0s σ H H0 ρ Q rl p => ha.ev Hs H0s σ H H0 ρ _ rl ((PostN.bind p).imp ?_)⟩
  rintro vs H1 ⟨ds, H01, f1, x1, p1⟩
  split at p1
  · rename_i hl
    exact ⟨H01, ds, f1.sb, x1, hl, p1⟩
  · exact False.elim p1
/-- return x, x an own list -/
def sRetOwn (i : Nat) : MS := fun ρ => match ρ[i]? with
  | some (some (.own ds)) => .rto ds
  | _ => .stuck
theorem bs_retOwn {i : Nat} {p : Pos} (hx : PE X (.Name x p) (tVar i)) : BS X W (.Return (some (.Name x p)) pos) (tRet (tVar i)) (sRetOwn i) := by
  refine ⟨ps_ret hx, fun Hs H0s σ H H0 ρ D rl p => ?_⟩
  unfold sRetOwn at p
  split at p
  · rename_i ds e1
    obtain ⟨q, vs, h1, h2, h3, h4, h5⟩ := rl.own _ _ e1
    exact ⟨.ref q, h1, p q vs H H0 rl.fr h2 h3 h4 h5⟩
  · exact False.elim p
/-- x.reverse() -/
def sRev (i : Nat) : MS := fun ρ => match ρ[i]? with
  | some (some (.own ds)) => .nx (ρ.set i (some (.own ds.reverse)))
  | _ => .stuck
theorem bs_rev {i : Nat} {p0 p1 cpos : Pos} (hx : PE X (.Name x p0) (tVar i)) (hbase : attributeBase (.Name x p0) "reverse" X.env (eval (.Name x p0) X.env) = eval (.Name x p0) X.env := by rfl) (hline : (p1.endLine == cpos.line) = true := by rfl)
    (hs : swapsWith (.Call (.Attribute (.Name x p0) "reverse" p1) [] [] cpos) none pos.line X.env = pure false := by rfl) :
    BS X W (.Expr (.Call (.Attribute (.Name x p0) "reverse" p1) [] [] cpos) pos) (tDrop (tBM0 X.K "list" rReverse (tVar i))) (sRev i) := by
  refine ⟨ps_expr (pe_bm0 PySem.F.plainAttrs_list PySem.F.slot_list_reverse PySem.F.type_list_reverse mt_reverse hx hbase hline) hs, fun Hs H0s σ H H0 ρ D rl p => ?_⟩
  unfold sRev at p
  split at p
  · rename_i ds e1
    obtain ⟨q, vs, h1, h2, h3, h4, h5⟩ := rl.own _ _ e1
    refine ⟨.ref q, h1, .inl ⟨rfl, _, .inl (.inl h4)⟩, q, vs, rfl, rfl, h4, ?_⟩
    exact p σ _ H0 (rl.write e1 h1 (DpAll.reverse h5))
  · exact False.elim p
/-- x.extend([..]) -/
def sExt (i : Nat) (r : MA) : MS := fun ρ => match ρ[i]? with
  | some (some (.own ds)) => O.of (r ρ) ρ fun es => if ds.length + es.length ≤ sizeLine then .nx (ρ.set i (some (.own (ds ++ es)))) else .stuck
  | _ => .stuck
theorem bs_ext {i : Nat} {p0 p1 cpos : Pos} (h : BN X W e t mr) (hx : PE X (.Name x p0) (tVar i)) (hbase : attributeBase (.Name x p0) "extend" X.env (eval (.Name x p0) X.env) = eval (.Name x p0) X.env := by rfl)
    (hall : ((((backTo cpos (starEach (e :: []) X.env)).all fun x => !x.fst) && (backToKw cpos (keywordEach [] X.env)).all fun x => x.fst.isSome) && decide (((e :: []).length + ([] : List Keyword).length + if ([] : List Keyword).isEmpty = true then 0 else 1) < 30)) = true := by rfl)
    (hline : (p1.endLine == cpos.line) = true := by rfl) (he : starEach (e :: []) X.env = (false, eval e X.env) :: starEach [] X.env := by rfl) (hpl : ((backTo cpos (starEach [] X.env)).any fun x => x.fst) = false := by rfl)
    (hs : swapsWith (.Call (.Attribute (.Name x p0) "extend" p1) [e] [] cpos) none pos.line X.env = pure false := by rfl) :
    BS X W (.Expr (.Call (.Attribute (.Name x p0) "extend" p1) [e] [] cpos) pos) (tDrop (tBM X.K "list" rExtend (tVar i) (tCons t tNil))) (sExt i mr) := by
  refine ⟨ps_expr (pe_bm PySem.F.plainAttrs_list PySem.F.slot_list_extend PySem.F.type_list_extend mt_extend hx (pa_cons h.pe pa_nil he) hbase hall hline he hpl) hs, fun Hs H0s σ H H0 ρ D rl p => ?_⟩
  unfold sExt at p
  split at p
  · rename_i ds e1
    obtain ⟨q, vs, h1, h2, h3, h4, h5⟩ := rl.own _ _ e1
    refine ⟨.ref q, h1, .inl ⟨rfl, _, .inl (.inl h4)⟩, h.ev Hs H0s σ H H0 ρ _ rl ?_⟩
    generalize mr ρ = r at p
    induction r with
    | stuck => exact p
    | pick k ih => exact fun n hn => ih n (p n hn)
    | err z => exact fun H' H0' f => p σ H' H0' (rl.step f)
    | ok es =>
      intro b zs H' H0' f n n0 hb xz
      have p : PostS X.K X.mg (excOf X) Hs H0s (if ds.length + es.length ≤ sizeLine then .nx (ρ.set i (some (.own (ds ++ es)))) else .stuck) D W := p
      split at p
      · rename_i hl
        refine ⟨q, b, vs, zs, rfl, rfl, f.ex _ _ h4, hb, by rw [DpAll.length h5, DpAll.length xz]; exact hl, ?_⟩
        exact p σ _ H0' ((rl.step f).write e1 h1 (DpAll.append (dpAll_mono f.ez _ _ h5) xz))
      · exact False.elim p
  · exact False.elim p
/-! ### an own list of small numbers, given away -/
def smallD (ds : List D) : Bool := ds.all fun d => match d with | .int z => decide (0 ≤ z ∧ z < 1000) | _ => false
theorem smallD_ints : ∀ {ds : List D}, smallD ds = true → ∃ ns : List Int, ds = ns.map PyData.int ∧ ∀ z ∈ ns, 0 ≤ z ∧ z < 1000
  | [], _ => ⟨[], rfl, fun _ h => nomatch h⟩
  | d :: ds, h => by
    unfold smallD at h
    rw [List.all_cons] at h
    obtain ⟨h1, h2⟩ := Bool.and_eq_true_iff.mp h
    obtain ⟨ns, e, hn⟩ := smallD_ints (ds := ds) h2
    cases d with
    | int z =>
      have h1 : decide (0 ≤ z ∧ z < 1000) = true := h1
      refine ⟨z :: ns, by rw [e]; rfl, fun y hy => ?_⟩
      rcases List.mem_cons.mp hy with rfl | hy
      · exact of_decide_eq_true h1
      · exact hn y hy
    | _ => cases h1
def sGive (i : Nat) (mx : MS) : MS := fun ρ => match ρ[i]? with
  | some (some (.own ds)) => if smallD ds = true ∧ ds.length ≤ sizeLine then mx (ρ.set i (some .rnd)) else .stuck
  | _ => .stuck
def tGive (t : TS) : TS := fun D σ H => ∃ p ns, H p = some (.lst (ns.map V.int)) ∧ Few ns ∧ t D σ (upd H p (RndO p))
theorem pss_give {body : List Stmt} {t : TS} (h : PSs X body t) : PSs X body (tGive t) :=
  ⟨fun pins s σ H D I ⟨p, ns, hp, few, q⟩ => h.run pins s σ _ D (Inv.hide I hp few) q⟩
theorem Rel.give {K : PySem.W.Frag} {ea : EA} {Hs H0s H H0 : Hp} {σ : L2.St} {ρ : En} (h : Rel K ea Hs H0s σ H H0 ρ) {i : Nat} {ds : List D} {p : Addr} (e : ρ[i]? = some (some (.own ds))) (hp : σ[i]? = some (some (.ref p))) :
    Rel K ea Hs H0s σ (upd H p (RndO p)) (upd H0 p (RndO p)) (ρ.set i (some .rnd)) := by
  obtain ⟨p', vs, h1, h2, h3, h4, h5⟩ := h.own i ds e
  have ep : p' = p := by rw [h1] at hp; injection hp with hp; injection hp with hp; injection hp
  subst ep
  have ex : Same H0 (upd H0 p' (RndO p')) := Same.new h3
  have hne : ∀ {j : Nat} {y : SD}, (ρ.set i (some SD.rnd))[j]? = some (some y) → (y ≠ .rnd) → i ≠ j ∧ ρ[j]? = some (some y) := fun {j y} q ny => by
    by_cases hj : i = j
    · subst hj
      rw [List.getElem?_set, if_pos rfl] at q
      split at q
      · cases q; exact absurd rfl ny
      · cases q
    · rw [List.getElem?_set_ne hj] at q; exact ⟨hj, q⟩
  refine ⟨⟨fun b x q => ?_, h.fr.ez.trans ex, fun b x q => ?_, fun q z1 z2 => ?_⟩, by rw [List.length_set, h.len], fun j d q => ?_, fun j es q => ?_, fun j k es fs q hjk q1 q2 q3 q4 => ?_, fun j n fs q => ?_, fun j q => ?_⟩
  · have : b ≠ p' := fun z => by rw [z, h2] at q; cases q
    rw [upd_ne this]; exact h.fr.ex b x q
  · by_cases hb : b = p'
    · subst hb; rw [upd_same] at q ⊢; exact q
    · rw [upd_ne hb] at q ⊢; exact h.fr.sb b x q
  · have : q ≠ p' := fun z => z2 (by rw [z]; exact h2)
    rw [upd_ne this]
    exact h.fr.ow q z1 z2
  · obtain ⟨_, q⟩ := hne q (fun z => nomatch z)
    obtain ⟨v, a, b⟩ := h.sh j d q
    exact ⟨v, a, dp_mono ex _ _ b⟩
  · obtain ⟨hj, q⟩ := hne q (fun z => nomatch z)
    obtain ⟨p2, vs', a1, a2, a3, a4, a5⟩ := h.own j es q
    have np : p2 ≠ p' := fun z => h.dis i j ds es p' hj e q h1 (z ▸ a1)
    exact ⟨p2, vs', a1, a2, by rw [upd_ne np]; exact a3, by rw [upd_ne np]; exact a4, dpAll_mono ex _ _ a5⟩
  · exact h.dis j k es fs q hjk (hne q1 (fun z => nomatch z)).2 (hne q2 (fun z => nomatch z)).2 q3 q4
  · obtain ⟨_, q⟩ := hne q (fun z => nomatch z)
    exact ⟨(h.exc j n fs q).1, ea.mono _ _ _ _ ex (h.exc j n fs q).2⟩
  · by_cases hj : i = j
    · subst hj; exact ⟨p', h1, upd_same⟩
    · rw [List.getElem?_set_ne hj] at q
      obtain ⟨p2, a1, a2⟩ := h.rnd j q
      exact ⟨p2, a1, ex _ _ a2⟩
theorem bss_give (i : Nat) {body : List Stmt} {t : TS} {mx : MS} (h : BSs X W body t mx) : BSs X W body (tGive t) (sGive i mx) := by
  refine ⟨pss_give h.pe, fun Hs H0s σ H H0 ρ D rl p => ?_⟩
  unfold sGive at p
  split at p
  · rename_i ds e1
    split at p
    · rename_i hh
      obtain ⟨q, vs, h1, h2, h3, h4, h5⟩ := rl.own _ _ e1
      obtain ⟨ns, e2, hn⟩ := smallD_ints hh.1
      subst e2
      have e3 := DpAll.ints h5
      subst e3
      refine ⟨q, ns, h4, ⟨by rw [← List.length_map (f := PyData.int)]; exact hh.2, hn⟩, h.ev Hs H0s σ _ _ _ D (rl.give e1 h1) p⟩
    · exact False.elim p
  · exact False.elim p
end
end DW

end
end
section
set_option Elab.async false
set_option linter.all false
set_option maxRecDepth 100000
set_option maxHeartbeats 4000000
noncomputable section
namespace DW
open PySem PySem.Spec PyProof.Rows L2 L2H
open SX (S S_tl S_len S_cat)
/-! ### a def that is handed the caught error -/
section
variable {P : Program} {w : World} {K : PySem.W.Frag} {mg : Str → Option Value} {base : Heap}
theorem enter_hot {x y : Str} {st : Stmt} {f : Addr} {fd : FuncData} {N : List Str} {k : Nat} {A : Around} {outer : List Env} {s : Shared} {H : Hp} {Q : VK} {E : XK} {p : Addr × Obj}
    (F : Fun K x x st f fd) (S : FnScope N [y] (defScope st)) (room : RoomH (k + 1) A) (pin : PinOk outer H s p) (en : Env0 P w K mg base A outer s H) (bi : BindsTo s fd ⟨[.ref p.1], []⟩ [(y, .ref p.1)])
    (body : ∀ cdv : Value, RoomH k (A.deeper (envOfC x (defScope st) s.heap.objs.size f cdv)) →
      ∃ t, PSs (cxH (L2.CX P w) P w K mg base N x (defScope st) f cdv A outer s H E p) (defBody st) t ∧ t { nx := fun _ H' => Q .non H', rt := Q } (L2.start N [.ref p.1]) H) :
    codeAny (model P w) A (.call (.ref f) ⟨[.ref p.1], []⟩) (CR (L2.CX P w) outer P w H s Q E) s := by
  obtain ⟨oc, od, kV, doc, pm, an, cdv, ct, osl, rfl, lk, hcd⟩ := F.ex
  have inK := en.mod.kin.keeps fun b o q => (en.bs b o q).1
  have noLim := en.mod.nolimit.keeps fun b o q => (en.bs b o q).1
  have kinds : ∀ z ∈ [(y, Value.ref p.1)], (defScope st).names.lookup z.1 = some .local ∨ ((defScope st).names.lookup z.1 = some .cell ∧ ((cellsFrom (s.heap.objs.size + 1) (defScope st).names []).lookup z.1).isSome = true) := by
    intro z hz
    cases List.mem_singleton.mp hz
    exact (S.par y List.mem_cons_self).imp id fun q => ⟨q, PySem.W.cellsFrom_some _ _ _ (.inl q)⟩
  refine codeAny_call_function room.depth (inK _ _ lk) rfl S.co S.gen rfl (PySem.W.codeRec_of inK hcd) (bi _ _ _ _ ?_)
  refine wpAny_newFunctionEnv_cells S.kind kinds ?_
  rintro env rfl s1 xin
  refine ⟨noLim.keeps xin.toInCall.keep, codeAny_func ?_⟩
  obtain ⟨t, run, want⟩ := body cdv (room.deeper _)
  have I1 := inv_startH (CX := L2.CX P w) (E := E) (f := f) (cd := cdv) (qual := x) (vs := [.ref p.1]) (us := [.ref p.1]) S pin en rfl (.cons rfl .nil) xin
  refine wpAny_mono (run.run [] s1 _ H _ I1 want) ?_ fun _ _ q => q
  rintro (_ | _ | _ | u) s2 z
  · obtain ⟨σ2, H2, J, q⟩ := z
    exact ⟨.non, H2, J.os, J.bare, J.base, J.hok, rfl, q⟩
  · obtain ⟨_, _, _, q⟩ := z; exact q.elim
  · obtain ⟨_, _, _, q⟩ := z; exact q.elim
  · obtain ⟨v, σ2, H2, J, rv, q⟩ := z
    exact ⟨v, H2, J.os, J.bare, J.base, J.hok, rv, q⟩
theorem cx_nev {P : Program} {w : World} {outer : List Env} {H : Hp} {s s' : Shared} {e : Value} (h : L2.CX P w outer H s (fun _ _ _ => False) e s') : False := by
  obtain ⟨_, _, _, _, _, _, _, _, _, _, _, _, z⟩ := h
  exact z
structure DefX (P : Program) (w : World) (K : PySem.W.Frag) (mg : Str → Option Value) (base : Heap) (x : Str) (k : Nat) (f : Str → List (Str × D) → R D) : Prop where
  ex : ∃ (a : Addr) (fd : FuncData) (y : Str), (∀ (A : Around) (outer : List Env) (s : Shared) (H H0 : Hp) (Q : VK) (p : Addr × Obj) (n : Str) (fs : List (Str × D)), RoomH k A → PinOk outer H s p → (∃ vs, p.2.data = .fields vs) → Env0 P w K mg base A outer s H → BindsTo s fd ⟨[.ref p.1], []⟩ [(y, .ref p.1)] →
      Same H0 H → (eaOf K mg p.1 p.2.cls p.2.dict).ok n fs H0 → Post (Dp K) K mg true H H0 (f n fs) Q (fun _ _ _ => False) → codeAny (model P w) A (.call (.ref a) ⟨[.ref p.1], []⟩) (CR (L2.CX P w) outer P w H s Q (fun _ _ _ => False)) s) ∧
    mg x = some (.ref a) ∧ PySem.W.keepIn K (.ref a) = true ∧ L2.Binds K fd [y] []
def runDefX (n : Nat) (m : MS) : Str → List (Str × D) → R D := fun nm fs => fin (m (some (.exc nm fs) :: List.replicate (n - 1) none))
theorem mk_defX {x y : Str} {st : Stmt} {N : List Str} {k : Nat} {mb : MS} (F : FD K mg x st) (S : FnScope N [y] (defScope st)) (hn : 1 ≤ N.length)
    (hb : ∀ (kV doc pm : Value) (an : Option Addr) (cdv ct : Value) (us : List Value), us.length = [y].length → bindArgs (PySem.W.fnOf x x (defArgs st) (defBody st) (defScope st) .none kV doc pm an cdv ct) ⟨us, []⟩ = pure ([y].zip us))
    (hbody : ∀ (f : Addr) (cdv : Value) (A : Around) (outer : List Env) (s : Shared) (H : Hp) (p : Addr × Obj), (∃ vs, p.2.data = .fields vs) → RoomH k (A.deeper (envOfC x (defScope st) s.heap.objs.size f cdv)) →
      ∃ t, BSs (cxH (L2.CX P w) P w K mg base N x (defScope st) f cdv A outer s H (fun _ _ _ => False) p) W0 (defBody st) t mb) : DefX P w K mg base x (k + 1) (runDefX N.length mb) := by
  obtain ⟨f, fd, F, g⟩ := F.ex
  refine ⟨f, fd, y, fun A outer s H H0 Q p n fs room pin hd en bi sm ok post => ?_, g, F.kp, F.binds hb⟩
  refine enter_hot F S room pin en bi fun cdv rm => ?_
  obtain ⟨t, ht⟩ := hbody f cdv A outer s H p hd rm
  refine ⟨t, ht.pe, ht.ev H H0 (L2.start N [.ref p.1]) H H0 (some (.exc n fs) :: List.replicate (N.length - 1) none) _ ?_ (post_fin post)⟩
  have e : some (SD.exc n fs) :: List.replicate (N.length - 1) none = startS N.length [SD.exc n fs] := rfl
  rw [e]
  exact start_relS sm (.cons (.exc ok) .nil) hn
end
theorem _root_.L2H.RoomH.units {k : Nat} {A : Around} (r : RoomH k A) : A.units + 64 < cLine := by have := r.un; omega
theorem roomX {k : Nat} {A A' : Around} (r : Room k A) (h1 : A'.depth = A.depth) (h2 : A'.units = A.units) : RoomH k A' := ⟨by rw [h1]; exact r.dp, by rw [h2]; exact r.un⟩
section
variable {X : Cx} {W : WX}
def mCallX (i : Nat) (f : Str → List (Str × D) → R D) : ME := fun ρ => match ρ[i]? with
  | some (some (.exc n fs)) => f n fs
  | _ => .stuck
theorem be_callX {i : Nat} {x d : Str} {pd p pos : Pos} {k j : Nat} {a : Addr} {oe : Obj} {pn : List (Addr × Obj)} {f : Str → List (Str × D) → R D} (F : DefX X.prog X.w X.K X.mg X.base x k f) (hr : RoomH j X.A) (hk : k ≤ j) (hf : ∃ vs, oe.data = .fields vs) (hg : Gl X x) (hx : PE X (.Name d pd) (tVar i))
    (hd : (x == ("__debug__" : Str)) = false := by decide) (he : starEach [.Name d pd] X.env = (false, eval (.Name d pd) X.env) :: starEach [] X.env := by rfl) (hpl : (backTo pos (starEach [] X.env)).any (·.1) = false := by rfl) (hpn : X.pn = (a, oe) :: pn := by rfl) :
    BE X W true (.Call (.Name x p) [.Name d pd] [] pos) (fun σ H Q => σ[i]? = some (some (.ref a)) ∧ ∃ H0 n fs, Same H0 H ∧ (eaOf X.K X.mg a oe.cls oe.dict).ok n fs H0 ∧ Post (Dp X.K) X.K X.mg true H H0 (f n fs) Q (fun _ _ _ => False)) (fun ρ => (mCallX i f ρ).quiet) := by
  obtain ⟨b, fd, y, h1, h2, h3, h4⟩ := F.ex
  refine ⟨⟨fun pins s σ H Q I ⟨e1, H0, n, fs, sm, ok, post⟩ => ?_⟩, fun Hs H0s σ H H0 ρ Q rl p => ?_⟩
  · refine wpAny_Call_Name_kw (ld_glob I hg h2 ?_ hd)
    have args : PA X [.Name d pd] (tCons (tVar i) tNil) := pa_cons hx pa_nil he
    refine PySem.W.callWith_K (h₀ := X.base) I.ok.mod.kin h3 (thn (args.run pos pins s σ H (fun vs H1 => vs = [.ref a] ∧ H1 = H) I ⟨.ref a, e1, rfl, rfl⟩) fun us s1 ⟨vs, H1, I1, r, ev, eH⟩ => ⟨I1.kIn, ?_⟩) he hpl
    subst ev eH
    cases r with
    | cons r1 r2 =>
      cases r2
      have r1 : _ = Value.ref a := r1
      subst r1
      have P1 := I1.pin (a, oe) (List.mem_append_left _ (by rw [hpn]; exact List.mem_cons_self))
      have pin : PinOk X.stack H1 s1 (a, oe) := ⟨P1.1, P1.2.1, fun hm => (List.mem_cons.mp (I1.stkSub a hm)).elim P1.2.2.1 P1.2.2.2.1, P1.2.2.2.2⟩
      have bi := h4 s1 [.ref a] I1.kIn rfl
      refine wpAny_call (codeAny_mono (h1 X.A X.stack s1 H1 H0 Q (a, oe) n fs (hr.mono hk) pin hf I1.env0 bi sm ok post) ?_)
      rintro (er | (_ | _ | _ | u)) s2 hq
      · exact (cx_nev hq).elim
      · exact hq.elim
      · exact hq.elim
      · exact hq.elim
      · exact I1.after hq
  · have ee : excOf X = eaOf X.K X.mg a oe.cls oe.dict := by unfold excOf; rw [hpn]
    rw [ee] at rl
    unfold mCallX at p
    split at p
    · rename_i n fs e1
      obtain ⟨e2, ok⟩ := rl.exc _ _ _ e1
      exact ⟨e2, H0, n, fs, rl.sub, ok, Post.quiet p⟩
    · exact False.elim p
end
end DW

end
end
section
set_option Elab.async false
set_option linter.all false
set_option maxRecDepth 100000
set_option maxHeartbeats 4000000
noncomputable section
namespace DW
open PySem PySem.Spec PyProof.Rows L2
open SX (S S_tl S_len S_cat)
section
variable {K : PySem.W.Frag} {mg : Str → Option Value} {md : Bool}
/-! ### in a list, in a tuple -/
def sameD : D → D → Bool
  | .int a, .int b => decide (a = b)
  | .str a, .str b => decide (a = b)
  | _, _ => false
def plainD : D → Bool
  | .int _ => true
  | .str _ => true
  | _ => false
def dInXB (d e : D) : R Bool := match e with
  | .list ds => if (plainD d && ds.all plainD) = true then .ok (ds.any (sameD d)) else .stuck
  | .tuple ds => if (plainD d && ds.all plainD) = true then .ok (ds.any (sameD d)) else .stuck
  | _ => dInB d e
def dInX (d e : D) : R D := (dInXB d e).bind fun k => .ok (.bool k)
def dNotInX (d e : D) : R D := (dInXB d e).bind fun k => .ok (.bool (!k))
theorem plain_flat {H : Hp} {v : V} {d : D} (x : Dp K H v d) (p : plainD d = true) : flatV v = true := by
  cases x <;> first | rfl | cases p
theorem plain_all {H : Hp} : ∀ {vs : List V} {ds : List D}, DpAll K H vs ds → ds.all plainD = true → vs.all flatV = true
  | _, _, .nil, _ => rfl
  | _, _, .cons x r, p => by
    rw [List.all_cons, Bool.and_eq_true] at p ⊢
    exact ⟨plain_flat x p.1, plain_all r p.2⟩
theorem plain_eq {H : Hp} {v w : V} {d e : D} (x : Dp K H v d) (y : Dp K H w e) (p : plainD d = true) (q : plainD e = true) : eqV w v = sameD d e := by
  cases x with
  | int i =>
    cases y with
    | int j =>
      show (j == i) = decide (i = j)
      rw [Bool.eq_iff_iff, beq_iff_eq, decide_eq_true_iff]
      exact ⟨fun h => h.symm, fun h => h.symm⟩
    | str z => rfl
    | _ => cases q
  | str i =>
    cases y with
    | str j =>
      show (j == i) = decide (i = j)
      rw [Bool.eq_iff_iff, beq_iff_eq, decide_eq_true_iff]
      exact ⟨fun h => h.symm, fun h => h.symm⟩
    | int z => rfl
    | _ => cases q
  | _ => cases p
theorem plain_in {H : Hp} {v : V} {d : D} (x : Dp K H v d) (p : plainD d = true) : ∀ {vs : List V} {ds : List D}, DpAll K H vs ds → ds.all plainD = true → inV v vs = ds.any (sameD d)
  | _, _, .nil, _ => rfl
  | _, _, .cons y r, q => by
    rw [List.all_cons, Bool.and_eq_true] at q
    show (eqV _ v || inV v _) = _
    rw [List.any_cons, plain_eq x y p q.1, plain_in x p r q.2]
theorem op2_inX : Op2 K mg md (fun x y H Q => rInA x y H Q ∨ rIn K false x y H Q) dInX := by
  intro x y d e H H0 Q E s hx hy p
  have xx := dp_md s hx
  have yy := dp_md s hy
  unfold dInX dInXB at p
  split at p
  · split at p
    · rename_i h
      obtain ⟨h1, h2⟩ := Bool.and_eq_true_iff.mp h
      cases yy with
      | lst a b => exact .inr ⟨_, _, rfl, .inl a, plain_flat xx h1, plain_all b h2, by rw [if_neg (by decide), plain_in xx h1 b h2]; exact post_here p s fun _ => .bl _⟩
    · exact False.elim p
  · split at p
    · rename_i h
      obtain ⟨h1, h2⟩ := Bool.and_eq_true_iff.mp h
      cases yy with
      | tup a b => exact .inr ⟨_, _, rfl, .inr a, plain_flat xx h1, plain_all b h2, by rw [if_neg (by decide), plain_in xx h1 b h2]; exact post_here p s fun _ => .bl _⟩
    · exact False.elim p
  · exact .inl (op2_in x y d e H H0 Q E s hx hy p)
theorem op2_notInX : Op2 K mg md (rIn K true) (fun d e => match e with
    | .list ds => dNotInX d (.list ds)
    | .tuple ds => dNotInX d (.tuple ds)
    | _ => .stuck) := by
  intro x y d e H H0 Q E s hx hy p
  have xx := dp_md s hx
  have yy := dp_md s hy
  dsimp only at p
  split at p
  · unfold dNotInX dInXB at p
    dsimp only at p
    split at p
    · rename_i h
      obtain ⟨h1, h2⟩ := Bool.and_eq_true_iff.mp h
      cases yy with
      | lst a b => exact ⟨_, _, rfl, .inl a, plain_flat xx h1, plain_all b h2, by rw [if_pos rfl, plain_in xx h1 b h2]; exact post_here p s fun _ => .bl _⟩
    · exact False.elim p
  · unfold dNotInX dInXB at p
    dsimp only at p
    split at p
    · rename_i h
      obtain ⟨h1, h2⟩ := Bool.and_eq_true_iff.mp h
      cases yy with
      | tup a b => exact ⟨_, _, rfl, .inr a, plain_flat xx h1, plain_all b h2, by rw [if_pos rfl, plain_in xx h1 b h2]; exact post_here p s fun _ => .bl _⟩
    · exact False.elim p
  · exact False.elim p
def dNotInS (d e : D) : R D := match e with
    | .list ds => dNotInX d (.list ds)
    | .tuple ds => dNotInX d (.tuple ds)
    | _ => .stuck
theorem op_inX {X : Cx} : OpR X (compareOp .In) (fun x y H Q => rInA x y H Q ∨ rIn X.K false x y H Q) := OpR.or op_in_sign op_in_seq
theorem op_notInX {X : Cx} : OpR X (compareOp .NotIn) (rIn X.K true) := op_notIn_seq
theorem op2_notInS : Op2 K mg md (rIn K true) dNotInS := op2_notInX
/-! ### max, min, abs, sum -/
def dMax2 : List D → R D
  | [.int i, .int j] => .ok (.int (if j > i then j else i))
  | _ => .stuck
def dMin2 : List D → R D
  | [.int i, .int j] => .ok (.int (if j < i then j else i))
  | _ => .stuck
def dAbs : List D → R D
  | [.int i] => .ok (.int (if i < 0 then -i else i))
  | _ => .stuck
theorem fn_max2 : Fn K mg md (fun xs H Q => ∃ i j, xs = [.int i, .int j] ∧ Q (.int (if j > i then j else i)) H) dMax2 := by
  intro xs ds H H0 Q E s hx p
  replace hx := dpAll_md s hx
  unfold dMax2 at p
  split at p
  · cases hx with
    | cons h1 h2 =>
      cases h2 with
      | cons h3 h4 => cases h4; cases h1; cases h3; exact ⟨_, _, rfl, post_here p s fun _ => .int _⟩
  · exact False.elim p
theorem fn_min2 : Fn K mg md (fun xs H Q => ∃ i j, xs = [.int i, .int j] ∧ Q (.int (if j < i then j else i)) H) dMin2 := by
  intro xs ds H H0 Q E s hx p
  replace hx := dpAll_md s hx
  unfold dMin2 at p
  split at p
  · cases hx with
    | cons h1 h2 =>
      cases h2 with
      | cons h3 h4 => cases h4; cases h1; cases h3; exact ⟨_, _, rfl, post_here p s fun _ => .int _⟩
  · exact False.elim p
theorem fn_abs : Fn K mg md (fun xs H Q => ∃ i, xs = [.int i] ∧ Q (.int (if i < 0 then -i else i)) H) dAbs := by
  intro xs ds H H0 Q E s hx p
  replace hx := dpAll_md s hx
  unfold dAbs at p
  split at p
  · cases hx with
    | cons h1 h2 => cases h2; cases h1; exact ⟨_, rfl, post_here p s fun _ => .int _⟩
  · exact False.elim p
def intsD : List D → Option (List Int)
  | [] => some []
  | .int z :: ds => (intsD ds).map (z :: ·)
  | _ => none
theorem intsD_eq : ∀ {ds : List D} {ns : List Int}, intsD ds = some ns → ds = ns.map PyData.int
  | [], ns, h => by cases h; rfl
  | d :: ds, ns, h => by
    cases d with
    | int z =>
      have h : (intsD ds).map (z :: ·) = some ns := h
      cases q : intsD ds with
      | none => rw [q] at h; cases h
      | some ms => rw [q] at h; cases h; rw [intsD_eq q]; rfl
    | _ => cases h
theorem intsD_map : ∀ ns : List Int, intsD (ns.map PyData.int) = some ns
  | [] => rfl
  | n :: ns => by show (intsD (ns.map PyData.int)).map _ = _; rw [intsD_map ns]; rfl
def dSum : List D → R D
  | [.list ds] => match intsD ds with
    | some ns => .ok (.int ns.sum)
    | none => .stuck
  | _ => .stuck
theorem fn_sum : Fn K mg md (rSum K) dSum := by
  intro xs ds H H0 Q E s hx p
  replace hx := dpAll_md s hx
  unfold dSum at p
  split at p
  · split at p
    · rename_i ns q
      have e := intsD_eq q
      subst e
      cases hx with
      | cons h1 h2 =>
        cases h2
        cases h1 with
        | lst a b =>
          have e2 := DpAll.ints b
          subst e2
          exact ⟨_, ns, rfl, a, post_here p s fun _ => .int _⟩
    · exact False.elim p
  · exact False.elim p
end
section
variable {X : Cx} {W : WX} {md : Bool} {e a b c : Expr} {es : List Expr} {t ta tb tc te : TE} {tr : TA} {m ma mb mc : ME} {mr : MA} {pos : Pos} {x : Str}
/-! ### tuple(x) -/
def dTupOf : D → R D
  | .list ds => .ok (.tuple ds)
  | .tuple ds => .ok (.tuple ds)
  | _ => .stuck
theorem be_tupleOf {p : Pos} (hg : Gl X "tuple") (hm : X.mg "tuple" = none) (h : BE X W true a ta ma) (na : starEach [a] X.env = (false, eval a X.env) :: starEach [] X.env := by rfl) : BE X W true (.Call (.Name "tuple" p) [a] [] pos) (tThen ta (kTup X.K)) (m1 dTupOf ma) := by
  refine ⟨pe_tupleOf hg hm h.pe na, fun Hs H0s σ H H0 ρ Q rl p => h.ev Hs H0s σ H H0 ρ _ rl ((Post.bind p).imp ?_)⟩
  rintro v H1 ⟨d, H01, _, f1, x1, p1⟩
  cases x1 with
  | lst hl ha => exact .inl ⟨_, _, rfl, f1.sb.seq hl, fun q hq => p1 _ _ _ (Fr.new f1.sb hq) (.tup (.inl (.inl upd_same)) (dpAll_mono (Same.new (f1.sb.free hq)) _ _ ha))⟩
  | tup hl ha => exact .inr ⟨_, _, rfl, sqT_mono f1.sb hl, p1 _ H1 H01 (.refl f1.sb) (.tup hl ha)⟩
  | _ => exact False.elim p1
/-! ### list(x): a new list -/
def rListOf (K : PySem.W.Frag) : List V → Hp → VK → Prop := fun xs H Q => (∃ p ys, xs = [.ref p] ∧ (SqL K H p ys ∨ SqT K H p ys) ∧ ∀ l, H l = none → Q (.ref l) (upd H l (.lst ys))) ∨
  ∃ z : Str, xs = [.str z] ∧ z.cps.size ≤ sizeLine ∧ ∀ l, H l = none → Q (.ref l) (upd H l (.lst (z.cps.toList.map fun c => V.str ⟨#[c]⟩)))
theorem vals_signs {z : Str} {acc : Array Value} (h : ItemsOf (SignAt z) acc z.cps.size) : Vals (z.cps.toList.map fun c => V.str ⟨#[c]⟩) acc.toList := by
  refine vals_of_at ?_ fun j x u h1 h2 => ?_
  · rw [List.length_map, Array.length_toList, Array.length_toList]; exact h.1.symm
  · rw [Array.getElem?_toList] at h2
    obtain ⟨c, t, h3, rfl⟩ := h.2 j u h2
    rw [List.getElem?_map, Array.getElem?_toList, h3] at h1
    cases h1
    exact ⟨t, rfl⟩
theorem cr_listOf (hc : X.calm = true) : CallR X (.type "list") (rListOf X.K) := by
  intro pins s σ H xs us Q I r h
  rcases h with h | ⟨z, rfl, hz, q⟩
  · exact call_list_of pins s σ H xs us Q I r h
  · obtain ⟨u, rfl, t, rfl⟩ := vals1 r
    refine call_list_str (I.ok.hd hc) z t (fun h' tk acc c' hk he hi => ?_) hz
    refine ⟨.ref s.heap.objs.size, _, I.laid hk (Nat.le_refl _) (show ObjOk X.prog X.w _ h' _ (.lst (z.cps.toList.map fun c => V.str ⟨#[c]⟩)) from ⟨?_, acc.toList, c', vals_signs hi, ?_⟩), rfl, q _ (I.hok.fresh (Nat.le_refl _))⟩
    · rw [List.length_map, Array.length_toList]; exact hz
    · rw [Array.toArray_toList]; exact he
def dListOf : List D → R (List D)
  | [.list ds] => .ok ds
  | [.tuple ds] => .ok ds
  | [.str z] => if z.cps.size ≤ sizeLine then .ok (signs z) else .stuck
  | _ => .stuck
def aListOf (r : MA) : MA := fun ρ => (r ρ).bind dListOf
theorem dp_signs {K : PySem.W.Frag} {H : Hp} (z : Str) : DpAll K H (z.cps.toList.map fun c => V.str ⟨#[c]⟩) (signs z) := by
  unfold signs
  induction z.cps.toList with
  | nil => exact .nil
  | cons c cs ih => exact .cons (.str _) ih
theorem bn_listOf {p : Pos} (hc : X.calm = true) (hg : Gl X "list") (hm : X.mg "list" = none) (ha : BA X W true (e :: es) tr mr) (hv : bootBuiltins "list" = some (.type "list") := by rfl)
    (hn : ("list" : Str) ≠ "__name__" := by decide) (hd : (("list" : Str) == ("__debug__" : Str)) = false := by decide) (he : starEach (e :: es) X.env = (false, eval e X.env) :: starEach es X.env := by rfl) (hpl : (backTo pos (starEach es X.env)).any (·.1) = false := by rfl) :
    BN X W (.Call (.Name "list" p) (e :: es) [] pos) (tCB (rListOf X.K) tr) (aListOf mr) := by
  refine ⟨pe_callTy (cr_listOf hc) hg hm hv ha.pe hn hd he hpl, fun Hs H0s σ H H0 ρ Q rl p => ha.ev Hs H0s σ H H0 ρ _ rl ((PostN.bind p).imp ?_)⟩
  rintro vs H1 ⟨ds, H01, f1, x1, p1⟩
  unfold dListOf at p1
  split at p1
  · cases x1 with
    | cons h1 h2 =>
      cases h2
      cases h1 with
      | lst hl ha => exact .inl ⟨_, _, rfl, .inl (f1.sb.seq hl), fun q hq => p1 q _ _ _ (Fr.loose f1.sb hq) hq (f1.sb.free hq) upd_same ha⟩
  · cases x1 with
    | cons h1 h2 =>
      cases h2
      cases h1 with
      | tup hl ha => exact .inl ⟨_, _, rfl, .inr (sqT_mono f1.sb hl), fun q hq => p1 q _ _ _ (Fr.loose f1.sb hq) hq (f1.sb.free hq) upd_same ha⟩
  · split at p1
    · rename_i hz
      cases x1 with
      | cons h1 h2 =>
        cases h2
        cases h1
        exact .inr ⟨_, rfl, hz, fun q hq => p1 q _ _ _ (Fr.loose f1.sb hq) hq (f1.sb.free hq) upd_same (dp_signs _)⟩
    · exact False.elim p1
  · exact False.elim p1
/-! ### [..] * n -/
def aRep (r : MA) (m : ME) : MA := fun ρ => (r ρ).bind fun ds => (m ρ).bind fun d => match d with
  | .int k => if -(2 ^ 63) ≤ k ∧ k < 2 ^ 63 ∧ ds.length * k.toNat ≤ sizeLine then .ok (List.replicate k.toNat ds).flatten else .stuck
  | _ => .stuck
theorem DpAll.rep {K : PySem.W.Frag} {H : Hp} {vs : List V} {ds : List D} (h : DpAll K H vs ds) : ∀ n : Nat, DpAll K H (List.replicate n vs).flatten (List.replicate n ds).flatten
  | 0 => .nil
  | n + 1 => by
    rw [List.replicate_succ, List.replicate_succ, List.flatten_cons, List.flatten_cons]
    exact DpAll.append h (DpAll.rep h n)
theorem bn_rep (h : BN X W a ta mr) (hb : BE X W true b tb mb) : BN X W (.BinOp a .Mult b pos) (tOp rRep ta tb) (aRep mr mb) := by
  refine ⟨pe_op op_rep h.pe hb.pe, fun Hs H0s σ H H0 ρ Q rl p => h.ev Hs H0s σ H H0 ρ _ rl ?_⟩
  unfold aRep at p
  generalize mr ρ = r at p
  induction r with
  | stuck => exact p
  | pick k ih => exact fun n hn => ih n (p n hn)
  | err z => exact p
  | ok ds =>
    intro q vs H1 H01 f1 n1 n01 hq xq
    have p : PostN X.K X.mg H H0 ((mb ρ).bind fun d => match d with
      | .int k => if -(2 ^ 63) ≤ k ∧ k < 2 ^ 63 ∧ ds.length * k.toNat ≤ sizeLine then .ok (List.replicate k.toNat ds).flatten else .stuck
      | _ => .stuck) Q (WE W σ) := p
    refine hb.ev Hs H0s σ H1 H01 ρ _ (rl.step f1) ((PostN.bind (PostN.step p f1)).imp ?_)
    rintro v H2 ⟨d, H02, f2, x2, p2⟩
    cases d with
    | int k =>
      cases x2
      have p2 : PostN X.K X.mg H2 H02 (if -(2 ^ 63) ≤ k ∧ k < 2 ^ 63 ∧ ds.length * k.toNat ≤ sizeLine then .ok (List.replicate k.toNat ds).flatten else .stuck) Q (WE W σ) := p2
      split at p2
      · rename_i hh
        refine ⟨q, k, vs, rfl, rfl, f2.ex _ _ hq, hh.1, hh.2.1, by rw [DpAll.length xq]; exact hh.2.2, fun p3 hp3 => ?_⟩
        exact p2 p3 _ _ _ (Fr.loose f2.sb hp3) hp3 (f2.sb.free hp3) upd_same (DpAll.rep (dpAll_mono f2.ez _ _ xq) _)
      · exact False.elim p2
    | _ => exact False.elim p2
/-! ### {..}[e] -/
def vD : D → V
  | .int i => .int i
  | .str z => .str z
  | _ => .non
def kvsOf (tb : List (Str × D)) : List (Key × V) := tb.map fun kv => (Sum.inr kv.1, vD kv.2)
def trsOf (tb : List (Str × D)) : List (TE × TE) := tb.map fun kv => (tC (.str kv.1), tC (vD kv.2))
theorem tPairs_const {σ : L2.St} {H : Hp} : ∀ {tb : List (Str × D)} {Q : List (V × V) → Hp → Prop}, Q ((kvsOf tb).map fun kv => (kV kv.1, kv.2)) H → tPairs (trsOf tb) σ H Q
  | [], _, h => h
  | kv :: tb, Q, h => tPairs_const (tb := tb) (Q := fun ps H3 => Q ((V.str kv.1, vD kv.2) :: ps) H3) h
theorem valV_kvs : ∀ {tb : List (Str × D)} {z : Str} {v : D}, tb.lookup z = some v → valV (kvsOf tb) (Sum.inr z) = some (vD v)
  | [], _, _, h => nomatch h
  | (k, w) :: tb, z, v, h => by
    by_cases hz : k = z
    · subst hz
      rw [List.lookup_cons, beq_self_eq_true] at h
      cases h
      exact valV_pos rfl
    · have n : (z == k) = false := beq_false_of_ne fun q => hz q.symm
      rw [List.lookup_cons, n] at h
      show valV ((Sum.inr k, vD w) :: kvsOf tb) (Sum.inr z) = _
      rw [valV_neg (fun q => hz (Sum.inr.inj q))]
      exact valV_kvs h
theorem lookup_mem : ∀ {tb : List (Str × D)} {z : Str} {w : D}, tb.lookup z = some w → (z, w) ∈ tb
  | [], _, _, h => nomatch h
  | (k, u) :: tb, z, w, h => by
    by_cases hz : k = z
    · subst hz
      rw [List.lookup_cons, beq_self_eq_true] at h
      cases h
      exact List.mem_cons_self
    · have n : (z == k) = false := beq_false_of_ne fun q => hz q.symm
      rw [List.lookup_cons, n] at h
      exact List.mem_cons_of_mem _ (lookup_mem h)
theorem be_dispIx {keys : List (Option Expr)} {values : List Expr} {tb : List (Str × D)} {dp : Pos} (hu : X.A.units + 1 < cLine) (hp : PPs X dp keys values (trsOf tb)) (h : BE X W false e te m) (hs : NoSl e) (hall : keys.all (·.isSome) = true := by rfl) (hl : keys.length = values.length := by rfl) (h0 : keys ≠ [] := by simp)
    (h15 : keys.length ≤ 15 := by decide) (hmg : mergeK [] (kvsOf tb) = kvsOf tb) (hlen : tb.length ≤ 15) (hpl : ∀ kv ∈ tb, plainD kv.2 = true) : BE X W true (.Subscript (.Dict keys values dp) e pos) (tDGet (tDisp (trsOf tb)) te) (m1 (dTabAt tb) m) := by
  refine ⟨pe_dget hu (pe_disp hp hall hl h0 h15) h.pe hs, fun Hs H0s σ H H0 ρ Q rl p => ?_⟩
  intro q hq
  refine tPairs_const ⟨upd_same, kvsOf tb, rfl, by unfold kvsOf; rw [List.length_map]; exact hlen, ?_⟩
  rw [hmg]
  have f0 : Fr H H0 (upd (upd H q (.dK [])) q (.dK (kvsOf tb))) H0 := by
    have e : upd (upd H q (.dK [])) q (.dK (kvsOf tb)) = upd H q (.dK (kvsOf tb)) := by
      funext bb
      by_cases hb : bb = q
      · subst hb; rw [upd_same, upd_same]
      · rw [upd_ne hb, upd_ne hb, upd_ne hb]
    rw [e]
    exact Fr.loose rl.sub hq
  refine h.ev Hs H0s σ _ H0 ρ _ (rl.step f0) ((Post.bind (Post.step p f0)).imp ?_)
  rintro v H1 ⟨d, H01, _, f1, x1, p1⟩
  cases d with
  | str z =>
    cases x1
    have p1 : Post (Dp X.K) X.K X.mg true H1 H01 (match tb.lookup z with | some v => .ok v | none => .stuck) Q (WE W σ) := p1
    cases qq : tb.lookup z with
    | none => rw [qq] at p1; exact False.elim p1
    | some w =>
      rw [qq] at p1
      refine ⟨q, vD w, rfl, .inl ⟨kvsOf tb, Sum.inr z, .inl (f1.ex _ _ upd_same), rfl, (valV_kvs qq).symm⟩, p1 _ H1 H01 (.refl f1.sb) ?_⟩
      have hp : plainD w = true := by
        have : (z, w) ∈ tb := lookup_mem qq
        exact hpl _ this
      cases w with
      | int i => exact .int i
      | str z => exact .str z
      | _ => cases hp
  | _ => exact False.elim p1
end
end DW

end
end
section
set_option Elab.async false
set_option linter.all false
set_option maxRecDepth 100000
set_option maxHeartbeats 4000000
noncomputable section
namespace DW
open PySem PySem.Spec PyProof.Rows L2
/-! ### the law's own def, entered where no repr is under way -/
section
variable {P : Program} {w : World} {K : PySem.W.Frag} {mg : Str → Option Value} {base : Heap}
theorem enter_law {x p : Str} {st : Stmt} {f a : Addr} {fd : FuncData} {N : List Str} {k : Nat} {A : Around} {outer : List Env} {s : Shared} {H : Hp} {Q : VK} {E : XK}
    (F : Fun K x x st f fd) (S : FnScope N [p] (defScope st)) (room : Room (k + 1) A) (en : Env0 P w K mg base A outer s H) (bi : BindsTo s fd ⟨[.ref a], []⟩ [(p, .ref a)])
    (body : ∀ cdv : Value, Room k (A.deeper (envOfC x (defScope st) s.heap.objs.size f cdv)) →
      ∃ t, PSs (cxOf (L2.CX P w) P w K mg base N x (defScope st) f cdv A outer s H E) (defBody st) t ∧ t { nx := fun _ H' => Q .non H', rt := Q } (L2.start N [.ref a]) H) :
    codeAny (model P w) A (.call (.ref f) ⟨[.ref a], []⟩) (CR (L2.CX P w) outer P w H s Q E) s := by
  obtain ⟨oc, od, kV, doc, pm, an, cdv, ct, osl, rfl, lk, hcd⟩ := F.ex
  have inK := en.mod.kin.keeps fun b o q => (en.bs b o q).1
  have noLim := en.mod.nolimit.keeps fun b o q => (en.bs b o q).1
  have kinds : ∀ y ∈ [(p, Value.ref a)], (defScope st).names.lookup y.1 = some .local ∨ ((defScope st).names.lookup y.1 = some .cell ∧ ((cellsFrom (s.heap.objs.size + 1) (defScope st).names []).lookup y.1).isSome = true) := by
    intro y hy
    cases List.mem_singleton.mp hy
    exact (S.par p List.mem_cons_self).imp id fun q => ⟨q, PySem.W.cellsFrom_some _ _ _ (.inl q)⟩
  refine codeAny_call_function room.depth (inK _ _ lk) rfl S.co S.gen rfl (PySem.W.codeRec_of inK hcd) (bi _ _ _ _ ?_)
  refine wpAny_newFunctionEnv_cells S.kind kinds ?_
  rintro env rfl s1 xin
  refine ⟨noLim.keeps xin.toInCall.keep, codeAny_func ?_⟩
  obtain ⟨t, run, want⟩ := body cdv (room.deeper _)
  have I1 := inv_start (CX := L2.CX P w) (E := E) (f := f) (cd := cdv) (qual := x) (vs := [.ref a]) (us := [.ref a]) S room.hd en rfl (.cons rfl .nil) xin
  refine wpAny_mono (run.run [] s1 _ H _ I1 want) ?_ fun _ _ q => q
  rintro (_ | _ | _ | u) s2 z
  · obtain ⟨σ2, H2, J, q⟩ := z
    exact ⟨.non, H2, J.os, J.bare, J.base, J.hok, rfl, q⟩
  · obtain ⟨_, _, _, q⟩ := z; exact q.elim
  · obtain ⟨_, _, _, q⟩ := z; exact q.elim
  · obtain ⟨v, σ2, H2, J, rv, q⟩ := z
    exact ⟨v, H2, J.os, J.bare, J.base, J.hok, rv, q⟩
end
end DW

end
end
section
set_option Elab.async false
set_option linter.all false
set_option maxRecDepth 100000
set_option maxHeartbeats 4000000
noncomputable section
namespace DW
open PySem PySem.Spec PyProof.Rows L2
/-- the heap in which the script alone is told of, unless it is the module's own -/
def scriptHp (K : PySem.W.Frag) (o : Obj) (xs : List V) (a : Addr) : Hp := fun b => if b = a ∧ K.lookup a = none then some (.frz o (.lst xs)) else none
section
variable {K : PySem.W.Frag} {o : Obj} {xs : List V} {a b : Addr}
theorem scriptHp_some {u : HO} (e : scriptHp K o xs a b = some u) : b = a ∧ K.lookup a = none ∧ u = .frz o (.lst xs) := by
  unfold scriptHp at e
  split at e
  · rename_i h; cases e; exact ⟨h.1, h.2, rfl⟩
  · cases e
theorem scriptHp_of {p : Obj} (h : Heap) (hp : h.get? b = some p) (hne : b = a → K.lookup a = none → False) : scriptHp K o xs a b = none := by
  unfold scriptHp
  exact if_neg fun z => hne z.1 z.2
end
/-- what an entry of the law finds -/
theorem law_entry {P : Program} {w : World} {K : PySem.W.Frag} {mg mb : Str → Option Value} {a : Addr} {s : Shared} {vs : List Value} {ns : List Int}
    (inK : K.In s.heap) (gl : s.heap.Ns mainGlobals mg) (bl : s.heap.Ns builtinsNs mb) (boot : ∀ x : Str, x ≠ "__name__" → mb x = bootBuiltins x) (lim : s.heap.NoLimit) (gens : s.gens = #[])
    (at_ : s.heap.get? a = some { cls := .type "list", data := .seq vs.toArray }) (hin : IntsAre vs ns) (few : ns.length ≤ sizeLine) :
    ∃ (H : Hp) (base : Heap), SqL K H a (ns.map V.int) ∧ K.In base ∧ base.Ns mainGlobals mg ∧ Env0 P w K mg base callerA [] s H ∧
      ∀ (Q : VK) (u : Value) (s' : Shared), CE [] P w H s Q u s' → OldK s.heap s'.heap ∧ s'.os = s.os ∧ AllBare s'.gens := by
  let ob : Obj := { cls := .type "list", data := .seq vs.toArray }
  have obj : s.heap.get? a = some ob := at_
  have vals := vals_ints hin
  have many := hin.length
  let H : Hp := scriptHp K ob (ns.map V.int) a
  have only : ∀ {b : Addr} {u : HO}, H b = some u → b = a ∧ K.lookup a = none ∧ u = .frz ob (.lst (ns.map V.int)) := fun e => scriptHp_some e
  have good : HOk P w H s.heap := fun b u e => by
    obtain ⟨rfl, _, rfl⟩ := only e
    exact ⟨obj, by rw [List.length_map]; exact few, vs, _, vals, obj⟩
  have seq : SqL K H a (ns.map V.int) := by
    cases q : K.lookup a with
    | none => exact .inl (.inr ⟨ob, if_pos ⟨rfl, q⟩⟩)
    | some p =>
      have same := inK a p q
      rw [obj] at same
      cases same
      exact .inr ⟨_, vs.toArray, _, q, rfl, rfl, rfl, by rw [List.size_toArray, many]; exact few, by simpa using vals⟩
  have free : ∀ {b : Addr} {p : Obj}, s.heap.get? b = some p → (∀ (e : Array DictEntry) (j : Nat), p.data = .dict e j → H b = none) := fun {b p} e _ _ d => by
    cases q : H b with
    | none => rfl
    | some u =>
      obtain ⟨rfl, _, _⟩ := only q
      rw [obj] at e
      cases e
      exact absurd d (by intro z; cases z)
  have nsOk : ∀ {b : Addr} {m : Str → Option Value}, s.heap.Ns b m → (hidT s.heap H).Ns b m := by
    rintro b m ⟨p, es, j, e, d, r⟩
    exact ⟨p, es, j, hidT_get e (free e _ _ d), d, r⟩
  have kOk : K.In (hidT s.heap H) := fun b p e => hidT_get (inK b p e) (by
    cases q : H b with
    | none => rfl
    | some u =>
      obtain ⟨rfl, n, _⟩ := only q
      have e' : K.lookup b = some p := e
      rw [n] at e'
      cases e')
  obtain ⟨mc, l1, l2⟩ := lim
  have modOk : Mod K mg (hidT s.heap H) := ⟨kOk, nsOk gl, ⟨mb, nsOk bl, boot⟩, ⟨mc, nsOk l1, l2⟩⟩
  refine ⟨H, hidT s.heap H, seq, kOk, nsOk gl, ⟨rfl, modOk, fun b p e => of_hidT e, Nat.le_of_eq (hidT_size _ _), trivial, (fun b z => nomatch z), good, .of_eq gens⟩, ?_⟩
  rintro Q u s' ⟨v, H', os, bare, un, good', _, _⟩
  refine ⟨OldK.of_keep fun b p e => ?_, os, bare⟩
  cases q : H b with
  | none => exact un.keep b p e q (fun z => nomatch z) (fun z => nomatch z)
  | some y =>
    obtain ⟨rfl, _, rfl⟩ := only q
    have there := (good b _ q).1
    have still := (good' b _ (un.frzs b ob _ q)).1
    rw [e] at there
    cases there
    exact still
/-- true at every pick -/
def R.yes (r : R D) : Prop := R.rec (motive := fun _ => Prop) False (fun d => d = .bool true) (fun _ => False) (fun _ ih => ∀ n, n < top1000 → ih n) r
theorem R.yes_of {r : R D} (h : r = .ok (.bool true)) : r.yes := by rw [h]; rfl
theorem post_yes {K : PySem.W.Frag} {mg : Str → Option Value} {H H0 : Hp} {r : R D} {E : XK} (h : r.yes) : Post (Dp K) K mg true H H0 r (fun v _ => v = .bl true) E := by
  induction r with
  | ok d =>
    have h : d = .bool true := h
    subst h
    intro v H' H0' f x
    cases x
    rfl
  | pick k ih => exact fun n hn => ih n (h n hn)
  | _ => exact False.elim h
/-- the law's run, from a mirror of its body -/
def LawRun (P : Program) (w : World) (K : PySem.W.Frag) (mg : Str → Option Value) (fa : Addr) (g : List D → R D) : Prop :=
  ∃ fd : FuncData, (∀ (s : Shared) (u : Value), BindsTo s fd ⟨[u], []⟩ [("script", u)]) ∧ ∀ base : Heap, K.In base → base.Ns mainGlobals mg → ∀ (s : Shared) (H : Hp) (a : Addr) (ns : List Int), Env0 P w K mg base callerA [] s H → SqL K H a (ns.map V.int) →
    (g [.list (ns.map PyData.int)]).yes → codeAny (model P w) callerA (.call (.ref fa) ⟨[.ref a], []⟩) (CR (L2.CX P w) [] P w H s (fun v _ => v = .bl true) fun _ _ _ => False) s
theorem walk_law {l : PySem.W.OpenLaw} {n : Nat} {q : Program} {loose : List Str} {XP : (Str → Option Value) → Heap → Prop} {YP : World → Heap → Prop} {d : DefRec} {K : Params → PySem.W.Frag} {g : List D → R D}
    (hn : l.most = some n) (hn2 : n ≤ sizeLine) (hdf : d.params.defaults = []) (hY : ∀ (w : World) (h : Heap), YP w h → (K w.params).In h)
    (F : ∀ (w : World) (mg : Str → Option Value) (fa : Addr) (h : Heap), (K w.params).In h → h.Ns mainGlobals mg → mg d.name = some (.ref fa) → LawRun l.prog w (K w.params) mg fa g)
    (holds : ∀ ns : List Int, ns.length ≤ n → (∀ z ∈ ns, Builtin.Int.intBits z ≤ 1048576) → (g [.list (ns.map PyData.int)]).yes) :
    PySem.W.WalkO q loose XP YP l.row.toRowW d [] (fun f vs => PySem.call f vs) := by
  refine Att.attach_callB hn hdf ?_
  intro w s₀ s mg mb fa o pm cd doc a vs ns G Y ho hd hcd hmg hobj hints hlen hbits hg
  have inK := hY w _ Y
  obtain ⟨fd, bi, run⟩ := F w mg fa _ inK G.T.g hmg
  obtain ⟨H, base, seq, k1, k2, en, back⟩ := law_entry (P := l.prog) (w := w) inK G.T.g G.T.b G.T.builtins G.T.nolimit hg hobj hints (Nat.le_trans hlen hn2)
  refine codeAny_mono (run base k1 k2 s H a ns en seq (holds ns hlen hbits)) ?_
  rintro (e | (_ | _ | _ | u)) s' z
  · exact (cx_never z).elim
  · exact z.elim
  · exact z.elim
  · exact z.elim
  · obtain ⟨b1, b2, b3⟩ := back _ u s' z
    obtain ⟨v, H', _, _, _, _, rv, q⟩ := z
    have q : v = .bl true := q
    subst q
    have rv : u = Value.bool true := rv
    subst rv
    exact ⟨rfl, b1, b2, b3⟩
/-- from the body -/
theorem law_run {P : Program} {w : World} {K : PySem.W.Frag} {mg : Str → Option Value} {st : Stmt} {f : Addr} {fd : FuncData} {N : List Str} {k : Nat} {mb : MS}
    (F : Fun K "law" "law" st f fd) (S : FnScope N ["script"] (defScope st)) (hn : 1 ≤ N.length) (room : Room (k + 1) callerA) (bi : ∀ (s : Shared) (u : Value), BindsTo s fd ⟨[u], []⟩ [("script", u)])
    (body : ∀ base : Heap, K.In base → base.Ns mainGlobals mg → ∀ (cdv : Value) (A : Around) (s : Shared) (H : Hp) (E : XK), A.guards = some [] → Room k (A.deeper (envOfC "law" (defScope st) s.heap.objs.size f cdv)) →
      ∃ t, BSs (cxOf (L2.CX P w) P w K mg base N "law" (defScope st) f cdv A [] s H E) (fun cls d _ H => E cls d H) (defBody st) t mb) : LawRun P w K mg f (runDef N.length mb) := by
  refine ⟨fd, bi, fun base k1 k2 s H a ns en seq holds => enter_law F S room en (bi s _) fun cdv rm => ?_⟩
  obtain ⟨t, ht⟩ := body base k1 k2 cdv callerA s H (fun _ _ _ => False) rfl rm
  exact ⟨t, ht.pe, ht.ev H H (L2.start N [.ref a]) H H (startD N.length [.list (ns.map PyData.int)]) _ (start_rel (Same.refl _) (.cons (.lst seq (ints_all ns)) .nil) hn) (post_fin (post_yes holds))⟩
/-! ### repr of what lies deep -/
def okShow (d : D) : Bool := d.showable && decide (d.shown.length ≤ sizeLine) && !d.hasDict && decide (d.depth ≤ 60)
def dReprC : List D → R D
  | [.str z] => dRepr [.str z]
  | [.int i] => dRepr [.int i]
  | [.bool b] => dRepr [.bool b]
  | [.none] => dRepr [.none]
  | [.list ds] => if okShow (.list ds) = true then .ok (.str (PyData.shown (.list ds))) else .stuck
  | [.tuple ds] => if okShow (.tuple ds) = true then .ok (.str (PyData.shown (.tuple ds))) else .stuck
  | _ => .stuck
def rReprC (K : PySem.W.Frag) : List V → Hp → VK → Prop := fun xs H Q => rReprS xs H Q ∨ ∃ a d, xs = [.ref a] ∧ Dp K H (.ref a) d ∧ okShow d = true ∧ Q (.str d.shown) H
section
variable {X : Cx}
theorem cr_reprC (hg : X.A.guards = some []) (hu : X.A.units + 64 < cLine) : CallR X (.builtin "repr") (rReprC X.K) := by
  intro pins s σ H xs us Q I r h
  rcases h with h | ⟨a, d, rfl, x, ok, q⟩
  · exact call_reprS pins s σ H xs us Q I r h
  · obtain ⟨u, rfl, ru⟩ := vals1 r
    obtain rfl : u = Value.ref a := ru
    obtain ⟨as, rd⟩ := Dp.reads I d _ _ x rfl
    unfold okShow at ok
    simp only [Bool.and_eq_true, decide_eq_true_eq, Bool.not_eq_true'] at ok
    obtain ⟨⟨⟨o1, o2⟩, o3⟩, o4⟩ := ok
    refine repr_of_reads' rd o1 (fun z => by rw [o3] at z; cases z) hg (by omega) (fun b o e => e) (fun h' u tk hk => ?_) o2
    exact ⟨.str d.shown, H, I.kept hk, ⟨_, rfl⟩, q⟩
end
theorem fn_reprC {K : PySem.W.Frag} {mg : Str → Option Value} {md : Bool} : Fn K mg md (rReprC K) dReprC := by
  intro xs ds H H0 Q E s hx p
  have hx' := dpAll_md s hx
  unfold dReprC at p
  split at p
  · exact .inl (fn_reprS xs _ H H0 Q E s hx p)
  · exact .inl (fn_reprS xs _ H H0 Q E s hx p)
  · exact .inl (fn_reprS xs _ H H0 Q E s hx p)
  · exact .inl (fn_reprS xs _ H H0 Q E s hx p)
  · split at p
    · rename_i ok
      cases hx' with
      | cons h1 h2 =>
        cases h2
        cases h1 with
        | lst a b => exact .inr ⟨_, _, rfl, .lst a b, ok, post_here p s fun _ => .str _⟩
    · exact False.elim p
  · split at p
    · rename_i ok
      cases hx' with
      | cons h1 h2 =>
        cases h2
        cases h1 with
        | tup a b => exact .inr ⟨_, _, rfl, .tup a b, ok, post_here p s fun _ => .str _⟩
    · exact False.elim p
  · exact False.elim p
end DW

end
end
section
set_option Elab.async false
set_option linter.all false
set_option maxRecDepth 100000
set_option maxHeartbeats 4000000
noncomputable section
namespace DW
open PySem PySem.Spec PyProof.Rows L2
open SX (S S_tl S_len S_cat)
/-! ### errors with a field -/
def sRaise1 (x f : Str) (m : ME) : MS := fun ρ => O.of (m ρ) ρ fun d => .err (x, [(f, d)]) ρ
/-- what __init__(self, f): self.f = f keeps -/
def spI (C : Addr) (f : Str) : Sp := fun vs H Q _ => ∃ a v, vs = [.ref a, v] ∧ H a = some (exo a C none) ∧ ∀ dx, H dx = none → dx ≠ a → Q .non (upd (upd H dx (exd dx [(f, v)])) a (exo a C (some dx)))
structure ExcI (P : Program) (w : World) (K : PySem.W.Frag) (mg : Str → Option Value) (x : Str) (C : Addr) (f : Str) : Prop where
  g : mg x = some (.ref C)
  oex : OexC K C
  ini : ∀ base : Heap, ∃ (fI : Addr) (fd : FuncData), PySem.W.findIn K (.ref C) "__init__" = some (some (.ref fI)) ∧ PySem.W.typeIn K (.ref fI) = some (.type "function") ∧ FnOk P w K mg base CX0 1 fI fd ["self", f] (spI C f) ∧ Binds K fd ["self", f] []
  sb : PySem.W.subIn K (.ref C) (.type "BaseException") = some true
  xf : XfC K C
  no : PySem.W.findIn K (.ref C) f = some none
theorem spI_read {K : PySem.W.Frag} {C a : Addr} {v : V} {H : Hp} {f : Str} {Q : VK} (T : OexC K C) (no : PySem.W.findIn K (.ref C) f = some none) (ha : H a = some (exo a C none))
    (q : ∀ dx, H dx = none → dx ≠ a → Q .non (upd (upd H dx (exd dx [(f, v)])) a (exo a C (some dx)))) : tOst K f (tVar 0) (tVar 1) { nx := fun _ H' => Q .non H', rt := Q } (L2.start ["self", f] [.ref a, v]) H :=
  ⟨v, rfl, .ref a, rfl, a, C, rfl, T, no, .inl ⟨ha, fun dx h1 h2 => q dx h1 h2⟩⟩
section
variable {X : Cx} {W : WX} {md : Bool} {e : Expr} {t te : TE} {m : ME} {pos : Pos} {x : Str}
theorem bs_raiseF {C : Addr} {f : Str} {j : Nat} {p p3 : Pos} (F : ExcI X.prog X.w X.K X.mg x C f) (hr : Room j X.A) (hj : 2 ≤ j) (hc : X.calm = true) (tk : Takes X W) (hg : Gl X x) (ha : BE X W true e te m) (hdb : (x == ("__debug__" : Str)) = false := by decide)
    (he : starEach (e :: []) X.env = (false, eval e X.env) :: starEach [] X.env := by rfl) (hpl : (backTo p3 (starEach [] X.env)).any (·.1) = false := by rfl) :
    BS X W (.Raise (some (.Call (.Name x p) [e] [] p3)) none pos) (fun _ σ H => tMkO C (spI C f) [] (tCons te tNil) σ H fun cls d H' => W cls d σ H') (sRaise1 x f m) := by
  obtain ⟨fI, fd, h1, h2, h3, h4⟩ := F.ini X.base
  refine ⟨ps_raise hc tk (pmk_oex F.oex h1 h2 h3 (hr.mono hj) h4 .nil pass0 hg F.g (pa_cons ha.pe pa_nil he) hdb he hpl), fun Hs H0s σ H H0 ρ D rl p => ?_⟩
  refine ha.ev Hs H0s σ H H0 ρ _ rl ((PostS.of p rl).imp ?_)
  rintro v H1 ⟨d, H01, _, f1, x1, p1⟩
  refine ⟨by show 1 ≤ 1000; decide, fun a hn => ?_⟩
  refine ⟨a, v, rfl, upd_same, fun dx hd hne => ⟨rfl, dx, [(f, v)], upd_same, by rw [upd_ne hne, upd_same], by rw [upd_ne hne] at hd; exact hd, ?_⟩⟩
  rw [upd_ne hne] at hd
  obtain ⟨C', g1, g2⟩ := p1 σ H1 H01 (rl.step f1)
  have g1 : X.mg x = some (.ref C') := g1
  rw [F.g] at g1
  cases g1
  have g3 := g2 v dx x1 hd
  have e1 : upd (del (upd (upd (upd H1 a (exo a C none)) dx (exd dx [(f, v)])) a (exo a C (some dx))) a) dx (.xd [(f, v)]) = upd H1 dx (.xd [(f, v)]) := by
    funext b
    by_cases hb : b = dx
    · subst hb; rw [upd_same, upd_same]
    · rw [upd_ne hb, upd_ne hb]
      by_cases hba : b = a
      · subst hba; rw [del_same]; exact hn.symm
      · rw [del_ne hba, upd_ne hba, upd_ne hb, upd_ne hba]
  rw [e1]
  exact g3
/-! ### a, b = x, y -/
def sPar (i j : Nat) (r : MA) : MS := fun ρ => O.of (r ρ) ρ fun ds => match ds with
  | [d, e] => .nx ((ρ.set i (some (.sh d))).set j (some (.sh e)))
  | _ => .stuck
theorem bs_par {i j : Nat} {y : Str} {a b : Expr} {ta : TA} {mr : MA} {px py pt : Pos} {kt k2 pt2} (hc : X.calm = true) (hN : X.N.Nodup) (hi : X.N[i]? = some x) (hj : X.N[j]? = some y) (hij : i ≠ j)
    (hx : X.env.scope.names.lookup x = some .local) (hy : X.env.scope.names.lookup y = some .local) (ha : BA X W true [a, b] ta mr)
    (hw : swappedStores [.Tuple [.Name x px, .Name y py] kt pt] (.Tuple [a, b] k2 pt2) X.env = pure (some [x, y]))
    (hs : swapsWithSole [.Tuple [.Name x px, .Name y py] kt pt] (.Tuple [a, b] k2 pt2) pos.line X.env = pure false := by rfl) :
    BS X W (.Assign [.Tuple [.Name x px, .Name y py] kt pt] (.Tuple [a, b] k2 pt2) pos) (tPar i j ta) (sPar i j mr) := by
  refine ⟨ps_par hc hN hi hj hij hx hy ha.pe hw hs, fun Hs H0s σ H H0 ρ D rl p => ha.ev Hs H0s σ H H0 ρ _ rl ((PostS.of p rl).imp ?_)⟩
  rintro vs H1 ⟨ds, H01, _, f1, x1, p1⟩
  match ds, x1, p1 with
  | [d, e], .cons h1 (.cons h2 .nil), p1 => exact ⟨_, _, rfl, p1 _ H1 H01 (((rl.step f1).set i h1).set j h2)⟩
def sPar3 (i j l : Nat) (r : MA) : MS := fun ρ => O.of (r ρ) ρ fun ds => match ds with
  | [d, e, f] => .nx (((ρ.set i (some (.sh d))).set j (some (.sh e))).set l (some (.sh f)))
  | _ => .stuck
theorem bs_par3 {i j l : Nat} {y z : Str} {a b c : Expr} {ta : TA} {mr : MA} {px py pz pt : Pos} {kt k2 pt2} (hc : X.calm = true) (hN : X.N.Nodup) (hi : X.N[i]? = some x) (hj : X.N[j]? = some y) (hl : X.N[l]? = some z) (hij : i ≠ j) (hil : i ≠ l) (hjl : j ≠ l)
    (hx : X.env.scope.names.lookup x = some .local) (hy : X.env.scope.names.lookup y = some .local) (hz : X.env.scope.names.lookup z = some .local) (ha : BA X W true [a, b, c] ta mr)
    (hw : swappedStores [.Tuple [.Name x px, .Name y py, .Name z pz] kt pt] (.Tuple [a, b, c] k2 pt2) X.env = pure (some [x, y, z]))
    (hs : swapsWithSole [.Tuple [.Name x px, .Name y py, .Name z pz] kt pt] (.Tuple [a, b, c] k2 pt2) pos.line X.env = pure false := by rfl) :
    BS X W (.Assign [.Tuple [.Name x px, .Name y py, .Name z pz] kt pt] (.Tuple [a, b, c] k2 pt2) pos) (tPar3 i j l ta) (sPar3 i j l mr) := by
  refine ⟨ps_par3 hc hN hi hj hl hij hil hjl hx hy hz ha.pe hw hs, fun Hs H0s σ H H0 ρ D rl p => ha.ev Hs H0s σ H H0 ρ _ rl ((PostS.of p rl).imp ?_)⟩
  rintro vs H1 ⟨ds, H01, _, f1, x1, p1⟩
  match ds, x1, p1 with
  | [d, e, f], .cons h1 (.cons h2 (.cons h3 .nil)), p1 => exact ⟨_, _, _, rfl, p1 _ H1 H01 ((((rl.step f1).set i h1).set j h2).set l h3)⟩
end
/-- the n-th statement of a class -/
def clsM : Stmt → Nat → Stmt
  | .ClassDef (body := b) .., n => b.getD n (.Pass ⟨0, 0, 0, 0⟩)
  | s, _ => s
end DW

end
end
section
set_option Elab.async false
set_option linter.all false
set_option maxRecDepth 100000
set_option maxHeartbeats 4000000
noncomputable section
namespace DW
open PySem PySem.Spec PyProof.Rows L2
open SX (S S_tl S_len S_cat)
/-! ### enumerate, zip -/
def enumD : Nat → List D → List D
  | _, [] => []
  | k, d :: ds => .tuple [.int (k : Int), d] :: enumD (k + 1) ds
theorem enumD_len : ∀ (k : Nat) (ds : List D), (enumD k ds).length = ds.length
  | _, [] => rfl
  | k, d :: ds => by rw [enumD, List.length_cons, List.length_cons, enumD_len (k + 1) ds]
theorem enumD_at : ∀ (k : Nat) (ds : List D) (i : Nat), (enumD k ds)[i]? = ds[i]?.map fun d => .tuple [.int ((k + i : Nat) : Int), d]
  | _, [], i => by rw [enumD]; rfl
  | k, d :: ds, 0 => rfl
  | k, d :: ds, i + 1 => by
    rw [enumD, List.getElem?_cons_succ, List.getElem?_cons_succ, enumD_at (k + 1) ds i]
    have : k + 1 + i = k + (i + 1) := by omega
    rw [this]
def zipD : List D → List D → List D
  | x :: xs, y :: ys => .tuple [x, y] :: zipD xs ys
  | _, _ => []
theorem zipD_at : ∀ (xs ys : List D) (i : Nat) (d : D), (zipD xs ys)[i]? = some d → ∃ x y, xs[i]? = some x ∧ ys[i]? = some y ∧ d = .tuple [x, y]
  | x :: xs, y :: ys, 0, d, h => by cases h; exact ⟨x, y, rfl, rfl, rfl⟩
  | x :: xs, y :: ys, i + 1, d, h => by
    rw [zipD, List.getElem?_cons_succ] at h
    obtain ⟨a, b, h1, h2, h3⟩ := zipD_at xs ys i d h
    exact ⟨a, b, h1, h2, h3⟩
  | [], _, _, _, h => by simp [zipD] at h
  | _ :: _, [], _, _, h => by simp [zipD] at h
theorem zipD_len : ∀ (xs ys : List D), (zipD xs ys).length = min xs.length ys.length
  | x :: xs, y :: ys => by rw [zipD, List.length_cons, List.length_cons, List.length_cons, zipD_len xs ys]; omega
  | [], _ => by simp [zipD]
  | _ :: _, [] => by simp [zipD]
section
variable {K : PySem.W.Frag} {H H' Hb H0 H0' : Hp}
theorem fr_tup {T : Addr} {vs : List V} {ds : List D} (s2 : Same H0' H') (n : H' T = none) (x : DpAll K H0' vs ds) : ∃ H0'', Fr H' H0' (upd H' T (.tup vs)) H0'' ∧ Dp K H0'' (.ref T) (.tuple ds) :=
  ⟨_, Fr.new s2 n, .tup (.inl (.inl upd_same)) (dpAll_mono (Same.new (s2.free n)) _ _ x)⟩
theorem walks_enum {a : Addr} {xs : List V} {ds : List D} (h : SqL K Hb a xs) (x : DpAll K Hb xs ds) : Walks K (Ite K a) (enumD 0 ds) Hb := by
  intro i H' H0' s1 s2
  have h' : SqL K H' a xs := (s1.trans s2).seq h
  refine ⟨fun hi => ⟨xs, h', by rw [DpAll.length x]; rw [enumD_len] at hi; exact hi⟩, fun d hd => ?_⟩
  rw [enumD_at] at hd
  cases e : ds[i]? with
  | none => rw [e] at hd; cases hd
  | some y =>
    rw [e] at hd
    cases hd
    obtain ⟨v, hv, xv⟩ := DpAll.get x e
    refine ⟨⟨xs, v, h', hv⟩, fun z H'' hz => ?_⟩
    obtain ⟨T, u, rfl, n, rfl, q⟩ := hz
    have e2 : some u = some v := (q xs h').symm.trans hv
    cases e2
    have e3 : ((0 + i : Nat) : Int) = (i : Int) := by rw [Nat.zero_add]
    rw [e3]
    exact fr_tup s2 n (.cons (.int _) (.cons (dp_mono s1 _ _ xv) .nil))
theorem walks_zipL {a b : Addr} {xs ys : List V} {ds es : List D} (h : SqL K Hb a xs) (x : DpAll K Hb xs ds) (h2 : SqL K Hb b ys) (x2 : DpAll K Hb ys es) : Walks K (Itz K a b) (zipD ds es) Hb := by
  intro i H' H0' s1 s2
  have ha : SqL K H' a xs := (s1.trans s2).seq h
  have hb : SqL K H' b ys := (s1.trans s2).seq h2
  refine ⟨fun hi => ⟨xs, ys, ha, hb, by rw [DpAll.length x, DpAll.length x2]; rw [zipD_len] at hi; omega⟩, fun d hd => ?_⟩
  obtain ⟨p, q, e1, e2, rfl⟩ := zipD_at _ _ _ _ hd
  obtain ⟨v, hv, xv⟩ := DpAll.get x e1
  obtain ⟨u, hu, xu⟩ := DpAll.get x2 e2
  refine ⟨⟨xs, ys, v, u, ha, hb, hv, hu⟩, fun z H'' hz => ?_⟩
  obtain ⟨T, v', u', rfl, n, rfl, q1, q2⟩ := hz
  have e3 : some v' = some v := (q1 xs ha).symm.trans hv
  have e4 : some u' = some u := (q2 ys hb).symm.trans hu
  cases e3; cases e4
  exact fr_tup s2 n (.cons (dp_mono s1 _ _ xv) (.cons (dp_mono s1 _ _ xu) .nil))
theorem walks_zipT {a b : Addr} {xs ys : List V} {ds es : List D} (h : SqT K Hb a xs) (x : DpAll K Hb xs ds) (h2 : SqT K Hb b ys) (x2 : DpAll K Hb ys es) : Walks K (RZ.ItzT K a b) (zipD ds es) Hb := by
  intro i H' H0' s1 s2
  have ha : SqT K H' a xs := sqT_mono (s1.trans s2) h
  have hb : SqT K H' b ys := sqT_mono (s1.trans s2) h2
  refine ⟨fun hi => ⟨xs, ys, ha, hb, by rw [DpAll.length x, DpAll.length x2]; rw [zipD_len] at hi; omega⟩, fun d hd => ?_⟩
  obtain ⟨p, q, e1, e2, rfl⟩ := zipD_at _ _ _ _ hd
  obtain ⟨v, hv, xv⟩ := DpAll.get x e1
  obtain ⟨u, hu, xu⟩ := DpAll.get x2 e2
  refine ⟨⟨xs, ys, v, u, ha, hb, hv, hu⟩, fun z H'' hz => ?_⟩
  obtain ⟨T, v', u', rfl, n, rfl, q1, q2⟩ := hz
  have e3 : some v' = some v := (q1 xs ha).symm.trans hv
  have e4 : some u' = some u := (q2 ys hb).symm.trans hu
  cases e3; cases e4
  exact fr_tup s2 n (.cons (dp_mono s1 _ _ xv) (.cons (dp_mono s1 _ _ xu) .nil))
end
section
variable {X : Cx} {W : WX} {e e2 : Expr} {es : List Expr} {t : TE} {tr : TA} {m : ME} {mr : MA} {pos tpos : Pos} {elts : List Expr} {kk : Nat}
theorem PostI.ofA {K : PySem.W.Frag} {mg : Str → Option Value} {H H0 : Hp} {r : R (List D)} {f : List D → R (List D)} {Rk : It → Hp → Prop} {E : XK} (h : PostI K mg H H0 (r.bind f) Rk E) :
    Post (DpAll K) K mg true H H0 r (fun v H' => ∃ d H0', True ∧ Fr H H0 H' H0' ∧ DpAll K H0' v d ∧ PostI K mg H' H0' (f d) Rk E) E := by
  induction r with
  | stuck => exact h
  | err e => exact h
  | pick k ih => exact fun n hn => ih n (h n hn)
  | ok d =>
    intro v H' H0' f1 x
    refine ⟨d, H0', trivial, f1, x, ?_⟩
    have h : PostI K mg H H0 (f d) Rk E := h
    generalize f d = r at h
    induction r with
    | stuck => exact h
    | pick k ih => exact fun n hn => ih n (h n hn)
    | err e => exact fun H2 H02 g => h H2 H02 (f1.trans g)
    | ok ds => exact fun J H2 H02 g w => h J H2 H02 (f1.trans g) w
def dEnum : List D → R (List D)
  | [.list ds] => .ok (enumD 0 ds)
  | _ => .stuck
def iEnumS (r : MA) : MA := fun ρ => (r ρ).bind dEnum
theorem bi_enum {p : Pos} (hg : Gl X "enumerate") (hm : X.mg "enumerate" = none) (ha : BA X W true [e] tr mr) (hs : starEach [e] X.env = [(false, eval e X.env)] := by rfl) :
    BI X W (.Tuple elts kk tpos) (.Call (.Name "enumerate" p) [e] [] pos) (iEnum X.K tr) (iEnumS mr) := by
  refine ⟨pi_enum hg hm ha.pe hs, fun Hs H0s σ H H0 ρ Rk rl p => ha.ev Hs H0s σ H H0 ρ _ rl ((PostI.ofA p).imp ?_)⟩
  rintro vs H1 ⟨ds, H01, _, f1, x1, p1⟩
  match ds, x1, p1 with
  | [.list es], .cons (.lst hq ha) .nil, p1 => exact ⟨_, _, rfl, f1.sb.seq hq, p1 _ H1 H01 (.refl f1.sb) (walks_enum hq ha)⟩
def dZip : List D → R (List D)
  | [.list ds, .list es] => .ok (zipD ds es)
  | [.tuple ds, .tuple es] => .ok (zipD ds es)
  | _ => .stuck
def iZipS (r : MA) : MA := fun ρ => (r ρ).bind dZip
theorem bi_zip {p : Pos} (hg : Gl X "zip") (hm : X.mg "zip" = none) (ha : BA X W true [e, e2] tr mr)
    (hs : starEach [e, e2] X.env = (false, eval e X.env) :: starEach [e2] X.env := by rfl) (hpl : (backTo pos (starEach [e2] X.env)).any (·.1) = false := by rfl) :
    BI X W (.Tuple elts kk tpos) (.Call (.Name "zip" p) [e, e2] [] pos) (RZ.iZipA X.K tr) (iZipS mr) := by
  refine ⟨RZ.pi_zipA hg hm ha.pe hs hpl, fun Hs H0s σ H H0 ρ Rk rl p => ha.ev Hs H0s σ H H0 ρ _ rl ((PostI.ofA p).imp ?_)⟩
  rintro vs H1 ⟨ds, H01, _, f1, x1, p1⟩
  match ds, x1, p1 with
  | [.list es, .list gs], .cons (.lst hq ha) (.cons (.lst hq2 ha2) .nil), p1 => exact ⟨_, _, _, _, rfl, .inl ⟨f1.sb.seq hq, f1.sb.seq hq2, p1 _ H1 H01 (.refl f1.sb) (walks_zipL hq ha hq2 ha2)⟩⟩
  | [.tuple es, .tuple gs], .cons (.tup hq ha) (.cons (.tup hq2 ha2) .nil), p1 => exact ⟨_, _, _, _, rfl, .inr ⟨sqT_mono f1.sb hq, sqT_mono f1.sb hq2, p1 _ H1 H01 (.refl f1.sb) (walks_zipT hq ha hq2 ha2)⟩⟩
end
/-! ### is True, is False -/
def dIsB : D → D → R D
  | .bool a, .bool b => .ok (.bool (decide (a = b)))
  | _, _ => .stuck
def dNotB : D → D → R D
  | .bool a, .bool b => .ok (.bool (!decide (a = b)))
  | _, _ => .stuck
section
variable {K : PySem.W.Frag} {mg : Str → Option Value} {md : Bool}
theorem op2_isB : Op2 K mg md rIsB dIsB := by
  intro x y d e H H0 Q E s hx hy p
  unfold dIsB at p
  split at p
  · cases dp_md s hx; cases dp_md s hy; exact ⟨_, _, rfl, rfl, post_here p s fun _ => .bl _⟩
  · exact False.elim p
theorem op2_notB : Op2 K mg md rNotB dNotB := by
  intro x y d e H H0 Q E s hx hy p
  unfold dNotB at p
  split at p
  · cases dp_md s hx; cases dp_md s hy; exact ⟨_, _, rfl, rfl, post_here p s fun _ => .bl _⟩
  · exact False.elim p
end
end DW

end
end
section
set_option Elab.async false
set_option linter.all false
set_option maxRecDepth 100000
set_option maxHeartbeats 4000000
/-! evaluation of mirrors -/
noncomputable section
namespace DW
open PySem L2
open SX (S S_tl S_len S_cat)
variable {α β : Type} {ρ ρ' : En} {x y z : MS} {m ma mb mc : ME} {t u : MT} {r ar : MA} {i j : Nat}
abbrev one' (c : Nat) : D := .str (S [c])
theorem e_sCons : sCons x y ρ = (x ρ).thn y := rfl
theorem e_sNil : sNil ρ = .nx ρ := rfl
theorem e_sBreak : sBreak ρ = .bk ρ := rfl
theorem e_sCont : sCont ρ = .ct ρ := rfl
theorem e_sRet : sRet m ρ = O.of (m ρ) ρ .rt := rfl
theorem e_sRetN : sRetN ρ = .rt .none := rfl
theorem e_sExpr : sExpr m ρ = O.of (m ρ) ρ fun _ => .nx ρ := rfl
theorem e_sIf : sIf t x y ρ = O.of (t ρ) ρ fun k => if k then x ρ else y ρ := rfl
theorem e_sAsg {g : D → En → R En} : sAsg g m ρ = O.of (m ρ) ρ fun d => O.of (g d ρ).sure ρ .nx := rfl
theorem e_sOwn : sOwn i r ρ = O.of (r ρ) ρ fun ds => .nx (ρ.set i (some (.own ds))) := rfl
theorem e_sFrz : sFrz i x ρ = x (frz i ρ) := rfl
theorem e_sRaise {n : Str} : sRaise n ρ = .err (n, []) ρ := rfl
theorem e_sFor {g : D → En → R En} : sFor r g x ρ = O.of (r ρ) ρ fun ds => mLoop g x ds ρ := rfl
theorem e_loop_nil {g : D → En → R En} : mLoop g x [] ρ = .nx ρ := rfl
theorem e_loop_cons {d : D} {ds : List D} : mLoop (gN i) x (d :: ds) ρ = (x (ρ.set i (some (.sh d)))).lp (mLoop (gN i) x ds) := rfl
theorem e_loop_nx {d : D} {ds : List D} (h : x (ρ.set i (some (.sh d))) = .nx ρ') : mLoop (gN i) x (d :: ds) ρ = mLoop (gN i) x ds ρ' := by rw [e_loop_cons, h]; rfl
theorem e_while {n : Nat} : mWhile t x (n + 1) ρ = O.of (t ρ) ρ fun k => if k then (x ρ).lp (mWhile t x n) else .nx ρ := rfl
theorem e_mC {d : D} : mC d ρ = .ok d := rfl
theorem e_m1 {f : D → R D} : m1 f m ρ = (m ρ).bind f := rfl
theorem e_m2 {f : D → D → R D} : m2 f ma mb ρ = (ma ρ).bind fun d => (mb ρ).bind fun e => f d e := rfl
theorem e_mF {f : List D → R D} : mF f r ρ = (r ρ).bind f := rfl
theorem e_mCall {n : Nat} {f : List D → R D} : mCall n f r ρ = (r ρ).bind fun ds => if ds.length = n then f ds else .stuck := rfl
theorem e_mM1 {f : Str → D → R D} : mM1 f ma m ρ = (ma ρ).bind fun d => match d with | .str a => (m ρ).bind fun e => f a e | _ => .stuck := rfl
theorem e_aNil : aNil ρ = .ok [] := rfl
theorem e_aCons : aCons m r ρ = (m ρ).bind fun d => (r ρ).bind fun ds => .ok (d :: ds) := rfl
theorem e_aLst : aLst r ρ = (r ρ).bind fun ds => if ds.length ≤ sizeLine then .ok ds else .stuck := rfl
theorem e_mTup : mTup r ρ = (r ρ).bind fun ds => if ds.length ≤ sizeLine then .ok (.tuple ds) else .stuck := rfl
theorem e_mLst : mLst r ρ = (r ρ).bind fun ds => if ds.length ≤ sizeLine then .ok (.list ds) else .stuck := rfl
theorem e_mN : mN r ρ = (r ρ).bind fun ds => .ok (.list ds) := rfl
theorem e_mT : mT m ρ = (m ρ).bind asB := rfl
theorem e_mTru : mTru m ρ = (m ρ).bind dTruth := rfl
theorem e_mAndT : mAndT t u ρ = (t ρ).bind fun k => if k then u ρ else .ok false := rfl
theorem e_mOrT : mOrT t u ρ = (t ρ).bind fun k => if k then .ok true else u ρ := rfl
theorem e_mNotT : mNotT t ρ = (t ρ).bind fun k => .ok (!k) := rfl
theorem e_mAnd : mAnd ma mb ρ = (ma ρ).bind fun d => (dTruth d).bind fun k => if k then mb ρ else .ok d := rfl
theorem e_mOr : mOr ma mb ρ = (ma ρ).bind fun d => (dTruth d).bind fun k => if k then .ok d else mb ρ := rfl
theorem e_mNot : mNot ma ρ = (ma ρ).bind fun d => (dTruth d).bind fun k => .ok (.bool (!k)) := rfl
theorem e_mIf : mIf t ma mb ρ = (t ρ).bind fun k => if k then ma ρ else mb ρ := rfl
theorem e_mChain {f g : D → D → R D} : mChain f g ma mb mc ρ = (ma ρ).bind fun d => (mb ρ).bind fun e => (f d e).bind fun k => (asB k).bind fun k => if k then (mc ρ).bind fun z => g e z else .ok (.bool false) := rfl
theorem e_iSeq : iSeq m ρ = (m ρ).bind dItems := rfl
theorem e_iRange1 : iRange1 r ρ = (r ρ).bind dRange1 := rfl
theorem e_iRange2 : iRange2 r ρ = (r ρ).bind dRange2 := rfl
theorem e_oNone : oNone ρ = .ok none := rfl
theorem e_oSome : oSome m ρ = (m ρ).bind fun d => match d with | .int i => .ok (some i) | _ => .stuck := rfl
theorem e_mSl {l h : MO} : mSl m l h ρ = (m ρ).bind fun d => (l ρ).bind fun lo => (h ρ).bind fun hi => dSl d lo hi := rfl
theorem e_mYes : mYes ρ = .ok true := rfl
theorem e_mLc {vs : List Nat} {g : D → En → R En} : mLc vs r g t m ρ = (r ρ).bind fun ds => if ds.length ≤ sizeLine then (lcLoop g t m (wipeD (clean ρ) vs) ds).sure else .stuck := rfl
theorem e_gN {d : D} : gN i d ρ = .ok (ρ.set i (some (.sh d))) := rfl
theorem v_sh {d : D} (h : ρ[i]? = some (some (.sh d))) : mVar i ρ = .ok d := by unfold mVar; rw [h]
theorem v0 {d : D} : mVar 0 (some (.sh d) :: ρ) = .ok d := rfl
theorem vS {s : Option SD} : mVar (i + 1) (s :: ρ) = mVar i ρ := rfl
theorem p0 {d : D} : mVarP 0 (some (.sh d) :: ρ) = .ok d := rfl
theorem p0o {d : List D} : mVarP 0 (some (.own d) :: ρ) = .ok (.list d) := rfl
theorem pS {s : Option SD} : mVarP (i + 1) (s :: ρ) = mVarP i ρ := rfl
theorem ie0 {n : Str} {fs : List (Str × D)} {isx : Str → Option Bool} {b : Bool} (h : isx n = some b) : mIsX 0 isx (some (.exc n fs) :: ρ) = .ok (.bool b) := by
  show (match isx n with | some b => R.ok (PyData.bool b) | none => R.stuck) = _
  rw [h]
theorem ieS {isx : Str → Option Bool} {s : Option SD} : mIsX (i + 1) isx (s :: ρ) = mIsX i isx ρ := rfl
theorem f0 {d : List D} : frz 0 (some (.own d) :: ρ) = some (.sh (.list d)) :: ρ := rfl
theorem f0s {d : D} : frz 0 (some (.sh d) :: ρ) = some (.sh d) :: ρ := rfl
theorem f0n : frz 0 (none :: ρ) = none :: ρ := rfl
theorem fS {s : Option SD} : frz (i + 1) (s :: ρ) = s :: frz i ρ := by
  unfold frz
  rw [List.getElem?_cons_succ]
  cases ρ[i]? with
  | none => rfl
  | some t =>
    cases t with
    | none => rfl
    | some t => cases t <;> rfl
/-- x.append(e) at a slot -/
theorem e_app {ds : List D} (h : ρ[i]? = some (some (.own ds))) : sApp i m ρ = O.of (m ρ) ρ fun d => if ds.length < sizeLine then .nx (ρ.set i (some (.own (ds ++ [d])))) else .stuck := by
  unfold sApp
  rw [h]
theorem e_pop {ds : List D} {d : D} (h : ρ[i]? = some (some (.own ds))) (h2 : ds[ds.length - 1]? = some d) : sPop i ρ = .nx (ρ.set i (some (.own ds.dropLast))) := by
  unfold sPop
  rw [h]
  dsimp only
  rw [h2]
/-- a comprehension of a plain map -/
theorem lc_map {f : D → D} : ∀ ds : List D, (∀ d ∈ ds, m (ρ.set i (some (.sh d))) = .ok (f d)) → lcLoop (gN i) mYes m ρ ds = .ok (ds.map f)
  | [], _ => rfl
  | d :: ds, h => by
    show (R.bind (m (ρ.set i (some (.sh d)))).sure fun y => (lcLoop (gN i) mYes m ρ ds).bind fun ys => R.ok (y :: ys)) = _
    rw [h d List.mem_cons_self, lc_map ds fun e he => h e (List.mem_cons_of_mem _ he)]
    rfl
theorem signs_S (l : List Nat) : signs (S l) = l.map fun c => .str (S [c]) := rfl
theorem sz_ok {n : Nat} (h : n ≤ 16777216) : n ≤ sizeLine := by rw [sizeLine_eq]; exact h
theorem fin_nx : fin (.nx ρ) = .ok .none := rfl
theorem fin_rt {d : D} : fin (.rt d) = .ok d := rfl
theorem fin_err {e : Exn} : fin (.err e ρ) = .err e := rfl
theorem asB_b {b : Bool} : asB (.bool b) = .ok b := rfl
theorem o_add {a b : Int} : dAdd (.int a) (.int b) = .ok (.int (a + b)) := rfl
theorem o_addS {a b : List Nat} : dAdd (.str (S a)) (.str (S b)) = if a.length + b.length ≤ sizeLine then .ok (.str (S (a ++ b))) else .stuck := rfl
theorem o_addL {a b : List D} : dAdd (.list a) (.list b) = if a.length + b.length ≤ sizeLine then .ok (.list (a ++ b)) else .stuck := rfl
theorem o_addI {a b : Int} : dAddI (.int a) (.int b) = .ok (.int (a + b)) := rfl
theorem o_sub {a b : Int} : dSub (.int a) (.int b) = .ok (.int (a - b)) := rfl
theorem o_neg {a : Int} : dNeg (.int a) = .ok (.int (-a)) := rfl
theorem o_fdiv {a b : Int} (h : 0 < b ∧ b.natAbs.log2 < 9000) : dFdiv (.int a) (.int b) = .ok (.int (a / b)) := if_pos h
theorem o_mod {a b : Int} (h : 0 < b) : dMod (.int a) (.int b) = .ok (.int (a % b)) := if_pos h
theorem o_pow {a b : Int} (h : 0 ≤ b ∧ b ≤ 1000000 ∧ a.natAbs < 2 ^ 64) : dPow (.int a) (.int b) = .ok (.int (a ^ b.toNat)) := if_pos h
theorem o_mul {a b : Int} (h : a.natAbs.log2 + b.natAbs.log2 < 1000000) : dMul (.int a) (.int b) = .ok (.int (a * b)) := if_pos h
theorem log_small {a : Int} (h : a.natAbs < 2 ^ 64) : a.natAbs.log2 < 64 := by
  by_cases h0 : a.natAbs = 0
  · rw [h0]; decide
  · exact (Nat.log2_lt h0).mpr h
theorem o_mulS {a b : Int} (h : a.natAbs < 2 ^ 64) (h2 : b.natAbs < 2 ^ 64) : dMul (.int a) (.int b) = .ok (.int (a * b)) := o_mul (by have := log_small h; have := log_small h2; omega)
theorem o_mulT {z : List Nat} {n : Int} (h : n < 1000000 ∧ -1000000 < n ∧ z.length * n.toNat ≤ 1000000) : dMul (.str (S z)) (.int n) = .ok (.str (S (repL n.toNat z))) := if_pos h
theorem o_lt {a b : Int} : dLt (.int a) (.int b) = .ok (.bool (decide (a < b))) := rfl
theorem o_le {a b : Int} : dLe (.int a) (.int b) = .ok (.bool (decide (a ≤ b))) := rfl
theorem o_gt {a b : Int} : dGt (.int a) (.int b) = .ok (.bool (decide (b < a))) := rfl
theorem o_ge {a b : Int} : dGe (.int a) (.int b) = .ok (.bool (decide (b ≤ a))) := rfl
theorem o_eqI {a b : Int} : dEq (.int a) (.int b) = .ok (.bool (decide (a = b))) := rfl
theorem o_neI {a b : Int} : dNe (.int a) (.int b) = .ok (.bool (!decide (a = b))) := rfl
theorem o_eqS {a b : List Nat} : dEq (.str (S a)) (.str (S b)) = .ok (.bool (decide (a = b))) := rfl
theorem o_neS {a b : List Nat} : dNe (.str (S a)) (.str (S b)) = .ok (.bool (!decide (a = b))) := rfl
theorem o_inS {c : Nat} {b : List Nat} : dIn (.str (S [c])) (.str (S b)) = .ok (.bool (decide (c ∈ b))) := rfl
theorem o_lenS {a : List Nat} : dLen [.str (S a)] = if a.length ≤ sizeLine then .ok (.int a.length) else .stuck := rfl
theorem o_lenL {a : List D} : dLen [.list a] = .ok (.int a.length) := rfl
theorem o_lenT {a : List D} : dLen [.tuple a] = .ok (.int a.length) := rfl
theorem o_int {a : Int} : dInt1 [.int a] = .ok (.int a) := rfl
theorem o_all {bs : List Bool} : dAll [.list (bs.map PyData.bool)] = .ok (.bool (bs.all id)) := by
  show (bools (bs.map PyData.bool)).bind _ = _
  rw [bools_map]; rfl
theorem o_any {bs : List Bool} : dAny [.list (bs.map PyData.bool)] = .ok (.bool (bs.any id)) := by
  show (bools (bs.map PyData.bool)).bind _ = _
  rw [bools_map]; rfl
theorem o_tIn {tb : List (Str × D)} {z : Str} : dTabIn tb (.str z) = .ok (.bool (tb.lookup z).isSome) := rfl
theorem o_tNi {tb : List (Str × D)} {z : Str} : dTabNi tb (.str z) = .ok (.bool (!(tb.lookup z).isSome)) := rfl
theorem o_tAt {tb : List (Str × D)} {z : Str} {v : D} (h : tb.lookup z = some v) : dTabAt tb (.str z) = .ok v := by
  show (match tb.lookup z with | some v => R.ok v | none => R.stuck) = R.ok v
  rw [h]
theorem o_itS {l : List Nat} : dItems (.str (S l)) = .ok (l.map one') := rfl
theorem o_itL {l : List D} : dItems (.list l) = .ok l := rfl
theorem o_itT {l : List D} : dItems (.tuple l) = .ok l := rfl
theorem o_revS {l : List Nat} (h : l.length ≤ 16777216) : dRev (.str (S l)) = .ok (.str (S l.reverse)) := if_pos (sz_ok h)
theorem o_truL {l : List D} : dTruth (.list l) = .ok (!l.isEmpty) := rfl
theorem o_truB {b : Bool} : dTruth (.bool b) = .ok b := rfl
theorem o_truI {i : Int} : dTruth (.int i) = .ok (i != 0) := rfl
theorem joinN_one : ∀ l : List Nat, joinN (l.map fun c => S [c]) = l
  | [] => rfl
  | c :: l => by
    show [c] ++ joinN (l.map fun c => S [c]) = _
    rw [joinN_one l]; rfl
theorem sum_one : ∀ l : List Nat, ((l.map fun c => S [c]).map (·.length)).sum = l.length
  | [] => rfl
  | c :: l => by
    rw [List.map_cons, List.map_cons, List.sum_cons, sum_one l, S_len, List.length_cons, List.length_cons]
    show 0 + 1 + l.length = l.length + 1
    omega
/-- joining signs -/
theorem o_join {l : List Nat} (h : l.length ≤ 16777216) : dJoin0 (.list (l.map one')) = .ok (.str (S l)) := by
  have e : l.map one' = (l.map fun c => S [c]).map PyData.str := by rw [List.map_map]; rfl
  show (strsD (l.map one')).bind _ = _
  rw [e, strs_map, R.bind_ok, sum_one, if_pos h, joinN_one]
theorem o_nil : dJoin0 (.list []) = .ok (.str (S [])) := rfl
/-- an item of a text at a place that it has -/
theorem atI_nn {α : Type} {l : List α} {i : Nat} {c : α} (h : l[i]? = some c) : atI l (i : Int) = some c := by
  have hl : i < l.length := (List.getElem?_eq_some_iff.mp h).1
  unfold L2.atI L2.ixN
  rw [if_pos (by omega), if_pos (by omega)]
  exact h
theorem o_ixS {l : List Nat} {i : Nat} {c : Nat} (hs : l.length ≤ 16777216) (h : l[i]? = some c) : dIdx (.str (S l)) (.int (i : Int)) = .ok (.str (S [c])) := by
  unfold dIdx
  dsimp only
  rw [if_pos (sz_ok hs)]
  rw [atI_nn h]
theorem o_ixL {l : List D} {i : Nat} {c : D} (h : l[i]? = some c) : dIdx (.list l) (.int (i : Int)) = .ok c := by
  unfold dIdx
  dsimp only
  rw [atI_nn h]
theorem o_ixT {l : List D} {i : Nat} {c : D} (h : l[i]? = some c) : dIdx (.tuple l) (.int (i : Int)) = .ok c := by
  unfold dIdx
  dsimp only
  rw [atI_nn h]
/-! ### letters -/
def L6 : List Nat := [97, 65, 98, 66, 99, 67]
def inv (c : Nat) : Nat := if c < 97 then c + 32 else c - 32
abbrev one (c : Nat) : D := one' c
theorem L6_all {P : Nat → Prop} (h : P 97 ∧ P 65 ∧ P 98 ∧ P 66 ∧ P 99 ∧ P 67) : ∀ c ∈ L6, P c := by
  obtain ⟨h1, h2, h3, h4, h5, h6⟩ := h
  intro c hc
  simp only [L6, List.mem_cons, List.not_mem_nil, or_false] at hc
  rcases hc with rfl | rfl | rfl | rfl | rfl | rfl <;> assumption
theorem inv_mem : ∀ c ∈ L6, inv c ∈ L6 := L6_all (by decide)
theorem inv_inv : ∀ c ∈ L6, inv (inv c) = c := L6_all (by decide)
theorem inv_ne : ∀ c ∈ L6, inv c ≠ c := L6_all (by decide)
theorem inv_inj {a b : Nat} (ha : a ∈ L6) (hb : b ∈ L6) (h : inv a = inv b) : a = b := by rw [← inv_inv a ha, h, inv_inv b hb]
abbrev Wd (w : List Nat) : Prop := ∀ c ∈ w, c ∈ L6
end DW

end
end
section
set_option Elab.async false
set_option linter.all false
set_option maxRecDepth 100000
set_option maxHeartbeats 4000000
/-! what a mirror comes to, by wishes -/
noncomputable section
namespace DW
open PySem L2
open SX (S S_tl S_len S_cat)
section
variable {α β : Type} {r : R α} {f : α → R β} {Q Q' : α → Prop} {Qb : β → Prop} {E E' : Exn → Prop} {P P' : Prop}
/-- of a result: a value with Q, or an error with E; picks only where P -/
def RP0 {α : Type} (P : Prop) (r : R α) (Q : α → Prop) (E : Exn → Prop) : Prop := R.rec (motive := fun _ => Prop) False (fun a => Q a) (fun e => E e) (fun _ ih => P ∧ ∀ n, n < top1000 → ih n) r
abbrev NoE : Exn → Prop := fun _ => False
theorem RP0_ok {a : α} : RP0 P (.ok a) Q E = Q a := rfl
theorem RP0_err {e : Exn} : RP0 P (.err e : R α) Q E = E e := rfl
theorem RP0_stuck : RP0 P (.stuck : R α) Q E = False := rfl
theorem RP0_pick {k : Nat → R α} : RP0 P (.pick k) Q E = (P ∧ ∀ n, n < top1000 → RP0 P (k n) Q E) := rfl
theorem RP0_bind : RP0 P (r.bind f) Qb E = RP0 P r (fun a => RP0 P (f a) Qb E) E := by
  induction r with
  | pick k ih => exact congrArg (And P) (forall_congr fun n => forall_congr fun _ => ih n)
  | _ => rfl
theorem RP0_quiet : RP0 P r.quiet Q E = RP0 P r Q NoE := by
  induction r with
  | pick k ih => exact congrArg (And P) (forall_congr fun n => forall_congr fun _ => ih n)
  | _ => rfl
theorem RP0.mono (h : RP0 P r Q E) (hp : P → P') (hq : ∀ a, Q a → Q' a) (he : ∀ e, E e → E' e) : RP0 P' r Q' E' := by
  induction r with
  | stuck => exact h
  | ok a => exact hq a h
  | err e => exact he e h
  | pick k ih => exact ⟨hp h.1, fun n hn => ih n (h.2 n hn)⟩
theorem RP0.imp (h : RP0 P r Q E) (hq : ∀ a, Q a → Q' a) (he : ∀ e, E e → E' e) : RP0 P r Q' E' := h.mono id hq he
/-- of a result without errors -/
theorem RP0.le (h : RP0 P r Q NoE) (hp : P → P') (hq : ∀ a, Q a → Q' a) : RP0 P' r Q' E' := h.mono hp hq fun _ z => z.elim
theorem RP0.and {Q2 : α → Prop} {E2 : Exn → Prop} (h : RP0 P r Q E) (h2 : RP0 P r Q2 E2) : RP0 P r (fun a => Q a ∧ Q2 a) (fun e => E e ∧ E2 e) := by
  induction r with
  | stuck => exact h
  | ok a => exact ⟨h, h2⟩
  | err e => exact ⟨h, h2⟩
  | pick k ih => exact ⟨h.1, fun n hn => ih n (h.2 n hn) (h2.2 n hn)⟩
theorem RP0_ite {c : Prop} [Decidable c] {a b : R α} : RP0 P (if c then a else b) Q E = ((c → RP0 P a Q E) ∧ (¬c → RP0 P b Q E)) := by
  by_cases h : c
  · rw [if_pos h]; exact propext ⟨fun x => ⟨fun _ => x, fun z => absurd h z⟩, fun x => x.1 h⟩
  · rw [if_neg h]; exact propext ⟨fun x => ⟨fun z => absurd z h, fun _ => x⟩, fun x => x.2 h⟩
theorem RP0_sure : RP0 P r.sure Q E = RP0 False r Q NoE := by
  cases r with
  | pick k => exact propext ⟨fun h => h.elim, fun h => h.1.elim⟩
  | _ => rfl
theorem RP0_of {a : α} (h : r = .ok a) : RP0 P r Q E = Q a := by rw [h]; rfl
theorem RP0_ofE {e : Exn} (h : r = .err e) : RP0 P r Q E = E e := by rw [h]; rfl
/-- from a wish to an equation -/
theorem eq_ok0 {a : α} (h : RP0 False r (fun b => b = a) NoE) : r = .ok a := by
  cases r with
  | ok b => exact congrArg R.ok h
  | err e => exact h.elim
  | stuck => exact h.elim
  | pick k => exact h.1.elim
theorem eq_err0 {e : Exn} (h : RP0 False r (fun _ => False) (fun d => d = e)) : r = .err e := by
  cases r with
  | ok b => exact h.elim
  | err d => exact congrArg R.err h
  | stuck => exact h.elim
  | pick k => exact h.1.elim
theorem ex_ok0 (h : RP0 False r Q NoE) : ∃ a, r = .ok a ∧ Q a := by
  cases r with
  | ok b => exact ⟨b, rfl, h⟩
  | err e => exact h.elim
  | stuck => exact h.elim
  | pick k => exact h.1.elim
end
/-- what is wished at the ends of a statement -/
structure Ways where
  p : Prop
  n : En → Prop
  t : D → Prop
  l : List D → Prop
  b : En → Prop
  c : En → Prop
  e : Exn → En → Prop
def OP0 (o : O) (w : Ways) : Prop := O.rec (motive := fun _ => Prop) (fun ρ => w.n ρ) (fun d => w.t d) (fun ds => w.l ds) (fun ρ => w.b ρ) (fun ρ => w.c ρ) (fun e ρ => w.e e ρ) False (fun _ ih => w.p ∧ ∀ n, n < top1000 → ih n) o
section
variable {α : Type} {o : O} {w w' : Ways} {ρ : En} {d : D} {r : R α} {f : α → O} {g : MS} {P : Prop}
theorem OP0_nx : OP0 (.nx ρ) w = w.n ρ := rfl
theorem OP0_rt : OP0 (.rt d) w = w.t d := rfl
theorem OP0_rto {ds : List D} : OP0 (.rto ds) w = w.l ds := rfl
theorem OP0_bk : OP0 (.bk ρ) w = w.b ρ := rfl
theorem OP0_ct : OP0 (.ct ρ) w = w.c ρ := rfl
theorem OP0_err {e : Exn} : OP0 (.err e ρ) w = w.e e ρ := rfl
theorem OP0_stuck : OP0 .stuck w = False := rfl
theorem OP0_pick {k : Nat → O} : OP0 (.pick k) w = (w.p ∧ ∀ n, n < top1000 → OP0 (k n) w) := rfl
theorem OP0_of : OP0 (O.of r ρ f) w = RP0 w.p r (fun a => OP0 (f a) w) (fun e => w.e e ρ) := by
  induction r with
  | pick k ih => exact congrArg (And w.p) (forall_congr fun n => forall_congr fun _ => ih n)
  | _ => rfl
theorem OP0_lf {h : O → O} (w2 : Ways) (hp : w.p = w2.p) (hs : ∀ o', (∀ k, o' ≠ .pick k) → OP0 (h o') w = OP0 o' w2) : OP0 (O.lf h o) w = OP0 o w2 := by
  induction o with
  | pick k ih =>
    have e : (∀ n, n < top1000 → OP0 (O.lf h (k n)) w) = (∀ n, n < top1000 → OP0 (k n) w2) := forall_congr fun n => forall_congr fun _ => ih n
    show (w.p ∧ (∀ n, n < top1000 → OP0 (O.lf h (k n)) w)) = (w2.p ∧ (∀ n, n < top1000 → OP0 (k n) w2))
    rw [hp, e]
  | nx ρ => exact hs (.nx ρ) (fun _ z => nomatch z)
  | rt ρ => exact hs (.rt ρ) (fun _ z => nomatch z)
  | rto ρ => exact hs (.rto ρ) (fun _ z => nomatch z)
  | bk ρ => exact hs (.bk ρ) (fun _ z => nomatch z)
  | ct ρ => exact hs (.ct ρ) (fun _ z => nomatch z)
  | err e ρ => exact hs (.err e ρ) (fun _ z => nomatch z)
  | stuck => exact hs .stuck (fun _ z => nomatch z)
theorem OP0_thn : OP0 (o.thn g) w = OP0 o ⟨w.p, fun ρ => OP0 (g ρ) w, w.t, w.l, w.b, w.c, w.e⟩ := OP0_lf ⟨w.p, fun ρ => OP0 (g ρ) w, w.t, w.l, w.b, w.c, w.e⟩ rfl fun o' np => by
  cases o' with
  | pick k => exact absurd rfl (np k)
  | _ => rfl
/-- behind a turn of a loop -/
theorem OP0_lp : OP0 (o.lp g) w = OP0 o ⟨w.p, fun ρ => OP0 (g ρ) w, w.t, w.l, w.n, fun ρ => OP0 (g ρ) w, w.e⟩ := OP0_lf ⟨w.p, fun ρ => OP0 (g ρ) w, w.t, w.l, w.n, fun ρ => OP0 (g ρ) w, w.e⟩ rfl fun o' np => by
  cases o' with
  | pick k => exact absurd rfl (np k)
  | _ => rfl
theorem OP0.mono (h : OP0 o w) (hp : w.p → w'.p) (hn : ∀ ρ, w.n ρ → w'.n ρ) (ht : ∀ d, w.t d → w'.t d) (hl : ∀ d, w.l d → w'.l d) (hb : ∀ ρ, w.b ρ → w'.b ρ) (hc : ∀ ρ, w.c ρ → w'.c ρ) (he : ∀ e ρ, w.e e ρ → w'.e e ρ) : OP0 o w' := by
  induction o with
  | nx ρ => exact hn _ h
  | rt d => exact ht _ h
  | rto d => exact hl _ h
  | bk ρ => exact hb _ h
  | ct ρ => exact hc _ h
  | err e ρ => exact he _ _ h
  | stuck => exact h
  | pick k ih => exact ⟨hp h.1, fun n z => ih n (h.2 n z)⟩
theorem OP0_ite {c : Prop} [Decidable c] {a b : O} : OP0 (if c then a else b) w = ((c → OP0 a w) ∧ (¬c → OP0 b w)) := by
  by_cases h : c
  · rw [if_pos h]; exact propext ⟨fun x => ⟨fun _ => x, fun z => absurd h z⟩, fun x => x.1 h⟩
  · rw [if_neg h]; exact propext ⟨fun x => ⟨fun z => absurd z h, fun _ => x⟩, fun x => x.2 h⟩
/-- the end of a def -/
theorem RP0_fin {Q : D → Prop} {E : Exn → Prop} : RP0 P (fin o) Q E = OP0 o ⟨P, fun _ => Q .none, Q, fun _ => False, fun _ => False, fun _ => False, fun e _ => E e⟩ := by
  induction o with
  | pick k ih => exact congrArg (And P) (forall_congr fun n => forall_congr fun _ => ih n)
  | _ => rfl
theorem RP0_finN {Q : List D → Prop} {E : Exn → Prop} : RP0 P (finN o) Q E = OP0 o ⟨P, fun _ => False, fun _ => False, Q, fun _ => False, fun _ => False, fun e _ => E e⟩ := by
  induction o with
  | pick k ih => exact congrArg (And P) (forall_congr fun n => forall_congr fun _ => ih n)
  | _ => rfl
theorem yes_RP0 {r : R D} (h : RP0 True r (fun d => d = .bool true) NoE) : r.yes := by
  induction r with
  | pick k ih => exact fun n hn => ih n (h.2 n hn)
  | _ => exact h
/-- tries -/
theorem OP0_tryN {cs : List Clause} {body : MS} : OP0 (sTryN cs body ρ) w = OP0 (body (clean ρ)) ⟨w.p, fun ρ => w.n (clean ρ), w.t, w.l, fun ρ => w.b (clean ρ), fun ρ => w.c (clean ρ), fun e ρ => OP0 (hdl cs e ρ) w⟩ := OP0_lf ⟨w.p, fun ρ => w.n (clean ρ), w.t, w.l, fun ρ => w.b (clean ρ), fun ρ => w.c (clean ρ), fun e ρ => OP0 (hdl cs e ρ) w⟩ rfl fun o' np => by
  cases o' with
  | pick k => exact absurd rfl (np k)
  | _ => rfl
theorem OP0_tryAs {x : Str} {i : Nat} {sub : Str → Option Bool} {body suite : MS} : OP0 (sTryAs x i sub body suite ρ) w = OP0 (body (clean ρ)) ⟨w.p, fun ρ => w.n (clean ρ), w.t, w.l, fun ρ => w.b (clean ρ), fun ρ => w.c (clean ρ), fun e ρ => OP0 (hdlAs i sub suite e ρ) w⟩ := OP0_lf ⟨w.p, fun ρ => w.n (clean ρ), w.t, w.l, fun ρ => w.b (clean ρ), fun ρ => w.c (clean ρ), fun e ρ => OP0 (hdlAs i sub suite e ρ) w⟩ rfl fun o' np => by
  cases o' with
  | pick k => exact absurd rfl (np k)
  | _ => rfl
theorem OP0_endS : OP0 (endS o) w = OP0 o ⟨w.p, fun ρ => w.n (clean ρ), w.t, w.l, fun ρ => w.b (clean ρ), fun ρ => w.c (clean ρ), fun _ _ => False⟩ := OP0_lf ⟨w.p, fun ρ => w.n (clean ρ), w.t, w.l, fun ρ => w.b (clean ρ), fun ρ => w.c (clean ρ), fun _ _ => False⟩ rfl fun o' np => by
  cases o' with
  | pick k => exact absurd rfl (np k)
  | _ => rfl
theorem OP0_endI {i : Nat} : OP0 (endI i o) w = OP0 o ⟨w.p, fun ρ => w.n (clean (ρ.set i none)), w.t, w.l, fun ρ => w.b (clean (ρ.set i none)), fun ρ => w.c (clean (ρ.set i none)), fun _ _ => False⟩ := OP0_lf ⟨w.p, fun ρ => w.n (clean (ρ.set i none)), w.t, w.l, fun ρ => w.b (clean (ρ.set i none)), fun ρ => w.c (clean (ρ.set i none)), fun _ _ => False⟩ rfl fun o' np => by
  cases o' with
  | pick k => exact absurd rfl (np k)
  | _ => rfl
theorem hdl_t {x : Str} {sub : Str → Option Bool} {su : MS} {cs : List Clause} {e : Exn} (h : sub e.1 = some true) : hdl ((x, sub, su) :: cs) e ρ = endS (su (clean ρ)) := by
  show (match sub e.1 with | some true => endS (su (clean ρ)) | some false => hdl cs e ρ | none => .stuck) = _
  rw [h]
theorem hdl_f {x : Str} {sub : Str → Option Bool} {su : MS} {cs : List Clause} {e : Exn} (h : sub e.1 = some false) : hdl ((x, sub, su) :: cs) e ρ = hdl cs e ρ := by
  show (match sub e.1 with | some true => endS (su (clean ρ)) | some false => hdl cs e ρ | none => .stuck) = _
  rw [h]
theorem hdl_nil {e : Exn} : hdl [] e ρ = .err e (clean ρ) := rfl
theorem hdlAs_t {i : Nat} {sub : Str → Option Bool} {su : MS} {e : Exn} (h : sub e.1 = some true) : hdlAs i sub su e ρ = endI i (su ((clean ρ).set i (some (.exc e.1 e.2)))) := by
  unfold hdlAs
  rw [h]
theorem hdlAs_f {i : Nat} {sub : Str → Option Bool} {su : MS} {e : Exn} (h : sub e.1 = some false) : hdlAs i sub su e ρ = .err e (clean ρ) := by
  unfold hdlAs
  rw [h]
end

/-! the same, not seen through -/
structure RP {α : Type} (P : Prop) (r : R α) (Q : α → Prop) (E : Exn → Prop) : Prop where mk :: (out : RP0 P r Q E)
structure OP (o : O) (w : Ways) : Prop where mk :: (out : OP0 o w)
theorem RP_eq0 {α : Type} {P : Prop} {r : R α} {Q : α → Prop} {E : Exn → Prop} : RP P r Q E = RP0 P r Q E := propext ⟨RP.out, RP.mk⟩
theorem OP_eq0 {o : O} {w : Ways} : OP o w = OP0 o w := propext ⟨OP.out, OP.mk⟩
section
variable {α β : Type} {r : R α} {f : α → R β} {Q Q' : α → Prop} {Qb : β → Prop} {E E' : Exn → Prop} {P P' : Prop}
theorem RP_ok {a : α} : RP P (.ok a) Q E = Q a := RP_eq0
theorem RP_err {e : Exn} : RP P (.err e : R α) Q E = E e := RP_eq0
theorem RP_stuck : RP P (.stuck : R α) Q E = False := RP_eq0
theorem RP_pick {k : Nat → R α} : RP P (.pick k) Q E = (P ∧ ∀ n, n < top1000 → RP P (k n) Q E) := by simp only [RP_eq0]; exact RP0_pick
theorem RP_bind : RP P (r.bind f) Qb E = RP P r (fun a => RP P (f a) Qb E) E := by simp only [RP_eq0]; exact RP0_bind
theorem RP_quiet : RP P r.quiet Q E = RP P r Q NoE := by simp only [RP_eq0]; exact RP0_quiet
theorem RP.mono (h : RP P r Q E) (hp : P → P') (hq : ∀ a, Q a → Q' a) (he : ∀ e, E e → E' e) : RP P' r Q' E' := ⟨h.out.mono hp hq he⟩
theorem RP.imp (h : RP P r Q E) (hq : ∀ a, Q a → Q' a) (he : ∀ e, E e → E' e) : RP P r Q' E' := h.mono id hq he
theorem RP.le (h : RP P r Q NoE) (hp : P → P') (hq : ∀ a, Q a → Q' a) : RP P' r Q' E' := h.mono hp hq fun _ z => z.elim
theorem RP.and {Q2 : α → Prop} {E2 : Exn → Prop} (h : RP P r Q E) (h2 : RP P r Q2 E2) : RP P r (fun a => Q a ∧ Q2 a) (fun e => E e ∧ E2 e) := ⟨h.out.and h2.out⟩
theorem RP_ite {c : Prop} [Decidable c] {a b : R α} : RP P (if c then a else b) Q E = ((c → RP P a Q E) ∧ (¬c → RP P b Q E)) := by simp only [RP_eq0]; exact RP0_ite
theorem RP_sure : RP P r.sure Q E = RP False r Q NoE := by simp only [RP_eq0]; exact RP0_sure
theorem RP_of {a : α} (h : r = .ok a) : RP P r Q E = Q a := by rw [h]; exact RP_ok
theorem RP_ofE {e : Exn} (h : r = .err e) : RP P r Q E = E e := by rw [h]; exact RP_err
theorem eq_ok {a : α} (h : RP False r (fun b => b = a) NoE) : r = .ok a := eq_ok0 h.out
theorem eq_err {e : Exn} (h : RP False r (fun _ => False) (fun d => d = e)) : r = .err e := eq_err0 h.out
theorem ex_ok (h : RP False r Q NoE) : ∃ a, r = .ok a ∧ Q a := ex_ok0 h.out
end
section
variable {α : Type} {o : O} {w w' : Ways} {ρ : En} {d : D} {r : R α} {f : α → O} {g : MS} {P : Prop}
theorem OP_nx : OP (.nx ρ) w = w.n ρ := OP_eq0
theorem OP_rt : OP (.rt d) w = w.t d := OP_eq0
theorem OP_rto {ds : List D} : OP (.rto ds) w = w.l ds := OP_eq0
theorem OP_bk : OP (.bk ρ) w = w.b ρ := OP_eq0
theorem OP_ct : OP (.ct ρ) w = w.c ρ := OP_eq0
theorem OP_err {e : Exn} : OP (.err e ρ) w = w.e e ρ := OP_eq0
theorem OP_stuck : OP .stuck w = False := OP_eq0
theorem OP_pick {k : Nat → O} : OP (.pick k) w = (w.p ∧ ∀ n, n < top1000 → OP (k n) w) := by simp only [OP_eq0]; exact OP0_pick
theorem OP_of : OP (O.of r ρ f) w = RP w.p r (fun a => OP (f a) w) (fun e => w.e e ρ) := by simp only [RP_eq0, OP_eq0]; exact OP0_of
theorem OP_thn : OP (o.thn g) w = OP o ⟨w.p, fun ρ => OP (g ρ) w, w.t, w.l, w.b, w.c, w.e⟩ := by simp only [OP_eq0]; exact OP0_thn
theorem OP_lp : OP (o.lp g) w = OP o ⟨w.p, fun ρ => OP (g ρ) w, w.t, w.l, w.n, fun ρ => OP (g ρ) w, w.e⟩ := by simp only [OP_eq0]; exact OP0_lp
theorem OP.mono (h : OP o w) (hp : w.p → w'.p) (hn : ∀ ρ, w.n ρ → w'.n ρ) (ht : ∀ d, w.t d → w'.t d) (hl : ∀ d, w.l d → w'.l d) (hb : ∀ ρ, w.b ρ → w'.b ρ) (hc : ∀ ρ, w.c ρ → w'.c ρ) (he : ∀ e ρ, w.e e ρ → w'.e e ρ) : OP o w' := ⟨h.out.mono hp hn ht hl hb hc he⟩
theorem OP_ite {c : Prop} [Decidable c] {a b : O} : OP (if c then a else b) w = ((c → OP a w) ∧ (¬c → OP b w)) := by simp only [OP_eq0]; exact OP0_ite
theorem RP_fin {Q : D → Prop} {E : Exn → Prop} : RP P (fin o) Q E = OP o ⟨P, fun _ => Q .none, Q, fun _ => False, fun _ => False, fun _ => False, fun e _ => E e⟩ := by simp only [RP_eq0, OP_eq0]; exact RP0_fin
theorem RP_finN {Q : List D → Prop} {E : Exn → Prop} : RP P (finN o) Q E = OP o ⟨P, fun _ => False, fun _ => False, Q, fun _ => False, fun _ => False, fun e _ => E e⟩ := by simp only [RP_eq0, OP_eq0]; exact RP0_finN
theorem yes_RP {r : R D} (h : RP True r (fun d => d = .bool true) NoE) : r.yes := yes_RP0 h.out
theorem OP_tryN {cs : List Clause} {body : MS} : OP (sTryN cs body ρ) w = OP (body (clean ρ)) ⟨w.p, fun ρ => w.n (clean ρ), w.t, w.l, fun ρ => w.b (clean ρ), fun ρ => w.c (clean ρ), fun e ρ => OP (hdl cs e ρ) w⟩ := by simp only [OP_eq0]; exact OP0_tryN
theorem OP_tryAs {x : Str} {i : Nat} {sub : Str → Option Bool} {body suite : MS} : OP (sTryAs x i sub body suite ρ) w = OP (body (clean ρ)) ⟨w.p, fun ρ => w.n (clean ρ), w.t, w.l, fun ρ => w.b (clean ρ), fun ρ => w.c (clean ρ), fun e ρ => OP (hdlAs i sub suite e ρ) w⟩ := by simp only [OP_eq0]; exact OP0_tryAs
theorem OP_endS : OP (endS o) w = OP o ⟨w.p, fun ρ => w.n (clean ρ), w.t, w.l, fun ρ => w.b (clean ρ), fun ρ => w.c (clean ρ), fun _ _ => False⟩ := by simp only [OP_eq0]; exact OP0_endS
theorem OP_endI {i : Nat} : OP (endI i o) w = OP o ⟨w.p, fun ρ => w.n (clean (ρ.set i none)), w.t, w.l, fun ρ => w.b (clean (ρ.set i none)), fun ρ => w.c (clean (ρ.set i none)), fun _ _ => False⟩ := by simp only [OP_eq0]; exact OP0_endI
theorem e_loop_nil' {g : D → En → R En} {b : MS} : mLoop g b [] ρ = .nx ρ := rfl
/-- a for loop, by what holds behind the first turns -/
theorem OP_loop {g : D → En → R En} {b : MS} {ds : List D} (I : Nat → En → Prop) (h0 : I 0 ρ)
    (turn : ∀ k d ρ, ds[k]? = some d → I k ρ → ∃ ρ1, g d ρ = .ok ρ1 ∧ OP (b ρ1) ⟨w.p, I (k + 1), w.t, w.l, w.n, I (k + 1), w.e⟩) (hend : ∀ ρ, I ds.length ρ → w.n ρ) : OP (mLoop g b ds ρ) w := by
  have main : ∀ (es : List D) (k : Nat) (ρ : En), k ≤ ds.length → ds.drop k = es → I k ρ → OP (mLoop g b es ρ) w := by
    intro es
    induction es with
    | nil =>
      intro k ρ hk e h
      have := congrArg List.length e
      rw [List.length_drop, List.length_nil] at this
      have : k = ds.length := by omega
      subst this
      rw [e_loop_nil', OP_nx]; exact hend ρ h
    | cons d es ih =>
      intro k ρ hk' e h
      have hk : ds[k]? = some d := by
        have := congrArg (fun l => l[0]?) e
        simpa using this
      have hlt : k < ds.length := (List.getElem?_eq_some_iff.mp hk).1
      obtain ⟨ρ1, e1, h1⟩ := turn k d ρ hk h
      have e2 : mLoop g b (d :: es) ρ = (b ρ1).lp (mLoop g b es) := by
        show O.of (g d ρ).sure ρ (fun ρ1 => (b ρ1).lp (mLoop g b es)) = _
        rw [e1]
        rfl
      have e3 : ds.drop (k + 1) = es := by
        have := congrArg List.tail e
        rw [List.tail_drop] at this
        exact this
      rw [e2, OP_lp]
      exact h1.mono id (fun ρ z => ih (k + 1) ρ hlt e3 z) (fun _ z => z) (fun _ z => z) (fun _ z => z) (fun ρ z => ih (k + 1) ρ hlt e3 z) (fun _ _ z => z)
  exact main ds 0 ρ (Nat.zero_le _) rfl h0
/-- the same with a plain name -/
theorem OP_for {i : Nat} {b : MS} {ds : List D} (I : Nat → En → Prop) (h0 : I 0 ρ)
    (turn : ∀ k d ρ, ds[k]? = some d → I k ρ → OP (b (ρ.set i (some (.sh d)))) ⟨w.p, I (k + 1), w.t, w.l, w.n, I (k + 1), w.e⟩) (hend : ∀ ρ, I ds.length ρ → w.n ρ) : OP (mLoop (gN i) b ds ρ) w :=
  OP_loop I h0 (fun k d ρ h1 h2 => ⟨_, rfl, turn k d ρ h1 h2⟩) hend
/-- a while loop, by a measure -/
theorem OP_while {t : MT} {b : MS} : ∀ {n : Nat} {ρ : En} (m : Nat) (I : Nat → En → Prop), m < n → I m ρ →
    (∀ k ρ, I k ρ → RP w.p (t ρ) (fun c => (c = false → w.n ρ) ∧ (c = true → 0 < k ∧ OP (b ρ) ⟨w.p, fun ρ => ∃ j, j < k ∧ I j ρ, w.t, w.l, w.n, fun ρ => ∃ j, j < k ∧ I j ρ, w.e⟩)) (fun e => w.e e ρ)) → OP (mWhile t b n ρ) w
  | 0, _, m, _, h, _, _ => by omega
  | n + 1, ρ, m, I, h, h0, turn => by
    rw [e_while, OP_of]
    refine (turn m ρ h0).imp (fun c hc => ?_) fun e he => he
    cases c with
    | false => rw [if_neg (by decide), OP_nx]; exact hc.1 rfl
    | true =>
      rw [if_pos rfl, OP_lp]
      obtain ⟨_, h2⟩ := hc.2 rfl
      exact h2.mono id (fun ρ ⟨j, hj, hI⟩ => OP_while j I (by omega) hI turn) (fun _ z => z) (fun _ z => z) (fun _ z => z) (fun ρ ⟨j, hj, hI⟩ => OP_while j I (by omega) hI turn) (fun _ _ z => z)
end
section
variable {ρ : En} {ds : List D}
theorem e_gT {n : Nat} {gs : List D → En → R En} : gT n gs (.tuple ds) ρ = if ds.length = n then gs ds ρ else .stuck := rfl
theorem e_gTL {n : Nat} {gs : List D → En → R En} : gT n gs (.list ds) ρ = if ds.length = n then gs ds ρ else .stuck := rfl
theorem e_gsC {g : D → En → R En} {gs : List D → En → R En} {d : D} : gsC g gs (d :: ds) ρ = (g d ρ).bind (gs ds) := rfl
theorem e_gsN : gsN [] ρ = .ok ρ := rfl
theorem e_next : m1 (fun d => .ok d) (fun _ => .pick fun n => .ok (.int (n : Int))) ρ = .pick fun n => .ok (.int (n : Int)) := rfl
theorem e_callR0 {i n : Nat} {f : List D → R D} {r : MA} : mCallR 0 n f r (some .rnd :: ρ) = (r (some .rnd :: ρ)).bind fun ds => if ds.length = n then f ds else .stuck := rfl
theorem e_callN {n : Nat} {f : List D → R (List D)} {r : MA} : mCallN n f r ρ = (r ρ).bind fun ds => if ds.length = n then f ds else .stuck := rfl
/-- what stands in a slot, in ways that simp can go -/
def ownAt {α : Type} (y : α) (f : List D → α) : Option (Option SD) → α
  | some (some (.own ds)) => f ds
  | _ => y
def rndAt {α : Type} (y x : α) : Option (Option SD) → α
  | some (some .rnd) => x
  | _ => y
def excAt {α : Type} (y : α) (f : Str → List (Str × D) → α) : Option (Option SD) → α
  | some (some (.exc n fs)) => f n fs
  | _ => y
def someD {α β : Type} (y : β) (f : α → β) : Option α → β
  | some d => f d
  | none => y
def caseB {α : Type} (y x1 x0 : α) : Option Bool → α
  | some true => x1
  | some false => x0
  | none => y
def intD {α : Type} (y : α) (f : Int → α) : D → α
  | .int z => f z
  | _ => y
theorem ownAt_own {α : Type} {y : α} {f : List D → α} : ownAt y f (some (some (.own ds))) = f ds := rfl
theorem rndAt_rnd {α : Type} {y x : α} : rndAt y x (some (some .rnd)) = x := rfl
theorem excAt_exc {α : Type} {y : α} {f : Str → List (Str × D) → α} {n : Str} {fs : List (Str × D)} : excAt y f (some (some (.exc n fs))) = f n fs := rfl
theorem someD_some {α β : Type} {y : β} {f : α → β} {d : α} : someD y f (some d) = f d := rfl
theorem caseB_t {α : Type} {y x1 x0 : α} : caseB y x1 x0 (some true) = x1 := rfl
theorem caseB_f {α : Type} {y x1 x0 : α} : caseB y x1 x0 (some false) = x0 := rfl
theorem intD_int {α : Type} {y : α} {f : Int → α} {z : Int} : intD y f (.int z) = f z := rfl
theorem e_callR {i n : Nat} {f : List D → R D} {r : MA} : mCallR i n f r ρ = rndAt .stuck ((r ρ).bind fun ds => if ds.length = n then f ds else .stuck) ρ[i]? := by
  unfold mCallR rndAt
  generalize ρ[i]? = q
  rcases q with _ | _ | (_ | _ | _ | _) <;> rfl
theorem e_callX {i : Nat} {f : Str → List (Str × D) → R D} : mCallX i f ρ = excAt .stuck f ρ[i]? := by
  unfold mCallX excAt
  generalize ρ[i]? = q
  rcases q with _ | _ | (_ | _ | _ | _) <;> rfl
theorem e_isX {i : Nat} {isx : Str → Option Bool} : mIsX i isx ρ = excAt .stuck (fun n _ => someD .stuck (fun b => .ok (.bool b)) (isx n)) ρ[i]? := by
  unfold mIsX excAt someD
  generalize ρ[i]? = q
  rcases q with _ | _ | (_ | _ | ⟨n, fs⟩ | _)
  case some.some.exc => dsimp only; cases isx n <;> rfl
  all_goals rfl
theorem e_xf {i : Nat} {x f : Str} : mXf i x f ρ = excAt .stuck (fun n fs => match fs with | (g, d) :: _ => if n = x ∧ g = f then .ok d else .stuck | _ => .stuck) ρ[i]? := by
  unfold mXf
  generalize ρ[i]? = q
  match q with
  | some (some (.exc n ((g, d) :: fs))) => rfl
  | some (some (.exc n [])) => rfl
  | some (some (.sh _)) => rfl
  | some (some (.own _)) => rfl
  | some (some .rnd) => rfl
  | some none => rfl
  | none => rfl
theorem e_sNext {i : Nat} : sNext i ρ = rndAt .stuck (.pick fun n => .rt (.int (n : Int))) ρ[i]? := by
  unfold sNext rndAt
  generalize ρ[i]? = q
  rcases q with _ | _ | (_ | _ | _ | _) <;> rfl
theorem e_sApp {i : Nat} {m : ME} : sApp i m ρ = ownAt .stuck (fun ds => O.of (m ρ) ρ fun d => if ds.length < sizeLine then .nx (ρ.set i (some (.own (ds ++ [d])))) else .stuck) ρ[i]? := by
  unfold sApp ownAt
  generalize ρ[i]? = q
  rcases q with _ | _ | (_ | _ | _ | _) <;> rfl
theorem e_sPop {i : Nat} : sPop i ρ = ownAt .stuck (fun ds => someD .stuck (fun _ => .nx (ρ.set i (some (.own ds.dropLast)))) ds[ds.length - 1]?) ρ[i]? := by
  unfold sPop ownAt someD
  generalize ρ[i]? = q
  rcases q with _ | _ | (_ | ds | _ | _)
  case some.some.own => dsimp only; cases ds[ds.length - 1]? <;> rfl
  all_goals rfl
theorem e_sRev {i : Nat} : sRev i ρ = ownAt .stuck (fun ds => .nx (ρ.set i (some (.own ds.reverse)))) ρ[i]? := by
  unfold sRev ownAt
  generalize ρ[i]? = q
  rcases q with _ | _ | (_ | _ | _ | _) <;> rfl
theorem e_sRetOwn {i : Nat} : sRetOwn i ρ = ownAt .stuck (fun ds => .rto ds) ρ[i]? := by
  unfold sRetOwn ownAt
  generalize ρ[i]? = q
  rcases q with _ | _ | (_ | _ | _ | _) <;> rfl
theorem e_sExt {i : Nat} {r : MA} : sExt i r ρ = ownAt .stuck (fun ds => O.of (r ρ) ρ fun es => if ds.length + es.length ≤ sizeLine then .nx (ρ.set i (some (.own (ds ++ es)))) else .stuck) ρ[i]? := by
  unfold sExt ownAt
  generalize ρ[i]? = q
  rcases q with _ | _ | (_ | _ | _ | _) <;> rfl
theorem e_sGive {i : Nat} {x : MS} : sGive i x ρ = ownAt .stuck (fun ds => if smallD ds = true ∧ ds.length ≤ sizeLine then x (ρ.set i (some .rnd)) else .stuck) ρ[i]? := by
  unfold sGive ownAt
  generalize ρ[i]? = q
  rcases q with _ | _ | (_ | _ | _ | _) <;> rfl
theorem e_sSetIx {i : Nat} {mi mv : ME} : sSetIx i mi mv ρ = O.of (mv ρ) ρ fun d => ownAt .stuck (fun ds => O.of (mi ρ) ρ fun k => intD .stuck (fun z => someD .stuck (fun n => .nx (ρ.set i (some (.own (ds.set n d))))) (L2.ixN ds.length z)) k) ρ[i]? := by
  unfold sSetIx
  congr 1
  funext d
  unfold ownAt
  generalize ρ[i]? = q
  rcases q with _ | _ | (_ | ds | _ | _)
  case some.some.own =>
    dsimp only
    congr 1
    funext k
    cases k with
    | int z => dsimp only [intD]; cases L2.ixN ds.length z <;> rfl
    | _ => rfl
  all_goals rfl
theorem e_sPopTo {i j : Nat} : sPopTo j i ρ = sPopTo j i ρ := rfl
theorem e_hdl {x : Str} {sub : Str → Option Bool} {su : MS} {cs : List Clause} {e : Exn} : hdl ((x, sub, su) :: cs) e ρ = caseB .stuck (endS (su (clean ρ))) (hdl cs e ρ) (sub e.1) := by
  show (match sub e.1 with | some true => endS (su (clean ρ)) | some false => hdl cs e ρ | none => .stuck) = _
  unfold caseB
  rcases sub e.1 with _ | (_ | _) <;> rfl
theorem e_hdlAs {i : Nat} {sub : Str → Option Bool} {su : MS} {e : Exn} : hdlAs i sub su e ρ = caseB .stuck (endI i (su ((clean ρ).set i (some (.exc e.1 e.2))))) (.err e (clean ρ)) (sub e.1) := by
  unfold hdlAs caseB
  rcases sub e.1 with _ | (_ | _) <;> rfl
theorem wipe_nil : wipeD ρ [] = ρ := rfl
theorem wipe_cons {v : Nat} {vs : List Nat} : wipeD ρ (v :: vs) = (wipeD ρ vs).set v none := rfl
theorem clean_nil : clean [] = [] := rfl
theorem clean_sh {d : D} : clean (some (.sh d) :: ρ) = some (.sh d) :: clean ρ := rfl
theorem clean_no : clean (none :: ρ) = none :: clean ρ := rfl
theorem clean_own : clean (some (.own ds) :: ρ) = some (.own ds) :: clean ρ := rfl
end
theorem cst0 : ((0 : Nat) : Int) = 0 := rfl
theorem cst1 : ((1 : Nat) : Int) = 1 := rfl
theorem cst2 : ((2 : Nat) : Int) = 2 := rfl
theorem cst3 : ((3 : Nat) : Int) = 3 := rfl
theorem cst4 : ((4 : Nat) : Int) = 4 := rfl
theorem cst5 : ((5 : Nat) : Int) = 5 := rfl
theorem cst6 : ((6 : Nat) : Int) = 6 := rfl
theorem cst7 : ((7 : Nat) : Int) = 7 := rfl
theorem cst8 : ((8 : Nat) : Int) = 8 := rfl
theorem cst9 : ((9 : Nat) : Int) = 9 := rfl
theorem cst10 : ((10 : Nat) : Int) = 10 := rfl
theorem cst11 : ((11 : Nat) : Int) = 11 := rfl
theorem cst12 : ((12 : Nat) : Int) = 12 := rfl
section
variable {ρ : En} {r : MA}
theorem e_iEnumS : iEnumS r ρ = (r ρ).bind dEnum := rfl
theorem e_iZipS : iZipS r ρ = (r ρ).bind dZip := rfl
theorem o_enum {ds : List D} : dEnum [.list ds] = .ok (enumD 0 ds) := rfl
theorem o_zipL {ds es : List D} : dZip [.list ds, .list es] = .ok (zipD ds es) := rfl
theorem o_zipT {ds es : List D} : dZip [.tuple ds, .tuple es] = .ok (zipD ds es) := rfl
theorem e_sRaise1 {x f : Str} {m : ME} : sRaise1 x f m ρ = O.of (m ρ) ρ fun d => .err (x, [(f, d)]) ρ := rfl
theorem e_sPar {i j : Nat} : sPar i j r ρ = O.of (r ρ) ρ fun ds => match ds with
  | [d, e] => .nx ((ρ.set i (some (.sh d))).set j (some (.sh e)))
  | _ => .stuck := rfl
theorem e_sPar3 {i j l : Nat} : sPar3 i j l r ρ = O.of (r ρ) ρ fun ds => match ds with
  | [d, e, f] => .nx (((ρ.set i (some (.sh d))).set j (some (.sh e))).set l (some (.sh f)))
  | _ => .stuck := rfl
end
theorem o_addT {a b : List D} : dAdd (.tuple a) (.tuple b) = if a.length + b.length ≤ sizeLine then .ok (.tuple (a ++ b)) else .stuck := rfl
theorem o_slT {l : List D} {lo hi : Option Int} (h : ¬ (HT.sIx l.length 0 lo = 0 ∧ HT.sIx l.length l.length hi = l.length)) : dSl (.tuple l) lo hi = .ok (.tuple (cutG l lo hi)) := if_pos h
theorem o_isBB {a b : Bool} : dIsB (.bool a) (.bool b) = .ok (.bool (decide (a = b))) := rfl
theorem o_notBB {a b : Bool} : dNotB (.bool a) (.bool b) = .ok (.bool (!decide (a = b))) := rfl
end DW

end
end
section
set_option Elab.async false
set_option linter.all false
set_option maxRecDepth 100000
set_option maxHeartbeats 4000000
noncomputable section
namespace DW
open PySem PySem.Spec PyProof.Rows L2
/-! ### comprehensions whose items are drawn -/
def lcP (g : D → En → R En) (mt : MT) (m : ME) (ρ : En) : List D → List D → R (List D)
  | acc, [] => .ok acc
  | acc, d :: ds => (g d ρ).sure.bind fun ρ1 => (mt ρ1).sure.bind fun k => if k then (m ρ1).quiet.bind fun y => lcP g mt m ρ (acc ++ [y]) ds else lcP g mt m ρ acc ds
def mLcP (vs : List Nat) (mi : MA) (g : D → En → R En) (mt : MT) (m : ME) : MA := fun ρ => (mi ρ).bind fun ds => if ds.length ≤ sizeLine then lcP g mt m (wipeD (clean ρ) vs) [] ds else .stuck
theorem PostN.elt {α β : Type} {rel : Hp → β → α → Prop} {K : PySem.W.Frag} {mg : Str → Option Value} {md : Bool} {r : R α} {f : α → R (List D)} {Q : VK} {E : XK} {H H0 H' H0' : Hp} (h : PostN K mg H H0 (r.quiet.bind f) Q E) :
    Post rel K mg md H' H0' r (fun v H5 => ∃ y H05, Fr H' H0' H5 H05 ∧ rel (bif md then H05 else H5) v y ∧ PostN K mg H H0 (f y) Q E) (fun _ _ _ => False) := by
  induction r with
  | stuck => exact h
  | ok d => exact fun v H5 H05 f5 x => ⟨d, H05, f5, x, h⟩
  | err e => exact False.elim h
  | pick k ih => exact fun n hn => ih n (h n hn)
section
variable {X : Cx} {W : WX} {md : Bool} {e a b c : Expr} {t ta tb tc te : TE} {m ma mb mc : ME} {pos : Pos} {st : Stmt} {sts rest : List Stmt} {s u : TS} {ms mu : MS}
theorem ev_lcP {elt tg iter : Expr} {ifs : List Expr} {scope : Scope} {vs sl : List Nat} {wi : TI} {mi : MA} {g : TG} {mt : D → En → R En} {tt : TT} {mtt : MT} (hi : BI X W tg iter wi mi) (hvs : ∀ j ∈ sl, j ∈ vs)
    (hg : ∀ (s : Shared) (H : Hp) (C : Addr) (cl : List (Str × Addr)) (fp : List Addr), BG (X.blk s H scope (compEnvC scope cl C X.env) fp) tg g sl mt) (ht : ∀ (s : Shared) (H : Hp) (C : Addr) (cl : List (Str × Addr)) (fp : List Addr), BTs (X.blk s H scope (compEnvC scope cl C X.env) fp) W0 ifs tt mtt)
    (he : ∀ (s : Shared) (H : Hp) (C : Addr) (cl : List (Str × Addr)) (fp : List Addr), BE (X.blk s H scope (compEnvC scope cl C X.env) fp) W0 true elt te m) :
    ∀ Hs H0s σ H H0 ρ Q, Rel X.K (excOf X) Hs H0s σ H H0 ρ → PostN X.K X.mg H H0 (mLcP vs mi mt mtt m ρ) Q (WE W σ) → tLc wi g tt te vs σ H Q := by
  intro Hs H0s σ H H0 ρ Q rl p
  have hg := hg X.s_0 X.H_0 0 [] []
  have ht := ht X.s_0 X.H_0 0 [] []
  have he := he X.s_0 X.H_0 0 [] []
  refine hi.ev Hs H0s σ H H0 ρ _ rl ?_
  unfold mLcP at p
  generalize mi ρ = r at p
  induction r with
  | stuck => exact p
  | pick k ih => exact fun n hn => ih n (p n hn)
  | err z => exact p
  | ok ds =>
    have p : PostN X.K X.mg H H0 (if ds.length ≤ sizeLine then lcP mt mtt m (wipeD (clean ρ) vs) [] ds else .stuck) Q (WE W σ) := p
    split at p
    · rename_i hsz
      intro J H1 H01 f1 w1 LD hLD
      have nD : H LD = none := f1.ex.free hLD
      have nDs : Hs LD = none := rl.fr.ex.free nD
      have rlw : Rel X.K EA.none Hs H0s (L2.wipe σ vs) H1 H01 (wipeD (clean ρ) vs) := Rel.wipe (Rel.clean (rl.step f1)) vs
      have ownD : ∀ (j : Nat) (es : List D), (wipeD (clean ρ) vs)[j]? = some (some (.own es)) → (L2.wipe σ vs)[j]? = some (some (.ref LD)) → False := fun j es e1 e2 => by
        obtain ⟨q', ws, a1, a2, a3, a4, a5⟩ := rlw.own j es e1
        rw [e2] at a1
        injection a1 with a1; injection a1 with a1; injection a1 with a1
        rw [← a1, hLD] at a4
        cases a4
      refine ⟨fun i k H' => i + k = ds.length ∧ ∃ H0' ws ys, Rel X.K EA.none Hs H0s (L2.wipe σ vs) H' H0' (wipeD (clean ρ) vs) ∧ Same H01 H0' ∧ Fr H H0 H' H0' ∧ H0' LD = none ∧ H' LD = some (.lst ws) ∧ DpAll X.K H0' ws ys ∧ ys.length ≤ i ∧ PostN X.K X.mg H H0 (lcP mt mtt m (wipeD (clean ρ) vs) ys (ds.drop i)) Q (WE W σ),
        ⟨ds.length, by omega, H01, [], [], rlw.loose nDs (f1.sb.free hLD) ownD, Same.refl _, f1.trans (Fr.loose f1.sb hLD), f1.sb.free hLD, upd_same, .nil, Nat.le_refl _, p⟩, ?_⟩
      rintro i k H2 ⟨ek, H02, ws, ys, rl2, s2, f2, n2, hw, hys, hly, hz⟩
      obtain ⟨wS, wG⟩ := w1 i H2 H02 s2 f2.sb
      cases k with
      | zero =>
        have e1 : ds.drop i = [] := List.drop_eq_nil_of_le (by omega)
        rw [e1] at hz
        have hz : ∀ p vs H' H0', Fr H H0 H' H0' → H p = none → H0' p = none → H' p = some (.lst vs) → DpAll X.K H0' vs ys → Q (.ref p) H' := hz
        exact .inl ⟨wS (by omega), hz LD ws H2 H02 f2 nD n2 hw hys⟩
      | succ k =>
        have hi' : i < ds.length := by omega
        have e1 : ds.drop i = ds[i] :: ds.drop (i + 1) := List.drop_eq_getElem_cons hi'
        rw [e1] at hz
        obtain ⟨go, yl⟩ := wG ds[i] (List.getElem?_eq_getElem hi')
        refine .inr ⟨go, fun H' => i + 1 + k = ds.length ∧ ∃ H0' ws ys, Rel X.K EA.none Hs H0s (L2.wipe σ vs) H' H0' (wipeD (clean ρ) vs) ∧ Same H01 H0' ∧ Fr H H0 H' H0' ∧ H0' LD = none ∧ H' LD = some (.lst ws) ∧ DpAll X.K H0' ws ys ∧ ys.length ≤ i + 1 ∧ PostN X.K X.mg H H0 (lcP mt mtt m (wipeD (clean ρ) vs) ys (ds.drop (i + 1))) Q (WE W σ), fun H' h => ⟨k, Nat.lt_succ_self k, h⟩, fun x H3 y => ?_⟩
        obtain ⟨H03, f3, x3⟩ := yl x H3 y
        have hLL2 : H2 LD ≠ none := by rw [hw]; simp
        have n3 : H03 LD = none := f3.ow LD n2 hLL2
        have hw3 := f3.ex _ _ hw
        unfold lcP at hz
        cases z1 : (mt ds[i] (wipeD (clean ρ) vs)) with
        | stuck => rw [z1] at hz; exact False.elim hz
        | err _ => rw [z1] at hz; exact False.elim hz
        | pick _ => rw [z1] at hz; exact False.elim hz
        | ok ρ1 =>
          rw [z1, R.sure_ok, R.bind_ok] at hz
          refine hg.ev Hs H0s (L2.wipe σ vs) H3 H03 _ x _ ρ1 _ (rl2.step f3) x3 z1 fun σ3 rl3 ag => ⟨wipe_ag ag hvs, ?_⟩
          refine ht.ev Hs H0s σ3 H3 H03 ρ1 _ rl3 (Post.sure (E := fun _ _ _ => False) ?_)
          cases z2 : (mtt ρ1).sure with
          | stuck => rw [z2] at hz; exact False.elim hz
          | err _ => cases z5 : mtt ρ1 <;> rw [z5] at z2 <;> cases z2
          | pick _ => cases z5 : mtt ρ1 <;> rw [z5] at z2 <;> cases z2
          | ok kk =>
            rw [z2, R.bind_ok] at hz
            intro bb H4 H04 f4 xb
            have xb : bb = kk := xb
            subst xb
            have f34 := f3.trans f4
            have n4 : H04 LD = none := f34.ow LD n2 hLL2
            have hw4 := f34.ex _ _ hw
            cases bb with
            | false =>
              rw [if_neg (by decide)] at hz ⊢
              exact ⟨by omega, H04, ws, ys, rl2.step f34, (s2.trans f3.ez).trans f4.ez, f2.trans f34, n4, hw4, dpAll_mono f34.ez _ _ hys, by omega, hz⟩
            | true =>
              rw [if_pos rfl] at hz ⊢
              refine he.ev Hs H0s σ3 H4 H04 ρ1 _ (rl3.step f4) ((PostN.elt (rel := Dp X.K) (md := true) (H' := H4) (H0' := H04) hz).imp ?_)
              rintro v5 H5 ⟨y1, H05, f5, x5, hz5⟩
              have f35 := f34.trans f5
              have n5 : H05 LD = none := f35.ow LD n2 hLL2
              have hw5 := f35.ex _ _ hw
              have hlen : ws.length < sizeLine := by
                rw [DpAll.length hys]
                omega
              refine ⟨ws, hw5, hlen, by omega, H05, ws ++ [v5], ys ++ [y1], (rl2.step f35).loose nDs n5 ownD, (s2.trans f3.ez).trans (f4.ez.trans f5.ez), ?_, n5, upd_same, DpAll.append (dpAll_mono f35.ez _ _ hys) (.cons x5 .nil), by rw [List.length_append]; exact Nat.succ_le_succ hly, hz5⟩
              have ff := f2.trans f35
              refine ⟨fun b x q => ?_, ff.ez, fun b x q => ?_, ff.ow⟩
              · have : b ≠ LD := fun z => by rw [z, nD] at q; cases q
                rw [upd_ne this]; exact ff.ex b x q
              · have : b ≠ LD := fun z => by rw [z, n5] at q; cases q
                rw [upd_ne this]; exact ff.sb b x q
    · exact False.elim p
theorem bn_lcP {elt tg iter : Expr} {ifs : List Expr} {scope : Scope} {own : List (Str × Nat)} {sl : List Nat} {wi : TI} {mi : MA} {mt : D → En → R En} {mtt : MT} (hc : X.calm = true) (hN : X.N.Nodup) (hi : BI X W tg iter wi mi) (ok : BlkOk X.N X.env.scope scope own) (hvs : ∀ j ∈ sl, j ∈ own.map (·.2))
    (hg : ∀ (s : Shared) (H : Hp) (C : Addr) (cl : List (Str × Addr)) (fp : List Addr), ∃ g, BG (X.blk s H scope (compEnvC scope cl C X.env) fp) tg g sl mt) (ht : ∀ (s : Shared) (H : Hp) (C : Addr) (cl : List (Str × Addr)) (fp : List Addr), ∃ tt, BTs (X.blk s H scope (compEnvC scope cl C X.env) fp) W0 ifs tt mtt)
    (he : ∀ (s : Shared) (H : Hp) (C : Addr) (cl : List (Str × Addr)) (fp : List Addr), ∃ te, BE (X.blk s H scope (compEnvC scope cl C X.env) fp) W0 true elt te m) (hs : ∀ x, foldedSetIterable iter X.env x = pure x := by intro _; rfl) :
    BN X W (.ListComp elt [⟨tg, iter, ifs, 0⟩] scope pos) (tLc wi (TG0 X.K EA.none sl mt) (TT0 X.K X.mg EA.none W0 mtt) (TE0 X.K X.mg EA.none W0 true m) (own.map (·.2))) (mLcP (own.map (·.2)) mi mt mtt m) :=
  have hg := fun s H C cl fp => (hg s H C cl fp).elim fun _ h => h.canon
  have ht := fun s H C cl fp => (ht s H C cl fp).elim fun _ h => h.canon
  have he := fun s H C cl fp => (he s H C cl fp).elim fun _ h => h.canon
  ⟨pe_lc hc hN hi.pe ok (fun s H C cl fp => (hg s H C cl fp).pe) (fun s H C cl fp => (ht s H C cl fp).pe) (fun s H C cl fp => (he s H C cl fp).pe) hs, ev_lcP hi hvs hg ht he⟩
theorem bl_lcP {i : Nat} {y : Str} {py spos : Pos} {elt tg iter : Expr} {ifs : List Expr} {scope : Scope} {own : List (Str × Nat)} {sl : List Nat} {wi : TI} {mi : MA} {mt : D → En → R En} {mtt : MT} (hc : X.calm = true) (hN : X.N.Nodup) (hy : X.N[i]? = some y) (hyl : X.env.scope.names.lookup y = some .local)
    (hsw : swapsWith (.ListComp elt [⟨tg, iter, ifs, 0⟩] scope pos) (some (.Name y py)) spos.line X.env = pure true) (hi : BI X W tg iter wi mi) (ok : BlkOk X.N X.env.scope scope own) (hvs : ∀ j ∈ sl, j ∈ own.map (·.2))
    (hg : ∀ (s : Shared) (H : Hp) (C : Addr) (cl : List (Str × Addr)) (fp : List Addr), ∃ g, BG (X.blk s H scope (compEnvC scope cl C X.env) fp) tg g sl mt) (ht : ∀ (s : Shared) (H : Hp) (C : Addr) (cl : List (Str × Addr)) (fp : List Addr), ∃ tt, BTs (X.blk s H scope (compEnvC scope cl C X.env) fp) W0 ifs tt mtt)
    (he : ∀ (s : Shared) (H : Hp) (C : Addr) (cl : List (Str × Addr)) (fp : List Addr), ∃ te, BE (X.blk s H scope (compEnvC scope cl C X.env) fp) W0 true elt te m) (hs : ∀ x, foldedSetIterable iter X.env x = pure x := by intro _; rfl) :
    BL X W (.Assign [.Name y py] (.ListComp elt [⟨tg, iter, ifs, 0⟩] scope pos) spos) i (tLc wi (TG0 X.K EA.none sl mt) (TT0 X.K X.mg EA.none W0 mtt) (TE0 X.K X.mg EA.none W0 true m) (own.map (·.2))) (mLcP (own.map (·.2)) mi mt mtt m) :=
  have hg := fun s H C cl fp => (hg s H C cl fp).elim fun _ h => h.canon
  have ht := fun s H C cl fp => (ht s H C cl fp).elim fun _ h => h.canon
  have he := fun s H C cl fp => (he s H C cl fp).elim fun _ h => h.canon
  ⟨ps_setLc hc hN hy hyl hsw hi.pe ok (fun s H C cl fp => (hg s H C cl fp).pe) (fun s H C cl fp => (ht s H C cl fp).pe) (fun s H C cl fp => (he s H C cl fp).pe) hs, ev_lcP hi hvs hg ht he⟩
end
end DW

end
end
section
set_option Elab.async false
set_option linter.all false
set_option maxRecDepth 100000
set_option maxHeartbeats 4000000
noncomputable section
namespace DW
open PySem PySem.Spec PyProof.Rows L2
/-! ### range that goes down -/
def rangeD (hi lo : Int) : List D := (List.range (hi - lo).toNat).map fun (k : Nat) => PyData.int (hi - (k : Int))
def dRange3 : List D → R (List D)
  | [.int i, .int j, .int c] => if small i && small j && decide (c = -1) then .ok (rangeD i j) else .stuck
  | _ => .stuck
def iRange3 (r : MA) : MA := fun ρ => (r ρ).bind dRange3
theorem walks_rangeD {K : PySem.W.Frag} {Hb : Hp} (hi lo : Int) : Walks K (Itc hi (-1) (hi - lo).toNat) (rangeD hi lo) Hb := by
  intro i H' H0' s1 s2
  have hl : (rangeD hi lo).length = (hi - lo).toNat := by unfold rangeD; rw [List.length_map, List.length_range]
  refine ⟨fun hi => by show _ ≤ i; omega, fun d hd => ?_⟩
  have hi' : i < (hi - lo).toNat := by rw [← hl]; exact (List.getElem?_eq_some_iff.mp hd).1
  refine ⟨hi', fun y H'' hy => ?_⟩
  obtain ⟨rfl, rfl⟩ := hy
  unfold rangeD at hd
  rw [List.getElem?_map, List.getElem?_range hi'] at hd
  cases hd
  have e : hi - (i : Int) = hi + (i : Int) * (-1) := by omega
  refine ⟨H0', .refl s2, ?_⟩
  show Dp K H0' (V.int (hi + (i : Int) * (-1))) (PyData.int (hi - (i : Int)))
  rw [e]
  exact .int _
section
variable {X : Cx} {W : WX} {a b c : Expr}
theorem bi_range3 {tg : Expr} {p pos : Pos} {tr : TA} {mr : MA} (hg : Gl X "range") (hm : X.mg "range" = none) (ha : BA X W false [a, b, c] tr mr) (hs : starEach [a, b, c] X.env = (false, eval a X.env) :: starEach [b, c] X.env := by rfl) (hpl : (backTo pos (starEach [b, c] X.env)).any (·.1) = false := by rfl) :
    BI X W tg (.Call (.Name "range" p) [a, b, c] [] pos) (iRng3 tr) (iRange3 mr) := by
  refine ⟨pi_range3 hg hm ha.pe hs hpl, fun Hs H0s σ H H0 ρ Rk rl p => ha.ev Hs H0s σ H H0 ρ _ rl ((PostI.ofL p).imp ?_)⟩
  rintro v H1 ⟨ds, H01, _, f1, x1, p1⟩
  unfold dRange3 at p1
  split at p1
  · cases x1 with
    | cons y1 y2 =>
      cases y2 with
      | cons y3 y4 =>
        cases y4 with
        | cons y5 y6 =>
          cases y6
          cases y1
          cases y3
          cases y5
          rename_i i j c
          split at p1
          · rename_i hh
            have hh := (Bool.and_eq_true_iff.mp hh)
            have hc := of_decide_eq_true hh.2
            have hh := (Bool.and_eq_true_iff.mp hh.1)
            have h1 := small_of hh.1
            have h2 := small_of hh.2
            subst hc
            exact ⟨i, j, -1, _, rfl, RgC.neg h1.1 h1.2 h2.1 h2.2, p1 _ H1 H01 (.refl f1.sb) (walks_rangeD i j)⟩
          · exact False.elim p1
  · exact False.elim p1
end
theorem e_iRange3 {r : MA} {ρ : En} : iRange3 r ρ = (r ρ).bind dRange3 := rfl
theorem rgD_nat {n : Nat} {j : Int} (h : n ≤ 1000) (hj : -1 ≤ j) (hj2 : j ≤ 1000) : dRange3 [.int ((n : Int) - 1), .int j, .int (-1)] = .ok ((List.range ((n : Int) - 1 - j).toNat).map fun (k : Nat) => PyData.int ((n : Int) - 1 - (k : Int))) := by
  have h1 : small ((n : Int) - 1) = true := by unfold small; exact decide_eq_true (by constructor <;> omega)
  have h2 : small j = true := by unfold small; exact decide_eq_true (by constructor <;> omega)
  unfold dRange3
  dsimp only
  rw [h1, h2]
  rfl
end DW

end
end
section
set_option Elab.async false
set_option linter.all false
set_option maxRecDepth 100000
set_option maxHeartbeats 4000000
noncomputable section
namespace DW
open PySem PySem.Spec PyProof.Rows L2
/-! ### comprehensions of two generators -/
def lcQ (g : D → En → R En) (mt : MT) (m : ME) (ρ : En) : List D → List D → R (List D)
  | acc, [] => .ok acc
  | acc, d :: ds => (g d ρ).sure.bind fun ρ1 => (mt ρ1).sure.bind fun k => if k then (m ρ1).quiet.bind fun y => if acc.length < sizeLine then lcQ g mt m ρ (acc ++ [y]) ds else .stuck else lcQ g mt m ρ acc ds
def lc2P (g : D → En → R En) (mt : MT) (vs1 : List Nat) (mi1 : MA) (g1 : D → En → R En) (mt1 : MT) (m : ME) (ρ : En) : List D → List D → R (List D)
  | acc, [] => .ok acc
  | acc, d :: ds => (g d ρ).sure.bind fun ρ1 => (mt ρ1).sure.bind fun k => if k then (mi1 ρ1).sure.bind fun es => (lcQ g1 mt1 m (wipeD ρ1 vs1) acc es).bind fun acc1 => lc2P g mt vs1 mi1 g1 mt1 m ρ acc1 ds else lc2P g mt vs1 mi1 g1 mt1 m ρ acc ds
def mLc2 (vs : List Nat) (mi : MA) (g : D → En → R En) (mt : MT) (vs1 : List Nat) (mi1 : MA) (g1 : D → En → R En) (mt1 : MT) (m : ME) : MA := fun ρ => (mi ρ).bind fun ds => lc2P g mt vs1 mi1 g1 mt1 m (wipeD (clean ρ) vs) [] ds
/-- the target writes no list of its own -/
def NoOw (mt : D → En → R En) (sl : List Nat) : Prop := ∀ d ρ ρ1 j es, mt d ρ = .ok ρ1 → ρ1[j]? = some (some (SD.own es)) → ρ[j]? = some (some (SD.own es)) ∧ j ∉ sl
theorem noOw_gN (i : Nat) : NoOw (gN i) [i] := by
  intro d ρ ρ1 j es e h
  cases e
  have h : (ρ.set i (some (.sh d)))[j]? = some (some (SD.own es)) := h
  by_cases hj : i = j
  · subst hj
    rw [List.getElem?_set, if_pos rfl] at h
    split at h <;> cases h
  · rw [List.getElem?_set_ne hj] at h
    exact ⟨h, fun z => hj (List.mem_singleton.mp z).symm⟩
theorem wipeD_own {ρ : En} {j : Nat} {s : SD} : ∀ {vs : List Nat}, (wipeD ρ vs)[j]? = some (some s) → ρ[j]? = some (some s)
  | [], h => h
  | v :: vs, h => by
    have h : ((wipeD ρ vs).set v none)[j]? = some (some s) := h
    by_cases hj : v = j
    · subst hj
      rw [List.getElem?_set, if_pos rfl] at h
      split at h <;> cases h
    · rw [List.getElem?_set_ne hj] at h
      exact wipeD_own h
theorem PostN.eltQ {α β : Type} {rel : Hp → β → α → Prop} {K : PySem.W.Frag} {mg : Str → Option Value} {md : Bool} {r : R α} {f : α → R (List D)} {Q : VK} {E : XK} {H H0 H' H0' : Hp} (h : PostN K mg H H0 (r.quiet.bind f) Q E) :
    Post rel K mg md H' H0' r (fun v H5 => ∃ y H05, Fr H' H0' H5 H05 ∧ rel (bif md then H05 else H5) v y ∧ PostN K mg H H0 (f y) Q E) (fun _ _ _ => False) := PostN.elt h
theorem bind_assoc {α β γ : Type} (r : R α) (f : α → R β) (h : β → R γ) : (r.bind f).bind h = r.bind fun a => (f a).bind h := by
  induction r with
  | pick k ih => exact congrArg R.pick (funext ih)
  | _ => rfl
section
variable {X : Cx} {W : WX} {md : Bool} {m : ME} {te : TE}
theorem ev_lc2 {elt tg iter tg1 iter1 : Expr} {ifs ifs1 : List Expr} {scope : Scope} {vs vs1 sl sl1 : List Nat} {wi wi1 : TI} {mi mi1 : MA} {g g1 : TG} {mt mt1 : D → En → R En} {tt tt1 : TT} {mtt mtt1 : MT} (hi : BI X W tg iter wi mi) (hvs : ∀ j ∈ sl, j ∈ vs) (hvs1 : ∀ j ∈ sl1, j ∈ vs1) (ho : NoOw mt sl)
    (hg : ∀ (s : Shared) (H : Hp) (C : Addr) (cl : List (Str × Addr)) (fp : List Addr), BG (X.blk s H scope (compEnvC scope cl C X.env) fp) tg g sl mt) (ht : ∀ (s : Shared) (H : Hp) (C : Addr) (cl : List (Str × Addr)) (fp : List Addr), BTs (X.blk s H scope (compEnvC scope cl C X.env) fp) W0 ifs tt mtt)
    (hi1 : ∀ (s : Shared) (H : Hp) (C : Addr) (cl : List (Str × Addr)) (fp : List Addr), BI (X.blk s H scope (compEnvC scope cl C X.env) fp) W0 tg1 iter1 wi1 mi1)
    (hg1 : ∀ (s : Shared) (H : Hp) (C : Addr) (cl : List (Str × Addr)) (fp : List Addr), BG (X.blk s H scope (compEnvC scope cl C X.env) fp) tg1 g1 sl1 mt1) (ht1 : ∀ (s : Shared) (H : Hp) (C : Addr) (cl : List (Str × Addr)) (fp : List Addr), BTs (X.blk s H scope (compEnvC scope cl C X.env) fp) W0 ifs1 tt1 mtt1)
    (he : ∀ (s : Shared) (H : Hp) (C : Addr) (cl : List (Str × Addr)) (fp : List Addr), BE (X.blk s H scope (compEnvC scope cl C X.env) fp) W0 true elt te m) :
    ∀ Hs H0s σ H H0 ρ Q, Rel X.K (excOf X) Hs H0s σ H H0 ρ → PostN X.K X.mg H H0 (mLc2 vs mi mt mtt vs1 mi1 mt1 mtt1 m ρ) Q (WE W σ) → tLc2 wi g tt wi1 g1 tt1 te vs vs1 σ H Q := by
  intro Hs H0s σ H H0 ρ Q rl p
  have hg := hg X.s_0 X.H_0 0 [] []
  have ht := ht X.s_0 X.H_0 0 [] []
  have hi1 := hi1 X.s_0 X.H_0 0 [] []
  have hg1 := hg1 X.s_0 X.H_0 0 [] []
  have ht1 := ht1 X.s_0 X.H_0 0 [] []
  have he := he X.s_0 X.H_0 0 [] []
  refine hi.ev Hs H0s σ H H0 ρ _ rl ?_
  unfold mLc2 at p
  generalize mi ρ = r at p
  induction r with
  | stuck => exact p
  | pick k ih => exact fun n hn => ih n (p n hn)
  | err z => exact p
  | ok ds =>
    have p : PostN X.K X.mg H H0 (lc2P mt mtt vs1 mi1 mt1 mtt1 m (wipeD (clean ρ) vs) [] ds) Q (WE W σ) := p
    intro J H1 H01 f1 w1 LD hLD
    have nD : H LD = none := f1.ex.free hLD
    have nDs : Hs LD = none := rl.fr.ex.free nD
    have rlw : Rel X.K EA.none Hs H0s (L2.wipe σ vs) H1 H01 (wipeD (clean ρ) vs) := Rel.wipe (Rel.clean (rl.step f1)) vs
    have ownD : ∀ (j : Nat) (es : List D), (wipeD (clean ρ) vs)[j]? = some (some (.own es)) → (L2.wipe σ vs)[j]? = some (some (.ref LD)) → False := fun j es e1 e2 => by
      obtain ⟨q', ws, a1, a2, a3, a4, a5⟩ := rlw.own j es e1
      rw [e2] at a1
      injection a1 with a1; injection a1 with a1; injection a1 with a1
      rw [← a1, hLD] at a4
      cases a4
    refine ⟨fun i k H' => i + k = ds.length ∧ ∃ H0' ws ys, Rel X.K EA.none Hs H0s (L2.wipe σ vs) H' H0' (wipeD (clean ρ) vs) ∧ Same H01 H0' ∧ Fr H H0 H' H0' ∧ H0' LD = none ∧ H' LD = some (.lst ws) ∧ DpAll X.K H0' ws ys ∧ PostN X.K X.mg H H0 (lc2P mt mtt vs1 mi1 mt1 mtt1 m (wipeD (clean ρ) vs) ys (ds.drop i)) Q (WE W σ),
      ⟨ds.length, by omega, H01, [], [], rlw.loose nDs (f1.sb.free hLD) ownD, Same.refl _, f1.trans (Fr.loose f1.sb hLD), f1.sb.free hLD, upd_same, .nil, p⟩, ?_⟩
    rintro i k H2 ⟨ek, H02, ws, ys, rl2, s2, f2, n2, hw, hys, hz⟩
    obtain ⟨wS, wG⟩ := w1 i H2 H02 s2 f2.sb
    cases k with
    | zero =>
      have e1 : ds.drop i = [] := List.drop_eq_nil_of_le (by omega)
      rw [e1] at hz
      have hz : ∀ p vs H' H0', Fr H H0 H' H0' → H p = none → H0' p = none → H' p = some (.lst vs) → DpAll X.K H0' vs ys → Q (.ref p) H' := hz
      exact .inl ⟨wS (by omega), hz LD ws H2 H02 f2 nD n2 hw hys⟩
    | succ k =>
      have hi' : i < ds.length := by omega
      have e1 : ds.drop i = ds[i] :: ds.drop (i + 1) := List.drop_eq_getElem_cons hi'
      rw [e1] at hz
      obtain ⟨go, yl⟩ := wG ds[i] (List.getElem?_eq_getElem hi')
      refine .inr ⟨go, fun H' => i + 1 + k = ds.length ∧ ∃ H0' ws ys, Rel X.K EA.none Hs H0s (L2.wipe σ vs) H' H0' (wipeD (clean ρ) vs) ∧ Same H01 H0' ∧ Fr H H0 H' H0' ∧ H0' LD = none ∧ H' LD = some (.lst ws) ∧ DpAll X.K H0' ws ys ∧ PostN X.K X.mg H H0 (lc2P mt mtt vs1 mi1 mt1 mtt1 m (wipeD (clean ρ) vs) ys (ds.drop (i + 1))) Q (WE W σ), fun H' h => ⟨k, Nat.lt_succ_self k, h⟩, fun x H3 y => ?_⟩
      obtain ⟨H03, f3, x3⟩ := yl x H3 y
      have hLL2 : H2 LD ≠ none := by rw [hw]; simp
      have n3 : H03 LD = none := f3.ow LD n2 hLL2
      have hw3 := f3.ex _ _ hw
      unfold lc2P at hz
      cases z1 : (mt ds[i] (wipeD (clean ρ) vs)) with
      | stuck => rw [z1] at hz; exact False.elim hz
      | err _ => rw [z1] at hz; exact False.elim hz
      | pick _ => rw [z1] at hz; exact False.elim hz
      | ok ρ1 =>
        rw [z1, R.sure_ok, R.bind_ok] at hz
        refine hg.ev Hs H0s (L2.wipe σ vs) H3 H03 _ x _ ρ1 _ (rl2.step f3) x3 z1 fun σ3 rl3 ag => ⟨wipe_ag ag hvs, ?_⟩
        have ownI : ∀ (j : Nat) (es : List D), (wipeD ρ1 vs1)[j]? = some (some (.own es)) → (L2.wipe σ3 vs1)[j]? = some (some (.ref LD)) → False := fun j es q1 q2 => by
          obtain ⟨q3, q4⟩ := ho _ _ _ j es z1 (wipeD_own q1)
          rw [wipe_at] at q2
          have q5 : σ3[j]? = some (some (.ref LD)) := by
            split at q2
            · split at q2 <;> cases q2
            · exact q2
          rw [ag.2 j q4] at q5
          exact ownD j es q3 q5
        refine ht.ev Hs H0s σ3 H3 H03 ρ1 _ rl3 (Post.sure (E := fun _ _ _ => False) ?_)
        cases z2 : (mtt ρ1).sure with
        | stuck => rw [z2] at hz; exact False.elim hz
        | err _ => cases z5 : mtt ρ1 <;> rw [z5] at z2 <;> cases z2
        | pick _ => cases z5 : mtt ρ1 <;> rw [z5] at z2 <;> cases z2
        | ok kk =>
          rw [z2, R.bind_ok] at hz
          intro bb H4 H04 f4 xb
          have xb : bb = kk := xb
          subst xb
          have f34 := f3.trans f4
          have n4 : H04 LD = none := f34.ow LD n2 hLL2
          have hw4 := f34.ex _ _ hw
          cases bb with
          | false =>
            rw [if_neg (by decide)] at hz ⊢
            exact ⟨by omega, H04, ws, ys, rl2.step f34, (s2.trans f3.ez).trans f4.ez, f2.trans f34, n4, hw4, dpAll_mono f34.ez _ _ hys, hz⟩
          | true =>
            rw [if_pos rfl] at hz ⊢
            refine hi1.ev Hs H0s σ3 H4 H04 ρ1 _ (rl3.step f4) ?_
            cases z6 : mi1 ρ1 with
            | stuck => rw [z6] at hz; exact False.elim hz
            | err _ => rw [z6] at hz; exact False.elim hz
            | pick _ => rw [z6] at hz; exact False.elim hz
            | ok es =>
              rw [z6, R.sure_ok, R.bind_ok] at hz
              intro J1 H5 H05 f5 w5
              have f35 := f34.trans f5
              have n5 : H05 LD = none := f35.ow LD n2 hLL2
              have hw5 := f35.ex _ _ hw
              have rlI : Rel X.K EA.none Hs H0s (L2.wipe σ3 vs1) H5 H05 (wipeD ρ1 vs1) := Rel.wipe ((rl3.step f4).step f5) vs1
              refine ⟨fun a b H' => a + b = es.length ∧ ∃ H0' ws ys, Rel X.K EA.none Hs H0s (L2.wipe σ vs) H' H0' (wipeD (clean ρ) vs) ∧ Rel X.K EA.none Hs H0s (L2.wipe σ3 vs1) H' H0' (wipeD ρ1 vs1) ∧ Same H01 H0' ∧ Same H05 H0' ∧ Fr H H0 H' H0' ∧ H0' LD = none ∧ H' LD = some (.lst ws) ∧ DpAll X.K H0' ws ys ∧ PostN X.K X.mg H H0 ((lcQ mt1 mtt1 m (wipeD ρ1 vs1) ys (es.drop a)).bind fun acc1 => lc2P mt mtt vs1 mi1 mt1 mtt1 m (wipeD (clean ρ) vs) acc1 (ds.drop (i + 1))) Q (WE W σ),
                ⟨es.length, by omega, H05, ws, ys, rl2.step f35, rlI, (s2.trans f34.ez).trans f5.ez, Same.refl _, f2.trans f35, n5, hw5, dpAll_mono f35.ez _ _ hys, hz⟩, ?_⟩
              rintro a b H6 ⟨eb, H06, ws6, ys6, rl6, rl7, s6, s7, f6, n6, hw6, hys6, hz6⟩
              obtain ⟨wS1, wG1⟩ := w5 a H6 H06 s7 f6.sb
              cases b with
              | zero =>
                have e6 : es.drop a = [] := List.drop_eq_nil_of_le (by omega)
                rw [e6] at hz6
                exact .inl ⟨wS1 (by omega), by omega, H06, ws6, ys6, rl6, s6, f6, n6, hw6, hys6, hz6⟩
              | succ b =>
                have ha' : a < es.length := by omega
                have e6 : es.drop a = es[a] :: es.drop (a + 1) := List.drop_eq_getElem_cons ha'
                rw [e6] at hz6
                obtain ⟨go1, yl1⟩ := wG1 es[a] (List.getElem?_eq_getElem ha')
                refine .inr ⟨go1, fun H' => a + 1 + b = es.length ∧ ∃ H0' ws ys, Rel X.K EA.none Hs H0s (L2.wipe σ vs) H' H0' (wipeD (clean ρ) vs) ∧ Rel X.K EA.none Hs H0s (L2.wipe σ3 vs1) H' H0' (wipeD ρ1 vs1) ∧ Same H01 H0' ∧ Same H05 H0' ∧ Fr H H0 H' H0' ∧ H0' LD = none ∧ H' LD = some (.lst ws) ∧ DpAll X.K H0' ws ys ∧ PostN X.K X.mg H H0 ((lcQ mt1 mtt1 m (wipeD ρ1 vs1) ys (es.drop (a + 1))).bind fun acc1 => lc2P mt mtt vs1 mi1 mt1 mtt1 m (wipeD (clean ρ) vs) acc1 (ds.drop (i + 1))) Q (WE W σ), fun H' h => ⟨b, Nat.lt_succ_self b, h⟩, fun x7 H7 y7 => ?_⟩
                obtain ⟨H07, f7, x8⟩ := yl1 x7 H7 y7
                have hLL6 : H6 LD ≠ none := by rw [hw6]; simp
                unfold lcQ at hz6
                cases z7 : (mt1 es[a] (wipeD ρ1 vs1)) with
                | stuck => rw [z7] at hz6; exact False.elim hz6
                | err _ => rw [z7] at hz6; exact False.elim hz6
                | pick _ => rw [z7] at hz6; exact False.elim hz6
                | ok ρ2 =>
                  rw [z7, R.sure_ok, R.bind_ok] at hz6
                  refine hg1.ev Hs H0s (L2.wipe σ3 vs1) H7 H07 _ x7 _ ρ2 _ (rl7.step f7) x8 z7 fun σ4 rl8 ag1 => ⟨wipe_ag ag1 hvs1, ?_⟩
                  refine ht1.ev Hs H0s σ4 H7 H07 ρ2 _ rl8 (Post.sure (E := fun _ _ _ => False) ?_)
                  cases z8 : (mtt1 ρ2).sure with
                  | stuck => rw [z8] at hz6; exact False.elim hz6
                  | err _ => cases z5 : mtt1 ρ2 <;> rw [z5] at z8 <;> cases z8
                  | pick _ => cases z5 : mtt1 ρ2 <;> rw [z5] at z8 <;> cases z8
                  | ok kk =>
                    rw [z8, R.bind_ok] at hz6
                    intro bb H8 H08 f8 xb
                    have xb : bb = kk := xb
                    subst xb
                    have f78 := f7.trans f8
                    have n8 : H08 LD = none := f78.ow LD n6 hLL6
                    have hw8 := f78.ex _ _ hw6
                    cases bb with
                    | false =>
                      rw [if_neg (by decide)] at hz6 ⊢
                      exact ⟨by omega, H08, ws6, ys6, rl6.step f78, rl7.step f78, s6.trans f78.ez, s7.trans f78.ez, f6.trans f78, n8, hw8, dpAll_mono f78.ez _ _ hys6, hz6⟩
                    | true =>
                      rw [if_pos rfl] at hz6 ⊢
                      rw [bind_assoc] at hz6
                      refine he.ev Hs H0s σ4 H8 H08 ρ2 _ (rl8.step f8) ((PostN.elt (rel := Dp X.K) (md := true) (H' := H8) (H0' := H08) hz6).imp ?_)
                      rintro v9 H9 ⟨y9, H09, f9, x9, hz9⟩
                      have f79 := f78.trans f9
                      have n9 : H09 LD = none := f79.ow LD n6 hLL6
                      have hw9 := f79.ex _ _ hw6
                      split at hz9
                      · rename_i hlen
                        refine ⟨ws6, hw9, by rw [DpAll.length hys6]; exact hlen, by omega, H09, ws6 ++ [v9], ys6 ++ [y9], (rl6.step f79).loose nDs n9 ownD, (rl7.step f79).loose nDs n9 ownI, s6.trans f79.ez, s7.trans f79.ez, ?_, n9, upd_same, DpAll.append (dpAll_mono f79.ez _ _ hys6) (.cons x9 .nil), hz9⟩
                        have ff := f6.trans f79
                        refine ⟨fun b x q => ?_, ff.ez, fun b x q => ?_, ff.ow⟩
                        · have : b ≠ LD := fun z => by rw [z, nD] at q; cases q
                          rw [upd_ne this]; exact ff.ex b x q
                        · have : b ≠ LD := fun z => by rw [z, n9] at q; cases q
                          rw [upd_ne this]; exact ff.sb b x q
                      · exact False.elim hz9
def TI0 (K : PySem.W.Frag) (mg : Str → Option Value) (ea : EA) (W : WX) (mi : MA) : TI := fun σ H Rk => ∃ Hs H0s H0 ρ, Rel K ea Hs H0s σ H H0 ρ ∧ PostI K mg H H0 (mi ρ) Rk (WE W σ)
theorem BI.canon {tg iter : Expr} {wi : TI} {mi : MA} (h : BI X W tg iter wi mi) : BI X W tg iter (TI0 X.K X.mg (excOf X) W mi) mi :=
  ⟨⟨fun pins s σ H Rk I ⟨Hs, H0s, H0, ρ, rl, p⟩ => h.pe.run pins s σ H Rk I (h.ev Hs H0s σ H H0 ρ Rk rl p)⟩, fun Hs H0s σ H H0 ρ Rk rl p => ⟨Hs, H0s, H0, ρ, rl, p⟩⟩
theorem bn_lc2 {elt tg iter tg1 iter1 : Expr} {ifs ifs1 : List Expr} {scope : Scope} {own : List (Str × Nat)} {sl sl1 vs1 : List Nat} {wi : TI} {mi mi1 : MA} {mt mt1 : D → En → R En} {mtt mtt1 : MT} {pos : Pos} (hc : X.calm = true) (hN : X.N.Nodup) (hi : BI X W tg iter wi mi) (ok : BlkOk X.N X.env.scope scope own) (hvs : ∀ j ∈ sl, j ∈ own.map (·.2)) (hv1 : ∀ j ∈ vs1, j ∈ own.map (·.2)) (hvs1 : ∀ j ∈ sl1, j ∈ vs1) (ho : NoOw mt sl)
    (hg : ∀ (s : Shared) (H : Hp) (C : Addr) (cl : List (Str × Addr)) (fp : List Addr), ∃ g, BG (X.blk s H scope (compEnvC scope cl C X.env) fp) tg g sl mt) (ht : ∀ (s : Shared) (H : Hp) (C : Addr) (cl : List (Str × Addr)) (fp : List Addr), ∃ tt, BTs (X.blk s H scope (compEnvC scope cl C X.env) fp) W0 ifs tt mtt)
    (hi1 : ∀ (s : Shared) (H : Hp) (C : Addr) (cl : List (Str × Addr)) (fp : List Addr), ∃ wi1, BI (X.blk s H scope (compEnvC scope cl C X.env) fp) W0 tg1 iter1 wi1 mi1)
    (hg1 : ∀ (s : Shared) (H : Hp) (C : Addr) (cl : List (Str × Addr)) (fp : List Addr), ∃ g, BG (X.blk s H scope (compEnvC scope cl C X.env) fp) tg1 g sl1 mt1) (ht1 : ∀ (s : Shared) (H : Hp) (C : Addr) (cl : List (Str × Addr)) (fp : List Addr), ∃ tt, BTs (X.blk s H scope (compEnvC scope cl C X.env) fp) W0 ifs1 tt mtt1)
    (he : ∀ (s : Shared) (H : Hp) (C : Addr) (cl : List (Str × Addr)) (fp : List Addr), ∃ te, BE (X.blk s H scope (compEnvC scope cl C X.env) fp) W0 true elt te m) (hs : ∀ x, foldedSetIterable iter X.env x = pure x := by intro _; rfl) (hs1 : ∀ env x, foldedSetIterable iter1 env x = pure x := by intro _ _; rfl) :
    BN X W (.ListComp elt [⟨tg, iter, ifs, 0⟩, ⟨tg1, iter1, ifs1, 0⟩] scope pos) (tLc2 wi (TG0 X.K EA.none sl mt) (TT0 X.K X.mg EA.none W0 mtt) (TI0 X.K X.mg EA.none W0 mi1) (TG0 X.K EA.none sl1 mt1) (TT0 X.K X.mg EA.none W0 mtt1) (TE0 X.K X.mg EA.none W0 true m) (own.map (·.2)) vs1) (mLc2 (own.map (·.2)) mi mt mtt vs1 mi1 mt1 mtt1 m) :=
  have hg := fun s H C cl fp => (hg s H C cl fp).elim fun _ h => h.canon
  have ht := fun s H C cl fp => (ht s H C cl fp).elim fun _ h => h.canon
  have hi1 := fun s H C cl fp => (hi1 s H C cl fp).elim fun _ h => h.canon
  have hg1 := fun s H C cl fp => (hg1 s H C cl fp).elim fun _ h => h.canon
  have ht1 := fun s H C cl fp => (ht1 s H C cl fp).elim fun _ h => h.canon
  have he := fun s H C cl fp => (he s H C cl fp).elim fun _ h => h.canon
  ⟨pe_lc2 hc hN hi.pe ok hv1 (fun s H C cl fp => (hg s H C cl fp).pe) (fun s H C cl fp => (ht s H C cl fp).pe) (fun s H C cl fp => (hi1 s H C cl fp).pe) (fun s H C cl fp => (hg1 s H C cl fp).pe) (fun s H C cl fp => (ht1 s H C cl fp).pe) (fun s H C cl fp => (he s H C cl fp).pe) hs hs1, ev_lc2 hi hvs hvs1 ho hg ht hi1 hg1 ht1 he⟩
theorem bl_lc2 {i : Nat} {y : Str} {py spos : Pos} {elt tg iter tg1 iter1 : Expr} {ifs ifs1 : List Expr} {scope : Scope} {own : List (Str × Nat)} {sl sl1 vs1 : List Nat} {wi : TI} {mi mi1 : MA} {mt mt1 : D → En → R En} {mtt mtt1 : MT} {pos : Pos} (hc : X.calm = true) (hN : X.N.Nodup) (hy : X.N[i]? = some y) (hyl : X.env.scope.names.lookup y = some .local)
    (hsw : swapsWith (.ListComp elt [⟨tg, iter, ifs, 0⟩, ⟨tg1, iter1, ifs1, 0⟩] scope pos) (some (.Name y py)) spos.line X.env = pure true) (hi : BI X W tg iter wi mi) (ok : BlkOk X.N X.env.scope scope own) (hvs : ∀ j ∈ sl, j ∈ own.map (·.2)) (hv1 : ∀ j ∈ vs1, j ∈ own.map (·.2)) (hvs1 : ∀ j ∈ sl1, j ∈ vs1) (ho : NoOw mt sl)
    (hg : ∀ (s : Shared) (H : Hp) (C : Addr) (cl : List (Str × Addr)) (fp : List Addr), ∃ g, BG (X.blk s H scope (compEnvC scope cl C X.env) fp) tg g sl mt) (ht : ∀ (s : Shared) (H : Hp) (C : Addr) (cl : List (Str × Addr)) (fp : List Addr), ∃ tt, BTs (X.blk s H scope (compEnvC scope cl C X.env) fp) W0 ifs tt mtt)
    (hi1 : ∀ (s : Shared) (H : Hp) (C : Addr) (cl : List (Str × Addr)) (fp : List Addr), ∃ wi1, BI (X.blk s H scope (compEnvC scope cl C X.env) fp) W0 tg1 iter1 wi1 mi1)
    (hg1 : ∀ (s : Shared) (H : Hp) (C : Addr) (cl : List (Str × Addr)) (fp : List Addr), ∃ g, BG (X.blk s H scope (compEnvC scope cl C X.env) fp) tg1 g sl1 mt1) (ht1 : ∀ (s : Shared) (H : Hp) (C : Addr) (cl : List (Str × Addr)) (fp : List Addr), ∃ tt, BTs (X.blk s H scope (compEnvC scope cl C X.env) fp) W0 ifs1 tt mtt1)
    (he : ∀ (s : Shared) (H : Hp) (C : Addr) (cl : List (Str × Addr)) (fp : List Addr), ∃ te, BE (X.blk s H scope (compEnvC scope cl C X.env) fp) W0 true elt te m) (hs : ∀ x, foldedSetIterable iter X.env x = pure x := by intro _; rfl) (hs1 : ∀ env x, foldedSetIterable iter1 env x = pure x := by intro _ _; rfl) :
    BL X W (.Assign [.Name y py] (.ListComp elt [⟨tg, iter, ifs, 0⟩, ⟨tg1, iter1, ifs1, 0⟩] scope pos) spos) i (tLc2 wi (TG0 X.K EA.none sl mt) (TT0 X.K X.mg EA.none W0 mtt) (TI0 X.K X.mg EA.none W0 mi1) (TG0 X.K EA.none sl1 mt1) (TT0 X.K X.mg EA.none W0 mtt1) (TE0 X.K X.mg EA.none W0 true m) (own.map (·.2)) vs1) (mLc2 (own.map (·.2)) mi mt mtt vs1 mi1 mt1 mtt1 m) :=
  have hg := fun s H C cl fp => (hg s H C cl fp).elim fun _ h => h.canon
  have ht := fun s H C cl fp => (ht s H C cl fp).elim fun _ h => h.canon
  have hi1 := fun s H C cl fp => (hi1 s H C cl fp).elim fun _ h => h.canon
  have hg1 := fun s H C cl fp => (hg1 s H C cl fp).elim fun _ h => h.canon
  have ht1 := fun s H C cl fp => (ht1 s H C cl fp).elim fun _ h => h.canon
  have he := fun s H C cl fp => (he s H C cl fp).elim fun _ h => h.canon
  ⟨ps_setLc2 hc hN hy hyl hsw hi.pe ok hv1 (fun s H C cl fp => (hg s H C cl fp).pe) (fun s H C cl fp => (ht s H C cl fp).pe) (fun s H C cl fp => (hi1 s H C cl fp).pe) (fun s H C cl fp => (hg1 s H C cl fp).pe) (fun s H C cl fp => (ht1 s H C cl fp).pe) (fun s H C cl fp => (he s H C cl fp).pe) hs hs1, ev_lc2 hi hvs hvs1 ho hg ht hi1 hg1 ht1 he⟩
end
end DW

end
end
section
set_option Elab.async false
set_option linter.all false
set_option maxRecDepth 100000
set_option maxHeartbeats 4000000
noncomputable section
namespace DW
open PySem PySem.Spec PyProof.Rows L2
/-! ### a field of an error that is a parameter -/
section
variable {X : Cx} {W : WX}
theorem pe_xfP {a C : Addr} {oe : Obj} {pn : List (Addr × Obj)} {ex : Expr} {tx : TE} {pos : Pos} {fld : Str} (hpn : X.pn = (a, oe) :: pn) (T : XfC X.K C)
    (hno : PySem.W.findIn X.K (.ref C) fld = some none) (hf : ∃ vs, oe.data = .fields vs) (hx : PE X ex tx)
    (hb : attributeBase ex fld X.env (eval ex X.env) = eval ex X.env := by rfl) :
    PE X (.Attribute ex fld pos) (tXf a oe.cls oe.dict C fld tx) := by
  refine ⟨fun pins sh σ H Q inv hq => ?_⟩
  have next := hx.run pins sh σ H _ inv hq
  refine attr_of hb (thn next fun val sh1 got => ?_)
  obtain ⟨y, Hy, invy, ry, ey, ecl, da, fields, v, eda, hda, hlk, hQ⟩ := got
  cases ey
  have ev : val = Value.ref a := ry
  cases ev
  have at1 := (invy.pin (a, oe) (List.mem_append_left _ (hpn ▸ List.mem_cons_self))).1
  have okD : ObjOk X.prog X.w Hy sh1.heap da (.xd fields) := invy.hok da _ hda
  have ⟨cells, nsD, relD⟩ := okD
  have ⟨oD, atD, lookD⟩ := lookIn_ns nsD
  have given : RelO (some v) (cells fld) := hlk ▸ relD fld
  have ⟨w1, ew1, rw1⟩ := given.some_of
  have ⟨vs1, ed1⟩ := hf
  have plainO : PySem.W.notCls oe = true := by
    unfold PySem.W.notCls
    rw [ed1]
    all_goals rfl
  have inst : PySem.W.InstAt sh1.heap a oe C (some oD) := ⟨at1, ecl, plainO, eda ▸ atD⟩
  have fnd := PySem.W.findObj_own T.hdC hno rfl ((lookD fld).trans (congrArg some ew1))
  exact HandSPX.exc_get invy.kIn inst T.ga T.gg T.exC fnd (handed_of rw1) ⟨v, Hy, invy.tok _, rw1, hQ⟩
theorem be_xfP {i : Nat} {n f x : Str} {p1 pos : Pos} {a C : Addr} {oe : Obj} {pn : List (Addr × Obj)} (hx : X.mg x = some (.ref C)) (T : XfC X.K C) (hno : PySem.W.findIn X.K (.ref C) f = some none) (hf : ∃ vs, oe.data = .fields vs) (hn : PE X (.Name n p1) (tVar i))
    (hb : attributeBase (.Name n p1) f X.env (eval (.Name n p1) X.env) = eval (.Name n p1) X.env := by rfl) (hpn : X.pn = (a, oe) :: pn := by rfl) :
    BE X W true (.Attribute (.Name n p1) f pos) (tXf a oe.cls oe.dict C f (tVar i)) (mXf i x f) := by
  refine ⟨pe_xfP hpn T hno hf hn hb, fun Hs H0s σ H H0 ρ Q rl p => ?_⟩
  have ee : excOf X = eaOf X.K X.mg a oe.cls oe.dict := by unfold excOf; rw [hpn]
  rw [ee] at rl
  unfold mXf at p
  split at p
  · rename_i nm g d fs e1
    split at p
    · rename_i hh
      obtain ⟨rfl, rfl⟩ := hh
      obtain ⟨e2, C', h1, h2, dx, v, h3, h4, h5⟩ := rl.exc _ _ _ e1
      have h1 : X.mg nm = some (.ref C') := h1
      rw [hx] at h1
      cases h1
      refine ⟨.ref a, e2, rfl, h2, dx, _, v, h3, rl.sub _ _ h4, ?_, p v H H0 (.refl rl.sub) h5⟩
      rw [List.lookup_cons, beq_self_eq_true]
    · exact False.elim p
  · exact False.elim p
end
end DW

end
end
section
set_option Elab.async false
set_option linter.all false
set_option maxRecDepth 100000
set_option maxHeartbeats 4000000
noncomputable section
namespace DW
open PySem PySem.Spec PyProof.Rows L2
open SX (S S_tl S_len S_cat)
/-! ### methods of texts: count, startswith, find -/
def dCountS (a : Str) : D → R D
  | .str b => .ok (.int (Txt.count a b))
  | _ => .stuck
def dStartsS (a : Str) : D → R D
  | .str b => .ok (.bool (Txt.startswith a b))
  | _ => .stuck
def dFindS (a : Str) : D → R D
  | .str b => .ok (.int (Txt.find a b))
  | _ => .stuck
theorem mt1_count {K : PySem.W.Frag} {mg : Str → Option Value} : Mt1 K mg (fun x xs H Q => ∃ a b, x = .str a ∧ xs = [.str b] ∧ Q (.int (Txt.count a b)) H) dCountS := by
  intro a y e H H0 Q E s hy p
  unfold dCountS at p
  split at p
  · cases hy
    exact ⟨a, _, rfl, rfl, post_here p s fun _ => .int _⟩
  · exact False.elim p
theorem mt1_starts {K : PySem.W.Frag} {mg : Str → Option Value} : Mt1 K mg (fun x xs H Q => ∃ a b, x = .str a ∧ xs = [.str b] ∧ Q (.bl (Txt.startswith a b)) H) dStartsS := by
  intro a y e H H0 Q E s hy p
  unfold dStartsS at p
  split at p
  · cases hy
    exact ⟨a, _, rfl, rfl, post_here p s fun _ => .bl _⟩
  · exact False.elim p
theorem mt1_find {K : PySem.W.Frag} {mg : Str → Option Value} : Mt1 K mg (fun x xs H Q => ∃ a b, x = .str a ∧ xs = [.str b] ∧ Q (.int (Txt.find a b)) H) dFindS := by
  intro a y e H H0 Q E s hy p
  unfold dFindS at p
  split at p
  · cases hy
    exact ⟨a, _, rfl, rfl, post_here p s fun _ => .int _⟩
  · exact False.elim p
section
variable {X : Cx} {W : WX} {md : Bool} {e a b c o : Expr} {es : List Expr} {t ta tb tc te to : TE} {tr : TA} {m ma mb mc mo : ME} {mr : MA} {pos : Pos}
/-! ### a method of any built-in kind, with arguments: it changes nothing -/
/-- what a method of the kind T gives of the object and the arguments -/
def MtB (K : PySem.W.Frag) (mg : Str → Option Value) (T : String) (r : V → List V → Hp → VK → Prop) (f : D → List D → R D) : Prop :=
  ∀ (x : V) (d : D) (ys : List V) (es : List D) (H H1 H0 : Hp) (Q : VK) (E : XK), Same H H1 → Same H0 H1 → Dp K H x d → DpAll K H1 ys es → Post (Dp K) K mg true H1 H0 (f d es) Q E → r x ys H1 Q
def TyB (K : PySem.W.Frag) (T : String) (ok : D → Bool) : Prop := ∀ (x : V) (d : D) (H : Hp), Dp K H x d → ok d = true → tyV K T x H
def mB (ok : D → Bool) (f : D → List D → R D) (mo : ME) (r : MA) : ME := fun ρ => (mo ρ).bind fun d => if ok d = true then (r ρ).bind fun es => f d es else .stuck
theorem ev_mB {T : String} {r : V → List V → Hp → VK → Prop} {ok : D → Bool} {f : D → List D → R D} (ht : TyB X.K T ok) (hf : MtB X.K X.mg T r f) (ho : BE X W false o to mo) (h : BA X W false es tr mr) :
    ∀ Hs H0s σ H H0 ρ Q, Rel X.K (excOf X) Hs H0s σ H H0 ρ → Post (Dp X.K) X.K X.mg true H H0 (mB ok f mo mr ρ) Q (WE W σ) → tBM X.K T r to tr σ H Q := fun Hs H0s σ H H0 ρ Q rl p => by
  refine ho.ev Hs H0s σ H H0 ρ _ rl ((Post.bind p).imp ?_)
  rintro v H1 ⟨d, H01, _, f1, x1, p1⟩
  split at p1
  · rename_i hok
    refine ⟨ht v d H1 x1 hok, h.ev Hs H0s σ H1 H01 ρ _ (rl.step f1) ((Post.bind p1).imp ?_)⟩
    rintro us H2 ⟨ds, H02, _, f2, x2, p2⟩
    exact hf v d us ds H1 H2 H02 Q _ f2.ex f2.sb x1 x2 p2
  · exact False.elim p1
theorem be_mB {T name id : String} {apos : Pos} {r : V → List V → Hp → VK → Prop} (ok : D → Bool) (f : D → List D → R D) (pa : PlainAttrs T) (slot : Slot T name id) (hty : typeOf (.builtin id) = pure (.type "method_descriptor")) (hm : MtR X id r) (ht : TyB X.K T ok) (hf : MtB X.K X.mg T r f) (ho : BE X W false o to mo) (h : BA X W false (e :: es) tr mr)
    (hbase : attributeBase o name X.env (eval o X.env) = eval o X.env := by rfl)
    (hfew : ((backTo pos (starEach (e :: es) X.env)).all (fun x => !x.1) && (backToKw pos (keywordEach [] X.env)).all (fun x => x.1.isSome)
      && decide ((e :: es).length + ([] : List Keyword).length + (if ([] : List Keyword).isEmpty then 0 else 1) < 30)) = true := by rfl)
    (hline : (apos.endLine == pos.line) = true := by rfl) (hs : starEach (e :: es) X.env = (false, eval e X.env) :: starEach es X.env := by rfl) (hplain : (backTo pos (starEach es X.env)).any (·.1) = false := by rfl) :
    BE X W true (.Call (.Attribute o name apos) (e :: es) [] pos) (tBM X.K T r to tr) (mB ok f mo mr) := ⟨pe_bm pa slot hty hm ho.pe h.pe hbase hfew hline hs hplain, ev_mB ht hf ho h⟩
end
def isStrD : D → Bool
  | .str _ => true
  | _ => false
theorem ty_str {K : PySem.W.Frag} : TyB K "str" isStrD := by
  intro x d H h hd
  cases d with
  | str z => cases h; rfl
  | _ => cases hd
def isListD : D → Bool
  | .list _ => true
  | _ => false
theorem ty_list {K : PySem.W.Frag} : TyB K "list" isListD := by
  intro x d H h hd
  cases d with
  | list z => cases h with | lst hl ha => exact .inl ⟨rfl, _, hl⟩
  | _ => cases hd
def dFind3 : D → List D → R D
  | .str a, [.str b, .int i] => .ok (.int (Txt.find3 a b i))
  | _, _ => .stuck
theorem mtb_find3 {K : PySem.W.Frag} {mg : Str → Option Value} : MtB K mg "str" (fun x xs H Q => ∃ (a b : Str) (i : Int), x = .str a ∧ xs = [.str b, .int i] ∧ Q (.int (Txt.find3 a b i)) H) dFind3 := by
  intro x d ys es H H1 H0 Q E s s0 hx hy p
  unfold dFind3 at p
  split at p
  · cases hx
    cases hy with
    | cons y1 y2 =>
      cases y2 with
      | cons y2 y3 =>
        cases y3
        cases y1
        cases y2
        exact ⟨_, _, _, rfl, rfl, post_here p s0 fun _ => .int _⟩
  · exact False.elim p
/-- list.count of ints -/
def dCountL : D → List D → R D
  | .list ds, [.int k] => match intsD ds with
    | some ns => .ok (.int (ns.count k : Nat))
    | none => .stuck
  | _, _ => .stuck
theorem mtb_countL {K : PySem.W.Frag} {mg : Str → Option Value} : MtB K mg "list" (rCntI K) dCountL := by
  intro x d ys es H H1 H0 Q E s s0 hx hy p
  unfold dCountL at p
  split at p
  · split at p
    · rename_i ns q
      have e := intsD_eq q
      subst e
      cases hx with
      | lst hl ha =>
        cases hy with
        | cons y1 y2 =>
          cases y2
          cases y1
          have e2 := DpAll.ints ha
          subst e2
          exact ⟨_, ns, _, rfl, rfl, s.seq hl, post_here p s0 fun _ => .int _⟩
    · exact False.elim p
  · exact False.elim p
end DW

end
end
section
set_option Elab.async false
set_option linter.all false
set_option maxRecDepth 100000
set_option maxHeartbeats 4000000
noncomputable section
namespace PySem
open Sem (wp)
open AutoSeq1 (wpAny_loadPart')
theorem meets_enumerate_newT (l : Addr) (items : Array Value) (n : Nat) (dct : Option Addr) (sl : Array (Option Value)) :
    Meets (Builtin.«enumerate.__new__» ⟨[.type "enumerate", .ref l], []⟩) (fun _ R s => s.heap.get? l = some { cls := .type "tuple", dict := dct, data := .seq items n, slots := sl } ∧
      R (.ok (.ret (.ref (s.heap.push { cls := .type "tuple_iterator", data := .fields #[.ref l, .int 0 0] }).objs.size)))
        { s with heap := (s.heap.push { cls := .type "tuple_iterator", data := .fields #[.ref l, .int 0 0] }).push { cls := .type "enumerate", data := .fields #[.none, .bool false, .ref s.heap.objs.size, rawInt 0, .none, .none] } }) :=
  .of_wp fun prog w A R s h => by
    obtain ⟨hp, g, d, tk, os⟩ := s; obtain ⟨hl, h⟩ := h
    have hsub := sub_enumerate
    have hL : Heap.IsTuple (Shared.heap ⟨hp, g, d, tk, os⟩) l items := ⟨_, hl, rfl, n, rfl⟩
    wp_walk using wpAny_loadPart' hl
    refine wpAny_stack_any fun st => wpAny_pure ?_
    split
    · rename_i c _ _ _ _ _
      cases (c == Value.type "enumerate")
      · wp_walk using wpAny_loadPart' hl, wpAny_pyIter_tuple hL
        exact ⟨_, rfl, h⟩
      · wp_walk using wpAny_loadPart' hl, wpAny_pyIter_tuple hL
        exact ⟨_, rfl, h⟩
    · wp_walk using wpAny_loadPart' hl, wpAny_pyIter_tuple hL
      exact ⟨_, rfl, h⟩
theorem call_enumerate_tuple {prog : Program} {w : World} {A : Around} {E : Value → Shared → Prop} {s : Shared} {l : Addr} {items : Array Value} {Q : Value → Shared → Prop} (hL : s.heap.IsTuple l items)
    (h : ∀ h', IsEnum h' (s.heap.objs.size + 1) s.heap.objs.size 0 .none → h'.IsTupleIter s.heap.objs.size l 0 → h'.objs.size = s.heap.objs.size + 2 →
      (∀ b o, s.heap.get? b = some o → h'.get? b = some o) → Q (.ref (s.heap.objs.size + 1)) { s with heap := h' }) :
    wpAny (model prog w) A (call (.type "enumerate") [.ref l]) Q E s := by
  obtain ⟨⟨c, dct, dt, sl⟩, hl, hc, n, hd⟩ := hL
  replace hc : c = .type "tuple" := hc
  replace hd : dt = .seq items n := hd
  subst hc hd
  refine callType_new F.called_enumerate (by decide) (F.typeCall_enumerate_1 _) (F.newCall_enumerate_1 _) (fun obj => F.args_object_init_2 obj _) F.entry_enumerate_new
    (meets_enumerate_newT l items n dct sl) ⟨hl, ?_⟩
  have hz : (s.heap.push { cls := .type "tuple_iterator", data := .fields #[.ref l, .int 0 0] }).objs.size = s.heap.objs.size + 1 := Heap.size_push ..
  show _ ∧ _
  rw [hz]
  have he : IsEnum ((s.heap.push { cls := .type "tuple_iterator", data := .fields #[.ref l, .int 0 0] }).push
      { cls := .type "enumerate", data := .fields #[.none, .bool false, .ref s.heap.objs.size, rawInt 0, .none, .none] }) (s.heap.objs.size + 1) s.heap.objs.size 0 .none := by
    have := Heap.get?_push_size (s.heap.push { cls := .type "tuple_iterator", data := .fields #[.ref l, .int 0 0] })
      (o := { cls := .type "enumerate", data := .fields #[.none, .bool false, .ref s.heap.objs.size, rawInt 0, .none, .none] }) rfl
    rw [hz] at this; exact this
  refine ⟨⟨_, he, rfl⟩, h _ he ⟨_, Heap.get?_push_of_some _ (Heap.get?_push_size _ rfl), rfl, rfl⟩ (by rw [Heap.size_push, hz]) fun b o x => Heap.get?_push_of_some _ (Heap.get?_push_of_some _ x)⟩
theorem wpAny_pyNext_enum_endT {prog : Program} {w : World} {A : Around} {E : Value → Shared → Prop} {s : Shared} {e it a : Addr} {items : Array Value} {i : Nat} {old : Value} {Q : Option Value → Shared → Prop}
    (hh : A.in1.handled = none) (he : IsEnum s.heap e it (i : Int) old) (hit : s.heap.IsTupleIter it a i) (ht : s.heap.IsTuple a items) (hz : items.size ≤ i)
    (hQ : ∀ h', Heap.ExtBut it s.heap h' → Q none { s with heap := h' }) : wpAny (model prog w) A (pyNext (.ref e)) Q E s := by
  have hT : s.TypeIs (.ref e) "enumerate" := ⟨_, he, rfl⟩
  unfold pyNext
  refine wpAny_bind (wpAny_attempt (wpAny_callSpecial?_slot (name := Str.ofString "__next__") hT F.slot_enumerate_next
    (wpAny_call_entry F.slot_enumerate_next hT F.entry_enumerate_next ?_ (F.args_enumerate_next_1 _))))
  show wpAny _ _ (field (.ref e) 2 >>= _) _ _ _
  refine wpAny_bind (wpAny_field he rfl (x := .ref it) rfl ?_)
  refine wpAny_bind (wpAny_nextOf_tuple_end hh hit ht (Array.getElem?_eq_none hz) fun h' x he' hx' => ?_)
  obtain ⟨o, ho, hc⟩ := hx'
  refine wpAny_bind (wpAny_isInstance (T := "StopIteration") (b := true) ⟨o, ho, hc⟩ isSubtype_stop ?_)
  exact wpAny_pure (hQ _ he')
end PySem
namespace L2
open PySem PyProof.Rows
def IteT (K : PySem.W.Frag) (a : Addr) : It :=
  ⟨fun i H => ∃ (xs : List V) (x : V), SqT K H a xs ∧ xs[i]? = some x, fun i H v H' => ∃ T x, v = .ref T ∧ H T = none ∧ H' = upd H T (.tup [.int (i : Nat), x]) ∧ ∀ xs, SqT K H a xs → xs[i]? = some x, fun i H => ∃ xs : List V, SqT K H a xs ∧ xs.length ≤ i⟩
theorem turn_enumT {P : Program} {w : World} {K : PySem.W.Frag} {elts : List Expr} {kk : Nat} {tpos : Pos} (a e it : Addr) :
    Turn P w K (.Tuple elts kk tpos) (IteT K a) [e, it] e (fun i h => (∃ old, IsEnum h e it ((i : Nat) : Int) old) ∧ h.IsTupleIter it a i ∧ e ≠ it ∧ a ≠ it ∧ a ≠ e) where
  mem := by simp
  obj := fun i h st b hb => by
    obtain ⟨⟨old, he⟩, ⟨o, ho, hc, hd⟩, _⟩ := st
    have e' : b = e ∨ b = it := by simpa using hb
    rcases e' with z | z
    · rw [z]; exact ⟨_, he, fun v q => nomatch q⟩
    · rw [z]; exact ⟨o, ho, fun v q => by rw [hd] at q; cases q⟩
  keep := fun i h h' st k => let ⟨⟨old, he⟩, hi, hne⟩ := st; ⟨⟨old, k e (by simp) _ he⟩, hi.at fun o q => k it (by simp) o q, hne⟩
  item := by
    intro X hP hw hK hc i pins s σ H E I hf st hg
    subst hP hw hK
    obtain ⟨⟨old, he⟩, hit, hne, hai, hae⟩ := st
    obtain ⟨xs, x, hq, hx⟩ := hg
    obtain ⟨its, rv, p, hz⟩ := I.tuple hq
    obtain ⟨u, hu, ru⟩ := rv.get hx
    have hel : e < s.heap.objs.size := Heap.lt_size he
    have hil : it < s.heap.objs.size := by obtain ⟨_, q, _⟩ := hit; exact Heap.lt_size q
    have hp : s.heap.IsTuple a its.toArray := p
    have hlt : i < its.toArray.size := by
      have := (List.getElem?_eq_some_iff.mp hu).1
      simpa using this
    have D := PySem.Draws.tuple (prog := X.prog) (w := X.w) (A := X.A.in1) (I.ok.hd hc) it a hai its.toArray
    refine wpAny_pyNext_enum_itemD D he ⟨hit, hp⟩ hlt hne (by simp [hne, Ne.symm hae]) fun x' h' tk hPx ho hst' hT hsz hk => ?_
    have ex : x' = u := by
      have h1 : its.toArray[i]? = some x' := hPx
      have h2 : its.toArray[i]? = some u := by simpa using hu
      rw [h1] at h2
      exact Option.some.inj h2
    subst ex
    refine ⟨_, rfl, wpAny_letOwnedTupleGo_enum (s := { s with heap := h', toks := tk + 1 }) ho fun h'' he' sb => ?_⟩
    have hT2 : h''.get? s.heap.objs.size = some { cls := .type "tuple", data := .seq #[.int i tk, x'] } := (sb.2 _ (Nat.ne_of_gt hel)).trans hT
    have new : ObjOk X.prog X.w (upd H s.heap.objs.size (.tup [.int (i : Nat), x])) h'' s.heap.objs.size (.tup [.int (i : Nat), x]) :=
      ⟨by show 2 ≤ sizeLine; decide, [.int i tk, x'], .cons ⟨_, rfl⟩ (.cons ru .nil), ⟨_, hT2, rfl, _, rfl⟩⟩
    have I1 : Inv X pins σ (upd H s.heap.objs.size (.tup [.int (i : Nat), x])) { s with heap := h'', toks := tk + 1 } :=
      I.turnedNew (ch := [e, it]) (fun b ob hb q => (sb.2 b (fun z => hb (by simp [z]))).trans (hk b ob (fun z => hb (by simp [z])) (fun z => hb (by simp [z])) q)) hf (Nat.le_refl _) new
    refine ⟨.ref s.heap.objs.size, _, I1, rfl, ⟨_, x, rfl, I.hok.fresh (Nat.le_refl _), rfl, fun ys hy => by rw [I.tuple_inj hy hq]; exact hx⟩, ⟨⟨x', ?_⟩, hst'.1.at fun o q => (sb.2 it (Ne.symm hne)).trans q, hne, hai, hae⟩, fun b hb => ?_⟩
    · have e1 : ((i + 1 : Nat) : Int) = (i : Int) + 1 := by omega
      rw [e1]; exact he'
    · have hb' : b < s.heap.objs.size := by
        have e' : b = e ∨ b = it := by simpa using hb
        rcases e' with z | z
        · rw [z]; exact hel
        · rw [z]; exact hil
      rw [upd_ne (Nat.ne_of_lt hb')]
      exact (hf b hb).1
  done := by
    intro X hP hw hK hc i pins s σ H E I hf st hg
    subst hP hw hK
    obtain ⟨⟨old, he⟩, hit, hne, hai, hae⟩ := st
    obtain ⟨xs, hq, hx⟩ := hg
    obtain ⟨its, rv, p, hz⟩ := I.tuple hq
    obtain ⟨f0, f1, f2, f3, f4, f5⟩ := hf it (by simp)
    have hl := rv.length
    have hp : s.heap.IsTuple a its.toArray := p
    exact wpAny_pyNext_enum_endT (I.ok.hd hc) he hit hp (by simp; omega) fun h' eb => ⟨rfl, I.turned (t' := s.toks) (fun b o hb q => eb b o hb q) f0 f1 f3 f4 f5⟩
  self := fun A i s Q E st h => let ⟨⟨_, he⟩, _⟩ := st; wpAny_pyIter_enum he h
def iEnumT (K : PySem.W.Frag) (ta : TA) : TI := fun σ H R => ta σ H fun vs H1 => ∃ a xs, vs = [.ref a] ∧ ((SqL K H1 a xs ∧ R (Ite K a) H1) ∨ (SqT K H1 a xs ∧ R (IteT K a) H1))
theorem pi_enumT {X : Cx} {e : Expr} {ta : TA} {p pos tpos : Pos} {elts : List Expr} {kk : Nat} (hg : Gl X "enumerate") (hm : X.mg "enumerate" = none) (ha : PA X [e] ta) (hs : starEach [e] X.env = [(false, eval e X.env)] := by rfl) :
    PI X (.Tuple elts kk tpos) (.Call (.Name "enumerate" p) [e] [] pos) (iEnumT X.K ta) := by
  refine ⟨fun pins s σ H R I h => ?_⟩
  refine Call_ (ld_blt I hg hm boot_enumerate (PyProof.Rows.callWith_type1 (thn (ha.run pos pins s σ H _ I h) fun us s1 ⟨vs, H1, I1, r1, q1⟩ => ?_) hs rfl))
  obtain ⟨a, xs, ex, hq⟩ := q1
  subst ex
  cases r1 with
  | cons r rr =>
    cases rr
    cases r
    rcases hq with ⟨hq, q⟩ | ⟨hq, q⟩
    · obtain ⟨its, rv, p', hz⟩ := I1.list hq
      refine call_enumerate_list p'.isList fun h' he hit hsz hk => wpAny_pyIter_enum he ?_
      have I2 : Inv X pins σ H1 { s1 with heap := h' } := I1.kept (t' := s1.toks) hk
      refine ⟨s1.heap.objs.size + 1, [s1.heap.objs.size + 1, s1.heap.objs.size], _, _, H1, rfl, I2, turn_enum a (s1.heap.objs.size + 1) s1.heap.objs.size, ⟨⟨.none, he⟩, hit, Nat.succ_ne_self _⟩, fun b hb => ?_, q⟩
      have e' : b = s1.heap.objs.size + 1 ∨ b = s1.heap.objs.size := by simpa using hb
      have hle : s1.heap.objs.size ≤ b := by
        rcases e' with z | z
        · rw [z]; exact Nat.le_add_right _ _
        · rw [z]; exact Nat.le_refl _
      exact I1.fpOk hle (I1.hok.fresh hle)
    · obtain ⟨its, rv, p', hz⟩ := I1.tuple hq
      have hp : s1.heap.IsTuple a its.toArray := p'
      have hal : a < s1.heap.objs.size := by obtain ⟨o, ho, _⟩ := hp; exact Heap.lt_size ho
      refine call_enumerate_tuple hp fun h' he hit hsz hk => wpAny_pyIter_enum he ?_
      have I2 : Inv X pins σ H1 { s1 with heap := h' } := I1.kept (t' := s1.toks) hk
      refine ⟨s1.heap.objs.size + 1, [s1.heap.objs.size + 1, s1.heap.objs.size], _, _, H1, rfl, I2, turn_enumT a (s1.heap.objs.size + 1) s1.heap.objs.size, ⟨⟨.none, he⟩, hit, Nat.succ_ne_self _, Nat.ne_of_lt hal, Nat.ne_of_lt (Nat.lt_succ_of_lt hal)⟩, fun b hb => ?_, q⟩
      have e' : b = s1.heap.objs.size + 1 ∨ b = s1.heap.objs.size := by simpa using hb
      have hle : s1.heap.objs.size ≤ b := by
        rcases e' with z | z
        · rw [z]; exact Nat.le_add_right _ _
        · rw [z]; exact Nat.le_refl _
      exact I1.fpOk hle (I1.hok.fresh hle)
end L2
namespace DW
open PySem PySem.Spec PyProof.Rows L2
open SX (S S_tl S_len S_cat)
theorem walks_enumT {K : PySem.W.Frag} {Hb : Hp} {a : Addr} {xs : List V} {ds : List D} (h : SqT K Hb a xs) (x : DpAll K Hb xs ds) : Walks K (IteT K a) (enumD 0 ds) Hb := by
  intro i H' H0' s1 s2
  have h' : SqT K H' a xs := sqT_mono (s1.trans s2) h
  refine ⟨fun hi => ⟨xs, h', by rw [DpAll.length x]; rw [enumD_len] at hi; exact hi⟩, fun d hd => ?_⟩
  rw [enumD_at] at hd
  cases e : ds[i]? with
  | none => rw [e] at hd; cases hd
  | some y =>
    rw [e] at hd
    cases hd
    obtain ⟨v, hv, xv⟩ := DpAll.get x e
    refine ⟨⟨xs, v, h', hv⟩, fun z H'' hz => ?_⟩
    obtain ⟨T, u, rfl, n, rfl, q⟩ := hz
    have e2 : some u = some v := (q xs h').symm.trans hv
    cases e2
    have e3 : ((0 + i : Nat) : Int) = (i : Int) := by rw [Nat.zero_add]
    rw [e3]
    exact fr_tup s2 n (.cons (.int _) (.cons (dp_mono s1 _ _ xv) .nil))
def dEnumA : List D → R (List D)
  | [.list ds] => .ok (enumD 0 ds)
  | [.tuple ds] => .ok (enumD 0 ds)
  | _ => .stuck
def iEnumA (r : MA) : MA := fun ρ => (r ρ).bind dEnumA
section
variable {X : Cx} {W : WX} {e a b : Expr} {es : List Expr} {t ta tb : TE} {tr : TA} {m ma mb : ME} {mr : MA} {pos tpos : Pos} {elts : List Expr} {kk : Nat}
theorem bi_enumA {p : Pos} (hg : Gl X "enumerate") (hm : X.mg "enumerate" = none) (ha : BA X W true [e] tr mr) (hs : starEach [e] X.env = [(false, eval e X.env)] := by rfl) :
    BI X W (.Tuple elts kk tpos) (.Call (.Name "enumerate" p) [e] [] pos) (iEnumT X.K tr) (iEnumA mr) := by
  refine ⟨pi_enumT hg hm ha.pe hs, fun Hs H0s σ H H0 ρ Rk rl p => ha.ev Hs H0s σ H H0 ρ _ rl ((PostI.ofA p).imp ?_)⟩
  rintro vs H1 ⟨ds, H01, _, f1, x1, p1⟩
  match ds, x1, p1 with
  | [.list es], .cons (.lst hq ha) .nil, p1 => exact ⟨_, _, rfl, .inl ⟨f1.sb.seq hq, p1 _ H1 H01 (.refl f1.sb) (walks_enum hq ha)⟩⟩
  | [.tuple es], .cons (.tup hq ha) .nil, p1 => exact ⟨_, _, rfl, .inr ⟨sqT_mono f1.sb hq, p1 _ H1 H01 (.refl f1.sb) (walks_enumT hq ha)⟩⟩
end
theorem e_iEnumA {r : MA} {ρ : En} : iEnumA r ρ = (r ρ).bind dEnumA := rfl
theorem o_enumL {ds : List D} : dEnumA [.list ds] = .ok (enumD 0 ds) := rfl
theorem o_enumT {ds : List D} : dEnumA [.tuple ds] = .ok (enumD 0 ds) := rfl
section
variable {K : PySem.W.Frag} {mg : Str → Option Value} {md : Bool}
def dXor : D → D → R D
  | .int i, .int j => .ok (.int (Builtin.bitXor i j))
  | _, _ => .stuck
theorem op2_xor : Op2 K mg md (rI0 fun i j => .int (Builtin.bitXor i j)) dXor := by
  intro x y d e H H0 Q E s hx hy p
  unfold dXor at p
  split at p
  · cases dp_md s hx; cases dp_md s hy; exact ⟨_, _, rfl, rfl, post_here p s fun _ => .int _⟩
  · exact False.elim p
end
section
variable {ρ : En}
theorem e_mB {ok : D → Bool} {f : D → List D → R D} {mo : ME} {r : MA} : mB ok f mo r ρ = (mo ρ).bind fun d => if ok d = true then (r ρ).bind fun es => f d es else .stuck := rfl
theorem ok_strD {z : Str} : isStrD (.str z) = true := rfl
theorem ok_listD {l : List D} : isListD (.list l) = true := rfl
end
end DW

end
end
section
set_option Elab.async false
set_option linter.all false
set_option maxRecDepth 100000
set_option maxHeartbeats 4000000
noncomputable section
namespace L2
open PySem PyProof.Rows
/-! ### zip of a list or a tuple with a list or a tuple -/
def SqK (t : Bool) (K : PySem.W.Frag) (H : Hp) (a : Addr) (xs : List V) : Prop := if t = true then SqT K H a xs else SqL K H a xs
def IterK (t : Bool) (h : Heap) (it a : Addr) (i : Nat) : Prop := if t = true then h.IsTupleIter it a i else h.IsListIter it a i
def IsK (t : Bool) (h : Heap) (a : Addr) (items : Array Value) : Prop := if t = true then h.IsTuple a items else h.IsList a items
theorem IterK.at {t : Bool} {h h' : Heap} {it a : Addr} {i : Nat} (x : IterK t h it a i) (k : ∀ o, h.get? it = some o → h'.get? it = some o) : IterK t h' it a i := by
  unfold IterK at *
  cases t with
  | true => exact Heap.IsTupleIter.at x k
  | false => exact Heap.IsListIter.at x k
theorem IterK.get {t : Bool} {h : Heap} {it a : Addr} {i : Nat} (x : IterK t h it a i) : ∃ o d, h.get? it = some o ∧ o.data = .fields d := by
  unfold IterK at x
  cases t with
  | true => obtain ⟨o, e, _, d⟩ := (show h.IsTupleIter it a i from x); exact ⟨o, _, e, d⟩
  | false => obtain ⟨o, e, _, d⟩ := (show h.IsListIter it a i from x); exact ⟨o, _, e, d⟩
theorem Inv.sqK {X : Cx} {pins : List (Addr × Obj)} {σ : St} {H : Hp} {s : Shared} (I : Inv X pins σ H s) {t : Bool} {a : Addr} {xs : List V} (h : SqK t X.K H a xs) : ∃ its : List Value, Vals xs its ∧ IsK t s.heap a its.toArray := by
  unfold SqK at h
  unfold IsK
  cases t with
  | true => obtain ⟨its, r, p, _⟩ := I.tuple (show SqT X.K H a xs from h); exact ⟨its, r, p⟩
  | false => obtain ⟨its, r, p, _⟩ := I.list (show SqL X.K H a xs from h); exact ⟨its, r, p.isList⟩
theorem Inv.sqK_inj {X : Cx} {pins : List (Addr × Obj)} {σ : St} {H : Hp} {s : Shared} (I : Inv X pins σ H s) {t : Bool} {a : Addr} {xs ys : List V} (h : SqK t X.K H a xs) (h' : SqK t X.K H a ys) : xs = ys := by
  unfold SqK at h h'
  cases t with
  | true => exact I.tuple_inj (show SqT X.K H a xs from h) h'
  | false => exact I.list_inj (show SqL X.K H a xs from h) h'
theorem IsK.lt {t : Bool} {h : Heap} {a : Addr} {items : Array Value} (x : IsK t h a items) : a < h.objs.size := by
  unfold IsK at x
  cases t with
  | true => obtain ⟨o, e, _⟩ := (show h.IsTuple a items from x); exact Heap.lt_size e
  | false => obtain ⟨o, e, _⟩ := (show h.IsList a items from x); exact Heap.lt_size e
/-- what an iterator over a list or a tuple draws -/
theorem drawsK {prog : Program} {w : World} {A : Around} (hh : A.handled = none) (t : Bool) (it l : Addr) (hne : l ≠ it) (items : Array Value) :
    PySem.Draws prog w A it [it, l] items.size (fun i v => items[i]? = some v) (fun i h => IterK t h it l i ∧ IsK t h l items) := by
  cases t with
  | true => exact PySem.Draws.tuple hh it l hne items
  | false => exact PySem.Draws.list hh it l hne items
/-- an iterator at its end -/
theorem drawsE {prog : Program} {w : World} {A : Around} (hh : A.handled = none) (t : Bool) (it l : Addr) (items : Array Value) (i : Nat) (hz : items.size ≤ i) :
    PySem.Draws prog w A it [it, l] i (fun _ _ => True) (fun j h => j = i ∧ IterK t h it l i ∧ IsK t h l items) where
  live := fun _ _ st => let ⟨o, _, ho, _⟩ := st.2.1.get; ⟨o, ho⟩
  frame := fun _ _ _ st hk => by
    refine ⟨st.1, st.2.1.at fun o e => hk it (by simp) o e, ?_⟩
    have z := st.2.2
    unfold IsK at z ⊢
    cases t with
    | true => exact Heap.IsTuple.at z fun o e => hk l (by simp) o e
    | false => exact Heap.IsList.at z fun o e => hk l (by simp) o e
  item := fun j s Q E hi st hQ => absurd st.1 (Nat.ne_of_lt hi)
  done := fun s Q E st hE => by
    obtain ⟨_, s1, s2⟩ := st
    unfold IterK at s1
    unfold IsK at s2
    cases t with
    | true => exact wpAny_nextOf_tuple_end hh s1 s2 (Array.getElem?_eq_none hz) hE
    | false => exact wpAny_nextOf_list_end hh s1 s2 (Array.getElem?_eq_none hz) hE
def ItzK (t1 t2 : Bool) (K : PySem.W.Frag) (a b : Addr) : It :=
  ⟨fun i H => ∃ (xs ys : List V) (x y : V), SqK t1 K H a xs ∧ SqK t2 K H b ys ∧ xs[i]? = some x ∧ ys[i]? = some y,
    fun i H v H' => ∃ T x y, v = .ref T ∧ H T = none ∧ H' = upd H T (.tup [x, y]) ∧ (∀ xs, SqK t1 K H a xs → xs[i]? = some x) ∧ ∀ ys, SqK t2 K H b ys → ys[i]? = some y,
    fun i H => ∃ xs ys : List V, SqK t1 K H a xs ∧ SqK t2 K H b ys ∧ (xs.length ≤ i ∨ ys.length ≤ i)⟩
theorem turn_zipK {P : Program} {w : World} {K : PySem.W.Frag} {elts : List Expr} {kk : Nat} {tpos : Pos} {t1 t2 : Bool} {a b z TI TO i1 i2 : Addr} (D : ZipSep2 z TI TO i1 i2 [i1, a] [i2, b]) (ha1 : a ≠ i1) (hb2 : b ≠ i2) :
    Turn P w K (.Tuple elts kk tpos) (ItzK t1 t2 K a b) [z, TI, TO, i1, i2] z (fun i h => IsZip h z TI TO .none ∧ IsTupOf2 h TI (.ref i1) (.ref i2) ∧ (∃ x y, IsTupOf2 h TO x y) ∧ IterK t1 h i1 a i ∧ IterK t2 h i2 b i) where
  mem := by simp
  obj := fun i h st c hc => by
    obtain ⟨hz, hTI, ⟨x, y, hTO⟩, h1, h2⟩ := st
    obtain ⟨o1, f1, e1, d1⟩ := h1.get
    obtain ⟨o2, f2, e2, d2⟩ := h2.get
    have hcs : c = z ∨ c = TI ∨ c = TO ∨ c = i1 ∨ c = i2 := by simpa using hc
    rcases hcs with rfl | rfl | rfl | rfl | rfl
    · exact ⟨_, hz, fun v q => nomatch q⟩
    · exact ⟨_, hTI, fun v q => nomatch q⟩
    · exact ⟨_, hTO, fun v q => nomatch q⟩
    · exact ⟨o1, e1, fun v q => by rw [d1] at q; cases q⟩
    · exact ⟨o2, e2, fun v q => by rw [d2] at q; cases q⟩
  keep := fun i h h' st k => by
    obtain ⟨hz, hTI, ⟨x, y, hTO⟩, h1, h2⟩ := st
    exact ⟨k z (by simp) _ hz, k TI (by simp) _ hTI, ⟨x, y, k TO (by simp) _ hTO⟩, h1.at fun o q => k i1 (by simp) o q, h2.at fun o q => k i2 (by simp) o q⟩
  item := by
    intro X hP hw hK hc i pins s σ H E I hf st hg
    subst hP hw hK
    obtain ⟨hz, hTI, ⟨x0, y0, hTO⟩, h1, h2⟩ := st
    obtain ⟨xs, ys, x, y, hqx, hqy, hx, hy⟩ := hg
    obtain ⟨its, rv, p⟩ := I.sqK hqx
    obtain ⟨its2, rv2, p2⟩ := I.sqK hqy
    obtain ⟨u, hu, ru⟩ := rv.get hx
    obtain ⟨u2, hu2, ru2⟩ := rv2.get hy
    have hzl : z < s.heap.objs.size := Heap.lt_size hz
    have lt1 : i < its.toArray.size := by
      have := (List.getElem?_eq_some_iff.mp hu).1
      simpa using this
    have lt2 : i < its2.toArray.size := by
      have := (List.getElem?_eq_some_iff.mp hu2).1
      simpa using this
    have hh : X.A.in1.handled = none := I.ok.hd hc
    refine wpAny_pyNext_zipD2_item D (drawsK hh t1 i1 a ha1 its.toArray) (drawsK hh t2 i2 b hb2 its2.toArray) hz hTI hTO ⟨h1, p⟩ ⟨h2, p2⟩ lt1 lt2 fun v1 v2 h' tk q1 q2 z' TO' s1' s2' hT hsz hk => ?_
    have e1 : v1 = u := by
      have a1 : its.toArray[i]? = some u := by simpa using hu
      rw [a1] at q1
      exact (Option.some.inj q1).symm
    have e2 : v2 = u2 := by
      have a2 : its2.toArray[i]? = some u2 := by simpa using hu2
      rw [a2] at q2
      exact (Option.some.inj q2).symm
    subst e1 e2
    refine ⟨_, rfl, wpAny_letOwnedTupleGo_zip (s := { s with heap := h', toks := tk }) z' fun h'' z'' sb => ?_⟩
    have hT2 : h''.get? s.heap.objs.size = some { cls := .type "tuple", data := .seq #[v1, v2] } := (sb.2 _ (Nat.ne_of_gt hzl)).trans hT
    have new : ObjOk X.prog X.w (upd H s.heap.objs.size (.tup [x, y])) h'' s.heap.objs.size (.tup [x, y]) :=
      ⟨by show 2 ≤ sizeLine; decide, [v1, v2], .cons ru (.cons ru2 .nil), ⟨_, hT2, rfl, _, rfl⟩⟩
    have I1 : Inv X pins σ (upd H s.heap.objs.size (.tup [x, y])) { s with heap := h'', toks := tk } :=
      I.turnedNew (ch := [z, TI, TO, i1, i2]) (fun c o hb q => (sb.2 c (fun q' => hb (by simp [q']))).trans (hk c o (fun q' => hb (by simp [q'])) (fun q' => hb (by simp [q'])) (fun q' => hb (by simp [q'])) (fun q' => hb (by simp [q'])) q)) hf (Nat.le_refl _) new
    refine ⟨.ref s.heap.objs.size, _, I1, rfl, ⟨_, x, y, rfl, I.hok.fresh (Nat.le_refl _), rfl, fun l hl => by rw [I.sqK_inj hl hqx]; exact hx, fun l hl => by rw [I.sqK_inj hl hqy]; exact hy⟩, ⟨z'', ?_, ⟨v1, v2, ?_⟩, ?_, ?_⟩, fun c hcm => ?_⟩
    · exact (sb.2 _ D.TIz).trans (hk _ _ D.TIz D.TITO D.TIi1 D.TIi2 hTI)
    · exact (sb.2 _ D.TOz).trans TO'
    · exact s1'.1.at fun o q => (sb.2 _ (Ne.symm D.zi1)).trans q
    · exact s2'.1.at fun o q => (sb.2 _ (Ne.symm D.zi2)).trans q
    · have hlt : c < s.heap.objs.size := by
        have hcs : c = z ∨ c = TI ∨ c = TO ∨ c = i1 ∨ c = i2 := by simpa using hcm
        rcases hcs with rfl | rfl | rfl | rfl | rfl
        · exact hzl
        · exact Heap.lt_size hTI
        · exact Heap.lt_size hTO
        · obtain ⟨_, _, q, _⟩ := h1.get; exact Heap.lt_size q
        · obtain ⟨_, _, q, _⟩ := h2.get; exact Heap.lt_size q
      rw [upd_ne (Nat.ne_of_lt hlt)]
      exact (hf c hcm).1
  done := by
    intro X hP hw hK hc i pins s σ H E I hf st hg
    subst hP hw hK
    obtain ⟨hz, hTI, ⟨x0, y0, hTO⟩, h1, h2⟩ := st
    obtain ⟨xs, ys, hqx, hqy, hend⟩ := hg
    obtain ⟨its, rv, p⟩ := I.sqK hqx
    obtain ⟨its2, rv2, p2⟩ := I.sqK hqy
    have l1 : its.toArray.size = xs.length := by rw [List.size_toArray]; exact rv.length.symm
    have l2 : its2.toArray.size = ys.length := by rw [List.size_toArray]; exact rv2.length.symm
    have hh : X.A.in1.handled = none := I.ok.hd hc
    by_cases q1 : xs.length ≤ i
    · have D1 := drawsE (prog := X.prog) (w := X.w) hh t1 i1 a its.toArray i (by omega)
      by_cases q2 : ys.length ≤ i
      · have D2 := drawsE (prog := X.prog) (w := X.w) hh t2 i2 b its2.toArray i (by omega)
        exact wpAny_pyNext_zipD2_end D D1 D2 hz hTI hTO ⟨rfl, h1, p⟩ ⟨rfl, h2, p2⟩ (Nat.le_refl _) (Nat.le_refl _) (.inl rfl) fun h' tk hk => ⟨rfl, I.turnedL (ch := [z, TI, TO, i1, i2]) (fun c o hb q => hk c o (fun q' => hb (by simp [q'])) (fun q' => hb (by simp [q'])) (fun q' => hb (by simp [q'])) (fun q' => hb (by simp [q'])) q) hf⟩
      · have D2 := drawsK (prog := X.prog) (w := X.w) hh t2 i2 b hb2 its2.toArray
        exact wpAny_pyNext_zipD2_end D D1 D2 hz hTI hTO ⟨rfl, h1, p⟩ ⟨h2, p2⟩ (Nat.le_refl _) (by omega) (.inl rfl) fun h' tk hk => ⟨rfl, I.turnedL (ch := [z, TI, TO, i1, i2]) (fun c o hb q => hk c o (fun q' => hb (by simp [q'])) (fun q' => hb (by simp [q'])) (fun q' => hb (by simp [q'])) (fun q' => hb (by simp [q'])) q) hf⟩
    · have q2 : ys.length ≤ i := by omega
      have D1 := drawsK (prog := X.prog) (w := X.w) hh t1 i1 a ha1 its.toArray
      have D2 := drawsE (prog := X.prog) (w := X.w) hh t2 i2 b its2.toArray i (by omega)
      exact wpAny_pyNext_zipD2_end D D1 D2 hz hTI hTO ⟨h1, p⟩ ⟨rfl, h2, p2⟩ (by omega) (Nat.le_refl _) (.inr rfl) fun h' tk hk => ⟨rfl, I.turnedL (ch := [z, TI, TO, i1, i2]) (fun c o hb q => hk c o (fun q' => hb (by simp [q'])) (fun q' => hb (by simp [q'])) (fun q' => hb (by simp [q'])) (fun q' => hb (by simp [q'])) q) hf⟩
  self := fun A i s Q E st h => wpAny_pyIter_zip st.1 h
theorem begins_K {t : Bool} {h : Heap} {a : Addr} {items : Array Value} (x : IsK t h a items) : ∃ o : Obj, ∃ H : Heap → Prop, PySem.Begins (.ref a) o H ∧ H h ∧ ∀ (h' : Heap) (it : Addr), h'.get? it = some o → IterK t h' it a 0 := by
  unfold IsK at x
  unfold IterK
  cases t with
  | true => exact ⟨_, _, PySem.begins_tuple a items, x, fun h' it e => ⟨_, e, rfl, rfl⟩⟩
  | false => exact ⟨_, _, PySem.begins_list a items, x, fun h' it e => ⟨_, e, rfl, rfl⟩⟩
def iZipK (K : PySem.W.Frag) (ta : TA) : TI := fun σ H R => ta σ H fun vs H1 => ∃ (t1 t2 : Bool) (a b : Addr) (xs ys : List V), vs = [.ref a, .ref b] ∧ SqK t1 K H1 a xs ∧ SqK t2 K H1 b ys ∧ R (ItzK t1 t2 K a b) H1
theorem pi_zipK {X : Cx} {e e2 : Expr} {ta : TA} {p pos tpos : Pos} {elts : List Expr} {kk : Nat} (hg : Gl X "zip") (hm : X.mg "zip" = none) (ha : PA X [e, e2] ta)
    (hs : starEach [e, e2] X.env = (false, eval e X.env) :: starEach [e2] X.env := by rfl) (hpl : (backTo pos (starEach [e2] X.env)).any (·.1) = false := by rfl) :
    PI X (.Tuple elts kk tpos) (.Call (.Name "zip" p) [e, e2] [] pos) (iZipK X.K ta) := by
  refine ⟨fun pins s σ H R I h => ?_⟩
  refine Call_ (ld_blt I hg hm PyProof.Rows.boot_zip (PyProof.Rows.callWith_type1 (thn (ha.run pos pins s σ H _ I h) fun us s1 ⟨vs, H1, I1, r1, q1⟩ => ?_) hs hpl))
  obtain ⟨t1, t2, a, b, xs, ys, ex, hqx, hqy, q⟩ := q1
  subst ex
  cases r1 with
  | cons r rr =>
    cases rr with
    | cons r' rr =>
      cases rr
      cases r
      cases r'
      obtain ⟨its, rv, p1⟩ := I1.sqK hqx
      obtain ⟨its2, rv2, p2⟩ := I1.sqK hqy
      obtain ⟨o1, B1, b1, g1, k1⟩ := begins_K p1
      obtain ⟨o2, B2, b2, g2, k2⟩ := begins_K p2
      have la := p1.lt
      have lb := p2.lt
      have N := s1.heap.objs.size
      have D : ZipSep2 (s1.heap.objs.size + 4) (s1.heap.objs.size + 2) (s1.heap.objs.size + 3) s1.heap.objs.size (s1.heap.objs.size + 1) [s1.heap.objs.size, a] [s1.heap.objs.size + 1, b] :=
        PySem.zip_sep2 (fp1 := [a]) (fp2 := [b]) (fun c hc => by rw [List.mem_singleton.mp hc]; exact la) (fun c hc => by rw [List.mem_singleton.mp hc]; exact lb)
      refine zip_begins2 b1 b2 g1 g2 fun h' hz hTI hTO h1 h2 hsz hk => wpAny_pyIter_zip hz ?_
      have I2 : Inv X pins σ H1 { s1 with heap := h' } := I1.kept (t' := s1.toks) hk
      refine ⟨s1.heap.objs.size + 4, [s1.heap.objs.size + 4, s1.heap.objs.size + 2, s1.heap.objs.size + 3, s1.heap.objs.size, s1.heap.objs.size + 1], _, _, H1, rfl, I2, turn_zipK D (Nat.ne_of_lt la) (Nat.ne_of_lt (Nat.lt_succ_of_lt lb)), ⟨hz, hTI, ⟨_, _, hTO⟩, k1 _ _ h1, k2 _ _ h2⟩, fun c hcm => ?_, q⟩
      have hle : s1.heap.objs.size ≤ c := by
        simp only [List.mem_cons, List.not_mem_nil, or_false] at hcm
        rcases hcm with q | q | q | q | q <;> rw [q] <;> first | exact Nat.le_add_right _ _ | exact Nat.le_refl _
      exact I1.fpOk hle (I1.hok.fresh hle)
end L2
namespace DW
open PySem PySem.Spec PyProof.Rows L2
open SX (S S_tl S_len S_cat)
theorem sqK_mono {t : Bool} {K : PySem.W.Frag} {H H' : Hp} {a : Addr} {xs : List V} (s : Same H H') (h : SqK t K H a xs) : SqK t K H' a xs := by
  unfold SqK at *
  cases t with
  | true => exact sqT_mono s h
  | false => exact s.seq (show SqL K H a xs from h)
theorem walks_zipK {t1 t2 : Bool} {K : PySem.W.Frag} {Hb : Hp} {a b : Addr} {xs ys : List V} {ds es : List D} (h : SqK t1 K Hb a xs) (x : DpAll K Hb xs ds) (h2 : SqK t2 K Hb b ys) (x2 : DpAll K Hb ys es) : Walks K (ItzK t1 t2 K a b) (zipD ds es) Hb := by
  intro i H' H0' s1 s2
  have ha := sqK_mono (s1.trans s2) h
  have hb := sqK_mono (s1.trans s2) h2
  refine ⟨fun hi => ⟨xs, ys, ha, hb, by rw [DpAll.length x, DpAll.length x2]; rw [zipD_len] at hi; omega⟩, fun d hd => ?_⟩
  obtain ⟨p, q, e1, e2, rfl⟩ := zipD_at _ _ _ _ hd
  obtain ⟨v, hv, xv⟩ := DpAll.get x e1
  obtain ⟨u, hu, xu⟩ := DpAll.get x2 e2
  refine ⟨⟨xs, ys, v, u, ha, hb, hv, hu⟩, fun z H'' hz => ?_⟩
  obtain ⟨T, v', u', rfl, n, rfl, q1, q2⟩ := hz
  have e3 : some v' = some v := (q1 xs ha).symm.trans hv
  have e4 : some u' = some u := (q2 ys hb).symm.trans hu
  cases e3; cases e4
  exact fr_tup s2 n (.cons (dp_mono s1 _ _ xv) (.cons (dp_mono s1 _ _ xu) .nil))
def dZipA : List D → R (List D)
  | [.list ds, .list es] => .ok (zipD ds es)
  | [.tuple ds, .tuple es] => .ok (zipD ds es)
  | [.tuple ds, .list es] => .ok (zipD ds es)
  | [.list ds, .tuple es] => .ok (zipD ds es)
  | _ => .stuck
def iZipM (r : MA) : MA := fun ρ => (r ρ).bind dZipA
section
variable {X : Cx} {W : WX} {e e2 a b : Expr} {es : List Expr} {t ta tb : TE} {tr : TA} {m ma mb : ME} {mr : MA} {pos tpos : Pos} {elts : List Expr} {kk : Nat} {ρ : En}
theorem bi_zipM {p : Pos} (hg : Gl X "zip") (hm : X.mg "zip" = none) (ha : BA X W true [e, e2] tr mr)
    (hs : starEach [e, e2] X.env = (false, eval e X.env) :: starEach [e2] X.env := by rfl) (hpl : (backTo pos (starEach [e2] X.env)).any (·.1) = false := by rfl) :
    BI X W (.Tuple elts kk tpos) (.Call (.Name "zip" p) [e, e2] [] pos) (iZipK X.K tr) (iZipM mr) := by
  refine ⟨pi_zipK hg hm ha.pe hs hpl, fun Hs H0s σ H H0 ρ Rk rl p => ha.ev Hs H0s σ H H0 ρ _ rl ((PostI.ofA p).imp ?_)⟩
  rintro vs H1 ⟨ds, H01, _, f1, x1, p1⟩
  match ds, x1, p1 with
  | [.list es, .list es2], .cons (.lst hq ha) (.cons (.lst hq2 ha2) .nil), p1 => exact ⟨false, false, _, _, _, _, rfl, f1.sb.seq hq, f1.sb.seq hq2, p1 _ H1 H01 (.refl f1.sb) (walks_zipK (t1 := false) (t2 := false) hq ha hq2 ha2)⟩
  | [.tuple es, .tuple es2], .cons (.tup hq ha) (.cons (.tup hq2 ha2) .nil), p1 => exact ⟨true, true, _, _, _, _, rfl, sqT_mono f1.sb hq, sqT_mono f1.sb hq2, p1 _ H1 H01 (.refl f1.sb) (walks_zipK (t1 := true) (t2 := true) hq ha hq2 ha2)⟩
  | [.tuple es, .list es2], .cons (.tup hq ha) (.cons (.lst hq2 ha2) .nil), p1 => exact ⟨true, false, _, _, _, _, rfl, sqT_mono f1.sb hq, f1.sb.seq hq2, p1 _ H1 H01 (.refl f1.sb) (walks_zipK (t1 := true) (t2 := false) hq ha hq2 ha2)⟩
  | [.list es, .tuple es2], .cons (.lst hq ha) (.cons (.tup hq2 ha2) .nil), p1 => exact ⟨false, true, _, _, _, _, rfl, f1.sb.seq hq, sqT_mono f1.sb hq2, p1 _ H1 H01 (.refl f1.sb) (walks_zipK (t1 := false) (t2 := true) hq ha hq2 ha2)⟩
theorem e_iZipM : iZipM mr ρ = (mr ρ).bind dZipA := rfl
theorem o_zipLL {ds es : List D} : dZipA [.list ds, .list es] = .ok (zipD ds es) := rfl
theorem o_zipTT {ds es : List D} : dZipA [.tuple ds, .tuple es] = .ok (zipD ds es) := rfl
theorem o_zipTL {ds es : List D} : dZipA [.tuple ds, .list es] = .ok (zipD ds es) := rfl
theorem o_zipLT {ds es : List D} : dZipA [.list ds, .tuple es] = .ok (zipD ds es) := rfl
end
end DW

end
end
section
set_option Elab.async false
set_option linter.all false
set_option maxRecDepth 100000
set_option autoImplicit false
set_option maxHeartbeats 4000000
noncomputable section
namespace Law
open PySem DW L2
open SX (S S_tl S_len S_cat)
def rstep (st : List Nat) (c : Nat) : List Nat := match st with
  | t :: s => if t = inv c then s else c :: t :: s
  | [] => [c]
theorem rstep_cut {t c : Nat} {s : List Nat} (e : t = inv c) : rstep (t :: s) c = s := if_pos e
theorem rstep_add {t c : Nat} {s : List Nat} (e : ¬ t = inv c) : rstep (t :: s) c = c :: t :: s := if_neg e
def redS (st cs : List Nat) : List Nat := cs.foldl rstep st
def red (w : List Nat) : List Nat := (redS [] w).reverse
def invw (w : List Nat) : List Nat := w.reverse.map inv
theorem redS_cons (st : List Nat) (c : Nat) (cs : List Nat) : redS st (c :: cs) = redS (rstep st c) cs := rfl
theorem redS_app (st a b : List Nat) : redS st (a ++ b) = redS (redS st a) b := List.foldl_append
theorem rstep_len (st : List Nat) (c : Nat) : (rstep st c).length ≤ st.length + 1 := by
  unfold rstep
  split
  · split
    · rw [List.length_cons]; omega
    · rw [List.length_cons, List.length_cons]; omega
  · rw [List.length_cons]; omega
theorem redS_len : ∀ (cs st : List Nat), (redS st cs).length ≤ st.length + cs.length
  | [], st => Nat.le_refl _
  | c :: cs, st => by
    have := redS_len cs (rstep st c)
    have := rstep_len st c
    rw [redS_cons, List.length_cons]
    omega
theorem red_len (w : List Nat) : (red w).length ≤ w.length := by
  have := redS_len w []
  unfold red
  rw [List.length_reverse]
  simpa using this
theorem rstep_wd {st : List Nat} {c : Nat} (h : Wd st) (hc : c ∈ L6) : Wd (rstep st c) := by
  unfold rstep
  split
  · split
    · exact fun x hx => h x (List.mem_cons_of_mem _ hx)
    · exact fun x hx => (List.mem_cons.mp hx).elim (fun e => e ▸ hc) (h x)
  · exact fun x hx => (List.mem_cons.mp hx).elim (fun e => e ▸ hc) (h x)
theorem redS_wd : ∀ {cs st : List Nat}, Wd st → Wd cs → Wd (redS st cs)
  | [], _, h, _ => h
  | c :: cs, st, h, hc => redS_wd (cs := cs) (rstep_wd h (hc c List.mem_cons_self)) fun x hx => hc x (List.mem_cons_of_mem _ hx)
theorem nil_wd : Wd [] := fun _ h => nomatch h
theorem red_wd {w : List Nat} (h : Wd w) : Wd (red w) := fun c hc => redS_wd nil_wd h c (List.mem_reverse.mp hc)
theorem invw_wd {w : List Nat} (h : Wd w) : Wd (invw w) := fun c hc => by
  obtain ⟨d, hd, e⟩ := List.mem_map.mp hc
  rw [← e]
  exact inv_mem d (h d (List.mem_reverse.mp hd))
theorem invw_len (w : List Nat) : (invw w).length = w.length := by unfold invw; rw [List.length_map, List.length_reverse]
theorem invw_invw {w : List Nat} (h : Wd w) : invw (invw w) = w := by
  unfold invw
  rw [← List.map_reverse, List.reverse_reverse, List.map_map]
  conv => rhs; rw [← List.map_id w]
  exact List.map_congr_left fun c hc => inv_inv c (h c hc)
theorem invw_app (a b : List Nat) : invw (a ++ b) = invw b ++ invw a := by unfold invw; rw [List.reverse_append, List.map_append]
theorem app_wd {a b : List Nat} (ha : Wd a) (hb : Wd b) : Wd (a ++ b) := fun c hc => (List.mem_append.mp hc).elim (ha c) (hb c)
/-- no two neighbours cut each other -/
def Irr : List Nat → Prop
  | a :: b :: r => b ≠ inv a ∧ Irr (b :: r)
  | _ => True
theorem Irr.tail {a : Nat} {r : List Nat} (h : Irr (a :: r)) : Irr r := by
  cases r with
  | nil => trivial
  | cons b r => exact h.2
theorem rstep_irr {st : List Nat} {c : Nat} (h : Irr st) : Irr (rstep st c) := by
  unfold rstep
  split
  · split
    · exact h.tail
    · rename_i hne
      exact ⟨hne, h⟩
  · trivial
theorem redS_irr : ∀ {cs st : List Nat}, Irr st → Irr (redS st cs)
  | [], _, h => h
  | c :: cs, st, h => redS_irr (cs := cs) (rstep_irr h)
/-- a stack that is reduced takes a letter and its inverse as nothing -/
theorem rstep_pair {st : List Nat} {c : Nat} (h : Irr st) (hs : Wd st) (hc : c ∈ L6) : rstep (rstep st c) (inv c) = st := by
  cases st with
  | nil => exact rstep_cut (inv_inv c hc).symm
  | cons t s =>
    by_cases e : t = inv c
    · rw [rstep_cut e, ← e]
      cases s with
      | nil => rfl
      | cons u v => exact rstep_add h.1
    · rw [rstep_add e]
      exact rstep_cut (inv_inv c hc).symm
/-- reduction does not see a pair that is cut -/
theorem redS_pair {st a b : List Nat} {c : Nat} (h : Irr st) (hs : Wd st) (ha : Wd a) (hc : c ∈ L6) : redS st (a ++ c :: inv c :: b) = redS st (a ++ b) := by
  rw [redS_app, redS_app, redS_cons, redS_cons, rstep_pair (redS_irr h) (redS_wd hs ha) hc]
/-- a word pushed onto a stack, then its inverse -/
theorem redS_invw : ∀ (w st : List Nat), Irr st → Wd st → Wd w → redS (redS st w) (invw w) = st
  | [], st, _, _, _ => rfl
  | c :: w, st, h, hs, hw => by
    have hc := hw c List.mem_cons_self
    have hw' : Wd w := fun x hx => hw x (List.mem_cons_of_mem _ hx)
    have e : invw (c :: w) = invw w ++ [inv c] := by unfold invw; rw [List.reverse_cons, List.map_append]; rfl
    rw [e, redS_cons, redS_app, redS_invw w (rstep st c) (rstep_irr h) (rstep_wd hs hc) hw']
    exact rstep_pair h hs hc
/-- a reduced word is pushed as it is, if it meets no inverse -/
theorem redS_of_irr : ∀ (w st : List Nat), Irr (w.reverse ++ st) → (∀ c ∈ w, c ∈ L6) → Wd st → redS st w = w.reverse ++ st
  | [], st, _, _, _ => rfl
  | c :: w, st, h, hw, hs => by
    have hc := hw c List.mem_cons_self
    have e1 : (c :: w).reverse ++ st = w.reverse ++ (c :: st) := by rw [List.reverse_cons, List.append_assoc]; rfl
    rw [e1] at h ⊢
    have hst : rstep st c = c :: st := by
      cases st with
      | nil => rfl
      | cons t s =>
        have hI : ∀ (a b : List Nat), Irr (a ++ b) → Irr b := fun a => by
          induction a with
          | nil => exact fun b h => h
          | cons x a ih => exact fun b h => ih b (Irr.tail h)
        have h2 : Irr (c :: t :: s) := hI w.reverse _ h
        show (if t = inv c then s else c :: t :: s) = _
        rw [if_neg h2.1]
    rw [redS_cons, hst]
    exact redS_of_irr w (c :: st) h (fun x hx => hw x (List.mem_cons_of_mem _ hx)) fun x hx => (List.mem_cons.mp hx).elim (fun e => e ▸ hc) (hs x)
/-- reducing again changes nothing -/
theorem red_red {w : List Nat} (h : Wd w) : red (red w) = red w := by
  have hi : Irr (redS [] w) := redS_irr trivial
  unfold red
  have := redS_of_irr (redS [] w).reverse [] (by rw [List.reverse_reverse, List.append_nil]; exact hi) (fun c hc => redS_wd nil_wd h c (List.mem_reverse.mp hc)) nil_wd
  rw [this, List.reverse_reverse, List.append_nil]
/-- cuts do not change the reduced form -/
theorem red_pair {a b : List Nat} {c : Nat} (ha : Wd a) (hc : c ∈ L6) : red (a ++ c :: inv c :: b) = red (a ++ b) := by
  unfold red
  rw [redS_pair (st := []) trivial nil_wd ha hc]
theorem red_invw {w : List Nat} (h : Wd w) : red (w ++ invw w) = [] := by
  unfold red
  rw [redS_app, redS_invw w [] trivial nil_wd h]
  rfl
theorem irr_of_red {w : List Nat} (h : red w = w) : Irr w.reverse := by
  have hi : Irr (redS [] w) := redS_irr trivial
  have e : (redS [] w).reverse = w := h
  rw [← e, List.reverse_reverse]
  exact hi
theorem occ_L6 : ∀ c ∈ L6, Builtin.Str.occurrences (S L6) (S [c]) 0 (S L6).length 1 = [L6.idxOf c] := L6_all ⟨by decide +kernel, by decide +kernel, by decide +kernel, by decide +kernel, by decide +kernel, by decide +kernel⟩
abbrev l6 : List Nat := [65, 97, 66, 98, 67, 99]
theorem l6_at : ∀ c ∈ L6, l6[L6.idxOf c]? = some (inv c) := L6_all (by decide)
theorem o_idxL6 {c : Nat} (h : c ∈ L6) : dIndexS (S L6) (one c) = .ok (.int ((L6.idxOf c : Nat) : Int)) := by
  show (match Builtin.Str.occurrences (S L6) (S [c]) 0 (S L6).length 1 with | i :: _ => R.ok (PyData.int (i : Nat)) | [] => R.stuck) = _
  rw [occ_L6 c h]
theorem o_invL6 {c : Nat} (h : c ∈ L6) : dIdx (.str (S l6)) (.int ((L6.idxOf c : Nat) : Int)) = .ok (one (inv c)) := o_ixS (by decide) (l6_at c h)
/-- the last of a list -/
theorem o_ixLast {l : List D} {d : D} : dIdx (.list (l ++ [d])) (.int (-1)) = .ok d := by
  unfold dIdx
  dsimp only
  rw [atI_last]
theorem ones_snoc (s : List Nat) (t : Nat) : (t :: s).reverse.map one = s.reverse.map one ++ [one t] := by rw [List.reverse_cons, List.map_append]; rfl
theorem one_eq {a b : Nat} : decide ([a] = [b]) = decide (a = b) := decide_eq_decide.mpr ⟨fun h => (List.cons.inj h).1, fun h => by rw [h]⟩
theorem ones_len (s : List Nat) : (s.map one).length = s.length := List.length_map ..
/-- the reading of a script's cell -/
def cellN (ns : List Int) (k : Nat) : Int := ns.getD k 0
/-- the letters of g generators -/
def lt (g : Int) : List Nat := L6.take (2 * g.toNat)
theorem lt_sub {g : Int} {c : Nat} (h : c ∈ lt g) : c ∈ L6 := List.mem_of_mem_take h
theorem lt_3 : lt 3 = L6 := by decide
theorem cut_lt {g : Int} (h1 : 1 ≤ g) (h2 : g ≤ 3) : cutG L6 none (some (2 * g)) = lt g := by
  have : g = 1 ∨ g = 2 ∨ g = 3 := by omega
  rcases this with rfl | rfl | rfl <;> decide
theorem lt_len {g : Int} (h1 : 1 ≤ g) (h2 : g ≤ 3) : ((lt g).length : Int) = 2 * g := by
  have : g = 1 ∨ g = 2 ∨ g = 3 := by omega
  rcases this with rfl | rfl | rfl <;> decide
abbrev okw (g : Int) (t : List Nat) : Bool := t.all fun c => decide (c ∈ lt g)
theorem okw_iff {g : Int} {t : List Nat} : okw g t = true ↔ ∀ c ∈ t, c ∈ lt g := by
  unfold okw
  rw [List.all_eq_true]
  exact ⟨fun h c hc => of_decide_eq_true (h c hc), fun h c hc => decide_eq_true (h c hc)⟩
theorem okw3 {t : List Nat} (h : Wd t) : okw 3 t = true := okw_iff.mpr fun c hc => by rw [lt_3]; exact h c hc
theorem o_slS {l : List Nat} {lo hi : Option Int} (h : l.length ≤ 16777216) : dSl (.str (S l)) lo hi = .ok (.str (S (cutG l lo hi))) := if_pos (sz_ok h)
theorem o_slL {l : List D} {lo hi : Option Int} : dSl (.list l) lo hi = .ok (.list (cutG l lo hi)) := rfl
theorem rg_int {z : Int} (h1 : -1000 ≤ z) (h2 : z ≤ 1000) : dRange1 [.int z] = .ok ((List.range z.toNat).map fun (k : Nat) => PyData.int (k : Int)) := by
  have h : small z = true := by
    unfold small
    exact decide_eq_true ⟨by omega, by omega⟩
  have e : rangeL 0 z = (List.range z.toNat).map fun (k : Nat) => PyData.int (k : Int) := by
    unfold rangeL
    rw [Int.sub_zero]
    exact List.map_congr_left fun k _ => by show PyData.int (0 + (k : Int)) = PyData.int (k : Int); rw [Int.zero_add]
  unfold dRange1
  simp only [h, e, if_true]
theorem cut_to {α : Type} {l : List α} {n : Nat} (h : n ≤ l.length) : cutG l none (some (n : Int)) = l.take n := by
  unfold cutG
  have e1 : HT.sIx l.length l.length (some (n : Int)) = min n l.length := HT.sIx_nat _ _ _
  have e0 : HT.sIx l.length 0 none = 0 := rfl
  rw [e1, e0, List.drop_zero, Nat.sub_zero, Nat.min_eq_left h]
theorem cut_from {α : Type} {l : List α} {n : Nat} (h : n ≤ l.length) : cutG l (some (n : Int)) none = l.drop n := by
  unfold cutG
  have e1 : HT.sIx l.length 0 (some (n : Int)) = min n l.length := HT.sIx_nat _ _ _
  have e0 : HT.sIx l.length l.length none = l.length := rfl
  rw [e1, e0, Nat.min_eq_left h]
  exact List.take_of_length_le (by rw [List.length_drop]; omega)
theorem lt_wd {g : Int} {w : List Nat} (h : ∀ x ∈ w, x ∈ lt g) : Wd w := fun x hx => lt_sub (h x hx)
theorem nat_of {z n : Int} (hn : 0 < n) : ∃ k : Nat, z % n = (k : Int) ∧ (k : Int) < n := ⟨(z % n).toNat, by have := Int.emod_nonneg z (show n ≠ 0 by omega); omega, by have := Int.emod_nonneg z (show n ≠ 0 by omega); have := Int.emod_lt_of_pos z hn; omega⟩
theorem cut_to' {α : Type} {l : List α} {n : Nat} : cutG l none (some (n : Int)) = l.take (min n l.length) := by
  unfold cutG
  have e1 : HT.sIx l.length l.length (some (n : Int)) = min n l.length := HT.sIx_nat _ _ _
  have e0 : HT.sIx l.length 0 none = 0 := rfl
  rw [e1, e0, List.drop_zero, Nat.sub_zero]
theorem o_neZ {z : Str} : dNe (.str z) (.str z) = .ok (.bool false) := by
  show R.ok (PyData.bool (!decide (z.cps.toList = z.cps.toList))) = _
  rw [decide_eq_true rfl]; rfl
theorem o_repB {b : Bool} : dRepr [.bool b] = .ok (.str (PyData.shown (.bool b))) := rfl
theorem o_isS {z : Str} : dIsT "str" (.str z) = .ok (.bool true) := rfl
theorem e_tryas_err {x : Str} {i : Nat} {sub : Str → Option Bool} {body suite : MS} {ρ ρ' : En} {e : Exn} {d : D} (h : body (clean ρ) = .err e ρ') (hs : sub e.1 = some true) (h2 : suite ((clean ρ').set i (some (.exc e.1 e.2))) = .rt d) : sTryAs x i sub body suite ρ = .rt d := by
  show O.lf (tryE (hdlAs i sub suite)) (body (clean ρ)) = _
  rw [h]
  show hdlAs i sub suite e ρ' = _
  unfold hdlAs
  rw [hs]
  show endI i (suite _) = _
  rw [h2]
  rfl
theorem lc_cons {i : Nat} {m : ME} {ρ : En} {d : D} {ds : List D} : lcLoop (gN i) mYes m ρ (d :: ds) = (m (ρ.set i (some (.sh d)))).sure.bind fun y => (lcLoop (gN i) mYes m ρ ds).bind fun ys => .ok (y :: ys) := rfl
theorem lc_nil {i : Nat} {m : ME} {ρ : En} : lcLoop (gN i) mYes m ρ [] = .ok [] := rfl
/-- a stack takes the reduced form of a word as the word itself -/
theorem rstep_rev {st s : List Nat} {c : Nat} (h : Irr st) (hs : Wd st) (hw : Wd s) (hc : c ∈ L6) : redS st (rstep s c).reverse = rstep (redS st s.reverse) c := by
  have push : redS st (c :: s).reverse = rstep (redS st s.reverse) c := by rw [List.reverse_cons, redS_app]; rfl
  cases s with
  | nil => exact push
  | cons t s =>
    by_cases e : t = inv c
    · have ht : t ∈ L6 := hw t List.mem_cons_self
      have ec : c = inv t := by rw [e, inv_inv c hc]
      have hw' : Wd s.reverse := fun x hx => hw x (List.mem_cons_of_mem _ (List.mem_reverse.mp hx))
      rw [rstep_cut e, List.reverse_cons, redS_app]
      show redS st s.reverse = rstep (rstep (redS st s.reverse) t) c
      rw [ec, rstep_pair (redS_irr h) (redS_wd hs hw') ht]
    · rw [rstep_add e]; exact push
theorem redS_rev : ∀ (cs s st : List Nat), Irr st → Wd st → Wd s → Wd cs → redS st (redS s cs).reverse = redS (redS st s.reverse) cs
  | [], s, st, _, _, _, _ => rfl
  | c :: cs, s, st, h, hs, hw, hc => by
    have c1 := hc c List.mem_cons_self
    rw [redS_cons, redS_rev cs (rstep s c) st h hs (rstep_wd hw c1) (fun x hx => hc x (List.mem_cons_of_mem _ hx)), rstep_rev h hs hw c1, redS_cons]
theorem irr_nil : Irr [] := trivial
theorem redS_red {st b : List Nat} (h : Irr st) (hs : Wd st) (hb : Wd b) : redS st (red b) = redS st b := by
  unfold red
  rw [redS_rev b [] st h hs nil_wd hb]
  rfl
theorem red_app_r {a b : List Nat} (ha : Wd a) (hb : Wd b) : red (a ++ red b) = red (a ++ b) := by
  have e : redS [] (a ++ red b) = redS [] (a ++ b) := by rw [redS_app, redS_app, redS_red (redS_irr irr_nil) (redS_wd nil_wd ha) hb]
  show (redS [] (a ++ red b)).reverse = (redS [] (a ++ b)).reverse
  rw [e]
theorem red_app_l {a b : List Nat} (ha : Wd a) : red (red a ++ b) = red (a ++ b) := by
  have e : redS [] (red a ++ b) = redS [] (a ++ b) := by rw [redS_app, redS_app, redS_red irr_nil nil_wd ha]
  show (redS [] (red a ++ b)).reverse = (redS [] (a ++ b)).reverse
  rw [e]
theorem repL_len (n : Nat) (w : List Nat) : (repL n w).length = n * w.length := by
  unfold repL
  induction n with
  | zero => rw [List.replicate_zero, List.flatten_nil, List.length_nil, Nat.zero_mul]
  | succ n ih => rw [List.replicate_succ, List.flatten_cons, List.length_append, ih, Nat.succ_mul, Nat.add_comm]
theorem repL_wd {n : Nat} {w : List Nat} (h : Wd w) : Wd (repL n w) := fun c hc => by
  unfold repL at hc
  obtain ⟨l, h1, h2⟩ := List.mem_flatten.mp hc
  rw [(List.mem_replicate.mp h1).2] at h2
  exact h c h2
theorem repL_add (n m : Nat) (w : List Nat) : repL (n + m) w = repL n w ++ repL m w := by
  unfold repL
  rw [← List.replicate_append_replicate, List.flatten_append]
theorem repL_one (w : List Nat) : repL 1 w = w := by
  unfold repL
  show w ++ [] = w
  rw [List.append_nil]
theorem repL_zero (w : List Nat) : repL 0 w = [] := rfl
def pw (e : Int) (w : List Nat) : List Nat := if e < 0 then red (repL (-e).toNat (invw w)) else red (repL e.toNat w)
theorem pw_nat {n : Nat} {w : List Nat} : pw (n : Int) w = red (repL n w) := by
  unfold pw
  rw [if_neg (by omega), Int.toNat_natCast]
theorem pw_add {n m : Nat} {w : List Nat} (hw : Wd w) : red (pw (n : Int) w ++ pw (m : Int) w) = pw ((n : Int) + (m : Int)) w := by
  have e : (n : Int) + (m : Int) = ((n + m : Nat) : Int) := by omega
  rw [e, pw_nat, pw_nat, pw_nat, red_app_l (repL_wd hw), red_app_r (repL_wd hw) (repL_wd hw), repL_add]
theorem pw_one {w : List Nat} : pw 1 w = red w := by
  have := pw_nat (n := 1) (w := w)
  rw [repL_one] at this
  exact this
theorem pw_zero {w : List Nat} : pw 0 w = [] := by
  have := pw_nat (n := 0) (w := w)
  rw [repL_zero] at this
  exact this
theorem pw_wd {e : Int} {w : List Nat} (hw : Wd w) : Wd (pw e w) := by
  unfold pw
  split
  · exact red_wd (repL_wd (invw_wd hw))
  · exact red_wd (repL_wd hw)

end Law

end
end
section
set_option Elab.async false
set_option linter.all false
set_option maxRecDepth 100000
set_option autoImplicit false
set_option maxHeartbeats 4000000
noncomputable section
namespace Law
open PySem DW L2
open SX (S S_tl S_len S_cat)
abbrev sD (w : List Nat) : D := .str (S w)
abbrev PV (g : Int) (rs : List (List Nat)) : D := .tuple [.int g, .tuple (rs.map sD)]
def relB (g : Int) (r : List Nat) : Bool := decide (1 ≤ r.length ∧ r.length ≤ 20) && okw g r
def presB (g : Int) (rs : List (List Nat)) : Bool := decide (1 ≤ g ∧ g ≤ 3 ∧ rs.length ≤ 8) && rs.all (relB g)
theorem rp_of {α : Type} {r : R α} {P : Prop} {a : α} {E : Exn → Prop} {Q : α → Prop} (h : r = .ok a) (q : Q a) : RP P r Q E := by rw [h, RP_ok]; exact q
section
variable {α : Type} {P : Prop} {i : Nat} {m : ME} {mt : MT} {ρ : En} {xs : List α} {u f : α → D} {Q : List D → Prop} {E : Exn → Prop}
theorem lc_mapM (h : ∀ x ∈ xs, m (ρ.set i (some (.sh (u x)))) = .ok (f x)) : lcLoop (gN i) mYes m ρ (xs.map u) = .ok (xs.map f) := by
  induction xs with
  | nil => rfl
  | cons x xs ih =>
    show (R.bind (m (ρ.set i (some (.sh (u x))))).sure fun y => (lcLoop (gN i) mYes m ρ (xs.map u)).bind fun ys => R.ok (y :: ys)) = _
    rw [h x List.mem_cons_self, ih fun y hy => h y (List.mem_cons_of_mem _ hy)]
    rfl
theorem RP_lc (h : ∀ x ∈ xs, m (ρ.set i (some (.sh (u x)))) = .ok (f x)) : RP P (lcLoop (gN i) mYes m ρ (xs.map u)) Q E = Q (xs.map f) := by
  rw [lc_mapM h, RP_ok]
theorem lc_filM {c : α → Bool} (h : ∀ x ∈ xs, mt (ρ.set i (some (.sh (u x)))) = .ok (c x) ∧ (c x = true → m (ρ.set i (some (.sh (u x)))) = .ok (f x))) : lcLoop (gN i) mt m ρ (xs.map u) = .ok ((xs.filter c).map f) := by
  induction xs with
  | nil => rfl
  | cons x xs ih =>
    obtain ⟨h1, h2⟩ := h x List.mem_cons_self
    show (R.bind (mt (ρ.set i (some (.sh (u x))))).sure fun k => if k then (m (ρ.set i (some (.sh (u x))))).sure.bind fun y => (lcLoop (gN i) mt m ρ (xs.map u)).bind fun ys => R.ok (y :: ys) else lcLoop (gN i) mt m ρ (xs.map u)) = _
    rw [h1, ih fun y hy => h y (List.mem_cons_of_mem _ hy), List.filter_cons]
    show (if c x = true then _ else _) = _
    by_cases hc : c x = true
    · rw [if_pos hc, if_pos hc, h2 hc]; rfl
    · rw [if_neg hc, if_neg hc]
theorem RP_lcF {c : α → Bool} (h : ∀ x ∈ xs, mt (ρ.set i (some (.sh (u x)))) = .ok (c x) ∧ (c x = true → m (ρ.set i (some (.sh (u x)))) = .ok (f x))) : RP P (lcLoop (gN i) mt m ρ (xs.map u)) Q E = Q ((xs.filter c).map f) := by
  rw [lc_filM h, RP_ok]
theorem o_allM {b : α → Bool} : dAll [.list (xs.map fun x => .bool (b x))] = .ok (.bool (xs.all b)) := by
  have := o_all (bs := xs.map b)
  rw [List.map_map, List.all_map] at this
  exact this
theorem o_anyM {b : α → Bool} : dAny [.list (xs.map fun x => .bool (b x))] = .ok (.bool (xs.any b)) := by
  have := o_any (bs := xs.map b)
  rw [List.map_map, List.any_map] at this
  exact this
end
/-! ### equality of data -/
/-- data without truth values and dicts, not deeper than n -/
def okD : Nat → D → Bool
  | _, .none => true
  | _, .int _ => true
  | _, .str x => PyData.strOk x
  | n + 1, .list xs => xs.all (okD n)
  | n + 1, .tuple xs => xs.all (okD n)
  | _, _ => false
theorem okD_depth : ∀ (n : Nat) (d : D), okD n d = true → d.depth ≤ n
  | n, .none, _ => Nat.zero_le _
  | n, .int _, _ => Nat.zero_le _
  | n, .str _, _ => Nat.zero_le _
  | n, .bool _, h => by cases n <;> cases h
  | n, .dict _, h => by cases n <;> cases h
  | 0, .list _, h => by cases h
  | 0, .tuple _, h => by cases h
  | n + 1, .list xs, h => by
    have key : ∀ xs : List D, xs.all (okD n) = true → PyData.depthAll xs ≤ n := by
      intro xs
      induction xs with
      | nil => exact fun _ => Nat.zero_le _
      | cons x xs ih =>
        intro h
        rw [List.all_cons, Bool.and_eq_true] at h
        exact Nat.max_le.mpr ⟨okD_depth n x h.1, ih h.2⟩
    exact Nat.succ_le_succ (key xs h)
  | n + 1, .tuple xs, h => by
    have key : ∀ xs : List D, xs.all (okD n) = true → PyData.depthAll xs ≤ n := by
      intro xs
      induction xs with
      | nil => exact fun _ => Nat.zero_le _
      | cons x xs ih =>
        intro h
        rw [List.all_cons, Bool.and_eq_true] at h
        exact Nat.max_le.mpr ⟨okD_depth n x h.1, ih h.2⟩
    exact Nat.succ_le_succ (key xs h)
theorem okD_lay : ∀ (n : Nat) (d : D), okD n d = true → d.canLay0 = true
  | n, .none, _ => by simp only [PyData.canLay0]
  | n, .int _, _ => by simp only [PyData.canLay0]
  | n, .str x, h => by
    simp only [PyData.canLay0]
    cases n <;> exact h
  | n, .bool _, h => by cases n <;> cases h
  | n, .dict _, h => by cases n <;> cases h
  | 0, .list _, h => by cases h
  | 0, .tuple _, h => by cases h
  | n + 1, .list xs, h => by
    have key : ∀ xs : List D, xs.all (okD n) = true → PyData.canLayAll0 xs = true := by
      intro xs
      induction xs with
      | nil => exact fun _ => by simp only [PyData.canLayAll0]
      | cons x xs ih =>
        intro h
        rw [List.all_cons, Bool.and_eq_true] at h
        simp only [PyData.canLayAll0, okD_lay n x h.1, ih h.2, Bool.and_self]
    simp only [PyData.canLay0]
    exact key xs h
  | n + 1, .tuple xs, h => by
    have key : ∀ xs : List D, xs.all (okD n) = true → PyData.canLayAll0 xs = true := by
      intro xs
      induction xs with
      | nil => exact fun _ => by simp only [PyData.canLayAll0]
      | cons x xs ih =>
        intro h
        rw [List.all_cons, Bool.and_eq_true] at h
        simp only [PyData.canLayAll0, okD_lay n x h.1, ih h.2, Bool.and_self]
    simp only [PyData.canLay0]
    exact key xs h
theorem okD_eqv : ∀ (n m : Nat) (d e : D), okD n d = true → okD m e = true → (PyData.eqv d e = true ↔ d = e) := by
  intro n
  induction n with
  | zero =>
    intro m d e hd he
    cases d with
    | none => cases e <;> simp [PyData.eqv]
    | int i =>
      cases e with
      | bool b => cases m <;> cases he
      | _ => simp [PyData.eqv]
    | str i => cases e <;> simp [PyData.eqv]
    | _ => cases hd
  | succ n ih =>
    intro m d e hd he
    have key : ∀ (k : Nat) (xs ys : List D), xs.all (okD n) = true → ys.all (okD k) = true → (PyData.eqvAll xs ys = true ↔ xs = ys) := by
      intro k xs
      induction xs with
      | nil => intro ys _ _; cases ys <;> simp [PyData.eqvAll]
      | cons x xs ihx =>
        intro ys hx hy
        cases ys with
        | nil => simp [PyData.eqvAll]
        | cons y ys =>
          rw [List.all_cons, Bool.and_eq_true] at hx hy
          rw [PyData.eqvAll, Bool.and_eq_true, ih k x y hx.1 hy.1, ihx ys hx.2 hy.2, List.cons.injEq]
    cases d with
    | none => cases e <;> simp [PyData.eqv]
    | int i =>
      cases e with
      | bool b => cases m <;> cases he
      | _ => simp [PyData.eqv]
    | str i => cases e <;> simp [PyData.eqv]
    | bool _ => cases hd
    | dict _ => cases hd
    | list xs =>
      cases e with
      | list ys =>
        cases m with
        | zero => cases he
        | succ m => rw [PyData.eqv, key m xs ys hd he, PyData.list.injEq]
      | _ => simp [PyData.eqv]
    | tuple xs =>
      cases e with
      | tuple ys =>
        cases m with
        | zero => cases he
        | succ m => rw [PyData.eqv, key m xs ys hd he, PyData.tuple.injEq]
      | _ => simp [PyData.eqv]
open Classical in
theorem okD_eqB {n m : Nat} {d e : D} (hd : okD n d = true) (he : okD m e = true) (hn : n ≤ 64) (hm : m ≤ 64) : dEqB d e = .ok (decide (d = e)) := by
  have main : deepEq d e = .ok (decide (d = e)) := by
    unfold deepEq SeqAt.shaped
    rw [okD_lay n d hd, okD_lay m e he, decide_eq_true (Nat.le_trans (okD_depth n d hd) hn), decide_eq_true (Nat.le_trans (okD_depth m e he) hm)]
    show R.ok (PyData.eqv d e) = _
    have := okD_eqv n m d e hd he
    by_cases h : d = e
    · rw [decide_eq_true h, this.mpr h]
    · rw [decide_eq_false h, Bool.eq_false_iff.mpr fun z => h (this.mp z)]
  have scal : ∀ (b : Bool) (p : Prop) [Decidable p], (b = true ↔ p) → R.ok b = R.ok (decide p) := fun b p _ h => by
    by_cases hp : p
    · rw [decide_eq_true hp, h.mpr hp]
    · rw [decide_eq_false hp, Bool.eq_false_iff.mpr fun z => hp (h.mp z)]
  cases d with
  | bool b => cases n <;> cases hd
  | dict b => cases n <;> cases hd
  | none => cases e <;> first | exact main | exact scal _ _ (by simp)
  | int i =>
    cases e with
    | int j => exact scal _ _ (by simp)
    | bool b => cases m <;> cases he
    | _ => first | exact main | exact scal _ _ (by simp)
  | str i =>
    cases e with
    | str j => exact scal _ _ (by
        simp only [decide_eq_true_eq, PyData.str.injEq]
        exact ⟨fun h => by rw [← S_tl i, ← S_tl j, h], fun h => by rw [h]⟩)
    | bool b => cases m <;> cases he
    | _ => first | exact main | exact scal _ _ (by simp)
  | list xs => exact main
  | tuple xs => exact main
open Classical in
theorem okD_eq {n m : Nat} {d e : D} (hd : okD n d = true) (he : okD m e = true) (hn : n ≤ 64) (hm : m ≤ 64) : dEq d e = .ok (.bool (decide (d = e))) := by
  unfold dEq; rw [okD_eqB hd he hn hm]; rfl
open Classical in
theorem okD_ne {n m : Nat} {d e : D} (hd : okD n d = true) (he : okD m e = true) (hn : n ≤ 64) (hm : m ≤ 64) : dNe d e = .ok (.bool (!decide (d = e))) := by
  unfold dNe; rw [okD_eqB hd he hn hm]; rfl
theorem okS {w : List Nat} (h : ∀ c ∈ w, c < 1114112) : PyData.strOk (S w) = true := by
  unfold PyData.strOk
  rw [← Array.all_toList, List.all_eq_true]
  exact fun c hc => decide_eq_true (h c hc)
theorem L6_lt : ∀ c ∈ L6, c < 1114112 := by decide
theorem okW {w : List Nat} (h : Wd w) : PyData.strOk (S w) = true := okS fun c hc => L6_lt c (h c hc)
theorem okD_w {n : Nat} {w : List Nat} (h : Wd w) : okD n (sD w) = true := by cases n <;> exact okW h
theorem okD_i {n : Nat} {z : Int} : okD n (.int z) = true := by cases n <;> rfl
theorem okD_n {n : Nat} : okD n .none = true := by cases n <;> rfl
/-! ### items -/
section
variable {a b c d x : D} {l : List D} {P : Prop} {Q : D → Prop} {E : Exn → Prop}
theorem ixT0 : dIdx (.tuple (a :: l)) (.int 0) = .ok a := o_ixT (i := 0) rfl
theorem ixT1 : dIdx (.tuple (a :: b :: l)) (.int 1) = .ok b := o_ixT (i := 1) rfl
theorem ixT2 : dIdx (.tuple (a :: b :: c :: l)) (.int 2) = .ok c := o_ixT (i := 2) rfl
theorem ixT3 : dIdx (.tuple (a :: b :: c :: d :: l)) (.int 3) = .ok d := o_ixT (i := 3) rfl
theorem ixL0 : dIdx (.list (a :: l)) (.int 0) = .ok a := o_ixL (i := 0) rfl
theorem ixL1 : dIdx (.list (a :: b :: l)) (.int 1) = .ok b := o_ixL (i := 1) rfl
theorem ixL2 : dIdx (.list (a :: b :: c :: l)) (.int 2) = .ok c := o_ixL (i := 2) rfl
theorem ixL3 : dIdx (.list (a :: b :: c :: d :: l)) (.int 3) = .ok d := o_ixL (i := 3) rfl
theorem ixL {l : List D} {k : Nat} (h : k < l.length) : dIdx (.list l) (.int (k : Int)) = .ok l[k] := o_ixL (List.getElem?_eq_getElem h)
theorem ixT {l : List D} {k : Nat} (h : k < l.length) : dIdx (.tuple l) (.int (k : Int)) = .ok l[k] := o_ixT (List.getElem?_eq_getElem h)
theorem ixS {w : List Nat} {k : Nat} (hs : w.length ≤ 16777216) (h : k < w.length) : dIdx (.str (S w)) (.int (k : Int)) = .ok (one w[k]) := o_ixS hs (List.getElem?_eq_getElem h)
/-- some item: all are as wished -/
theorem rp_ixL {z : Int} (h0 : 0 ≤ z) (h1 : z < (l.length : Int)) (h : ∀ d ∈ l, Q d) : RP P (dIdx (.list l) (.int z)) Q E := by
  obtain ⟨k, rfl⟩ : ∃ k : Nat, z = (k : Int) := ⟨z.toNat, by omega⟩
  exact rp_of (ixL (by omega)) (h _ (List.getElem_mem _))
theorem rp_ixT {z : Int} (h0 : 0 ≤ z) (h1 : z < (l.length : Int)) (h : ∀ d ∈ l, Q d) : RP P (dIdx (.tuple l) (.int z)) Q E := by
  obtain ⟨k, rfl⟩ : ∃ k : Nat, z = (k : Int) := ⟨z.toNat, by omega⟩
  exact rp_of (ixT (by omega)) (h _ (List.getElem_mem _))
theorem rp_ixS {w : List Nat} {z : Int} (hs : w.length ≤ 16777216) (h0 : 0 ≤ z) (h1 : z < (w.length : Int)) (h : ∀ c ∈ w, Q (one c)) : RP P (dIdx (.str (S w)) (.int z)) Q E := by
  obtain ⟨k, rfl⟩ : ∃ k : Nat, z = (k : Int) := ⟨z.toNat, by omega⟩
  exact rp_of (ixS hs (by omega)) (h _ (List.getElem_mem _))
end
theorem m_lt {z n : Int} (h : 0 < n) : z % n < n := Int.emod_lt_of_pos _ h
theorem m_nn {z n : Int} (h : 0 < n) : 0 ≤ z % n := Int.emod_nonneg _ (by omega)
theorem o_isB {b : Bool} : dIsT "bool" (.bool b) = .ok (.bool true) := rfl
theorem o_isL {l : List D} : dIsT "list" (.list l) = .ok (.bool true) := rfl
theorem o_isT {l : List D} : dIsT "tuple" (.tuple l) = .ok (.bool true) := rfl
theorem o_isI {z : Int} : dIsT "int" (.int z) = .ok (.bool true) := rfl
theorem o_niPM {s : Int} : dNotInS (.int s) (.tuple [.int 1, .int (-1)]) = .ok (.bool (!decide (s = 1 ∨ s = -1))) := by
  show R.ok (PyData.bool (!(decide (s = 1) || (decide (s = -1) || false)))) = _
  rw [Bool.or_false, Bool.decide_or]
theorem o_niPL {s : Int} : dNotInS (.int s) (.list [.int 1, .int (-1)]) = .ok (.bool (!decide (s = 1 ∨ s = -1))) := by
  show R.ok (PyData.bool (!(decide (s = 1) || (decide (s = -1) || false)))) = _
  rw [Bool.or_false, Bool.decide_or]
theorem o_max2 {a b : Int} : dMax2 [.int a, .int b] = .ok (.int (if b > a then b else a)) := rfl
theorem o_min2 {a b : Int} : dMin2 [.int a, .int b] = .ok (.int (if b < a then b else a)) := rfl
theorem o_abs {a : Int} : dAbs [.int a] = .ok (.int (if a < 0 then -a else a)) := rfl
theorem o_tupL {l : List D} : dTupOf (.list l) = .ok (.tuple l) := rfl
theorem o_tupT {l : List D} : dTupOf (.tuple l) = .ok (.tuple l) := rfl
theorem o_lofL {l : List D} : dListOf [.list l] = .ok l := rfl
theorem o_lofT {l : List D} : dListOf [.tuple l] = .ok l := rfl
theorem o_lofS {w : List Nat} (h : w.length ≤ 16777216) : dListOf [.str (S w)] = .ok (w.map one) := by
  show (if w.toArray.size ≤ sizeLine then R.ok (signs (S w)) else R.stuck) = _
  rw [if_pos (by rw [sizeLine_eq]; simpa using h)]
  rfl
theorem e_aListOf {r : MA} {ρ : En} : aListOf r ρ = (r ρ).bind dListOf := rfl
theorem e_aRep {r : MA} {m : ME} {ρ : En} : aRep r m ρ = (r ρ).bind fun ds => (m ρ).bind fun d => intD .stuck (fun k => if -(2 ^ 63) ≤ k ∧ k < 2 ^ 63 ∧ ds.length * k.toNat ≤ sizeLine then .ok (List.replicate k.toNat ds).flatten else .stuck) d := by
  unfold aRep
  refine congrArg _ (funext fun ds => congrArg _ (funext fun d => ?_))
  cases d <;> rfl
theorem rg_nat {n : Nat} (h : n ≤ 1000) : dRange1 [.int (n : Int)] = .ok ((List.range n).map fun (k : Nat) => PyData.int (k : Int)) := by
  have := rg_int (z := (n : Int)) (by omega) (by omega)
  rw [Int.toNat_natCast] at this
  exact this
theorem o_lt6 {g : Int} {j : Nat} (h1 : 1 ≤ g) (h2 : g ≤ 3) (hj : (j : Int) < 2 * g) : (lt g).getD j 0 ∈ lt g ∧ dIdx (.str (S L6)) (.int (j : Int)) = .ok (one ((lt g).getD j 0)) := by
  have hl := lt_len h1 h2
  have hi : j < (lt g).length := by omega
  have e0 : (lt g).getD j 0 = (lt g)[j] := by rw [List.getD_eq_getElem?_getD, List.getElem?_eq_getElem hi]; rfl
  have e : L6[j]? = some (lt g)[j] := by
    have e1 : (lt g)[j]? = some (lt g)[j] := List.getElem?_eq_getElem hi
    rw [← e1]
    unfold lt
    have : j < 2 * g.toNat := by omega
    rw [List.getElem?_take, if_pos this]
  rw [e0]
  exact ⟨List.getElem_mem hi, o_ixS (by decide) e⟩
def sigR (rs : List (List Nat)) (k s : Int) : Option (List Nat) := if 0 ≤ k ∧ k < rs.length ∧ (s = 1 ∨ s = -1) then some (if s = 1 then rs.getD k.toNat [] else invw (rs.getD k.toNat [])) else none
def optD : Option (List Nat) → D
  | none => .none
  | some w => sD w
theorem o_eqB {a b : Bool} : dEq (.bool a) (.bool b) = .ok (.bool (decide (a = b))) := rfl
theorem o_neB {a b : Bool} : dNe (.bool a) (.bool b) = .ok (.bool (!decide (a = b))) := rfl
theorem o_eqN : dIsN .none .none = .ok (.bool true) := rfl
theorem bool_eq {a b : Bool} : (PyData.bool a = PyData.bool b) = (a = b) := propext ⟨fun h => PyData.bool.inj h, fun h => by rw [h]⟩
theorem o_inPL {s : Int} : dInX (.int s) (.list [.int 1, .int (-1)]) = .ok (.bool (decide (s = 1 ∨ s = -1))) := by
  show R.ok (PyData.bool (decide (s = 1) || (decide (s = -1) || false))) = _
  rw [Bool.or_false, Bool.decide_or]

end Law

end
end
section
set_option Elab.async false
set_option linter.all false
set_option maxRecDepth 100000
set_option autoImplicit false
set_option maxHeartbeats 4000000
noncomputable section
namespace Law
open PySem DW L2
open SX (S S_tl S_len S_cat)
/-! ### moves -/
abbrev kPut : List Nat := [112, 117, 116]
abbrev kCut : List Nat := [99, 117, 116]
abbrev kAdd : List Nat := [97, 100, 100]
abbrev kTake : List Nat := [116, 97, 107, 101]
inductive Mv where
  | put (a : Int) (c : List Nat) | cut (a : Int) | add (a k s : Int) | take (a k s : Int)
def mvD : Mv → D
  | .put a c => .tuple [sD kPut, .int a, sD c]
  | .cut a => .tuple [sD kCut, .int a]
  | .add a k s => .tuple [sD kAdd, .int a, .int k, .int s]
  | .take a k s => .tuple [sD kTake, .int a, .int k, .int s]
def insW (w : List Nat) (a : Int) (t : List Nat) : Option (List Nat) := if 0 ≤ a ∧ a ≤ w.length ∧ w.length + t.length ≤ 200 then some (w.take a.toNat ++ t ++ w.drop a.toNat) else none
def rmvW (w : List Nat) (a : Int) (t : List Nat) : Option (List Nat) := if 0 ≤ a ∧ (w.drop a.toNat).take t.length = t then some (w.take a.toNat ++ w.drop (a.toNat + t.length)) else none
def pairA (w : List Nat) (a : Int) : Option (List Nat) := if 0 ≤ a ∧ a + 1 < w.length ∧ w.getD (a.toNat + 1) 0 = inv (w.getD a.toNat 0) then some ((w.drop a.toNat).take 2) else none
def ltP (g : Int) : List Nat → Option (List Nat)
  | [x] => if x ∈ lt g then some [x, inv x] else none
  | _ => none
def aft (g : Int) (rs : List (List Nat)) (w : List Nat) : Mv → Option (List Nat)
  | .put a c => (ltP g c).bind (insW w a)
  | .cut a => (pairA w a).bind (rmvW w a)
  | .add a k s => (sigR rs k s).bind (insW w a)
  | .take a k s => (sigR rs k s).bind (rmvW w a)
theorem cut_mid {α : Type} {l : List α} {a n : Nat} : cutG l (some (a : Int)) (some ((a : Int) + (n : Int))) = (l.drop a).take n := by
  unfold cutG
  have e1 : HT.sIx l.length 0 (some (a : Int)) = min a l.length := HT.sIx_nat _ _ _
  have e2 : HT.sIx l.length l.length (some ((a : Int) + (n : Int))) = min (a + n) l.length := by
    have := HT.sIx_nat l.length l.length (a + n)
    rw [← this]
    congr 2
  rw [e1, e2]
  by_cases h : a ≤ l.length
  · rw [Nat.min_eq_left h]
    by_cases h2 : a + n ≤ l.length
    · rw [Nat.min_eq_left h2]
      congr 1
      omega
    · have e3 : min (a + n) l.length = l.length := Nat.min_eq_right (by omega)
      rw [e3, List.take_of_length_le (by rw [List.length_drop]; omega), List.take_of_length_le (by rw [List.length_drop]; omega)]
  · have e3 : min a l.length = l.length := Nat.min_eq_right (by omega)
    rw [e3, List.drop_length, List.take_nil, List.drop_eq_nil_of_le (by omega), List.take_nil]
theorem cut_from' {α : Type} {l : List α} {n : Nat} : cutG l (some (n : Int)) none = l.drop n := by
  by_cases h : n ≤ l.length
  · exact cut_from h
  · unfold cutG
    have e1 : HT.sIx l.length 0 (some (n : Int)) = min n l.length := HT.sIx_nat _ _ _
    have e0 : HT.sIx l.length l.length none = l.length := rfl
    rw [e1, e0, Nat.min_eq_right (by omega), Nat.sub_self, List.take_zero, List.drop_eq_nil_of_le (by omega)]
theorem cut_to2 {α : Type} {l : List α} {n : Nat} : cutG l none (some (n : Int)) = l.take n := by
  rw [cut_to']
  by_cases h : n ≤ l.length
  · rw [Nat.min_eq_left h]
  · rw [Nat.min_eq_right (by omega), List.take_length, List.take_of_length_le (by omega)]
theorem ixSD {w : List Nat} {k : Nat} (hs : w.length ≤ 16777216) (h : k < w.length) : dIdx (.str (S w)) (.int (k : Int)) = .ok (one (w.getD k 0)) := by
  rw [ixS hs h, List.getD_eq_getElem?_getD, List.getElem?_eq_getElem h]; rfl
theorem getD_mem {w : List Nat} {k : Nat} (h : k < w.length) : w.getD k 0 ∈ w := by
  rw [List.getD_eq_getElem?_getD, List.getElem?_eq_getElem h]; exact List.getElem_mem h
theorem relsAt {rs : List (List Nat)} {k : Nat} (h : k < rs.length) : dIdx (.tuple (rs.map sD)) (.int (k : Int)) = .ok (sD (rs.getD k [])) := o_ixT (by rw [List.getElem?_map, List.getElem?_eq_getElem h, List.getD_eq_getElem?_getD, List.getElem?_eq_getElem h]; rfl)
theorem rels_mem {rs : List (List Nat)} {k : Nat} (h : k < rs.length) : rs.getD k [] ∈ rs := by rw [List.getD_eq_getElem?_getD, List.getElem?_eq_getElem h]; exact List.getElem_mem h
theorem o_isNn : dIsN .none .none = .ok (.bool true) := rfl
theorem o_isNs {w : List Nat} : dIsN (sD w) .none = .ok (.bool false) := rfl
theorem o_notNn : dNotN .none .none = .ok (.bool false) := rfl
theorem o_notNs {w : List Nat} : dNotN (sD w) .none = .ok (.bool true) := rfl
/-- a presentation: numbers, letters, lengths -/
structure Pres (g : Int) (rs : List (List Nat)) : Prop where
  h1 : 1 ≤ g
  h2 : g ≤ 3
  n : rs.length ≤ 8
  r : ∀ r ∈ rs, (∀ c ∈ r, c ∈ lt g) ∧ 1 ≤ r.length ∧ r.length ≤ 20
theorem Pres.wd {g : Int} {rs : List (List Nat)} (h : Pres g rs) : ∀ r ∈ rs, Wd r ∧ r.length ≤ 1000000 := fun r hr => ⟨lt_wd (h.r r hr).1, by have := (h.r r hr).2.2; omega⟩
theorem Pres.len {g : Int} {rs : List (List Nat)} (h : Pres g rs) : ∀ r ∈ rs, r.length ≤ 1000000 := fun r hr => (h.wd r hr).2
theorem Pres.ok {g : Int} {rs : List (List Nat)} (h : Pres g rs) : presB g rs = true := by
  unfold presB
  rw [Bool.and_eq_true, decide_eq_true_eq, List.all_eq_true]
  refine ⟨⟨h.h1, h.h2, h.n⟩, fun r hr => ?_⟩
  unfold relB
  rw [Bool.and_eq_true, decide_eq_true_eq, okw_iff]
  exact ⟨(h.r r hr).2, (h.r r hr).1⟩
theorem sigR_mem {g : Int} {rs : List (List Nat)} (h : Pres g rs) {k s : Int} {w : List Nat} (e : sigR rs k s = some w) : Wd w ∧ 1 ≤ w.length ∧ w.length ≤ 20 := by
  unfold sigR at e
  split at e
  · rename_i hk
    have hm := rels_mem (rs := rs) (k := k.toNat) (by omega)
    have q := h.r _ hm
    cases e
    split
    · exact ⟨lt_wd q.1, q.2⟩
    · exact ⟨invw_wd (lt_wd q.1), by rw [invw_len]; exact q.2⟩
  · cases e
theorem inv_lt {g : Int} (h1 : 1 ≤ g) (h2 : g ≤ 3) : ∀ c ∈ lt g, inv c ∈ lt g := by
  have : g = 1 ∨ g = 2 ∨ g = 3 := by omega
  rcases this with rfl | rfl | rfl <;> decide
theorem sigR_lt {g : Int} {rs : List (List Nat)} (h : Pres g rs) {k s : Int} {w : List Nat} (e : sigR rs k s = some w) : ∀ c ∈ w, c ∈ lt g := by
  unfold sigR at e
  split at e
  · rename_i hk
    have hm := rels_mem (rs := rs) (k := k.toNat) (by omega)
    have q := h.r _ hm
    cases e
    split
    · exact q.1
    · intro c hc
      unfold invw at hc
      obtain ⟨d, hd, rfl⟩ := List.mem_map.mp hc
      exact inv_lt h.h1 h.h2 d (q.1 d (List.mem_reverse.mp hd))
  · cases e
theorem insW_lt {P : Nat → Prop} {w t v : List Nat} {a : Int} (hw : ∀ c ∈ w, P c) (ht : ∀ c ∈ t, P c) (e : insW w a t = some v) : (∀ c ∈ v, P c) ∧ v.length ≤ 200 := by
  unfold insW at e
  split at e
  · cases e
    refine ⟨fun c hc => ?_, ?_⟩
    · rw [List.mem_append, List.mem_append] at hc
      rcases hc with (hc | hc) | hc
      · exact hw c (List.mem_of_mem_take hc)
      · exact ht c hc
      · exact hw c (List.mem_of_mem_drop hc)
    · rw [List.length_append, List.length_append, List.length_take, List.length_drop]; omega
  · cases e
theorem rmvW_lt {P : Nat → Prop} {w t v : List Nat} {a : Int} (hw : ∀ c ∈ w, P c) (e : rmvW w a t = some v) : (∀ c ∈ v, P c) ∧ v.length ≤ w.length := by
  unfold rmvW at e
  split at e
  · cases e
    refine ⟨fun c hc => ?_, ?_⟩
    · rw [List.mem_append] at hc
      rcases hc with hc | hc
      · exact hw c (List.mem_of_mem_take hc)
      · exact hw c (List.mem_of_mem_drop hc)
    · rw [List.length_append, List.length_take, List.length_drop]; omega
  · cases e
/-- the word behind a move is one over the letters, of at most 200 -/
theorem aft_lt {g : Int} {rs : List (List Nat)} (h : Pres g rs) {w v : List Nat} {m : Mv} (hw : ∀ c ∈ w, c ∈ lt g) (hl : w.length ≤ 200) (e : aft g rs w m = some v) : (∀ c ∈ v, c ∈ lt g) ∧ v.length ≤ 200 := by
  have put : ∀ {a : Int} {c : List Nat}, (ltP g c).bind (insW w a) = some v → (∀ c ∈ v, c ∈ lt g) ∧ v.length ≤ 200 := by
    intro a c e
    match c, e with
    | [x], e =>
      by_cases hx : x ∈ lt g
      · have q : ltP g [x] = some [x, inv x] := if_pos hx
        rw [q] at e
        exact insW_lt hw (fun c hc => by
          rcases List.mem_cons.mp hc with rfl | hc
          · exact hx
          · rw [List.mem_singleton.mp hc]; exact inv_lt h.h1 h.h2 _ hx) e
      · have q : ltP g [x] = none := if_neg hx
        rw [q] at e; cases e
    | [], e => cases e
    | _ :: _ :: _, e => cases e
  cases m with
  | put a c => exact put e
  | cut a =>
    have e : (pairA w a).bind (rmvW w a) = some v := e
    cases q : pairA w a with
    | none => rw [q] at e; cases e
    | some t => rw [q] at e; have := rmvW_lt hw e; exact ⟨this.1, by omega⟩
  | add a k s =>
    have e : (sigR rs k s).bind (insW w a) = some v := e
    cases q : sigR rs k s with
    | none => rw [q] at e; cases e
    | some t => rw [q] at e; exact insW_lt hw (sigR_lt h q) e
  | take a k s =>
    have e : (sigR rs k s).bind (rmvW w a) = some v := e
    cases q : sigR rs k s with
    | none => rw [q] at e; cases e
    | some t => rw [q] at e; have := rmvW_lt hw e; exact ⟨this.1, by omega⟩

end Law

end
end
section
set_option Elab.async false
set_option linter.all false
set_option maxRecDepth 100000
set_option autoImplicit false
set_option maxHeartbeats 4000000
noncomputable section
namespace Law
open PySem DW L2
open SX (S S_tl S_len S_cat)
/-! ### moves are undone; lists of moves -/
def oppM (w : List Nat) : Mv → Mv
  | .put a _ => .cut a
  | .cut a => .put a [w.getD a.toNat 0]
  | .add a k s => .take a k s
  | .take a k s => .add a k s
theorem e_loop_c {g : D → En → R En} {b : MS} {d : D} {ds : List D} {ρ : En} : mLoop g b (d :: ds) ρ = O.of (g d ρ).sure ρ fun ρ1 => (b ρ1).lp (mLoop g b ds) := rfl
theorem ins_rmv {w t v : List Nat} {a : Int} (e : insW w a t = some v) : rmvW v a t = some w := by
  unfold insW at e
  split at e
  · rename_i h
    cases e
    have ht : (w.take a.toNat).length = a.toNat := by rw [List.length_take]; omega
    unfold rmvW
    have e1 : ((w.take a.toNat ++ t ++ w.drop a.toNat).drop a.toNat) = t ++ w.drop a.toNat := by
      rw [List.append_assoc, List.drop_append_of_le_length (by omega), List.drop_eq_nil_of_le (by omega), List.nil_append]
    rw [e1, if_pos ⟨h.1, by rw [List.take_append_of_le_length (Nat.le_refl _), List.take_length]⟩]
    congr 1
    have e2 : (w.take a.toNat ++ t ++ w.drop a.toNat).take a.toNat = w.take a.toNat := by
      rw [List.append_assoc, List.take_append_of_le_length (by omega), List.take_of_length_le (by omega)]
    have e3 : (w.take a.toNat ++ t ++ w.drop a.toNat).drop (a.toNat + t.length) = w.drop a.toNat := by
      rw [← List.drop_drop, e1, List.drop_append_of_le_length (Nat.le_refl _), List.drop_length, List.nil_append]
    rw [e2, e3, List.take_append_drop]
  · cases e
theorem rmv_ins {w t v : List Nat} {a : Int} (hl : w.length ≤ 200) (ht : 1 ≤ t.length) (e : rmvW w a t = some v) : insW v a t = some w := by
  unfold rmvW at e
  split at e
  · rename_i h
    cases e
    have h2 := congrArg List.length h.2
    rw [List.length_take, List.length_drop] at h2
    have h3 : a.toNat + t.length ≤ w.length := by omega
    have ht : (w.take a.toNat).length = a.toNat := by rw [List.length_take]; omega
    unfold insW
    rw [if_pos ⟨h.1, by rw [List.length_append, List.length_drop, ht]; omega, by rw [List.length_append, List.length_drop, ht]; omega⟩]
    congr 1
    rw [List.take_append_of_le_length (by omega), List.take_of_length_le (l := w.take a.toNat) (by omega), List.drop_append_of_le_length (by omega), List.drop_eq_nil_of_le (as := w.take a.toNat) (by omega), List.nil_append]
    have e1 : t ++ w.drop (a.toNat + t.length) = w.drop a.toNat := by
      conv => rhs; rw [← List.take_append_drop t.length (w.drop a.toNat)]
      rw [h.2, List.drop_drop]
    rw [List.append_assoc, e1, List.take_append_drop]
  · cases e
theorem getD_drop {w : List Nat} {k : Nat} (h : k < w.length) : w.drop k = w.getD k 0 :: w.drop (k + 1) := by
  rw [List.drop_eq_getElem_cons h, List.getD_eq_getElem?_getD, List.getElem?_eq_getElem h]; rfl
theorem pairA_eq {w t : List Nat} {a : Int} (e : pairA w a = some t) : t = [w.getD a.toNat 0, inv (w.getD a.toNat 0)] ∧ 0 ≤ a ∧ a + 1 < w.length := by
  unfold pairA at e
  split at e
  · rename_i h
    cases e
    refine ⟨?_, h.1, h.2.1⟩
    rw [getD_drop (by omega), getD_drop (by omega), h.2.2]
    rfl
  · cases e
theorem pairA_of {w : List Nat} {a : Int} {x : Nat} (h : 0 ≤ a) (e : (w.drop a.toNat).take 2 = [x, inv x]) : pairA w a = some [x, inv x] := by
  have h2 := congrArg List.length e
  rw [List.length_take, List.length_drop] at h2
  have h2 : min 2 (w.length - a.toNat) = 2 := h2
  rw [getD_drop (by omega), getD_drop (by omega)] at e
  have e : [w.getD a.toNat 0, w.getD (a.toNat + 1) 0] = [x, inv x] := e
  injection e with e1 e2
  injection e2 with e2 _
  unfold pairA
  rw [if_pos ⟨h, by omega, by rw [e2, e1]⟩, getD_drop (by omega), getD_drop (by omega)]
  show some [w.getD a.toNat 0, w.getD (a.toNat + 1) 0] = _
  rw [e1, e2]
/-- an allowed move is undone -/
theorem aft_opp {g : Int} {rs : List (List Nat)} (hp : Pres g rs) {w v : List Nat} {m : Mv} (hw : ∀ c ∈ w, c ∈ lt g) (hl : w.length ≤ 200) (e : aft g rs w m = some v) : aft g rs v (oppM w m) = some w := by
  cases m with
  | put a c =>
    have e : (ltP g c).bind (insW w a) = some v := e
    match c, e with
    | [x], e =>
      by_cases hx : x ∈ lt g
      · have q : ltP g [x] = some [x, inv x] := if_pos hx
        rw [q] at e
        have e : insW w a [x, inv x] = some v := e
        have r := ins_rmv e
        have r2 := r
        unfold rmvW at r2
        split at r2
        · rename_i h
          show (pairA v a).bind (rmvW v a) = some w
          rw [pairA_of h.1 h.2]
          exact r
        · cases r2
      · have q : ltP g [x] = none := if_neg hx
        rw [q] at e; cases e
    | [], e => cases e
    | _ :: _ :: _, e => cases e
  | cut a =>
    have e : (pairA w a).bind (rmvW w a) = some v := e
    cases q : pairA w a with
    | none => rw [q] at e; cases e
    | some t =>
      rw [q] at e
      have e : rmvW w a t = some v := e
      obtain ⟨rfl, h1, h2⟩ := pairA_eq q
      have hx : w.getD a.toNat 0 ∈ lt g := hw _ (getD_mem (by omega))
      have q : ltP g [w.getD a.toNat 0] = some [w.getD a.toNat 0, inv (w.getD a.toNat 0)] := if_pos hx
      show (ltP g [w.getD a.toNat 0]).bind (insW v a) = some w
      rw [q]
      exact rmv_ins hl (by show 1 ≤ 2; decide) e
  | add a k s =>
    have e : (sigR rs k s).bind (insW w a) = some v := e
    show (sigR rs k s).bind (rmvW v a) = some w
    cases q : sigR rs k s with
    | none => rw [q] at e; cases e
    | some t => rw [q] at e; exact ins_rmv e
  | take a k s =>
    have e : (sigR rs k s).bind (rmvW w a) = some v := e
    show (sigR rs k s).bind (insW v a) = some w
    cases q : sigR rs k s with
    | none => rw [q] at e; cases e
    | some t => rw [q] at e; exact rmv_ins hl (sigR_mem hp q).2.1 e
def badAt (g : Int) (rs : List (List Nat)) : Nat → List Nat → List Mv → Option Nat
  | _, _, [] => none
  | k, w, m :: ms => match aft g rs w m with
    | none => some k
    | some v => badAt g rs (k + 1) v ms
def lastW (g : Int) (rs : List (List Nat)) : List Nat → List Mv → List Nat
  | w, [] => w
  | w, m :: ms => match aft g rs w m with
    | none => w
    | some v => lastW g rs v ms
/-- the words behind the moves, the first one left out -/
def wordsM (g : Int) (rs : List (List Nat)) : List Nat → List Mv → List (List Nat)
  | _, [] => []
  | w, m :: ms => match aft g rs w m with
    | none => []
    | some v => v :: wordsM g rs v ms
def undM (g : Int) (rs : List (List Nat)) : List Nat → List Mv → List Mv
  | _, [] => []
  | w, m :: ms => match aft g rs w m with
    | none => []
    | some v => undM g rs v ms ++ [oppM w m]
theorem badAt_s {g : Int} {rs : List (List Nat)} {k : Nat} {w v : List Nat} {m : Mv} {ms : List Mv} (q : aft g rs w m = some v) : badAt g rs k w (m :: ms) = badAt g rs (k + 1) v ms := by
  show (match aft g rs w m with | none => some k | some v => badAt g rs (k + 1) v ms) = _
  rw [q]
theorem badAt_n {g : Int} {rs : List (List Nat)} {k : Nat} {w : List Nat} {m : Mv} {ms : List Mv} (q : aft g rs w m = none) : badAt g rs k w (m :: ms) = some k := by
  show (match aft g rs w m with | none => some k | some v => badAt g rs (k + 1) v ms) = _
  rw [q]
theorem lastW_s {g : Int} {rs : List (List Nat)} {w v : List Nat} {m : Mv} {ms : List Mv} (q : aft g rs w m = some v) : lastW g rs w (m :: ms) = lastW g rs v ms := by
  show (match aft g rs w m with | none => w | some v => lastW g rs v ms) = _
  rw [q]
theorem lastW_n {g : Int} {rs : List (List Nat)} {w : List Nat} {m : Mv} {ms : List Mv} (q : aft g rs w m = none) : lastW g rs w (m :: ms) = w := by
  show (match aft g rs w m with | none => w | some v => lastW g rs v ms) = _
  rw [q]
theorem wordsM_s {g : Int} {rs : List (List Nat)} {w v : List Nat} {m : Mv} {ms : List Mv} (q : aft g rs w m = some v) : wordsM g rs w (m :: ms) = v :: wordsM g rs v ms := by
  show (match aft g rs w m with | none => [] | some v => v :: wordsM g rs v ms) = _
  rw [q]
theorem undM_s {g : Int} {rs : List (List Nat)} {w v : List Nat} {m : Mv} {ms : List Mv} (q : aft g rs w m = some v) : undM g rs w (m :: ms) = undM g rs v ms ++ [oppM w m] := by
  show (match aft g rs w m with | none => [] | some v => undM g rs v ms ++ [oppM w m]) = _
  rw [q]
theorem okK {n : Nat} {k : List Nat} (h : ∀ c ∈ k, c < 1114112) : okD n (sD k) = true := by cases n <;> exact okS h
def MvC (m : Mv) : Prop := ∀ a c, m = .put a c → c.length ≤ 1000
/-- the word at a time, of a list that is walked to its end -/
theorem words_last (g : Int) (rs : List (List Nat)) : ∀ (ms : List Mv) (w : List Nat) (k : Nat), badAt g rs k w ms = none → (w :: wordsM g rs w ms)[ms.length]? = some (lastW g rs w ms) ∧ (wordsM g rs w ms).length = ms.length
  | [], w, k, _ => ⟨rfl, rfl⟩
  | m :: ms, w, k, h => by
    unfold badAt at h
    cases q : aft g rs w m with
    | none => rw [q] at h; cases h
    | some v =>
      rw [q] at h
      obtain ⟨h1, h2⟩ := words_last g rs ms v (k + 1) h
      unfold wordsM lastW
      rw [q]
      exact ⟨by rw [List.length_cons, List.getElem?_cons_succ]; exact h1, by rw [List.length_cons, List.length_cons, h2]⟩
theorem badAt_shift (g : Int) (rs : List (List Nat)) : ∀ (ms : List Mv) (w : List Nat) (k j : Nat), badAt g rs k w ms = none → badAt g rs j w ms = none
  | [], _, _, _, _ => rfl
  | m :: ms, w, k, j, h => by
    unfold badAt at h ⊢
    cases q : aft g rs w m with
    | none => rw [q] at h; cases h
    | some v => rw [q] at h; exact badAt_shift g rs ms v (k + 1) (j + 1) h
theorem badAt_ge (g : Int) (rs : List (List Nat)) : ∀ (ms : List Mv) (w : List Nat) (k i : Nat), badAt g rs k w ms = some i → k ≤ i ∧ i < k + ms.length
  | [], _, _, _, h => by cases h
  | m :: ms, w, k, i, h => by
    unfold badAt at h
    rw [List.length_cons]
    cases q : aft g rs w m with
    | none => rw [q] at h; cases h; omega
    | some v => rw [q] at h; have := badAt_ge g rs ms v (k + 1) i h; omega
theorem lastW_lt {g : Int} {rs : List (List Nat)} (hp : Pres g rs) : ∀ (ms : List Mv) (w : List Nat), (∀ c ∈ w, c ∈ lt g) → w.length ≤ 200 → (∀ c ∈ lastW g rs w ms, c ∈ lt g) ∧ (lastW g rs w ms).length ≤ 200
  | [], w, hw, hl => ⟨hw, hl⟩
  | m :: ms, w, hw, hl => by
    unfold lastW
    cases q : aft g rs w m with
    | none => exact ⟨hw, hl⟩
    | some v => have := aft_lt hp hw hl q; exact lastW_lt hp ms v this.1 this.2
theorem badAt_app (g : Int) (rs : List (List Nat)) (b : List Mv) : ∀ (a : List Mv) (w : List Nat) (k : Nat), badAt g rs k w a = none → badAt g rs k w (a ++ b) = badAt g rs (k + a.length) (lastW g rs w a) b ∧ lastW g rs w (a ++ b) = lastW g rs (lastW g rs w a) b
  | [], w, k, _ => ⟨rfl, rfl⟩
  | m :: ms, w, k, h => by
    rw [List.cons_append]
    cases q : aft g rs w m with
    | none => rw [badAt_n q] at h; cases h
    | some v =>
      rw [badAt_s q] at h
      obtain ⟨h1, h2⟩ := badAt_app g rs b ms v (k + 1) h
      have e : k + 1 + ms.length = k + (m :: ms).length := by rw [List.length_cons]; omega
      rw [e] at h1
      rw [badAt_s q, lastW_s q, lastW_s q]
      exact ⟨h1, h2⟩
/-- the undone moves lead back -/
theorem und_back {g : Int} {rs : List (List Nat)} (hp : Pres g rs) : ∀ (ms : List Mv) (w : List Nat) (k : Nat), (∀ c ∈ w, c ∈ lt g) → w.length ≤ 200 → badAt g rs k w ms = none → badAt g rs 0 (lastW g rs w ms) (undM g rs w ms) = none ∧ lastW g rs (lastW g rs w ms) (undM g rs w ms) = w ∧ (undM g rs w ms).length = ms.length
  | [], w, k, _, _, _ => ⟨rfl, rfl, rfl⟩
  | m :: ms, w, k, hw, hl, h => by
    cases q : aft g rs w m with
    | none => rw [badAt_n q] at h; cases h
    | some v =>
      rw [badAt_s q] at h
      have hv := aft_lt hp hw hl q
      obtain ⟨h1, h2, h3⟩ := und_back hp ms v (k + 1) hv.1 hv.2 h
      have o := aft_opp hp hw hl q
      obtain ⟨a1, a2⟩ := badAt_app g rs [oppM w m] _ _ 0 h1
      rw [lastW_s q, undM_s q, a1, a2, h2]
      refine ⟨?_, ?_, by rw [List.length_append, h3]; rfl⟩
      · rw [badAt_s o]; rfl
      · rw [lastW_s o]; rfl
theorem oppM_C {w : List Nat} {m : Mv} : MvC (oppM w m) := by
  intro a c e
  cases m with
  | cut a => cases e; show 1 ≤ 1000; decide
  | _ => cases e
theorem undM_C {g : Int} {rs : List (List Nat)} : ∀ (ms : List Mv) (w : List Nat), ∀ m ∈ undM g rs w ms, MvC m
  | [], _, _, h => nomatch h
  | m :: ms, w, x, h => by
    unfold undM at h
    cases q : aft g rs w m with
    | none => rw [q] at h; exact nomatch h
    | some v =>
      rw [q] at h
      rcases List.mem_append.mp h with h | h
      · exact undM_C ms v x h
      · rw [List.mem_singleton.mp h]; exact oppM_C
/-- moves as data to compare -/
theorem okD_mv {m : Mv} (h : ∀ a c, m = .put a c → Wd c) : okD 1 (mvD m) = true := by
  cases m with
  | put a c =>
    show ([sD kPut, .int a, sD c] : List D).all (okD 0) = true
    have := okD_w (n := 0) (h a c rfl)
    rw [List.all_cons, List.all_cons, List.all_cons, List.all_nil, okD_i, this, okK (by decide)]; rfl
  | cut a =>
    show ([sD kCut, .int a] : List D).all (okD 0) = true
    rw [List.all_cons, List.all_cons, List.all_nil, okD_i, okK (by decide)]; rfl
  | add a k s =>
    show ([sD kAdd, .int a, .int k, .int s] : List D).all (okD 0) = true
    rw [List.all_cons, List.all_cons, List.all_cons, List.all_cons, List.all_nil, okD_i, okD_i, okD_i, okK (by decide)]; rfl
  | take a k s =>
    show ([sD kTake, .int a, .int k, .int s] : List D).all (okD 0) = true
    rw [List.all_cons, List.all_cons, List.all_cons, List.all_cons, List.all_nil, okD_i, okD_i, okD_i, okK (by decide)]; rfl
theorem okD_mvs {ms : List Mv} (h : ∀ m ∈ ms, ∀ a c, m = .put a c → Wd c) : okD 2 (.list (ms.map mvD)) = true := by
  show (ms.map mvD).all (okD 1) = true
  rw [List.all_map, List.all_eq_true]
  exact fun m hm => okD_mv (h m hm)
/-- a move as it is drawn -/
def MvL (g : Int) (m : Mv) : Prop := ∀ a c, m = .put a c → ∃ x ∈ lt g, c = [x]
def MvP (g : Int) (d : D) : Prop := ∃ m, d = mvD m ∧ MvL g m
theorem mv_put {g a : Int} {x : Nat} (h : x ∈ lt g) : MvP g (.tuple [sD kPut, .int a, one x]) := ⟨.put a [x], rfl, fun a' c e => by cases e; exact ⟨x, h, rfl⟩⟩
theorem mv_cut {g a : Int} : MvP g (.tuple [sD kCut, .int a]) := ⟨.cut a, rfl, fun _ _ e => by cases e⟩
theorem mv_add {g a k s : Int} : MvP g (.tuple [sD kAdd, .int a, .int k, .int s]) := ⟨.add a k s, rfl, fun _ _ e => by cases e⟩
theorem mv_take {g a k s : Int} : MvP g (.tuple [sD kTake, .int a, .int k, .int s]) := ⟨.take a k s, rfl, fun _ _ e => by cases e⟩
def MvsP (g : Int) (n : Nat) (ds : List D) : Prop := ds.length ≤ n ∧ ∀ d ∈ ds, MvP g d
theorem MvsP.app {g : Int} {n : Nat} {ds : List D} {d : D} (h : MvsP g n ds) (h2 : MvP g d) : MvsP g (n + 1) (ds ++ [d]) := ⟨by rw [List.length_append]; exact Nat.succ_le_succ h.1, fun x hx => (List.mem_append.mp hx).elim (h.2 x) fun z => by rw [List.mem_singleton.mp z]; exact h2⟩
theorem MvsP.mono {g : Int} {n m : Nat} {ds : List D} (h : MvsP g n ds) (h2 : n ≤ m) : MvsP g m ds := ⟨Nat.le_trans h.1 h2, h.2⟩
theorem loop_lt {n j : Nat} {d : D} (hd : ((List.range n).map fun (k : Nat) => PyData.int (k : Int))[j]? = some d) : j < n ∧ d = .int (j : Int) := by
  rw [List.getElem?_map] at hd
  by_cases h : j < n
  · rw [List.getElem?_range h] at hd
    exact ⟨h, (Option.some.inj hd).symm⟩
  · rw [List.getElem?_eq_none (by rw [List.length_range]; omega)] at hd
    cases hd
theorem mvL_C {g : Int} {m : Mv} (h : MvL g m) : MvC m := fun a c e => by obtain ⟨x, _, rfl⟩ := h a c e; show 1 ≤ 1000; decide
/-- moves that may be compared -/
def MvsL (g : Int) (n : Nat) (ms : List Mv) : Prop := ms.length ≤ n ∧ ∀ m ∈ ms, MvL g m
def SpoP (g : Int) (n : Nat) (d : D) : Prop := ∃ ms : List Mv, d = .list (ms.map mvD) ∧ MvsL g n ms
theorem mv_bump {m : Mv} : ∃ (k : D) (a : Int) (r : List D), mvD m = .tuple (k :: .int a :: r) ∧ ∃ m', mvD m' = .tuple (k :: .int (a + 1) :: r) ∧ ∀ g, MvL g m → MvL g m' := by
  cases m with
  | put a c => exact ⟨_, a, _, rfl, .put (a + 1) c, rfl, fun g h a' c' e => by cases e; exact h a c rfl⟩
  | cut a => exact ⟨_, a, _, rfl, .cut (a + 1), rfl, fun g h a' c' e => by cases e⟩
  | add a k s => exact ⟨_, a, _, rfl, .add (a + 1) k s, rfl, fun g h a' c' e => by cases e⟩
  | take a k s => exact ⟨_, a, _, rfl, .take (a + 1) k s, rfl, fun g h a' c' e => by cases e⟩
theorem sl2 {a b : D} {r : List D} : dSl (.tuple (a :: b :: r)) (some 2) none = .ok (.tuple r) := by
  have h : ¬ (HT.sIx (a :: b :: r).length 0 (some 2) = 0 ∧ HT.sIx (a :: b :: r).length (a :: b :: r).length none = (a :: b :: r).length) := fun z => by
    have e : HT.sIx (a :: b :: r).length 0 (some ((2 : Nat) : Int)) = min 2 (a :: b :: r).length := HT.sIx_nat _ _ _
    have e : HT.sIx (a :: b :: r).length 0 (some 2) = min 2 (a :: b :: r).length := e
    have z1 := z.1
    rw [e, List.length_cons, List.length_cons] at z1
    omega
  rw [o_slT h]
  exact congrArg (fun l => R.ok (PyData.tuple l)) (cut_from' (l := a :: b :: r) (n := 2))
theorem lc_gen {α : Type} {g : D → En → R En} {m : ME} {ρ : En} {ds : List D} {fs : List D} (hl : ds.length = fs.length) (h : ∀ (i : Nat) (d f : D), ds[i]? = some d → fs[i]? = some f → ∃ ρ1, g d ρ = .ok ρ1 ∧ m ρ1 = .ok f) : lcLoop g mYes m ρ ds = .ok fs := by
  induction ds generalizing fs with
  | nil =>
    cases fs with
    | nil => rfl
    | cons _ _ => cases hl
  | cons d ds ih =>
    cases fs with
    | nil => cases hl
    | cons f fs =>
      obtain ⟨ρ1, h1, h2⟩ := h 0 d f rfl rfl
      show (R.bind (g d ρ).sure fun ρ1 => (mYes ρ1).sure.bind fun k => if k then (m ρ1).sure.bind fun y => (lcLoop g mYes m ρ ds).bind fun ys => R.ok (y :: ys) else lcLoop g mYes m ρ ds) = _
      rw [h1, ih (Nat.succ.inj hl) fun i d f e1 e2 => h (i + 1) d f e1 e2]
      show (R.bind (m ρ1).sure fun y => _) = _
      rw [h2]
      rfl
/-- what each move is undone by, in the order of the moves -/
def oppsM (g : Int) (rs : List (List Nat)) : List Nat → List Mv → List Mv
  | _, [] => []
  | w, m :: ms => oppM w m :: (match aft g rs w m with
    | none => []
    | some v => oppsM g rs v ms)
theorem opps_und (g : Int) (rs : List (List Nat)) : ∀ (ms : List Mv) (w : List Nat) (k : Nat), badAt g rs k w ms = none → (oppsM g rs w ms).reverse = undM g rs w ms ∧ (oppsM g rs w ms).length = ms.length
  | [], _, _, _ => ⟨rfl, rfl⟩
  | m :: ms, w, k, h => by
    cases q : aft g rs w m with
    | none => rw [badAt_n q] at h; cases h
    | some v =>
      rw [badAt_s q] at h
      obtain ⟨h1, h2⟩ := opps_und g rs ms v (k + 1) h
      have e : oppsM g rs w (m :: ms) = oppM w m :: oppsM g rs v ms := by
        show oppM w m :: (match aft g rs w m with | none => [] | some v => oppsM g rs v ms) = _
        rw [q]
      rw [e, undM_s q, List.reverse_cons, h1, List.length_cons, List.length_cons, h2]
      exact ⟨rfl, rfl⟩
theorem opps_at {g : Int} {rs : List (List Nat)} (hp : Pres g rs) : ∀ (ms : List Mv) (w : List Nat) (k : Nat), (∀ c ∈ w, c ∈ lt g) → w.length ≤ 200 → badAt g rs k w ms = none → ∀ (i : Nat) (m o : Mv), ms[i]? = some m → (oppsM g rs w ms)[i]? = some o → ∃ v, (w :: wordsM g rs w ms)[i]? = some v ∧ o = oppM v m ∧ v.length ≤ 200 ∧ (∀ a, m = .cut a → 0 ≤ a ∧ a < v.length)
  | m :: ms, w, k, hw, hl, h, i, x, o, e1, e2 => by
    cases q : aft g rs w m with
    | none => rw [badAt_n q] at h; cases h
    | some v =>
      rw [badAt_s q] at h
      have hv := aft_lt hp hw hl q
      have e : oppsM g rs w (m :: ms) = oppM w m :: oppsM g rs v ms := by
        show oppM w m :: (match aft g rs w m with | none => [] | some v => oppsM g rs v ms) = _
        rw [q]
      rw [e] at e2
      rw [wordsM_s q]
      cases i with
      | zero =>
        cases e1; cases e2
        refine ⟨w, rfl, rfl, hl, fun a ea => ?_⟩
        subst ea
        have q : (pairA w a).bind (rmvW w a) = some v := q
        cases q2 : pairA w a with
        | none => rw [q2] at q; cases q
        | some t => have := pairA_eq q2; exact ⟨this.2.1, by omega⟩
      | succ i => exact opps_at hp ms v (k + 1) hv.1 hv.2 h i x o e1 e2
open Classical in
theorem ne_refl' {n : Nat} {d : D} (h : okD n d = true) (hn : n ≤ 64) : dNe d d = .ok (.bool false) := by
  rw [okD_ne h h hn hn, decide_eq_true rfl]; rfl
open Classical in
theorem eq_refl' {n : Nat} {d : D} (h : okD n d = true) (hn : n ≤ 64) : dEq d d = .ok (.bool true) := by
  rw [okD_eq h h hn hn, decide_eq_true rfl]
theorem okD_T {n : Nat} {l : List D} (h : ∀ d ∈ l, okD n d = true) : okD (n + 1) (.tuple l) = true := List.all_eq_true.mpr h
theorem okD_L {n : Nat} {l : List D} (h : ∀ d ∈ l, okD n d = true) : okD (n + 1) (.list l) = true := List.all_eq_true.mpr h
theorem okD_ki {k : List Nat} {z : Int} (h : ∀ c ∈ k, c < 1114112) : okD 1 (.tuple [sD k, .int z]) = true := okD_T fun d hd => by
  rcases List.mem_cons.mp hd with rfl | hd
  · exact okK h
  · rw [List.mem_singleton.mp hd]; exact okD_i
theorem okD_iw {w : List Nat} {z : Int} (h : Wd w) : okD 1 (.list [.int z, sD w]) = true := okD_L fun d hd => by
  rcases List.mem_cons.mp hd with rfl | hd
  · exact okD_i
  · rw [List.mem_singleton.mp hd]; exact okD_w h
theorem mvL_wd {g : Int} {m : Mv} (h : MvL g m) : ∀ a c, m = .put a c → Wd c := fun a c e => by
  obtain ⟨x, hx, rfl⟩ := h a c e
  intro y hy
  rw [List.mem_singleton.mp hy]; exact lt_sub hx

end Law

end
end
section
set_option Elab.async false
set_option linter.all false
set_option maxRecDepth 100000
set_option autoImplicit false
set_option maxHeartbeats 4000000
noncomputable section
namespace Law
open PySem DW L2
open SX (S S_tl S_len S_cat)
/-! ### inverted and shifted moves -/
theorem insW_iff {w t v : List Nat} {a : Int} : insW w a t = some v ↔ ∃ p q, w = p ++ q ∧ a = (p.length : Int) ∧ v = p ++ t ++ q ∧ w.length + t.length ≤ 200 := by
  constructor
  · intro e
    unfold insW at e
    split at e
    · rename_i h
      cases e
      exact ⟨w.take a.toNat, w.drop a.toNat, (List.take_append_drop _ _).symm, by rw [List.length_take]; omega, rfl, h.2.2⟩
    · cases e
  · rintro ⟨p, q, rfl, rfl, rfl, h⟩
    unfold insW
    rw [if_pos ⟨by omega, by rw [List.length_append]; omega, h⟩, Int.toNat_natCast, List.take_append_of_le_length (Nat.le_refl _), List.take_length, List.drop_append_of_le_length (Nat.le_refl _), List.drop_length, List.nil_append]
theorem rmvW_iff {w t v : List Nat} {a : Int} (ht : 1 ≤ t.length) : rmvW w a t = some v ↔ ∃ p q, w = p ++ t ++ q ∧ a = (p.length : Int) ∧ v = p ++ q := by
  constructor
  · intro e
    unfold rmvW at e
    split at e
    · rename_i h
      cases e
      have h2 := congrArg List.length h.2
      rw [List.length_take, List.length_drop] at h2
      refine ⟨w.take a.toNat, w.drop (a.toNat + t.length), ?_, by rw [List.length_take]; omega, rfl⟩
      rw [List.append_assoc]
      have e1 : t ++ w.drop (a.toNat + t.length) = w.drop a.toNat := by
        conv => rhs; rw [← List.take_append_drop t.length (w.drop a.toNat)]
        rw [h.2, List.drop_drop]
      rw [e1, List.take_append_drop]
    · cases e
  · rintro ⟨p, q, rfl, rfl, rfl⟩
    unfold rmvW
    have e1 : (p ++ t ++ q).drop p.length = t ++ q := by rw [List.append_assoc, List.drop_append_of_le_length (Nat.le_refl _), List.drop_length, List.nil_append]
    rw [Int.toNat_natCast, e1, if_pos ⟨by omega, by rw [List.take_append_of_le_length (Nat.le_refl _), List.take_length]⟩]
    have e2 : (p ++ t ++ q).drop (p.length + t.length) = q := by rw [← List.drop_drop, e1, List.drop_append_of_le_length (Nat.le_refl _), List.drop_length, List.nil_append]
    rw [e2, List.append_assoc, List.take_append_of_le_length (Nat.le_refl _), List.take_length]
theorem pairA_iff {w t : List Nat} {a : Int} : pairA w a = some t ↔ ∃ p x q, w = p ++ [x, inv x] ++ q ∧ a = (p.length : Int) ∧ t = [x, inv x] := by
  constructor
  · intro e
    obtain ⟨h1, h2, h3⟩ := pairA_eq e
    have e2 : w.drop a.toNat = t ++ w.drop (a.toNat + 2) := by
      rw [getD_drop (by omega), getD_drop (k := a.toNat + 1) (by omega), h1]
      unfold pairA at e
      split at e
      · rename_i h; rw [h.2.2]; rfl
      · cases e
    refine ⟨w.take a.toNat, w.getD a.toNat 0, w.drop (a.toNat + 2), ?_, by rw [List.length_take]; omega, h1⟩
    rw [← h1, List.append_assoc, ← e2, List.take_append_drop]
  · rintro ⟨p, x, q, rfl, rfl, rfl⟩
    refine pairA_of (by omega) ?_
    rw [Int.toNat_natCast, List.append_assoc, List.drop_append_of_le_length (Nat.le_refl _), List.drop_length, List.nil_append]
    rfl
theorem ltP_some {g : Int} {c t : List Nat} (e : ltP g c = some t) : ∃ x, x ∈ lt g ∧ c = [x] ∧ t = [x, inv x] := by
  match c, e with
  | [x], e =>
    by_cases hx : x ∈ lt g
    · have q : ltP g [x] = some [x, inv x] := if_pos hx
      rw [q] at e; cases e; exact ⟨x, hx, rfl, rfl⟩
    · have q : ltP g [x] = none := if_neg hx
      rw [q] at e; cases e
  | [], e => cases e
  | _ :: _ :: _, e => cases e
theorem ltP_of {g : Int} {x : Nat} (h : x ∈ lt g) : ltP g [x] = some [x, inv x] := if_pos h
/-- the moves by what they do -/
theorem aft_iff {g : Int} {rs : List (List Nat)} (hp : Pres g rs) {w v : List Nat} {m : Mv} : aft g rs w m = some v ↔ match m with
    | .put a c => ∃ x p q, x ∈ lt g ∧ c = [x] ∧ w = p ++ q ∧ a = (p.length : Int) ∧ v = p ++ [x, inv x] ++ q ∧ w.length + 2 ≤ 200
    | .cut a => ∃ x p q, w = p ++ [x, inv x] ++ q ∧ a = (p.length : Int) ∧ v = p ++ q
    | .add a k s => ∃ t p q, sigR rs k s = some t ∧ w = p ++ q ∧ a = (p.length : Int) ∧ v = p ++ t ++ q ∧ w.length + t.length ≤ 200
    | .take a k s => ∃ t p q, sigR rs k s = some t ∧ w = p ++ t ++ q ∧ a = (p.length : Int) ∧ v = p ++ q := by
  cases m with
  | put a c =>
    show (ltP g c).bind (insW w a) = some v ↔ _
    rw [Option.bind_eq_some_iff]
    constructor
    · rintro ⟨t, h1, h2⟩
      obtain ⟨x, hx, rfl, rfl⟩ := ltP_some h1
      obtain ⟨p, q, e1, e2, e3, e4⟩ := insW_iff.mp h2
      exact ⟨x, p, q, hx, rfl, e1, e2, e3, e4⟩
    · rintro ⟨x, p, q, hx, rfl, e1, e2, e3, e4⟩
      exact ⟨_, ltP_of hx, insW_iff.mpr ⟨p, q, e1, e2, e3, e4⟩⟩
  | cut a =>
    show (pairA w a).bind (rmvW w a) = some v ↔ _
    rw [Option.bind_eq_some_iff]
    constructor
    · rintro ⟨t, h1, h2⟩
      obtain ⟨p, x, q, e1, e2, rfl⟩ := pairA_iff.mp h1
      obtain ⟨p', q', f1, f2, f3⟩ := (rmvW_iff (by show 1 ≤ 2; decide)).mp h2
      exact ⟨x, p', q', f1, f2, f3⟩
    · rintro ⟨x, p, q, e1, e2, e3⟩
      exact ⟨_, pairA_iff.mpr ⟨p, x, q, e1, e2, rfl⟩, (rmvW_iff (by show 1 ≤ 2; decide)).mpr ⟨p, q, e1, e2, e3⟩⟩
  | add a k s =>
    show (sigR rs k s).bind (insW w a) = some v ↔ _
    rw [Option.bind_eq_some_iff]
    constructor
    · rintro ⟨t, h1, h2⟩
      obtain ⟨p, q, e⟩ := insW_iff.mp h2
      exact ⟨t, p, q, h1, e⟩
    · rintro ⟨t, p, q, h1, e⟩
      exact ⟨t, h1, insW_iff.mpr ⟨p, q, e⟩⟩
  | take a k s =>
    show (sigR rs k s).bind (rmvW w a) = some v ↔ _
    rw [Option.bind_eq_some_iff]
    constructor
    · rintro ⟨t, h1, h2⟩
      obtain ⟨p, q, e⟩ := (rmvW_iff (sigR_mem hp h1).2.1).mp h2
      exact ⟨t, p, q, h1, e⟩
    · rintro ⟨t, p, q, h1, e⟩
      exact ⟨t, h1, (rmvW_iff (sigR_mem hp h1).2.1).mpr ⟨p, q, e⟩⟩
def invM (rs : List (List Nat)) (size : Int) : Mv → Mv
  | .put a c => .put (size - a) c
  | .cut a => .cut (size - a - 2)
  | .add a k s => .add (size - a) k (-s)
  | .take a k s => .take (size - a - ((rs.getD k.toNat []).length : Int)) k (-s)
theorem sigR_neg {g : Int} {rs : List (List Nat)} (hp : Pres g rs) {k s : Int} {t : List Nat} (e : sigR rs k s = some t) : sigR rs k (-s) = some (invw t) ∧ t.length = (rs.getD k.toNat []).length := by
  have hw := (sigR_mem hp e).1
  unfold sigR at e ⊢
  split at e
  · rename_i h
    have hm := rels_mem (rs := rs) (k := k.toNat) (by omega)
    have hr := (hp.wd _ hm).1
    rw [if_pos ⟨h.1, h.2.1, by omega⟩]
    cases e
    rcases h.2.2 with rfl | rfl
    · exact ⟨rfl, rfl⟩
    · refine ⟨?_, invw_len _⟩
      show some (rs.getD k.toNat []) = some (invw (invw (rs.getD k.toNat [])))
      rw [invw_invw hr]
  · cases e
theorem invw_pair {g : Int} {x : Nat} (h : x ∈ L6) : invw [x, inv x] = [x, inv x] := by
  show [inv (inv x), inv x] = _
  rw [inv_inv x h]
theorem app_wd_l {a b : List Nat} (h : Wd (a ++ b)) : Wd a := fun c hc => h c (List.mem_append_left _ hc)
theorem app_wd_r {a b : List Nat} (h : Wd (a ++ b)) : Wd b := fun c hc => h c (List.mem_append_right _ hc)
theorem aft_inv {g : Int} {rs : List (List Nat)} (hp : Pres g rs) {w v : List Nat} {m : Mv} (hw : Wd w) (e : aft g rs w m = some v) : aft g rs (invw w) (invM rs (w.length : Int) m) = some (invw v) := by
  have e := (aft_iff hp).mp e
  cases m with
  | put a c =>
    obtain ⟨x, p, q, hx, rfl, rfl, rfl, rfl, hl⟩ := e
    refine (aft_iff hp).mpr ⟨x, invw q, invw p, hx, rfl, invw_app _ _, ?_, ?_, by rw [invw_len]; exact hl⟩
    · rw [invw_len, List.length_append]; omega
    · rw [invw_app, invw_app, invw_pair (g := g) (lt_sub hx), List.append_assoc]
  | cut a =>
    obtain ⟨x, p, q, rfl, rfl, rfl⟩ := e
    have hx : x ∈ L6 := hw x (by simp)
    refine (aft_iff hp).mpr ⟨x, invw q, invw p, ?_, ?_, invw_app _ _⟩
    · rw [invw_app, invw_app, invw_pair (g := g) hx, List.append_assoc]
    · rw [invw_len, List.length_append, List.length_append]
      show ((p.length + 2 + q.length : Nat) : Int) - _ - 2 = _
      omega
  | add a k s =>
    obtain ⟨t, p, q, ht, rfl, rfl, rfl, hl⟩ := e
    obtain ⟨h1, h2⟩ := sigR_neg hp ht
    refine (aft_iff hp).mpr ⟨invw t, invw q, invw p, h1, invw_app _ _, ?_, ?_, by rw [invw_len, invw_len]; exact hl⟩
    · rw [invw_len, List.length_append]; omega
    · rw [invw_app, invw_app, List.append_assoc]
  | take a k s =>
    obtain ⟨t, p, q, ht, rfl, rfl, rfl⟩ := e
    obtain ⟨h1, h2⟩ := sigR_neg hp ht
    refine (aft_iff hp).mpr ⟨invw t, invw q, invw p, h1, ?_, ?_, invw_app _ _⟩
    · rw [invw_app, invw_app, List.append_assoc]
    · rw [invw_len, List.length_append, List.length_append, h2]; omega
def shM (b : Int) : Mv → Mv
  | .put a c => .put (a + b) c
  | .cut a => .cut (a + b)
  | .add a k s => .add (a + b) k s
  | .take a k s => .take (a + b) k s
theorem aft_sh {g : Int} {rs : List (List Nat)} (hp : Pres g rs) {w v x y : List Nat} {m : Mv} (hl : x.length + v.length + y.length ≤ 200) (e : aft g rs w m = some v) : aft g rs (x ++ w ++ y) (shM (x.length : Int) m) = some (x ++ v ++ y) := by
  have e := (aft_iff hp).mp e
  cases m with
  | put a c =>
    obtain ⟨z, p, q, hx, rfl, rfl, rfl, rfl, _⟩ := e
    refine (aft_iff hp).mpr ⟨z, x ++ p, q ++ y, hx, rfl, by simp only [List.append_assoc], by rw [List.length_append]; omega, by simp only [List.append_assoc], ?_⟩
    simp only [List.length_append, List.length_cons, List.length_nil] at hl ⊢
    omega
  | cut a =>
    obtain ⟨z, p, q, rfl, rfl, rfl⟩ := e
    exact (aft_iff hp).mpr ⟨z, x ++ p, q ++ y, by simp only [List.append_assoc], by rw [List.length_append]; omega, by simp only [List.append_assoc]⟩
  | add a k s =>
    obtain ⟨t, p, q, ht, rfl, rfl, rfl, _⟩ := e
    refine (aft_iff hp).mpr ⟨t, x ++ p, q ++ y, ht, by simp only [List.append_assoc], by rw [List.length_append]; omega, by simp only [List.append_assoc], ?_⟩
    simp only [List.length_append] at hl ⊢
    omega
  | take a k s =>
    obtain ⟨t, p, q, ht, rfl, rfl, rfl⟩ := e
    exact (aft_iff hp).mpr ⟨t, x ++ p, q ++ y, ht, by simp only [List.append_assoc], by rw [List.length_append]; omega, by simp only [List.append_assoc]⟩
/-- inverted lists -/
def invsM (g : Int) (rs : List (List Nat)) : List Nat → List Mv → List Mv
  | _, [] => []
  | w, m :: ms => invM rs (w.length : Int) m :: (match aft g rs w m with
    | none => []
    | some v => invsM g rs v ms)
theorem invsM_s {g : Int} {rs : List (List Nat)} {w v : List Nat} {m : Mv} {ms : List Mv} (q : aft g rs w m = some v) : invsM g rs w (m :: ms) = invM rs (w.length : Int) m :: invsM g rs v ms := by
  show invM rs (w.length : Int) m :: (match aft g rs w m with | none => [] | some v => invsM g rs v ms) = _
  rw [q]
theorem invs_walk {g : Int} {rs : List (List Nat)} (hp : Pres g rs) : ∀ (ms : List Mv) (w : List Nat) (k j : Nat), (∀ c ∈ w, c ∈ lt g) → w.length ≤ 200 → badAt g rs k w ms = none → badAt g rs j (invw w) (invsM g rs w ms) = none ∧ lastW g rs (invw w) (invsM g rs w ms) = invw (lastW g rs w ms) ∧ (invsM g rs w ms).length = ms.length
  | [], w, k, j, _, _, _ => ⟨rfl, rfl, rfl⟩
  | m :: ms, w, k, j, hw, hl, h => by
    cases q : aft g rs w m with
    | none => rw [badAt_n q] at h; cases h
    | some v =>
      rw [badAt_s q] at h
      have hv := aft_lt hp hw hl q
      have o := aft_inv hp (lt_wd hw) q
      obtain ⟨h1, h2, h3⟩ := invs_walk hp ms v (k + 1) (j + 1) hv.1 hv.2 h
      rw [invsM_s q, badAt_s o, lastW_s o, lastW_s q, List.length_cons, List.length_cons, h3]
      exact ⟨h1, h2, rfl⟩
theorem shs_walk {g : Int} {rs : List (List Nat)} (hp : Pres g rs) {x y : List Nat} : ∀ (ms : List Mv) (w : List Nat) (k j : Nat), badAt g rs k w ms = none → (∀ v ∈ wordsM g rs w ms, x.length + v.length + y.length ≤ 200) → badAt g rs j (x ++ w ++ y) (ms.map (shM (x.length : Int))) = none ∧ lastW g rs (x ++ w ++ y) (ms.map (shM (x.length : Int))) = x ++ lastW g rs w ms ++ y
  | [], w, k, j, _, _ => ⟨rfl, rfl⟩
  | m :: ms, w, k, j, h, hs => by
    cases q : aft g rs w m with
    | none => rw [badAt_n q] at h; cases h
    | some v =>
      rw [badAt_s q] at h
      rw [wordsM_s q] at hs
      have o := aft_sh (x := x) (y := y) hp (hs v List.mem_cons_self) q
      obtain ⟨h1, h2⟩ := shs_walk hp ms v (k + 1) (j + 1) h fun u hu => hs u (List.mem_cons_of_mem _ hu)
      rw [List.map_cons, badAt_s o, lastW_s o, lastW_s q]
      exact ⟨h1, h2⟩
theorem invM_L {g : Int} {rs : List (List Nat)} {z : Int} {m : Mv} (h : MvL g m) : MvL g (invM rs z m) := fun a c e => by
  cases m with
  | put a' c' => cases e; exact h a' c rfl
  | _ => cases e
theorem shM_L {g z : Int} {m : Mv} (h : MvL g m) : MvL g (shM z m) := fun a c e => by
  cases m with
  | put a' c' => cases e; exact h a' c rfl
  | _ => cases e
theorem invsM_L {g : Int} {rs : List (List Nat)} : ∀ (ms : List Mv) (w : List Nat), (∀ m ∈ ms, MvL g m) → ∀ m ∈ invsM g rs w ms, MvL g m
  | [], _, _, _, h => nomatch h
  | m :: ms, w, hm, x, h => by
    rcases List.mem_cons.mp h with rfl | h
    · exact invM_L (hm m List.mem_cons_self)
    · cases q : aft g rs w m with
      | none => rw [q] at h; exact nomatch h
      | some v => rw [q] at h; exact invsM_L ms v (fun y hy => hm y (List.mem_cons_of_mem _ hy)) x h
theorem mv_sh {m : Mv} (b : Int) : ∃ (k : D) (a : Int) (r : List D), mvD m = .tuple (k :: .int a :: r) ∧ mvD (shM b m) = .tuple (k :: .int (a + b) :: r) ∧ r.length ≤ 2 := by
  cases m with
  | put a c => exact ⟨_, a, _, rfl, rfl, by show 1 ≤ 2; decide⟩
  | cut a => exact ⟨_, a, _, rfl, rfl, by show 0 ≤ 2; decide⟩
  | add a k s => exact ⟨_, a, _, rfl, rfl, by show 2 ≤ 2; decide⟩
  | take a k s => exact ⟨_, a, _, rfl, rfl, by show 2 ≤ 2; decide⟩
theorem words_app (g : Int) (rs : List (List Nat)) (b : List Mv) : ∀ (a : List Mv) (w : List Nat) (k : Nat), badAt g rs k w a = none → wordsM g rs w (a ++ b) = wordsM g rs w a ++ wordsM g rs (lastW g rs w a) b
  | [], w, k, _ => rfl
  | m :: ms, w, k, h => by
    rw [List.cons_append]
    cases q : aft g rs w m with
    | none => rw [badAt_n q] at h; cases h
    | some v =>
      rw [badAt_s q] at h
      rw [wordsM_s q, wordsM_s q, lastW_s q, words_app g rs b ms v (k + 1) h]
      rfl
theorem oppM_L {g : Int} {rs : List (List Nat)} {w v : List Nat} {m : Mv} (hw : ∀ c ∈ w, c ∈ lt g) (e : aft g rs w m = some v) : MvL g (oppM w m) := by
  intro a c h
  cases m with
  | cut a' =>
    cases h
    have e : (pairA w a).bind (rmvW w a) = some v := e
    cases q : pairA w a with
    | none => rw [q] at e; cases e
    | some t =>
      have := pairA_eq q
      exact ⟨_, hw _ (getD_mem (by omega)), rfl⟩
  | _ => cases h
theorem undM_L {g : Int} {rs : List (List Nat)} (hp : Pres g rs) : ∀ (ms : List Mv) (w : List Nat) (k : Nat), (∀ c ∈ w, c ∈ lt g) → w.length ≤ 200 → badAt g rs k w ms = none → ∀ m ∈ undM g rs w ms, MvL g m
  | [], _, _, _, _, _, _, h => nomatch h
  | m :: ms, w, k, hw, hl, hb, x, h => by
    cases q : aft g rs w m with
    | none => rw [badAt_n q] at hb; cases hb
    | some v =>
      rw [badAt_s q] at hb
      have hv := aft_lt hp hw hl q
      rw [undM_s q] at h
      rcases List.mem_append.mp h with h | h
      · exact undM_L hp ms v (k + 1) hv.1 hv.2 hb x h
      · rw [List.mem_singleton.mp h]; exact oppM_L hw q
theorem undM_app (g : Int) (rs : List (List Nat)) (b : List Mv) : ∀ (a : List Mv) (w : List Nat) (k : Nat), badAt g rs k w a = none → undM g rs w (a ++ b) = undM g rs (lastW g rs w a) b ++ undM g rs w a
  | [], w, k, _ => (List.append_nil _).symm
  | m :: ms, w, k, h => by
    rw [List.cons_append]
    cases q : aft g rs w m with
    | none => rw [badAt_n q] at h; cases h
    | some v =>
      rw [badAt_s q] at h
      rw [undM_s q, undM_s q, lastW_s q, undM_app g rs b ms v (k + 1) h, List.append_assoc]
theorem opp_opp {g : Int} {rs : List (List Nat)} (hp : Pres g rs) {w v : List Nat} {m : Mv} (e : aft g rs w m = some v) : oppM v (oppM w m) = m := by
  have e := (aft_iff hp).mp e
  cases m with
  | put a c =>
    obtain ⟨x, p, q, hx, rfl, rfl, rfl, rfl, hl⟩ := e
    show Mv.put _ [(p ++ [x, inv x] ++ q).getD (p.length : Int).toNat 0] = _
    rw [Int.toNat_natCast, List.getD_eq_getElem?_getD, List.append_assoc, List.getElem?_append_right (Nat.le_refl _), Nat.sub_self]
    rfl
  | _ => rfl
theorem und_und {g : Int} {rs : List (List Nat)} (hp : Pres g rs) : ∀ (ms : List Mv) (w : List Nat) (k : Nat), (∀ c ∈ w, c ∈ lt g) → w.length ≤ 200 → badAt g rs k w ms = none → undM g rs (lastW g rs w ms) (undM g rs w ms) = ms
  | [], w, k, _, _, _ => rfl
  | m :: ms, w, k, hw, hl, h => by
    cases q : aft g rs w m with
    | none => rw [badAt_n q] at h; cases h
    | some v =>
      rw [badAt_s q] at h
      have hv := aft_lt hp hw hl q
      have o := aft_opp hp hw hl q
      obtain ⟨b1, b2, b3⟩ := und_back hp ms v (k + 1) hv.1 hv.2 h
      rw [lastW_s q, undM_s q, undM_app g rs [oppM w m] _ _ 0 b1, b2, und_und hp ms v (k + 1) hv.1 hv.2 h, undM_s o, opp_opp hp q]
      rfl
theorem inv_invM {rs : List (List Nat)} {z : Int} {m : Mv} : invM rs z (invM rs z m) = m := by
  cases m with
  | put a c => show Mv.put (z - (z - a)) c = _; congr 1; omega
  | cut a => show Mv.cut (z - (z - a - 2) - 2) = _; congr 1; omega
  | add a k s => show Mv.add (z - (z - a)) k (- -s) = _; congr 1 <;> omega
  | take a k s => show Mv.take (z - (z - a - ((rs.getD k.toNat []).length : Int)) - ((rs.getD k.toNat []).length : Int)) k (- -s) = _; congr 1 <;> omega
theorem invs_invs {g : Int} {rs : List (List Nat)} (hp : Pres g rs) : ∀ (ms : List Mv) (w : List Nat) (k : Nat), (∀ c ∈ w, c ∈ lt g) → w.length ≤ 200 → badAt g rs k w ms = none → invsM g rs (invw w) (invsM g rs w ms) = ms
  | [], w, k, _, _, _ => rfl
  | m :: ms, w, k, hw, hl, h => by
    cases q : aft g rs w m with
    | none => rw [badAt_n q] at h; cases h
    | some v =>
      rw [badAt_s q] at h
      have hv := aft_lt hp hw hl q
      have o := aft_inv hp (lt_wd hw) q
      rw [invsM_s q, invsM_s o, invw_len, inv_invM, invs_invs hp ms v (k + 1) hv.1 hv.2 h]

end Law

end
end
section
set_option Elab.async false
set_option linter.all false
set_option maxRecDepth 100000
set_option autoImplicit false
set_option maxHeartbeats 4000000
noncomputable section
namespace Law
open PySem DW L2
open SX (S S_tl S_len S_cat)
/-! counting letters -/
def wt (n1 n2 n3 : Int) (c : Nat) : Int := if c = 97 then n1 else if c = 98 then n2 else if c = 99 then n3 else if c = 65 then -n1 else if c = 66 then -n2 else -n3
def cnt (n1 n2 n3 : Int) : List Nat → Int
  | [] => 0
  | c :: w => wt n1 n2 n3 c + cnt n1 n2 n3 w
section
variable {n1 n2 n3 n : Int}
theorem cnt_app (b : List Nat) : ∀ a, cnt n1 n2 n3 (a ++ b) = cnt n1 n2 n3 a + cnt n1 n2 n3 b
  | [] => (Int.zero_add _).symm
  | c :: a => by
    show wt n1 n2 n3 c + cnt n1 n2 n3 (a ++ b) = wt n1 n2 n3 c + cnt n1 n2 n3 a + cnt n1 n2 n3 b
    rw [cnt_app b a, Int.add_assoc]
theorem wt_inv : ∀ c ∈ L6, wt n1 n2 n3 (inv c) = - wt n1 n2 n3 c := L6_all ⟨by simp [wt, inv], by simp [wt, inv], by simp [wt, inv], by simp [wt, inv], by simp [wt, inv], by simp [wt, inv]⟩
theorem cnt_invw : ∀ w : List Nat, Wd w → cnt n1 n2 n3 (invw w) = - cnt n1 n2 n3 w
  | [], _ => rfl
  | c :: w, h => by
    have e : invw (c :: w) = invw w ++ [inv c] := invw_app [c] w
    rw [e, cnt_app, cnt_invw w fun x hx => h x (List.mem_cons_of_mem _ hx)]
    show _ + (wt n1 n2 n3 (inv c) + 0) = - (wt n1 n2 n3 c + _)
    rw [wt_inv c (h c List.mem_cons_self)]
    omega
theorem cnt_ins {w v t : List Nat} {a : Int} (e : insW w a t = some v) : cnt n1 n2 n3 v = cnt n1 n2 n3 w + cnt n1 n2 n3 t := by
  unfold insW at e
  split at e
  · cases e
    have h : cnt n1 n2 n3 w = cnt n1 n2 n3 (w.take a.toNat ++ w.drop a.toNat) := by rw [List.take_append_drop]
    rw [h, cnt_app, cnt_app, cnt_app]
    omega
  · cases e
theorem cnt_rmv {w v t : List Nat} {a : Int} (e : rmvW w a t = some v) : cnt n1 n2 n3 v = cnt n1 n2 n3 w - cnt n1 n2 n3 t := by
  unfold rmvW at e
  split at e
  · rename_i q
    cases e
    have h : cnt n1 n2 n3 w = cnt n1 n2 n3 (w.take a.toNat ++ (t ++ w.drop (a.toNat + t.length))) := by
      have : t ++ w.drop (a.toNat + t.length) = w.drop a.toNat := by
        rw [← List.drop_drop]
        have := List.take_append_drop t.length (w.drop a.toNat)
        rw [q.2] at this
        exact this
      rw [this, List.take_append_drop]
    rw [h, cnt_app, cnt_app, cnt_app]
    omega
  · cases e
theorem cnt_aft {g : Int} {rs : List (List Nat)} (hp : Pres g rs) {w v : List Nat} {m : Mv} (hw : ∀ c ∈ w, c ∈ lt g) (fit : ∀ r ∈ rs, n ∣ cnt n1 n2 n3 r) (e : aft g rs w m = some v) : n ∣ cnt n1 n2 n3 v - cnt n1 n2 n3 w := by
  have sg : ∀ k s t, sigR rs k s = some t → n ∣ cnt n1 n2 n3 t := fun k s t q => by
    unfold sigR at q
    split at q
    · rename_i h
      cases q
      have hk : k.toNat < rs.length := by omega
      have hr : rs.getD k.toNat [] ∈ rs := by
        rw [List.getD_eq_getElem?_getD, List.getElem?_eq_getElem hk]
        exact List.getElem_mem hk
      have f := fit _ hr
      split
      · exact f
      · rw [cnt_invw _ (hp.wd _ hr).1]; exact Int.dvd_neg.mpr f
    · cases q
  cases m with
  | put a c =>
    have e : (ltP g c).bind (insW w a) = some v := e
    match c, e with
    | [x], e =>
      by_cases hx : x ∈ lt g
      · have q : ltP g [x] = some [x, inv x] := if_pos hx
        rw [q] at e
        have := cnt_ins (n1 := n1) (n2 := n2) (n3 := n3) (show insW w a [x, inv x] = some v from e)
        rw [this]
        show n ∣ _ + (wt n1 n2 n3 x + (wt n1 n2 n3 (inv x) + 0)) - _
        rw [wt_inv x (lt_sub hx)]
        exact ⟨0, by omega⟩
      · have q : ltP g [x] = none := if_neg hx
        rw [q] at e; cases e
    | [], e => cases e
    | _ :: _ :: _, e => cases e
  | cut a =>
    have e : (pairA w a).bind (rmvW w a) = some v := e
    cases q : pairA w a with
    | none => rw [q] at e; cases e
    | some t =>
      rw [q] at e
      have := cnt_rmv (n1 := n1) (n2 := n2) (n3 := n3) (show rmvW w a t = some v from e)
      rw [this]
      unfold pairA at q
      split at q
      · rename_i h
        cases q
        have h1 : a.toNat < w.length := by omega
        have h2 : a.toNat + 1 < w.length := by omega
        have e2 : (w.drop a.toNat).take 2 = [w.getD a.toNat 0, w.getD (a.toNat + 1) 0] := by
          rw [List.drop_eq_getElem_cons h1, List.drop_eq_getElem_cons h2, List.getD_eq_getElem?_getD, List.getD_eq_getElem?_getD, List.getElem?_eq_getElem h1, List.getElem?_eq_getElem h2]
          rfl
        have hm : w.getD a.toNat 0 ∈ L6 := by
          rw [List.getD_eq_getElem?_getD, List.getElem?_eq_getElem h1]
          exact lt_sub (hw _ (List.getElem_mem h1))
        rw [e2, h.2.2]
        show n ∣ _ - (wt n1 n2 n3 _ + (wt n1 n2 n3 (inv _) + 0)) - _
        rw [wt_inv _ hm]
        exact ⟨0, by omega⟩
      · cases q
  | add a k s =>
    have e : (sigR rs k s).bind (insW w a) = some v := e
    cases q : sigR rs k s with
    | none => rw [q] at e; cases e
    | some t =>
      rw [q] at e
      rw [cnt_ins (n1 := n1) (n2 := n2) (n3 := n3) (show insW w a t = some v from e)]
      have := sg k s t q
      have e2 : cnt n1 n2 n3 w + cnt n1 n2 n3 t - cnt n1 n2 n3 w = cnt n1 n2 n3 t := by omega
      rw [e2]; exact this
  | take a k s =>
    have e : (sigR rs k s).bind (rmvW w a) = some v := e
    cases q : sigR rs k s with
    | none => rw [q] at e; cases e
    | some t =>
      rw [q] at e
      rw [cnt_rmv (n1 := n1) (n2 := n2) (n3 := n3) (show rmvW w a t = some v from e)]
      have := sg k s t q
      have e2 : cnt n1 n2 n3 w - cnt n1 n2 n3 t - cnt n1 n2 n3 w = - cnt n1 n2 n3 t := by omega
      rw [e2]; exact Int.dvd_neg.mpr this
theorem cnt_last {g : Int} {rs : List (List Nat)} (hp : Pres g rs) (fit : ∀ r ∈ rs, n ∣ cnt n1 n2 n3 r) : ∀ (ms : List Mv) (w : List Nat), (∀ c ∈ w, c ∈ lt g) → w.length ≤ 200 → n ∣ cnt n1 n2 n3 (lastW g rs w ms) - cnt n1 n2 n3 w
  | [], w, hw, hl => ⟨0, by show cnt n1 n2 n3 w - cnt n1 n2 n3 w = n * 0; omega⟩
  | m :: ms, w, hw, hl => by
    cases q : aft g rs w m with
    | none => rw [lastW_n q]; exact ⟨0, by omega⟩
    | some v =>
      have hv := aft_lt hp hw hl q
      rw [lastW_s q]
      have h1 := cnt_last hp fit ms v hv.1 hv.2
      have h2 := cnt_aft hp hw fit q
      have := Int.dvd_add h1 h2
      have e : cnt n1 n2 n3 (lastW g rs v ms) - cnt n1 n2 n3 v + (cnt n1 n2 n3 v - cnt n1 n2 n3 w) = cnt n1 n2 n3 (lastW g rs v ms) - cnt n1 n2 n3 w := by omega
      rw [e] at this
      exact this
end

end Law

end
end
section
set_option Elab.async false
set_option linter.all false
set_option maxRecDepth 100000
set_option autoImplicit false
set_option maxHeartbeats 4000000
noncomputable section
namespace Law
open PySem DW L2
open SX (S S_tl S_len S_cat)
/-! the cuts of a word: the first pair each time -/
def cutS : List Nat → List Nat → List (Nat × Nat)
  | _, [] => []
  | [], c :: w => cutS [c] w
  | t :: st, c :: w => if t = inv c then (st.length, t) :: cutS st w else cutS (c :: t :: st) w
def fp : List Nat → Option Nat
  | a :: b :: u => if b = inv a then some 0 else (fp (b :: u)).map (· + 1)
  | _ => none
theorem fp_top : ∀ (s : List Nat) (t : Nat) (w : List Nat), Irr (t :: s) → Wd (t :: s) → fp (s.reverse ++ t :: w) = (fp (t :: w)).map (· + s.length)
  | [], t, w, _, _ => by
    show fp (t :: w) = (fp (t :: w)).map (· + 0)
    cases fp (t :: w) <;> rfl
  | x :: s, t, w, h, hw => by
    have e : (x :: s).reverse ++ t :: w = s.reverse ++ x :: t :: w := by rw [List.reverse_cons, List.append_assoc]; rfl
    rw [e, fp_top s x (t :: w) h.2 fun y hy => hw y (List.mem_cons_of_mem _ hy)]
    have n : ¬ t = inv x := fun z => h.1 (by rw [z, inv_inv x (hw x (List.mem_cons_of_mem _ List.mem_cons_self))])
    have q : fp (x :: t :: w) = (fp (t :: w)).map (· + 1) := if_neg n
    rw [q]
    cases fp (t :: w) with
    | none => rfl
    | some i => show some (i + 1 + s.length) = some (i + (s.length + 1)); rw [Nat.add_assoc, Nat.add_comm 1]
theorem cut_step : ∀ (w st : List Nat), Irr st → Wd st → Wd w →
    (cutS st w = [] ∧ fp (st.reverse ++ w) = none ∧ redS st w = (st.reverse ++ w).reverse) ∨
    ∃ (s : List Nat) (t c : Nat) (w' : List Nat), cutS st w = (s.length, t) :: cutS s w' ∧ Irr s ∧ Wd s ∧ Wd w' ∧ c = inv t ∧ t ∈ L6 ∧ st.reverse ++ w = s.reverse ++ t :: c :: w' ∧ fp (st.reverse ++ w) = some s.length ∧ redS st w = redS s w'
  | [], st, h, hs, _ => by
    refine .inl ⟨by cases st <;> rfl, ?_, by rw [List.append_nil, List.reverse_reverse]; rfl⟩
    cases st with
    | nil => rfl
    | cons t s =>
      have e : (t :: s).reverse ++ [] = s.reverse ++ t :: [] := by rw [List.reverse_cons, List.append_nil]
      rw [e, fp_top s t [] h hs]
      rfl
  | c :: w, [], h, hs, hw => by
    have hc := hw c List.mem_cons_self
    exact cut_step w [c] trivial (fun x hx => by rw [List.mem_singleton.mp hx]; exact hc) fun x hx => hw x (List.mem_cons_of_mem _ hx)
  | c :: w, t :: s, h, hs, hw => by
    have hc := hw c List.mem_cons_self
    have ht := hs t List.mem_cons_self
    have hw2 : Wd w := fun x hx => hw x (List.mem_cons_of_mem _ hx)
    by_cases e : t = inv c
    · have ec : c = inv t := by rw [e, inv_inv c hc]
      refine .inr ⟨s, t, c, w, if_pos e, h.tail, fun x hx => hs x (List.mem_cons_of_mem _ hx), hw2, ec, ht, ?_, ?_, ?_⟩
      · rw [List.reverse_cons, List.append_assoc]; rfl
      · have e2 : (t :: s).reverse ++ c :: w = s.reverse ++ t :: c :: w := by rw [List.reverse_cons, List.append_assoc]; rfl
        rw [e2, fp_top s t (c :: w) h hs]
        have q : fp (t :: c :: w) = some 0 := if_pos ec
        rw [q]
        show some (0 + s.length) = _
        rw [Nat.zero_add]
      · rw [redS_cons, rstep_cut e]
    · have e2 : (t :: s).reverse ++ c :: w = (c :: t :: s).reverse ++ w := by rw [List.reverse_cons (a := c), List.append_assoc]; rfl
      have q : cutS (t :: s) (c :: w) = cutS (c :: t :: s) w := if_neg e
      have q2 : redS (t :: s) (c :: w) = redS (c :: t :: s) w := by rw [redS_cons, rstep_add e]
      rw [e2, q, q2]
      exact cut_step w (c :: t :: s) ⟨e, h⟩ (fun x hx => (List.mem_cons.mp hx).elim (fun z => z ▸ hc) (hs x)) hw2
theorem cut_len : ∀ (w st : List Nat), (cutS st w).length ≤ w.length
  | [], st => by cases st <;> exact Nat.le_refl _
  | c :: w, [] => Nat.le_succ_of_le (cut_len w [c])
  | c :: w, t :: s => by
    show (if t = inv c then (s.length, t) :: cutS s w else cutS (c :: t :: s) w).length ≤ w.length + 1
    split
    · exact Nat.succ_le_succ (cut_len w s)
    · exact Nat.le_succ_of_le (cut_len w _)
/-- the moves -/
def cutMv (p : Nat × Nat) : Mv := .cut (p.1 : Int)
abbrev cutD (p : Nat × Nat) : D := mvD (cutMv p)
def putMv (p : Nat × Nat) : Mv := .put (p.1 : Int) [p.2]
theorem getD_app {a b : List Nat} {x : Nat} : (a ++ x :: b).getD a.length 0 = x := by
  rw [List.getD_eq_getElem?_getD, List.getElem?_append_right (Nat.le_refl _), Nat.sub_self]; rfl
theorem getD_app1 {a b : List Nat} {x y : Nat} : (a ++ x :: y :: b).getD (a.length + 1) 0 = y := by
  have e : a ++ x :: y :: b = (a ++ [x]) ++ y :: b := by rw [List.append_assoc]; rfl
  have e2 : a.length + 1 = (a ++ [x]).length := by rw [List.length_append]; rfl
  rw [e, e2]; exact getD_app
theorem cut_aft {g : Int} {rs : List (List Nat)} {s w : List Nat} {t c : Nat} (hc : c = inv t) :
    aft g rs (s.reverse ++ t :: c :: w) (.cut (s.length : Int)) = some (s.reverse ++ w) := by
  have e0 : s.length = s.reverse.length := List.length_reverse.symm
  rw [e0]
  generalize s.reverse = a
  have g1 : (a ++ t :: c :: w).getD a.length 0 = t := getD_app
  have g2 : (a ++ t :: c :: w).getD (a.length + 1) 0 = c := getD_app1
  have hp : pairA (a ++ t :: c :: w) (a.length : Int) = some [t, c] := by
    unfold pairA
    rw [if_pos]
    · rw [Int.toNat_natCast, List.drop_append_of_le_length (Nat.le_refl _), List.drop_length]; rfl
    · rw [Int.toNat_natCast, g1, g2]
      refine ⟨by omega, ?_, hc⟩
      rw [List.length_append]; simp only [List.length_cons]; omega
  show (pairA _ _).bind (rmvW _ _) = _
  rw [hp]
  show rmvW _ _ [t, c] = _
  unfold rmvW
  have d1 : (a ++ t :: c :: w).drop a.length = t :: c :: w := by rw [List.drop_append_of_le_length (Nat.le_refl _), List.drop_length]; rfl
  have d2 : (a ++ t :: c :: w).drop (a.length + 2) = w := by rw [← List.drop_drop, d1]; rfl
  have d3 : (a ++ t :: c :: w).take a.length = a := by rw [List.take_append_of_le_length (Nat.le_refl _), List.take_length]
  rw [if_pos ⟨by omega, by rw [Int.toNat_natCast, d1]; rfl⟩, Int.toNat_natCast]
  show some (_ ++ (a ++ t :: c :: w).drop (a.length + 2)) = _
  rw [d2, d3]
theorem cut_walk {g : Int} {rs : List (List Nat)} : ∀ (n : Nat) (w st : List Nat) (k : Nat), (cutS st w).length = n → Irr st → Wd st → Wd w →
    badAt g rs k (st.reverse ++ w) ((cutS st w).map cutMv) = none ∧ lastW g rs (st.reverse ++ w) ((cutS st w).map cutMv) = (redS st w).reverse ∧
    undM g rs (st.reverse ++ w) ((cutS st w).map cutMv) = (cutS st w).reverse.map putMv
  | 0, w, st, k, hn, h, hs, hw => by
    rcases cut_step w st h hs hw with ⟨h1, h2, h3⟩ | ⟨s, t, c, w', h1, _⟩
    · rw [h1, h3, List.reverse_reverse]; exact ⟨rfl, rfl, rfl⟩
    · rw [h1] at hn; cases hn
  | n + 1, w, st, k, hn, h, hs, hw => by
    rcases cut_step w st h hs hw with ⟨h1, h2, h3⟩ | ⟨s, t, c, w', h1, h2, h3, h4, h5, h6, h7, h8, h9⟩
    · rw [h1] at hn; cases hn
    · rw [h1, h7, h9]
      have q : aft g rs (s.reverse ++ t :: c :: w') (cutMv (s.length, t)) = some (s.reverse ++ w') := cut_aft h5
      have hn : (cutS s w').length = n := by rw [h1] at hn; exact Nat.succ.inj hn
      obtain ⟨a1, a2, a3⟩ := cut_walk (g := g) (rs := rs) n w' s (k + 1) hn h2 h3 h4
      refine ⟨?_, ?_, ?_⟩
      · rw [List.map_cons, badAt_s q]; exact a1
      · rw [List.map_cons, lastW_s q]; exact a2
      · rw [List.map_cons, undM_s q, a3, List.reverse_cons, List.map_append]
        congr 1
        show [Mv.put (s.length : Int) [(s.reverse ++ t :: c :: w').getD ((s.length : Int)).toNat 0]] = [Mv.put (s.length : Int) [t]]
        rw [Int.toNat_natCast]
        have e0 : s.length = s.reverse.length := List.length_reverse.symm
        have : (s.reverse ++ t :: c :: w').getD s.length 0 = t := by rw [e0]; exact getD_app
        rw [this]
theorem cut_walk0 {g : Int} {rs : List (List Nat)} {w : List Nat} (hw : Wd w) (k : Nat) :
    badAt g rs k w ((cutS [] w).map cutMv) = none ∧ lastW g rs w ((cutS [] w).map cutMv) = red w ∧ undM g rs w ((cutS [] w).map cutMv) = (cutS [] w).reverse.map putMv := cut_walk _ w [] k rfl trivial nil_wd hw

end Law

end
end
section
set_option Elab.async false
set_option linter.all false
set_option maxRecDepth 100000
set_option autoImplicit false
set_option maxHeartbeats 4000000
noncomputable section
namespace Law
open PySem DW L2
open SX (S S_tl S_len S_cat)
/-! the moves that make a word shorter -/
def posM (n a : Nat) : List Mv := .cut (a : Int) :: (List.range n).flatMap fun (k : Nat) => [.take (a : Int) (k : Int) 1, .take (a : Int) (k : Int) (-1)]
def shrM (g : Int) (rs : List (List Nat)) (w : List Nat) (n : Nat) : List Mv := (List.range n).flatMap fun a => (posM rs.length a).filter fun m => (aft g rs w m).isSome
theorem flat_succ {α : Type} (f : Nat → List α) (n : Nat) : (List.range (n + 1)).flatMap f = (List.range n).flatMap f ++ f n := by
  rw [List.range_succ, List.flatMap_append, List.flatMap_cons, List.flatMap_nil, List.append_nil]
theorem posM_len (n a : Nat) : (posM n a).length = 1 + 2 * n := by
  have : ∀ n, ((List.range n).flatMap fun (k : Nat) => [Mv.take (a : Int) (k : Int) 1, Mv.take (a : Int) (k : Int) (-1)]).length = 2 * n := by
    intro n
    induction n with
    | zero => rfl
    | succ n ih => rw [flat_succ, List.length_append, ih]; show _ + 2 = _; omega
  show _ + 1 = _
  rw [this]; omega
theorem posM_C {n a : Nat} : ∀ m ∈ posM n a, ∀ x c, m = .put x c → c.length ≤ 1000 := by
  intro m h x c e
  subst e
  rcases List.mem_cons.mp h with h | h
  · cases h
  · obtain ⟨k, _, h⟩ := List.mem_flatMap.mp h
    rcases List.mem_cons.mp h with h | h
    · cases h
    · cases List.mem_singleton.mp h
theorem shrM_succ {g : Int} {rs : List (List Nat)} {w : List Nat} {n : Nat} : shrM g rs w (n + 1) = shrM g rs w n ++ (posM rs.length n).filter fun m => (aft g rs w m).isSome := flat_succ _ n
theorem shrM_len {g : Int} {rs : List (List Nat)} {w : List Nat} : ∀ n, (shrM g rs w n).length ≤ n * (1 + 2 * rs.length)
  | 0 => Nat.zero_le _
  | n + 1 => by
    rw [shrM_succ, List.length_append, Nat.succ_mul]
    have := shrM_len (g := g) (rs := rs) (w := w) n
    have h2 := List.length_filter_le (fun m => (aft g rs w m).isSome) (posM rs.length n)
    rw [posM_len] at h2
    omega
theorem aft_cutS {g : Int} {rs : List (List Nat)} {w : List Nat} {a : Nat} : (aft g rs w (.cut (a : Int))).isSome = decide (a + 1 < w.length ∧ w.getD (a + 1) 0 = inv (w.getD a 0)) := by
  show ((pairA w a).bind (rmvW w a)).isSome = _
  by_cases h : a + 1 < w.length ∧ w.getD (a + 1) 0 = inv (w.getD a 0)
  · rw [decide_eq_true h]
    have q1 : pairA w (a : Int) = some ((w.drop a).take 2) := by
      unfold pairA
      rw [if_pos (by rw [Int.toNat_natCast]; exact ⟨by omega, by omega, h.2⟩), Int.toNat_natCast]
    have hl : ((w.drop a).take 2).length = 2 := by rw [List.length_take, List.length_drop]; omega
    rw [q1]
    show (rmvW w a ((w.drop a).take 2)).isSome = true
    unfold rmvW
    rw [if_pos ⟨by omega, by rw [Int.toNat_natCast, hl]⟩]; rfl
  · rw [decide_eq_false h]
    have q1 : pairA w (a : Int) = none := by
      unfold pairA
      rw [if_neg]
      rintro ⟨_, h2, h3⟩
      rw [Int.toNat_natCast] at h3
      exact h ⟨by omega, h3⟩
    rw [q1]; rfl
theorem aft_takeS {g : Int} {rs : List (List Nat)} {w t : List Nat} {a : Nat} {k s : Int} (h : sigR rs k s = some t) : (aft g rs w (.take (a : Int) k s)).isSome = decide ((w.drop a).take t.length = t) := by
  show ((sigR rs k s).bind (rmvW w a)).isSome = _
  rw [h]
  show (rmvW w a t).isSome = _
  unfold rmvW
  by_cases q : (w.drop a).take t.length = t
  · rw [if_pos ⟨by omega, by rw [Int.toNat_natCast]; exact q⟩, decide_eq_true q]; rfl
  · rw [if_neg (fun z => q (by have := z.2; rw [Int.toNat_natCast] at this; exact this)), decide_eq_false q]; rfl
theorem rmv_len {w v t : List Nat} {a : Int} (h : rmvW w a t = some v) : v.length + t.length = w.length := by
  unfold rmvW at h
  split at h
  · rename_i q
    cases h
    have e : ((w.drop a.toNat).take t.length).length = t.length := by rw [q.2]
    rw [List.length_take, List.length_drop] at e
    rw [List.length_append, List.length_take, List.length_drop]
    omega
  · cases h
/-- they make it shorter -/
theorem shrM_less {g : Int} {rs : List (List Nat)} (hp : Pres g rs) {w : List Nat} {n : Nat} : ∀ m ∈ shrM g rs w n, ∃ v, aft g rs w m = some v ∧ v.length < w.length := by
  intro m h
  obtain ⟨a, _, h⟩ := List.mem_flatMap.mp h
  obtain ⟨h1, h2⟩ := List.mem_filter.mp h
  obtain ⟨v, hv⟩ := Option.isSome_iff_exists.mp h2
  refine ⟨v, hv, ?_⟩
  have tk : ∀ k s, aft g rs w (.take (a : Int) k s) = some v → v.length < w.length := fun k s e => by
    have e : (sigR rs k s).bind (rmvW w a) = some v := e
    cases q : sigR rs k s with
    | none => rw [q] at e; cases e
    | some t =>
      rw [q] at e
      have := rmv_len (show rmvW w a t = some v from e)
      have h3 := (sigR_mem hp q).2.1
      omega
  rcases List.mem_cons.mp h1 with rfl | h1
  · have e : (pairA w a).bind (rmvW w a) = some v := hv
    cases q : pairA w a with
    | none => rw [q] at e; cases e
    | some t =>
      rw [q] at e
      have := rmv_len (show rmvW w a t = some v from e)
      unfold pairA at q
      split at q
      · rename_i h
        cases q
        rw [List.length_take, List.length_drop] at this
        have h4 := h.2.1
        rw [Int.toNat_natCast] at this
        omega
      · cases q
  · obtain ⟨k, _, h1⟩ := List.mem_flatMap.mp h1
    rcases List.mem_cons.mp h1 with rfl | h1
    · exact tk _ _ hv
    · rw [List.mem_singleton.mp h1] at hv; exact tk _ _ hv

end Law

end
end
section
set_option Elab.async false
set_option linter.all false
set_option maxRecDepth 100000
set_option autoImplicit false
set_option maxHeartbeats 4000000
noncomputable section
namespace Law
open PySem DW L2
open SX (S S_tl S_len S_cat)
/-! ### lists of moves, by any step -/
section
variable {M : Type} {f : List Nat → M → Option (List Nat)}
def badF (f : List Nat → M → Option (List Nat)) : Nat → List Nat → List M → Option Nat
  | _, _, [] => none
  | k, w, m :: ms => match f w m with
    | none => some k
    | some v => badF f (k + 1) v ms
def lastF (f : List Nat → M → Option (List Nat)) : List Nat → List M → List Nat
  | w, [] => w
  | w, m :: ms => match f w m with
    | none => w
    | some v => lastF f v ms
def wordsF (f : List Nat → M → Option (List Nat)) : List Nat → List M → List (List Nat)
  | _, [] => []
  | w, m :: ms => match f w m with
    | none => []
    | some v => v :: wordsF f v ms
variable {w v : List Nat} {m : M} {ms : List M} {k : Nat}
theorem badF_s (q : f w m = some v) : badF f k w (m :: ms) = badF f (k + 1) v ms := by
  show (match f w m with | none => some k | some v => badF f (k + 1) v ms) = _
  rw [q]
theorem badF_n (q : f w m = none) : badF f k w (m :: ms) = some k := by
  show (match f w m with | none => some k | some v => badF f (k + 1) v ms) = _
  rw [q]
theorem lastF_s (q : f w m = some v) : lastF f w (m :: ms) = lastF f v ms := by
  show (match f w m with | none => w | some v => lastF f v ms) = _
  rw [q]
theorem lastF_n (q : f w m = none) : lastF f w (m :: ms) = w := by
  show (match f w m with | none => w | some v => lastF f v ms) = _
  rw [q]
theorem wordsF_s (q : f w m = some v) : wordsF f w (m :: ms) = v :: wordsF f v ms := by
  show (match f w m with | none => [] | some v => v :: wordsF f v ms) = _
  rw [q]
theorem wordsF_n (q : f w m = none) : wordsF f w (m :: ms) = [] := by
  show (match f w m with | none => [] | some v => v :: wordsF f v ms) = _
  rw [q]
theorem wordsF_last : ∀ (ms : List M) (w : List Nat) (k : Nat), badF f k w ms = none → (w :: wordsF f w ms)[ms.length]? = some (lastF f w ms) ∧ (wordsF f w ms).length = ms.length
  | [], w, k, _ => ⟨rfl, rfl⟩
  | m :: ms, w, k, h => by
    cases q : f w m with
    | none => rw [badF_n q] at h; cases h
    | some v =>
      rw [badF_s q] at h
      obtain ⟨h1, h2⟩ := wordsF_last ms v (k + 1) h
      rw [wordsF_s q, lastF_s q]
      exact ⟨by rw [List.length_cons, List.getElem?_cons_succ]; exact h1, by rw [List.length_cons, List.length_cons, h2]⟩
theorem badF_shift : ∀ (ms : List M) (w : List Nat) (k j : Nat), badF f k w ms = none → badF f j w ms = none
  | [], _, _, _, _ => rfl
  | m :: ms, w, k, j, h => by
    cases q : f w m with
    | none => rw [badF_n q] at h; cases h
    | some v => rw [badF_s q] at h ⊢; exact badF_shift ms v (k + 1) (j + 1) h
theorem badF_lt : ∀ (ms : List M) (w : List Nat) (k i : Nat), badF f k w ms = some i → k ≤ i ∧ i < k + ms.length
  | [], _, _, _, h => by cases h
  | m :: ms, w, k, i, h => by
    rw [List.length_cons]
    cases q : f w m with
    | none => rw [badF_n q] at h; cases h; omega
    | some v => rw [badF_s q] at h; have := badF_lt ms v (k + 1) i h; omega
theorem lastF_inv {P : List Nat → Prop} (step : ∀ w v m, P w → f w m = some v → P v) : ∀ (ms : List M) (w : List Nat), P w → P (lastF f w ms)
  | [], w, h => h
  | m :: ms, w, h => by
    cases q : f w m with
    | none => rw [lastF_n q]; exact h
    | some v => rw [lastF_s q]; exact lastF_inv step ms v (step w v m h q)
theorem wordsF_inv {P : List Nat → Prop} (step : ∀ w v m, P w → f w m = some v → P v) : ∀ (ms : List M) (w : List Nat), P w → ∀ u ∈ wordsF f w ms, P u
  | [], _, _ => fun _ h => nomatch h
  | m :: ms, w, h => by
    cases q : f w m with
    | none => rw [wordsF_n q]; exact fun _ h => nomatch h
    | some v =>
      rw [wordsF_s q]
      intro u hu
      rcases List.mem_cons.mp hu with rfl | hu
      · exact step w _ m h q
      · exact wordsF_inv step ms v (step w v m h q) u hu
theorem badF_app (b : List M) : ∀ (a : List M) (w : List Nat) (k : Nat), badF f k w a = none → badF f k w (a ++ b) = badF f (k + a.length) (lastF f w a) b ∧ lastF f w (a ++ b) = lastF f (lastF f w a) b ∧ wordsF f w (a ++ b) = wordsF f w a ++ wordsF f (lastF f w a) b
  | [], w, k, _ => ⟨rfl, rfl, rfl⟩
  | m :: ms, w, k, h => by
    rw [List.cons_append]
    cases q : f w m with
    | none => rw [badF_n q] at h; cases h
    | some v =>
      rw [badF_s q] at h
      obtain ⟨h1, h2, h3⟩ := badF_app b ms v (k + 1) h
      have e : k + 1 + ms.length = k + (m :: ms).length := by rw [List.length_cons]; omega
      rw [e] at h1
      rw [badF_s q, lastF_s q, lastF_s q, wordsF_s q, wordsF_s q, h3]
      exact ⟨h1, h2, rfl⟩
/-- where two steps agree on all moves of a list, the lists come to the same -/
theorem badF_congr {f' : List Nat → M → Option (List Nat)} : ∀ (ms : List M) (w : List Nat) (k : Nat), (∀ m ∈ ms, ∀ w, f w m = f' w m) → badF f k w ms = badF f' k w ms ∧ lastF f w ms = lastF f' w ms ∧ wordsF f w ms = wordsF f' w ms
  | [], _, _, _ => ⟨rfl, rfl, rfl⟩
  | m :: ms, w, k, h => by
    have e := h m List.mem_cons_self w
    cases q : f w m with
    | none =>
      have q' : f' w m = none := by rw [← e]; exact q
      rw [badF_n q, badF_n q', lastF_n q, lastF_n q', wordsF_n q, wordsF_n q']
      exact ⟨rfl, rfl, rfl⟩
    | some v =>
      have q' : f' w m = some v := by rw [← e]; exact q
      obtain ⟨h1, h2, h3⟩ := badF_congr ms v (k + 1) fun x hx => h x (List.mem_cons_of_mem _ hx)
      rw [badF_s q, badF_s q', lastF_s q, lastF_s q', wordsF_s q, wordsF_s q', h1, h2, h3]
      exact ⟨rfl, rfl, rfl⟩
end
/-! ### moves in a chain -/
abbrev kUse : List Nat := [117, 115, 101]
inductive CM where
  | old (m : Mv) | use (a j s : Int)
def cmD : CM → D
  | .old m => mvD m
  | .use a j s => .tuple [sD kUse, .int a, .int j, .int s]
structure CR where
  l : List Nat
  r : List Nat
  ms : List CM
def crD (c : CR) : D := .tuple [sD c.l, sD c.r, .tuple (c.ms.map cmD)]
abbrev CV (ch : List CR) : D := .tuple (ch.map crD)
/-- a part in the place of another one -/
def repW (w : List Nat) (a : Int) (o n : List Nat) : Option (List Nat) := if 0 ≤ a ∧ a ≤ w.length ∧ (w.drop a.toNat).take o.length = o ∧ w.length - o.length + n.length ≤ 200 then some (w.take a.toNat ++ n ++ w.drop (a.toNat + o.length)) else none
def useR (g : Int) (w : List Nat) (a s : Int) (c : CR) : Option (List Nat) := if okw g c.l = true ∧ okw g c.r = true then (if s = 1 then repW w a c.l c.r else repW w a c.r c.l) else none
def useW (g : Int) (ch : List CR) (w : List Nat) (a j s : Int) : Option (List Nat) := if 0 ≤ j ∧ j < ch.length ∧ (s = 1 ∨ s = -1) then (ch[j.toNat]?).bind (useR g w a s) else none
def stp (g : Int) (rs : List (List Nat)) (ch : List CR) (w : List Nat) : CM → Option (List Nat)
  | .old m => aft g rs w m
  | .use a j s => useW g ch w a j s
/-- chains of bounded size -/
structure ChB (ch : List CR) : Prop where
  n : ch.length ≤ 1000
  c : ∀ c ∈ ch, c.l.length ≤ 1000 ∧ c.r.length ≤ 1000
theorem ChB.take {ch : List CR} (h : ChB ch) (b : Nat) : ChB (ch.take b) := ⟨by rw [List.length_take]; have := h.n; omega, fun c hc => h.c c (List.mem_of_mem_take hc)⟩
def CmC (m : CM) : Prop := ∀ x, m = .old x → MvC x
def CmL (g : Int) (m : CM) : Prop := ∀ x, m = .old x → MvL g x
theorem cmL_C {g : Int} {m : CM} (h : CmL g m) : CmC m := fun x e => mvL_C (h x e)
theorem repW_len {w o n v : List Nat} {a : Int} (e : repW w a o n = some v) : o.length ≤ w.length ∧ a.toNat + o.length ≤ w.length ∧ v.length = w.length - o.length + n.length := by
  unfold repW at e
  split at e
  · rename_i h
    cases e
    have h2 := congrArg List.length h.2.2.1
    rw [List.length_take, List.length_drop] at h2
    have h1 := h.2.1
    refine ⟨by omega, by omega, ?_⟩
    rw [List.length_append, List.length_append, List.length_take, List.length_drop]; omega
  · cases e
theorem repW_lt {P : Nat → Prop} {w o n v : List Nat} {a : Int} (hw : ∀ c ∈ w, P c) (hn : ∀ c ∈ n, P c) (e : repW w a o n = some v) : (∀ c ∈ v, P c) ∧ v.length ≤ 200 := by
  have hl := repW_len e
  unfold repW at e
  split at e
  · rename_i h
    cases e
    refine ⟨fun c hc => ?_, by rw [hl.2.2]; exact h.2.2.2⟩
    rw [List.mem_append, List.mem_append] at hc
    rcases hc with (hc | hc) | hc
    · exact hw c (List.mem_of_mem_take hc)
    · exact hn c hc
    · exact hw c (List.mem_of_mem_drop hc)
  · cases e
theorem stp_lt {g : Int} {rs : List (List Nat)} (hp : Pres g rs) {ch : List CR} {w v : List Nat} {m : CM} (hw : (∀ c ∈ w, c ∈ lt g) ∧ w.length ≤ 200) (e : stp g rs ch w m = some v) : (∀ c ∈ v, c ∈ lt g) ∧ v.length ≤ 200 := by
  cases m with
  | old m => exact aft_lt hp hw.1 hw.2 e
  | use a j s =>
    have e : useW g ch w a j s = some v := e
    unfold useW at e
    split at e
    · cases q : ch[j.toNat]? with
      | none => rw [q] at e; cases e
      | some c =>
        rw [q] at e
        have e : useR g w a s c = some v := e
        unfold useR at e
        split at e
        · rename_i h
          have h1 := okw_iff.mp h.1
          have h2 := okw_iff.mp h.2
          split at e
          · exact repW_lt hw.1 h2 e
          · exact repW_lt hw.1 h1 e
        · cases e
    · cases e
/-- a use is undone by the same with the other sign -/
theorem repW_back {w o n v : List Nat} {a : Int} (hl : w.length ≤ 200) (e : repW w a o n = some v) : repW v a n o = some w := by
  have hh := repW_len e
  unfold repW at e
  split at e
  · rename_i h
    cases e
    have ht : (w.take a.toNat).length = a.toNat := by rw [List.length_take]; omega
    have e1 : ((w.take a.toNat ++ n ++ w.drop (a.toNat + o.length)).drop a.toNat) = n ++ w.drop (a.toNat + o.length) := by
      rw [List.append_assoc, List.drop_append_of_le_length (by omega), List.drop_eq_nil_of_le (by omega), List.nil_append]
    unfold repW
    rw [if_pos ⟨h.1, by rw [hh.2.2]; omega, by rw [e1, List.take_append_of_le_length (Nat.le_refl _), List.take_length], by rw [hh.2.2]; omega⟩]
    congr 1
    have e2 : (w.take a.toNat ++ n ++ w.drop (a.toNat + o.length)).take a.toNat = w.take a.toNat := by
      rw [List.append_assoc, List.take_append_of_le_length (by omega), List.take_of_length_le (by omega)]
    have e3 : (w.take a.toNat ++ n ++ w.drop (a.toNat + o.length)).drop (a.toNat + n.length) = w.drop (a.toNat + o.length) := by
      rw [← List.drop_drop, e1, List.drop_append_of_le_length (Nat.le_refl _), List.drop_length, List.nil_append]
    rw [e2, e3]
    have e4 : o ++ w.drop (a.toNat + o.length) = w.drop a.toNat := by
      conv => rhs; rw [← List.take_append_drop o.length (w.drop a.toNat)]
      rw [h.2.2.1, List.drop_drop]
    rw [List.append_assoc, e4, List.take_append_drop]
  · cases e
def oppC (w : List Nat) : CM → CM
  | .old m => .old (oppM w m)
  | .use a j s => .use a j (-s)
theorem stp_opp {g : Int} {rs : List (List Nat)} (hp : Pres g rs) {ch : List CR} {w v : List Nat} {m : CM} (hw : ∀ c ∈ w, c ∈ lt g) (hl : w.length ≤ 200) (e : stp g rs ch w m = some v) : stp g rs ch v (oppC w m) = some w := by
  cases m with
  | old m => exact aft_opp hp hw hl e
  | use a j s =>
    have e : useW g ch w a j s = some v := e
    show useW g ch v a j (-s) = some w
    unfold useW at e ⊢
    split at e
    · rename_i h
      rw [if_pos ⟨h.1, h.2.1, by omega⟩]
      cases q : ch[j.toNat]? with
      | none => rw [q] at e; cases e
      | some c =>
        rw [q] at e
        have e : useR g w a s c = some v := e
        show useR g v a (-s) c = some w
        unfold useR at e ⊢
        split at e
        · rename_i h3
          rw [if_pos h3]
          by_cases hs : s = 1
          · rw [if_pos hs] at e
            rw [if_neg (by omega)]
            exact repW_back hl e
          · rw [if_neg hs] at e
            rw [if_pos (by omega)]
            exact repW_back hl e
        · cases e
    · cases e
/-- the moves that lead back, of a step that is undone -/
def undC (g : Int) (rs : List (List Nat)) (ch : List CR) : List Nat → List CM → List CM
  | _, [] => []
  | w, m :: ms => match stp g rs ch w m with
    | none => []
    | some v => undC g rs ch v ms ++ [oppC w m]
theorem undC_s {g : Int} {rs : List (List Nat)} {ch : List CR} {w v : List Nat} {m : CM} {ms : List CM} (q : stp g rs ch w m = some v) : undC g rs ch w (m :: ms) = undC g rs ch v ms ++ [oppC w m] := by
  show (match stp g rs ch w m with | none => [] | some v => undC g rs ch v ms ++ [oppC w m]) = _
  rw [q]
theorem undC_back {g : Int} {rs : List (List Nat)} {ch : List CR} (hp : Pres g rs) : ∀ (ms : List CM) (w : List Nat) (k : Nat), (∀ c ∈ w, c ∈ lt g) ∧ w.length ≤ 200 → badF (stp g rs ch) k w ms = none → badF (stp g rs ch) 0 (lastF (stp g rs ch) w ms) (undC g rs ch w ms) = none ∧ lastF (stp g rs ch) (lastF (stp g rs ch) w ms) (undC g rs ch w ms) = w ∧ (undC g rs ch w ms).length = ms.length
  | [], w, k, _, _ => ⟨rfl, rfl, rfl⟩
  | m :: ms, w, k, hw, h => by
    cases q : stp g rs ch w m with
    | none => rw [badF_n q] at h; cases h
    | some v =>
      rw [badF_s q] at h
      have hv := stp_lt hp hw q
      obtain ⟨h1, h2, h3⟩ := undC_back hp ms v (k + 1) hv h
      have o := stp_opp hp hw.1 hw.2 q
      obtain ⟨a1, a2, _⟩ := badF_app (f := stp g rs ch) [oppC w m] _ _ 0 h1
      rw [lastF_s q, undC_s q, a1, a2, h2]
      refine ⟨?_, ?_, by rw [List.length_append, h3]; rfl⟩
      · rw [badF_s o]; rfl
      · rw [lastF_s o]; rfl
/-- a shorter chain knows fewer uses -/
theorem stp_take {g : Int} {rs : List (List Nat)} {ch : List CR} {b : Nat} {w v : List Nat} {m : CM} (e : stp g rs (ch.take b) w m = some v) : stp g rs ch w m = some v := by
  cases m with
  | old m => exact e
  | use a j s =>
    have e : useW g (ch.take b) w a j s = some v := e
    show useW g ch w a j s = some v
    unfold useW at e ⊢
    split at e
    · rename_i h
      rw [List.length_take] at h
      rw [if_pos ⟨h.1, by omega, h.2.2⟩]
      rw [List.getElem?_take, if_pos (by omega)] at e
      exact e
    · cases e
theorem okD_cm {m : CM} (h : ∀ x, m = .old x → ∀ a c, x = .put a c → Wd c) : okD 1 (cmD m) = true := by
  cases m with
  | old m => exact okD_mv (h m rfl)
  | use a j s =>
    show ([sD kUse, .int a, .int j, .int s] : List D).all (okD 0) = true
    rw [List.all_cons, List.all_cons, List.all_cons, List.all_cons, List.all_nil, okD_i, okD_i, okD_i, okK (by decide)]; rfl
theorem cmL_wd {g : Int} {m : CM} (h : CmL g m) : ∀ x, m = .old x → ∀ a c, x = .put a c → Wd c := fun x e => mvL_wd (h x e)
theorem repW_ok {w o n v : List Nat} {a : Int} (e : repW w a o n = some v) : 0 ≤ a ∧ a ≤ w.length := by
  unfold repW at e
  split at e
  · rename_i h; exact ⟨h.1, h.2.1⟩
  · cases e
theorem useW_ok {g : Int} {ch : List CR} {w v : List Nat} {a j s : Int} (e : useW g ch w a j s = some v) : 0 ≤ j ∧ j < ch.length ∧ (s = 1 ∨ s = -1) ∧ 0 ≤ a ∧ a ≤ w.length := by
  unfold useW at e
  split at e
  · rename_i h
    refine ⟨h.1, h.2.1, h.2.2, ?_⟩
    cases q : ch[j.toNat]? with
    | none => rw [q] at e; cases e
    | some c =>
      rw [q] at e
      have e : useR g w a s c = some v := e
      unfold useR at e
      split at e
      · split at e <;> exact repW_ok e
      · cases e
  · cases e
theorem useW_at {g : Int} {ch : List CR} {w : List Nat} {a s : Int} {k : Nat} {c : CR} (hc : ch[k]? = some c) (hs : s = 1 ∨ s = -1) : useW g ch w a (k : Int) s = useR g w a s c := by
  have hk : k < ch.length := (List.getElem?_eq_some_iff.mp hc).1
  unfold useW
  rw [if_pos ⟨by omega, by omega, hs⟩, Int.toNat_natCast, hc]
  rfl
theorem o_truT {l : List D} : dTruth (.tuple l) = .ok (!l.isEmpty) := rfl
theorem o_mul2 {n : Int} : dMul (.int 2) (.int (n % 2)) = .ok (.int (2 * (n % 2))) := o_mulS (by decide) (by have := Int.emod_nonneg n (show (2 : Int) ≠ 0 by decide); have := Int.emod_lt_of_pos n (show (0 : Int) < 2 by decide); omega)
/-! ### the order of words -/
def lexI : List Nat → List Nat → Bool
  | a :: as, b :: bs => if a = b then lexI as bs else decide (L6.idxOf a < L6.idxOf b)
  | _, _ => false
/-- the first word before the second one in shortlex -/
def sll (a b : List Nat) : Bool := if a.length = b.length then lexI a b else decide (a.length < b.length)
theorem idx_inj : ∀ {a b : Nat}, a ∈ L6 → b ∈ L6 → L6.idxOf a = L6.idxOf b → a = b := by
  intro a b ha hb h
  have e1 : L6[L6.idxOf a]? = some a := by
    revert a; exact fun {a} ha _ => L6_all (P := fun a => L6[L6.idxOf a]? = some a) (by decide) a ha
  have e2 : L6[L6.idxOf b]? = some b := L6_all (P := fun a => L6[L6.idxOf a]? = some a) (by decide) b hb
  rw [h, e2] at e1
  exact (Option.some.inj e1).symm
theorem lexI_total : ∀ {a b : List Nat}, Wd a → Wd b → a.length = b.length → a ≠ b → lexI a b = false → lexI b a = true
  | [], [], _, _, _, h, _ => absurd rfl h
  | [], _ :: _, _, _, h, _, _ => by cases h
  | _ :: _, [], _, _, h, _, _ => by cases h
  | a :: as, b :: bs, ha, hb, hl, hne, h => by
    unfold lexI at h ⊢
    by_cases e : a = b
    · rw [if_pos e] at h
      rw [if_pos e.symm]
      exact lexI_total (fun x hx => ha x (List.mem_cons_of_mem _ hx)) (fun x hx => hb x (List.mem_cons_of_mem _ hx)) (Nat.succ.inj hl) (fun z => hne (by rw [e, z])) h
    · rw [if_neg e] at h
      rw [if_neg fun z => e z.symm]
      have h := of_decide_eq_false h
      have hn : L6.idxOf a ≠ L6.idxOf b := fun z => e (idx_inj (ha a List.mem_cons_self) (hb b List.mem_cons_self) z)
      exact decide_eq_true (by omega)
theorem sll_total {a b : List Nat} (ha : Wd a) (hb : Wd b) (hne : a ≠ b) (h : sll a b = false) : sll b a = true := by
  unfold sll at h ⊢
  by_cases e : a.length = b.length
  · rw [if_pos e] at h
    rw [if_pos e.symm]
    exact lexI_total ha hb e hne h
  · rw [if_neg e] at h
    rw [if_neg fun z => e z.symm]
    have h := of_decide_eq_false h
    exact decide_eq_true (by omega)
/-- what each move is undone by, in the order of the moves -/
def oppsC (g : Int) (rs : List (List Nat)) (ch : List CR) : List Nat → List CM → List CM
  | _, [] => []
  | w, m :: ms => oppC w m :: (match stp g rs ch w m with
    | none => []
    | some v => oppsC g rs ch v ms)
theorem oppsC_s {g : Int} {rs : List (List Nat)} {ch : List CR} {w v : List Nat} {m : CM} {ms : List CM} (q : stp g rs ch w m = some v) : oppsC g rs ch w (m :: ms) = oppC w m :: oppsC g rs ch v ms := by
  show oppC w m :: (match stp g rs ch w m with | none => [] | some v => oppsC g rs ch v ms) = _
  rw [q]
theorem oppsC_und {g : Int} {rs : List (List Nat)} {ch : List CR} : ∀ (ms : List CM) (w : List Nat) (k : Nat), badF (stp g rs ch) k w ms = none → (oppsC g rs ch w ms).reverse = undC g rs ch w ms ∧ (oppsC g rs ch w ms).length = ms.length
  | [], _, _, _ => ⟨rfl, rfl⟩
  | m :: ms, w, k, h => by
    cases q : stp g rs ch w m with
    | none => rw [badF_n q] at h; cases h
    | some v =>
      rw [badF_s q] at h
      obtain ⟨h1, h2⟩ := oppsC_und ms v (k + 1) h
      rw [oppsC_s q, undC_s q, List.reverse_cons, h1, List.length_cons, List.length_cons, h2]
      exact ⟨rfl, rfl⟩
theorem oppC_L {g : Int} {rs : List (List Nat)} {ch : List CR} {w v : List Nat} {m : CM} (hw : ∀ c ∈ w, c ∈ lt g) (hm : CmL g m) (q : stp g rs ch w m = some v) : CmL g (oppC w m) := by
  cases m with
  | use a j s => exact fun x e => by cases e
  | old m =>
    intro x e
    cases e
    cases m with
    | put a c => exact fun _ _ e => by cases e
    | add a k s => exact fun _ _ e => by cases e
    | take a k s => exact fun _ _ e => by cases e
    | cut a =>
      intro a' c' e
      cases e
      have q : (pairA w a).bind (rmvW w a) = some v := q
      cases q2 : pairA w a with
      | none => rw [q2] at q; cases q
      | some t =>
        have := pairA_eq q2
        exact ⟨_, hw _ (getD_mem (by omega)), rfl⟩
theorem undC_L {g : Int} {rs : List (List Nat)} {ch : List CR} (hp : Pres g rs) : ∀ (ms : List CM) (w : List Nat) (k : Nat), (∀ c ∈ w, c ∈ lt g) ∧ w.length ≤ 200 → (∀ m ∈ ms, CmL g m) → badF (stp g rs ch) k w ms = none → ∀ m ∈ undC g rs ch w ms, CmL g m
  | [], _, _, _, _, _ => fun _ h => nomatch h
  | m :: ms, w, k, hw, hm, h => by
    cases q : stp g rs ch w m with
    | none => rw [badF_n q] at h; cases h
    | some v =>
      rw [badF_s q] at h
      have ih := undC_L hp ms v (k + 1) (stp_lt hp hw q) (fun x hx => hm x (List.mem_cons_of_mem _ hx)) h
      rw [undC_s q]
      intro x hx
      rcases List.mem_append.mp hx with hx | hx
      · exact ih x hx
      · rw [List.mem_singleton.mp hx]; exact oppC_L hw.1 (hm m List.mem_cons_self) q
/-- a chain as it is drawn: sound -/
structure ChP (g : Int) (rs : List (List Nat)) (ch : List CR) : Prop where
  n : ch.length ≤ 120
  c : ∀ k c, ch[k]? = some c → ((∀ x ∈ c.l, x ∈ lt g) ∧ c.l.length < 40) ∧ ((∀ x ∈ c.r, x ∈ lt g) ∧ c.r.length < 40) ∧ sll c.r c.l = true ∧ c.ms.length ≤ 6 ∧ (∀ m ∈ c.ms, CmL g m) ∧ badF (stp g rs (ch.take k)) 0 c.l c.ms = none ∧ lastF (stp g rs (ch.take k)) c.l c.ms = c.r
theorem ChP.b {g : Int} {rs : List (List Nat)} {ch : List CR} (h : ChP g rs ch) : ChB ch := ⟨by have := h.n; omega, fun c hc => by
  obtain ⟨k, hk⟩ := List.getElem?_of_mem hc
  have := h.c k c hk
  exact ⟨by omega, by omega⟩⟩
theorem ChP.app {g : Int} {rs : List (List Nat)} {ch : List CR} (h : ChP g rs ch) (hn : ch.length < 120) {c : CR} (hc : ((∀ x ∈ c.l, x ∈ lt g) ∧ c.l.length < 40) ∧ ((∀ x ∈ c.r, x ∈ lt g) ∧ c.r.length < 40) ∧ sll c.r c.l = true ∧ c.ms.length ≤ 6 ∧ (∀ m ∈ c.ms, CmL g m) ∧ badF (stp g rs ch) 0 c.l c.ms = none ∧ lastF (stp g rs ch) c.l c.ms = c.r) : ChP g rs (ch ++ [c]) := ⟨by rw [List.length_append]; show _ + 1 ≤ _; omega, fun k d hk => by
  by_cases e : k < ch.length
  · rw [List.getElem?_append_left e] at hk
    rw [List.take_append_of_le_length (by omega)]
    exact h.c k d hk
  · have hlt := (List.getElem?_eq_some_iff.mp hk).1
    rw [List.length_append] at hlt
    have hlt : k < ch.length + 1 := hlt
    have ek : k = ch.length := by omega
    subst ek
    rw [List.getElem?_append_right (Nat.le_refl _), Nat.sub_self] at hk
    cases hk
    rw [List.take_append_of_le_length (Nat.le_refl _), List.take_length]
    exact hc⟩
theorem cm_bump {m : CM} : ∃ (k : D) (a : Int) (r : List D), cmD m = .tuple (k :: .int a :: r) ∧ r.length ≤ 2 ∧ ∃ m', cmD m' = .tuple (k :: .int (a + 1) :: r) ∧ ∀ g, CmL g m → CmL g m' := by
  cases m with
  | old m => cases m with
    | put a c => exact ⟨_, a, _, rfl, by show 1 ≤ 2; decide, .old (.put (a + 1) c), rfl, fun g h x e => by cases e; exact fun a' c' e => by cases e; exact h _ rfl a c rfl⟩
    | cut a => exact ⟨_, a, _, rfl, by decide, .old (.cut (a + 1)), rfl, fun g h x e => by cases e; exact fun a' c' e => by cases e⟩
    | add a k s => exact ⟨_, a, _, rfl, by show 2 ≤ 2; decide, .old (.add (a + 1) k s), rfl, fun g h x e => by cases e; exact fun a' c' e => by cases e⟩
    | take a k s => exact ⟨_, a, _, rfl, by show 2 ≤ 2; decide, .old (.take (a + 1) k s), rfl, fun g h x e => by cases e; exact fun a' c' e => by cases e⟩
  | use a j s => exact ⟨_, a, _, rfl, by show 2 ≤ 2; decide, .use (a + 1) j s, rfl, fun g h x e => by cases e⟩
/-- a condition that holds -/
theorem ck {A B : Prop} (ha : A) (hb : B) : (A → B) ∧ (¬A → False) := ⟨fun _ => hb, fun z => z ha⟩
/-! ### lengths along a walk -/
def dlC (rs : List (List Nat)) (ch : List CR) : CM → Int
  | .old (.put _ _) => 2
  | .old (.cut _) => -2
  | .old (.add _ k s) => match sigR rs k s with | some t => t.length | none => 0
  | .old (.take _ k s) => match sigR rs k s with | some t => -t.length | none => 0
  | .use _ j s => match ch[j.toNat]? with | some c => if s = 1 then (c.r.length : Int) - c.l.length else (c.l.length : Int) - c.r.length | none => 0
theorem dlC_add {rs : List (List Nat)} {ch : List CR} {a k s : Int} {t : List Nat} (q : sigR rs k s = some t) : dlC rs ch (.old (.add a k s)) = t.length := by
  show (match sigR rs k s with | some t => (t.length : Int) | none => 0) = _
  rw [q]
theorem dlC_take {rs : List (List Nat)} {ch : List CR} {a k s : Int} {t : List Nat} (q : sigR rs k s = some t) : dlC rs ch (.old (.take a k s)) = -t.length := by
  show (match sigR rs k s with | some t => -(t.length : Int) | none => 0) = _
  rw [q]
theorem dlC_use {rs : List (List Nat)} {ch : List CR} {a j s : Int} {c : CR} (q : ch[j.toNat]? = some c) : dlC rs ch (.use a j s) = if s = 1 then (c.r.length : Int) - c.l.length else (c.l.length : Int) - c.r.length := by
  show (match ch[j.toNat]? with | some c => if s = 1 then (c.r.length : Int) - c.l.length else (c.l.length : Int) - c.r.length | none => 0) = _
  rw [q]
theorem insW_len {w t v : List Nat} {a : Int} (e : insW w a t = some v) : (v.length : Int) = w.length + t.length := by
  unfold insW at e
  split at e
  · cases e
    rw [List.length_append, List.length_append, List.length_take, List.length_drop]; omega
  · cases e
theorem rmvW_len {w t v : List Nat} {a : Int} (e : rmvW w a t = some v) : (v.length : Int) = w.length - t.length := by
  unfold rmvW at e
  split at e
  · rename_i h
    cases e
    have h2 := congrArg List.length h.2
    rw [List.length_take, List.length_drop] at h2
    rw [List.length_append, List.length_take, List.length_drop]
    by_cases ht : t = []
    · subst ht; simp only [List.length_nil]; omega
    · have : 0 < t.length := by cases t with | nil => exact absurd rfl ht | cons _ _ => rw [List.length_cons]; omega
      omega
  · cases e
theorem stp_len {g : Int} {rs : List (List Nat)} {ch : List CR} {w v : List Nat} {m : CM} (e : stp g rs ch w m = some v) : (v.length : Int) = w.length + dlC rs ch m := by
  cases m with
  | use a j s =>
    have e : useW g ch w a j s = some v := e
    unfold useW at e
    split at e
    · rename_i h
      cases q : ch[j.toNat]? with
      | none => rw [q] at e; cases e
      | some c =>
        rw [q] at e
        have e : useR g w a s c = some v := e
        unfold useR at e
        rw [dlC_use q]
        split at e
        · split at e
          · rename_i hs
            have := repW_len e
            rw [if_pos hs]; omega
          · rename_i hs
            have := repW_len e
            rw [if_neg hs]; omega
        · cases e
    · cases e
  | old m =>
    cases m with
    | put a c =>
      have e : (ltP g c).bind (insW w a) = some v := e
      match c, e with
      | [x], e =>
        by_cases hx : x ∈ lt g
        · have q : ltP g [x] = some [x, inv x] := if_pos hx
          rw [q] at e
          exact insW_len e
        · have q : ltP g [x] = none := if_neg hx
          rw [q] at e; cases e
      | [], e => cases e
      | _ :: _ :: _, e => cases e
    | cut a =>
      have e : (pairA w a).bind (rmvW w a) = some v := e
      cases q : pairA w a with
      | none => rw [q] at e; cases e
      | some t =>
        rw [q] at e
        have e : rmvW w a t = some v := e
        have := rmvW_len e
        rw [(pairA_eq q).1] at this
        exact this
    | add a k s =>
      have e : (sigR rs k s).bind (insW w a) = some v := e
      cases q : sigR rs k s with
      | none => rw [q] at e; cases e
      | some t => rw [q] at e; rw [dlC_add q]; exact insW_len e
    | take a k s =>
      have e : (sigR rs k s).bind (rmvW w a) = some v := e
      cases q : sigR rs k s with
      | none => rw [q] at e; cases e
      | some t => rw [q] at e; have := rmvW_len e; rw [dlC_take q]; omega
def sumdl (rs : List (List Nat)) (ch : List CR) : List CM → Int
  | [] => 0
  | m :: ms => dlC rs ch m + sumdl rs ch ms
theorem sumdl_app {rs : List (List Nat)} {ch : List CR} : ∀ (a b : List CM), sumdl rs ch (a ++ b) = sumdl rs ch a + sumdl rs ch b
  | [], b => by show sumdl rs ch b = 0 + _; omega
  | m :: a, b => by
    show dlC rs ch m + sumdl rs ch (a ++ b) = dlC rs ch m + sumdl rs ch a + sumdl rs ch b
    rw [sumdl_app a b]; omega
/-- the word behind is that behind some first moves, and its length is told by them -/
theorem lastF_len {g : Int} {rs : List (List Nat)} {ch : List CR} : ∀ (ms : List CM) (w : List Nat), ∃ p r, ms = p ++ r ∧ ((lastF (stp g rs ch) w ms).length : Int) = w.length + sumdl rs ch p
  | [], w => ⟨[], [], rfl, by show (w.length : Int) = w.length + 0; omega⟩
  | m :: ms, w => by
    cases q : stp g rs ch w m with
    | none => exact ⟨[], m :: ms, rfl, by rw [lastF_n q]; show (w.length : Int) = w.length + 0; omega⟩
    | some v =>
      obtain ⟨p, r, e, h⟩ := lastF_len (g := g) (rs := rs) (ch := ch) ms v
      refine ⟨m :: p, r, by rw [e]; rfl, ?_⟩
      rw [lastF_s q, h, stp_len q]
      show _ = (w.length : Int) + (dlC rs ch m + sumdl rs ch p)
      omega
/-- all first moves of a walk lead to words that are short -/
theorem walk_len {g : Int} {rs : List (List Nat)} {ch : List CR} {n : Nat} : ∀ (p r : List CM) (w : List Nat) (k : Nat), badF (stp g rs ch) k w (p ++ r) = none → w.length < n → (∀ u ∈ wordsF (stp g rs ch) w (p ++ r), u.length < n) → (w.length : Int) + sumdl rs ch p < n
  | [], r, w, k, _, hw, _ => by show (w.length : Int) + 0 < n; omega
  | m :: p, r, w, k, hb, hw, h => by
    rw [List.cons_append] at hb h
    cases q : stp g rs ch w m with
    | none => rw [badF_n q] at hb; cases hb
    | some v =>
      rw [badF_s q] at hb
      rw [wordsF_s q] at h
      have ih := walk_len p r v (k + 1) hb (h v List.mem_cons_self) fun u hu => h u (List.mem_cons_of_mem _ hu)
      rw [stp_len q] at ih
      show (w.length : Int) + (dlC rs ch m + sumdl rs ch p) < n
      omega
theorem dlC_abs {g : Int} {rs : List (List Nat)} {ch : List CR} (hp : Pres g rs) (hc : ∀ c ∈ ch, c.l.length < 40 ∧ c.r.length < 40) (m : CM) : dlC rs ch m ≤ 40 ∧ -40 ≤ dlC rs ch m := by
  unfold dlC
  split
  · omega
  · omega
  · split
    · rename_i t q; have := (sigR_mem hp q).2.2; omega
    · omega
  · split
    · rename_i t q; have := (sigR_mem hp q).2.2; omega
    · omega
  · split
    · rename_i c q
      have := hc c (List.mem_of_getElem? q)
      split <;> omega
    · omega
theorem sum1_abs {g : Int} {rs : List (List Nat)} {ch : List CR} (hp : Pres g rs) (hc : ∀ c ∈ ch, c.l.length < 40 ∧ c.r.length < 40) {x : List CM} (h : x.length ≤ 1) : sumdl rs ch x ≤ 40 ∧ -40 ≤ sumdl rs ch x := by
  match x, h with
  | [], _ => exact ⟨by show (0 : Int) ≤ 40; omega, by show (-40 : Int) ≤ 0; omega⟩
  | [m], _ => have := dlC_abs hp hc m; exact ⟨by show dlC rs ch m + 0 ≤ 40; omega, by show -40 ≤ dlC rs ch m + 0; omega⟩
  | _ :: _ :: _, h => exact absurd h (by rw [List.length_cons, List.length_cons]; omega)
/-- a walk with one move changed does not lead to long words -/
theorem spoilt_len {g : Int} {rs : List (List Nat)} {ch : List CR} (hp : Pres g rs) (hc : ∀ c ∈ ch, c.l.length < 40 ∧ c.r.length < 40) {A x y B : List CM} {w : List Nat} (hx : x.length ≤ 1) (hy : y.length ≤ 1) (hw : w.length < 40) (hb : badF (stp g rs ch) 0 w (A ++ x ++ B) = none) (hs : ∀ u ∈ wordsF (stp g rs ch) w (A ++ x ++ B), u.length < 40) : (lastF (stp g rs ch) w (A ++ y ++ B)).length ≤ 130 := by
  obtain ⟨p, r, e, h⟩ := lastF_len (g := g) (rs := rs) (ch := ch) (A ++ y ++ B) w
  have ax := sum1_abs (rs := rs) (ch := ch) hp hc hx
  have ay := sum1_abs (rs := rs) (ch := ch) hp hc hy
  rw [List.append_assoc] at e
  rcases List.append_eq_append_iff.mp e with ⟨q, e1, e2⟩ | ⟨q, e1, e2⟩
  · -- p goes beyond A
    rcases List.append_eq_append_iff.mp e2 with ⟨q2, e3, e4⟩ | ⟨q2, e3, e4⟩
    · have hb' := hb
      have hs' := hs
      rw [e4, ← List.append_assoc] at hb' hs'
      have k := walk_len (A ++ x ++ q2) r w 0 hb' hw hs'
      rw [sumdl_app, sumdl_app] at k
      rw [e1, e3, sumdl_app, sumdl_app] at h
      omega
    · have hb' := hb
      have hs' := hs
      rw [List.append_assoc] at hb' hs'
      have k := walk_len A (x ++ B) w 0 hb' hw hs'
      have hq : q.length ≤ 1 := by
        have := congrArg List.length e3
        rw [List.length_append] at this
        omega
      have aq := sum1_abs (rs := rs) (ch := ch) hp hc hq
      rw [e1, sumdl_app] at h
      omega
  · have hb' := hb
    have hs' := hs
    rw [e1, List.append_assoc, List.append_assoc] at hb' hs'
    have k := walk_len p (q ++ (x ++ B)) w 0 hb' hw hs'
    omega
theorem crAt {ch : List CR} {j : Nat} {c : CR} (h : ch[j]? = some c) : dIdx (CV ch) (.int (j : Int)) = .ok (crD c) := o_ixT (by rw [List.getElem?_map, h]; rfl)
theorem okw_app {g : Int} {a b : List Nat} : okw g (a ++ b) = (okw g a && okw g b) := List.all_append
theorem CV_app {ch : List CR} {c : CR} : CV (ch ++ [c]) = .tuple (ch.map crD ++ [crD c]) := congrArg PyData.tuple List.map_append
theorem o_ninL {c : List Nat} {w : List Nat} : dNotInS (sD c) (.list (w.map one)) = .ok (.bool (!decide (∃ x ∈ w, c = [x]))) := by
  have h1 : (w.map one).all plainD = true := by rw [List.all_map]; exact List.all_eq_true.mpr fun _ _ => rfl
  have h2 : (w.map one).any (sameD (sD c)) = decide (∃ x ∈ w, c = [x]) := by
    rw [List.any_map, Bool.eq_iff_iff, List.any_eq_true, decide_eq_true_eq]
    refine exists_congr fun x => and_congr Iff.rfl ?_
    show decide (S c = S [x]) = true ↔ c = [x]
    rw [decide_eq_true_eq]
    exact ⟨fun h => SX.S_inj h, fun h => by rw [h]⟩
  show ((if (true && (w.map one).all plainD) = true then R.ok ((w.map one).any (sameD (sD c))) else R.stuck).bind fun k => R.ok (PyData.bool (!k))) = _
  rw [h1, h2]
  rfl

end Law

end
end
section
set_option Elab.async false
set_option linter.all false
set_option maxRecDepth 100000
set_option autoImplicit false
set_option maxHeartbeats 4000000
noncomputable section
namespace Law
open PySem DW L2
open SX (S S_tl S_len S_cat)
/-! ### the keys of words in shortlex -/
def keyD (w : List Nat) : D := .tuple [.int (w.length : Int), .tuple (w.map fun c => PyData.int ((L6.idxOf c : Nat) : Int))]
theorem alike_idx (a b : List Nat) : PySem.W.alikeAll (a.map fun c => PyData.int ((L6.idxOf c : Nat) : Int)) (b.map fun c => PyData.int ((L6.idxOf c : Nat) : Int)) = true := by
  induction a generalizing b with
  | nil => simp [PySem.W.alikeAll]
  | cons x a ih =>
    cases b with
    | nil => simp [PySem.W.alikeAll]
    | cons y b =>
      rw [List.map_cons, List.map_cons, PySem.W.alikeAll, ih b]
      simp [PySem.W.alike]
theorem depth_idx (a : List Nat) : PyData.depthAll (a.map fun c => PyData.int ((L6.idxOf c : Nat) : Int)) = 0 := by
  induction a with
  | nil => simp [PyData.depthAll]
  | cons x a ih =>
    rw [List.map_cons, PyData.depthAll, ih]
    simp [PyData.depth]
theorem canCmp_key (a b : List Nat) : canCmp (keyD a) (keyD b) = true := by
  unfold canCmp keyD
  have h1 : PySem.W.alike (.tuple [.int (a.length : Int), .tuple (a.map fun c => PyData.int ((L6.idxOf c : Nat) : Int))]) (.tuple [.int (b.length : Int), .tuple (b.map fun c => PyData.int ((L6.idxOf c : Nat) : Int))]) = true := by
    simp [PySem.W.alike, PySem.W.alikeAll, alike_idx]
  have h2 : (PyData.tuple [.int (a.length : Int), .tuple (a.map fun c => PyData.int ((L6.idxOf c : Nat) : Int))]).depth ≤ 64 := by
    simp [PyData.depth, PyData.depthAll, depth_idx]
  rw [h1, decide_eq_true h2]
  rfl
theorem lexI_cons {a b : Nat} {as bs : List Nat} : lexI (a :: as) (b :: bs) = if a = b then lexI as bs else decide (L6.idxOf a < L6.idxOf b) := rfl
theorem lex_idx : ∀ {a b : List Nat}, Wd a → Wd b → a.length = b.length → (PySem.W.dataLt (.tuple (a.map fun c => PyData.int ((L6.idxOf c : Nat) : Int))) (.tuple (b.map fun c => PyData.int ((L6.idxOf c : Nat) : Int))) = lexI a b ∧ PyData.eqvAll (a.map fun c => PyData.int ((L6.idxOf c : Nat) : Int)) (b.map fun c => PyData.int ((L6.idxOf c : Nat) : Int)) = decide (a = b))
  | [], [], _, _, _ => ⟨by rw [PySem.W.dataLt_tuple]; rfl, by simp [PyData.eqvAll]⟩
  | [], _ :: _, _, _, h => by cases h
  | _ :: _, [], _, _, h => by cases h
  | x :: a, y :: b, ha, hb, h => by
    obtain ⟨h1, h2⟩ := lex_idx (fun z hz => ha z (List.mem_cons_of_mem _ hz)) (fun z hz => hb z (List.mem_cons_of_mem _ hz)) (Nat.succ.inj h)
    have hx := ha x List.mem_cons_self
    have hy := hb y List.mem_cons_self
    rw [List.map_cons, List.map_cons]
    rw [PySem.W.dataLt_tuple] at h1
    rw [PySem.W.dataLt_tuple, PySem.W.dataLt_cons (by simp [PySem.W.alike]), h1, PyData.eqvAll, h2, PySem.W.dataLt_int, lexI_cons]
    have e : PyData.eqv (.int ((L6.idxOf x : Nat) : Int)) (.int ((L6.idxOf y : Nat) : Int)) = decide (x = y) := by
      simp only [PyData.eqv]
      by_cases q : x = y
      · rw [q]; simp
      · have : ((L6.idxOf x : Nat) : Int) ≠ ((L6.idxOf y : Nat) : Int) := fun z => q (idx_inj hx hy (by omega))
        rw [decide_eq_false q]
        simpa using this
    rw [e]
    by_cases q : x = y
    · rw [if_pos (decide_eq_true q), if_pos q, decide_eq_true q, Bool.true_and]
      refine ⟨rfl, decide_eq_decide.mpr ⟨fun z => by rw [q, z], fun z => (List.cons.inj z).2⟩⟩
    · rw [decide_eq_false q, if_neg (by decide), if_neg q, Bool.false_and, decide_eq_false fun z => q (List.cons.inj z).1]
      exact ⟨decide_eq_decide.mpr (by omega), rfl⟩
theorem o_ltKey {a b : List Nat} (ha : Wd a) (hb : Wd b) : dLt (keyD a) (keyD b) = .ok (.bool (sll a b)) := by
  show (if canCmp (keyD a) (keyD b) = true then R.ok (PyData.bool (PySem.W.dataLt (keyD a) (keyD b))) else R.stuck) = _
  rw [if_pos (canCmp_key a b)]
  unfold keyD sll
  rw [PySem.W.dataLt_pair (by simp [PySem.W.alike]) (by simp only [PySem.W.alike]; exact alike_idx a b), PySem.W.dataLt_int]
  by_cases h : a.length = b.length
  · obtain ⟨h1, h2⟩ := lex_idx ha hb h
    have e : PyData.eqv (.int (a.length : Int)) (.int (b.length : Int)) = true := by simp [PyData.eqv, h]
    have e2 : PyData.eqv (.tuple (a.map fun c => PyData.int ((L6.idxOf c : Nat) : Int))) (.tuple (b.map fun c => PyData.int ((L6.idxOf c : Nat) : Int))) = decide (a = b) := by rw [PyData.eqv, h2]
    rw [if_pos e, if_pos h, e2, h1]
    by_cases q : a = b
    · rw [if_pos (decide_eq_true q), q]
      congr 2
      have : ∀ l : List Nat, lexI l l = false := by
        intro l
        induction l with
        | nil => rfl
        | cons x l ih => rw [lexI_cons, if_pos rfl, ih]
      exact (this b).symm
    · rw [if_neg (by rw [decide_eq_false q]; decide)]
  · have e : PyData.eqv (.int (a.length : Int)) (.int (b.length : Int)) = false := by
      simp only [PyData.eqv]
      have : ((a.length : Nat) : Int) ≠ ((b.length : Nat) : Int) := by omega
      simpa using this
    rw [e, if_neg (by decide), if_neg h]
    congr 2
    exact decide_eq_decide.mpr (by omega)
/-! ### rules, faults of chains -/
def isRl (g : Int) (l r : List Nat) : Bool := okw g l && okw g r && decide (l.length ≤ 60) && decide (r.length ≤ 60) && sll r l
/-- a chain as it may be handed over: of bounded size, with moves of letters -/
structure ChG (g : Int) (ch : List CR) : Prop where
  n : ch.length ≤ 130
  c : ∀ c ∈ ch, c.l.length ≤ 200 ∧ c.r.length ≤ 200 ∧ c.ms.length ≤ 200 ∧ ∀ m ∈ c.ms, CmL g m
theorem ChG.b {g : Int} {ch : List CR} (h : ChG g ch) : ChB ch := ⟨by have := h.n; omega, fun c hc => by have := h.c c hc; omega⟩
def goodE (g : Int) (rs : List (List Nat)) (all : List CR) (k : Nat) (c : CR) : Bool := isRl g c.l c.r && decide (badF (stp g rs (all.take k)) 0 c.l c.ms = none ∧ lastF (stp g rs (all.take k)) c.l c.ms = c.r)
def fstFault (g : Int) (rs : List (List Nat)) (all : List CR) : Nat → List CR → Option Nat
  | _, [] => none
  | k, c :: cs => if k = 120 then some k else if goodE g rs all k c = true then fstFault g rs all (k + 1) cs else some k
def optN : Option Nat → D
  | none => .none
  | some k => .int (k : Int)
theorem okD_optN {o : Option Nat} : okD 1 (optN o) = true := by cases o <;> rfl
theorem isRl_sides {g : Int} {l r : List Nat} (h : isRl g l r = true) : (∀ c ∈ l, c ∈ lt g) ∧ (∀ c ∈ r, c ∈ lt g) ∧ l.length ≤ 60 ∧ r.length ≤ 60 := by
  unfold isRl at h
  rw [Bool.and_eq_true, Bool.and_eq_true, Bool.and_eq_true, Bool.and_eq_true, decide_eq_true_eq, decide_eq_true_eq] at h
  exact ⟨okw_iff.mp h.1.1.1.1, okw_iff.mp h.1.1.1.2, h.1.1.2, h.1.2⟩
theorem CV_take {ch : List CR} {k : Nat} (h : k < ch.length) : dSl (CV ch) none (some (k : Int)) = .ok (CV (ch.take k)) := by
  have hn : ¬ (HT.sIx (ch.map crD).length 0 none = 0 ∧ HT.sIx (ch.map crD).length (ch.map crD).length (some (k : Int)) = (ch.map crD).length) := fun z => by
    have e : HT.sIx (ch.map crD).length (ch.map crD).length (some (k : Int)) = min k (ch.map crD).length := HT.sIx_nat _ _ _
    rw [e, List.length_map] at z
    omega
  rw [o_slT hn, cut_to2, ← List.map_take]
/-! ### counting a letter -/
theorem occ_cnt (w : List Nat) (c limit : Nat) : ∀ (m cur : Nat) (st : Array Nat × Nat), st.snd ≤ cur → st.fst.size + m ≤ limit → cur + m = w.length + 1 →
    (forIn (List.range' cur m) st (PySem.StrLaws.occBody (S w) (S [c]) w.length limit)).run.fst.size = st.fst.size + (w.drop cur).count c
  | 0, cur, st, _, _, h => by
    rw [List.drop_eq_nil_of_le (by omega)]
    rfl
  | m + 1, cur, st, h1, h2, h3 => by
    have key : (cur + (S [c]).length ≤ w.length ∧ Builtin.Str.subAt (S w) (S [c]) cur = true) ↔ w[cur]? = some c := PySem.StrLaws.subAt_one (S w) c cur
    rw [List.range'_succ, List.forIn_cons]
    unfold PySem.StrLaws.occBody
    have l1 : (S [c]).length = 1 := rfl
    by_cases hc : w[cur]? = some c
    · have k := key.mpr hc
      rw [if_pos ⟨⟨⟨by omega, h1⟩, k.1⟩, k.2⟩]
      have ih := occ_cnt w c limit m (cur + 1) (st.fst.push cur, cur + (S [c]).length) (by rw [l1]; exact Nat.le_refl _) (by rw [Array.size_push]; omega) (by omega)
      have e : w.drop cur = c :: w.drop (cur + 1) := by
        obtain ⟨hl, hv⟩ := List.getElem?_eq_some_iff.mp hc
        rw [List.drop_eq_getElem_cons hl, hv]
      rw [e, List.count_cons_self]
      have ih2 : _ = (st.fst.push cur).size + (w.drop (cur + 1)).count c := ih
      rw [Array.size_push] at ih2
      exact ih2.trans (by omega)
    · rw [if_neg fun z => hc (key.mp ⟨z.1.2, z.2⟩)]
      have ih := occ_cnt w c limit m (cur + 1) (st.fst, st.snd) (by show st.snd ≤ cur + 1; omega) (by show st.fst.size + m ≤ limit; omega) (by omega)
      have e : (w.drop cur).count c = (w.drop (cur + 1)).count c := by
        by_cases hl : cur < w.length
        · rw [List.drop_eq_getElem_cons hl, List.count_cons_of_ne]
          intro z
          exact hc (by rw [List.getElem?_eq_getElem hl, ← z])
        · rw [List.drop_eq_nil_of_le (by omega), List.drop_eq_nil_of_le (by omega)]
      rw [e]
      exact ih
theorem count_S {w : List Nat} {c : Nat} : Txt.count (S w) (S [c]) = (w.count c : Int) := by
  have hl : (S w).length = w.length := S_len w
  show (((Builtin.Str.occurrences (S w) (S [c]) 0 (S w).length ((S w).length + 1)).length : Nat) : Int) = _
  rw [hl, PySem.StrLaws.occ_eq]
  have := occ_cnt w c (w.length + 1) (w.length + 1 - 0) 0 ((#[] : Array Nat), 0) (Nat.le_refl _) (by show 0 + _ ≤ _; omega) (by omega)
  rw [Array.length_toList, this, List.drop_zero]
  show ((0 + w.count c : Nat) : Int) = _
  rw [Nat.zero_add]
theorem o_count {w : List Nat} {c : Nat} : dCountS (S w) (one c) = .ok (.int (w.count c : Int)) := by
  show R.ok (PyData.int (Txt.count (S w) (S [c]))) = _
  rw [count_S]

end Law

end
end
section
set_option Elab.async false
set_option linter.all false
set_option maxRecDepth 100000
set_option autoImplicit false
set_option maxHeartbeats 4000000
noncomputable section
namespace Law
open PySem DW L2
open SX (S S_tl S_len S_cat)
/-! ### sums of letters, weights -/
def cntK (w : List Nat) (k : Nat) : Int := (w.count (97 + k) : Int) - w.count (65 + k)
def sumsI (n : Nat) (w : List Nat) : List Int := (List.range n).map (cntK w)
abbrev intsV (l : List Int) : D := .list (l.map PyData.int)
theorem ix_abc {k : Nat} (h : k < 3) : dIdx (.str (S [97, 98, 99])) (.int (k : Int)) = .ok (one (97 + k)) := o_ixS (by decide) (by
  have : k = 0 ∨ k = 1 ∨ k = 2 := by omega
  rcases this with rfl | rfl | rfl <;> rfl)
theorem ix_L6o {k : Nat} (h : k < 3) : dIdx (.str (S L6)) (.int (2 * (k : Int) + 1)) = .ok (one (65 + k)) := by
  have e : 2 * (k : Int) + 1 = ((2 * k + 1 : Nat) : Int) := by omega
  rw [e]
  exact o_ixS (by decide) (by
    have : k = 0 ∨ k = 1 ∨ k = 2 := by omega
    rcases this with rfl | rfl | rfl <;> rfl)
theorem ix_lte {g : Int} {k : Nat} (g1 : 1 ≤ g) (g2 : g ≤ 3) (h : (k : Int) < g) : dIdx (.str (S (lt g))) (.int (2 * (k : Int))) = .ok (one (97 + k)) := by
  have e : 2 * (k : Int) = ((2 * k : Nat) : Int) := by omega
  have hl := lt_len g1 g2
  rw [e]
  refine o_ixS (by omega) ?_
  unfold lt
  rw [List.getElem?_take, if_pos (by omega)]
  have : k = 0 ∨ k = 1 ∨ k = 2 := by omega
  rcases this with rfl | rfl | rfl <;> rfl
theorem ix_lto {g : Int} {k : Nat} (g1 : 1 ≤ g) (g2 : g ≤ 3) (h : (k : Int) < g) : dIdx (.str (S (lt g))) (.int (2 * (k : Int) + 1)) = .ok (one (65 + k)) := by
  have e : 2 * (k : Int) + 1 = ((2 * k + 1 : Nat) : Int) := by omega
  have hl := lt_len g1 g2
  rw [e]
  refine o_ixS (by omega) ?_
  unfold lt
  rw [List.getElem?_take, if_pos (by omega)]
  have : k = 0 ∨ k = 1 ∨ k = 2 := by omega
  rcases this with rfl | rfl | rfl <;> rfl
theorem sumsI_len {n : Nat} {w : List Nat} : (sumsI n w).length = n := by unfold sumsI; rw [List.length_map, List.length_range]
theorem sumsI_app {n : Nat} {a b : List Nat} : sumsI n (a ++ b) = (List.range n).map fun k => cntK a k + cntK b k := by
  unfold sumsI
  refine List.map_congr_left fun k _ => ?_
  unfold cntK
  rw [List.count_append, List.count_append]
  omega
/-- the weight: numbers by sums -/
def dotI : List Int → List Int → Int
  | a :: as, b :: bs => a * b + dotI as bs
  | _, _ => 0
def wgt (ns : List Int) (w : List Nat) : Int := dotI ns (sumsI ns.length w)
theorem dotI_sum : ∀ (as bs : List Int), dotI as bs = ((as.zip bs).map fun p => p.1 * p.2).sum
  | [], bs => by cases bs <;> rfl
  | a :: as, [] => rfl
  | a :: as, b :: bs => by
    show a * b + dotI as bs = _
    rw [dotI_sum as bs, List.zip_cons_cons, List.map_cons, List.sum_cons]
theorem dotI_add : ∀ (as bs cs : List Int), bs.length = cs.length → dotI as ((bs.zip cs).map fun p => p.1 + p.2) = dotI as bs + dotI as cs
  | [], bs, cs, _ => by cases bs <;> cases cs <;> rfl
  | a :: as, [], [], _ => rfl
  | a :: as, [], _ :: _, h => by cases h
  | a :: as, _ :: _, [], h => by cases h
  | a :: as, b :: bs, c :: cs, h => by
    show a * (b + c) + dotI as ((bs.zip cs).map fun p => p.1 + p.2) = (a * b + dotI as bs) + (a * c + dotI as cs)
    rw [dotI_add as bs cs (Nat.succ.inj h), Int.mul_add]
    omega
theorem zip_map2 {f g : Nat → Int} : ∀ l : List Nat, ((l.map f).zip (l.map g)).map (fun p => p.1 + p.2) = l.map fun k => f k + g k
  | [] => rfl
  | x :: l => by rw [List.map_cons, List.map_cons, List.zip_cons_cons, List.map_cons, List.map_cons, zip_map2 l]
theorem wgt_app (ns : List Int) (a b : List Nat) : wgt ns (a ++ b) = wgt ns a + wgt ns b := by
  unfold wgt
  rw [sumsI_app, ← zip_map2, ← dotI_add _ _ _ (by rw [sumsI_len, sumsI_len])]
  rfl
theorem cntK_cut {a b : List Nat} {c : Nat} (hc : c ∈ L6) (k : Nat) (hk : k < 3) : cntK (a ++ c :: inv c :: b) k = cntK (a ++ b) k := by
  unfold cntK
  rw [List.count_append, List.count_append, List.count_append, List.count_append, List.count_cons, List.count_cons, List.count_cons, List.count_cons]
  have hk3 : k = 0 ∨ k = 1 ∨ k = 2 := by omega
  revert c
  exact fun {c} hc => L6_all (P := fun c => ((a.count (97 + k) + (b.count (97 + k) + (if inv c == 97 + k then 1 else 0) + if c == 97 + k then 1 else 0) : Nat) : Int) - ((a.count (65 + k) + (b.count (65 + k) + (if inv c == 65 + k then 1 else 0) + if c == 65 + k then 1 else 0) : Nat) : Int) = ((a.count (97 + k) + b.count (97 + k) : Nat) : Int) - ((a.count (65 + k) + b.count (65 + k) : Nat) : Int)) (by
    rcases hk3 with rfl | rfl | rfl <;> refine ⟨?_, ?_, ?_, ?_, ?_, ?_⟩ <;> simp [inv] <;> omega) c hc
theorem cntK_cons (c : Nat) (w : List Nat) (k : Nat) : cntK (c :: w) k = cntK [c] k + cntK w k := by
  unfold cntK
  rw [List.count_cons, List.count_cons, List.count_cons, List.count_cons, List.count_nil, List.count_nil]
  omega
theorem cntK_inv {k : Nat} (hk : k < 3) : ∀ c ∈ L6, cntK [inv c] k = - cntK [c] k := by
  have : k = 0 ∨ k = 1 ∨ k = 2 := by omega
  rcases this with rfl | rfl | rfl <;> exact L6_all (by decide)
theorem cntK_app (a b : List Nat) (k : Nat) : cntK (a ++ b) k = cntK a k + cntK b k := by
  unfold cntK
  rw [List.count_append, List.count_append]; omega
theorem cntK_rev (w : List Nat) (k : Nat) : cntK w.reverse k = cntK w k := by
  unfold cntK
  rw [List.count_reverse, List.count_reverse]
theorem cntK_rstep {k : Nat} (hk : k < 3) {st : List Nat} {c : Nat} (hc : c ∈ L6) : cntK (rstep st c) k = cntK [c] k + cntK st k := by
  cases st with
  | nil => show cntK [c] k = _ + cntK [] k; have : cntK [] k = 0 := rfl; omega
  | cons t s =>
    by_cases e : t = inv c
    · rw [rstep_cut e, cntK_cons t s, e, cntK_inv hk c hc]; omega
    · rw [rstep_add e, cntK_cons c]
theorem cntK_redS {k : Nat} (hk : k < 3) : ∀ (cs st : List Nat), Wd cs → cntK (redS st cs) k = cntK st k + cntK cs k
  | [], st, _ => by show cntK st k = _ + cntK [] k; have : cntK [] k = 0 := rfl; omega
  | c :: cs, st, h => by
    rw [redS_cons, cntK_redS hk cs _ fun x hx => h x (List.mem_cons_of_mem _ hx), cntK_rstep hk (h c List.mem_cons_self), cntK_cons c cs]
    omega
theorem cntK_red {k : Nat} (hk : k < 3) {w : List Nat} (h : Wd w) : cntK (red w) k = cntK w k := by
  unfold red
  rw [cntK_rev, cntK_redS hk w [] h]
  have : cntK [] k = 0 := rfl
  omega
theorem sumsI_red {n : Nat} (hn : n ≤ 3) {w : List Nat} (h : Wd w) : sumsI n (red w) = sumsI n w := by
  unfold sumsI
  exact List.map_congr_left fun k hk => cntK_red (by have := List.mem_range.mp hk; omega) h
theorem cntK_abs (w : List Nat) (k : Nat) : cntK w k ≤ w.length ∧ -(w.length : Int) ≤ cntK w k := by
  unfold cntK
  have h1 := List.count_le_length (a := 97 + k) (l := w)
  have h2 := List.count_le_length (a := 65 + k) (l := w)
  omega
/-- weights with a modulus -/
def wMod (m : Int) (t : Int) : Int := if m = 0 then t else t % m
abbrev WV (m : Int) (ns : List Int) : D := .tuple [.int m, .tuple (ns.map PyData.int)]
def okWt (m : Int) (ns : List Int) : Bool := decide (0 ≤ m ∧ m ≠ 1 ∧ 1 ≤ ns.length ∧ ns.length ≤ 3)
theorem zipD_map {as bs : List Int} : zipD (as.map PyData.int) (bs.map PyData.int) = (as.zip bs).map fun p => .tuple [.int p.1, .int p.2] := by
  induction as generalizing bs with
  | nil => cases bs <;> rfl
  | cons a as ih =>
    cases bs with
    | nil => rfl
    | cons b bs =>
      rw [List.map_cons, List.map_cons, List.zip_cons_cons, List.map_cons, ← ih]
      rfl
theorem o_sumI {l : List Int} : dSum [.list (l.map PyData.int)] = .ok (.int l.sum) := by
  unfold dSum
  simp only [intsD_map]
theorem lc_gm {α : Type} {g : D → En → R En} {m : ME} {ρ : En} {u f : α → D} : ∀ {xs : List α}, (∀ x ∈ xs, ∃ ρ1, g (u x) ρ = .ok ρ1 ∧ m ρ1 = .ok (f x)) → lcLoop g mYes m ρ (xs.map u) = .ok (xs.map f) := by
  intro xs h
  refine lc_gen (α := Nat) (by rw [List.length_map, List.length_map]) fun i d e h1 h2 => ?_
  rw [List.getElem?_map] at h1 h2
  cases q : xs[i]? with
  | none => rw [q] at h1; cases h1
  | some x =>
    rw [q] at h1 h2
    cases h1; cases h2
    exact h x (List.mem_of_getElem? q)
def NumB (ns : List Int) : Prop := ∀ n ∈ ns, n.natAbs < 2 ^ 60
theorem sumsI_mem {n : Nat} {w : List Nat} {z : Int} (h : z ∈ sumsI n w) : ∃ k, k < n ∧ z = cntK w k := by
  unfold sumsI at h
  obtain ⟨k, hk, e⟩ := List.mem_map.mp h
  exact ⟨k, List.mem_range.mp hk, e.symm⟩
theorem sml_len : ∀ k : Fin 121, (PyData.shown (.int ((k : Nat) - 60 : Int))).length ≤ 3 := by decide +kernel
theorem sml_ok : ∀ k : Fin 121, (PyData.showable (.int ((k : Nat) - 60 : Int))) = true := by decide +kernel
theorem sml (z : Int) (h : z ≤ 60) (h' : -60 ≤ z) : (PyData.shown (.int z)).length ≤ 3 ∧ PyData.showable (.int z) = true := by
  have := sml_len ⟨(z + 60).toNat, by omega⟩
  have h2 := sml_ok ⟨(z + 60).toNat, by omega⟩
  have e : ((z + 60).toNat : Int) - 60 = z := by omega
  simp only [e] at this h2
  exact ⟨this, h2⟩
theorem sml_all : ∀ (l : List Int), (∀ z ∈ l, z ≤ 60 ∧ -60 ≤ z) → PyData.showableAll (l.map PyData.int) = true ∧ PyData.hasDictAll (l.map PyData.int) = false ∧ PyData.depthAll (l.map PyData.int) = 0
  | [], _ => by simp [PyData.showableAll, PyData.hasDictAll, PyData.depthAll]
  | a :: l, h => by
    obtain ⟨h1, h2, h3⟩ := sml_all l fun z hz => h z (List.mem_cons_of_mem _ hz)
    have := sml a (h a List.mem_cons_self).1 (h a List.mem_cons_self).2
    rw [List.map_cons, PyData.showableAll, PyData.hasDictAll, PyData.depthAll, h1, h2, h3, this.2]
    simp [PyData.hasDict, PyData.depth]
theorem sml_txt : ∀ (l : List Int) (k : Nat) (a : Str), (∀ z ∈ l, z ≤ 60 ∧ -60 ≤ z) → (textFrom k a (PyData.shownAll (l.map PyData.int))).length ≤ a.length + 8 * l.length
  | [], k, a, _ => by simp [PyData.shownAll, textFrom]
  | z :: l, k, a, h => by
    rw [List.map_cons, PyData.shownAll]
    have := sml z (h z List.mem_cons_self).1 (h z List.mem_cons_self).2
    have ih := fun k a => sml_txt l k a fun z hz => h z (List.mem_cons_of_mem _ hz)
    rw [textFrom]
    refine Nat.le_trans (ih _ _) ?_
    have l1 : (Str.ofString "").length = 0 := by decide +kernel
    have l2 : (Str.ofString ", ").length = 2 := by decide +kernel
    rw [List.length_cons]
    simp only [Str.length_append]
    split <;> simp only [l1, l2] <;> omega
theorem okShow_ints (l : List Int) (hl : l.length ≤ 1000) (h : ∀ z ∈ l, z ≤ 60 ∧ -60 ≤ z) : okShow (.list (l.map PyData.int)) = true := by
  obtain ⟨h1, h2, h3⟩ := sml_all l h
  have := sml_txt l 0 (Str.ofString "[") h
  have l1 : (Str.ofString "[").length = 1 := by decide +kernel
  have l2 : (Str.ofString "]").length = 1 := by decide +kernel
  unfold okShow
  rw [PyData.showable, PyData.shown, PyData.hasDict, PyData.depth, h1, h2, h3, decide_eq_true]
  · rfl
  · unfold listText sizeLine
    rw [Str.length_append]; omega
theorem o_reprC {l : List Int} (hl : l.length ≤ 1000) (h : ∀ z ∈ l, z ≤ 60 ∧ -60 ≤ z) : dReprC [.list (l.map PyData.int)] = .ok (.str (PyData.shown (.list (l.map PyData.int)))) := by
  show (if okShow (.list (l.map PyData.int)) = true then R.ok (PyData.str (PyData.shown (.list (l.map PyData.int)))) else .stuck) = _
  rw [if_pos (okShow_ints l hl h)]
theorem dotI_abs : ∀ (ns ss : List Int), NumB ns → (∀ s ∈ ss, s.natAbs ≤ 1000000) → (dotI ns ss).natAbs ≤ ns.length * 2 ^ 80
  | [], _, _, _ => by show (0 : Int).natAbs ≤ _; simp
  | _ :: _, [], _, _ => by show (0 : Int).natAbs ≤ _; simp
  | a :: ns, s :: ss, hn, hs => by
    have ih := dotI_abs ns ss (fun x hx => hn x (List.mem_cons_of_mem _ hx)) (fun x hx => hs x (List.mem_cons_of_mem _ hx))
    have h1 := hn a List.mem_cons_self
    have h2 := hs s List.mem_cons_self
    show (a * s + dotI ns ss).natAbs ≤ _
    have h3 : (a * s).natAbs ≤ 2 ^ 60 * 1000000 := by rw [Int.natAbs_mul]; exact Nat.mul_le_mul (by omega) h2
    have h4 := Int.natAbs_add_le (a * s) (dotI ns ss)
    rw [List.length_cons, Nat.succ_mul]
    omega
theorem wMod_abs {m : Int} {ns ss : List Int} (hm : 0 ≤ m ∧ m.natAbs < 2 ^ 60) (hl : ns.length ≤ 3) (hn : NumB ns) (hs : ∀ s ∈ ss, s.natAbs ≤ 1000000) : (wMod m (dotI ns ss)).natAbs < 2 ^ 100 := by
  have := dotI_abs ns ss hn hs
  unfold wMod
  split
  · refine Nat.lt_of_le_of_lt (Nat.le_trans this (Nat.mul_le_mul_right _ hl)) (by decide)
  · rename_i h
    have h1 := Int.emod_nonneg (dotI ns ss) h
    have h2 := Int.emod_lt_of_pos (dotI ns ss) (show 0 < m by omega)
    omega
theorem o_reprI {i : Int} (h : i.natAbs < 2 ^ 100) : dReprC [.int i] = .ok (.str (PyData.shown (.int i))) := by
  show (if i.natAbs.log2 < 1920 then R.ok (PyData.str (PyData.shown (.int i))) else .stuck) = _
  refine if_pos ?_
  by_cases z : i.natAbs = 0
  · rw [z]; decide
  · rw [Nat.log2_lt z]
    exact Nat.lt_trans h (Nat.pow_lt_pow_right (by decide) (by decide))
theorem sumsI_abs {n : Nat} {w : List Nat} {s : Int} (hs : s ∈ sumsI n w) : s ≤ w.length ∧ -(w.length : Int) ≤ s := by
  obtain ⟨k, hk, e⟩ := sumsI_mem hs; have := cntK_abs w k; omega
theorem redS_sub : ∀ (cs st : List Nat) (c : Nat), c ∈ redS st cs → c ∈ st ∨ c ∈ cs
  | [], st, c, h => .inl h
  | x :: cs, st, c, h => by
    rw [redS_cons] at h
    rcases redS_sub cs _ c h with h | h
    · cases st with
      | nil => exact .inr (List.mem_cons.mpr (.inl (List.mem_singleton.mp h)))
      | cons t s =>
        by_cases e : t = inv x
        · rw [rstep_cut e] at h; exact .inl (List.mem_cons_of_mem _ h)
        · rw [rstep_add e] at h
          rcases List.mem_cons.mp h with h | h
          · exact .inr (List.mem_cons.mpr (.inl h))
          · exact .inl h
    · exact .inr (List.mem_cons_of_mem _ h)
theorem red_sub {w : List Nat} {c : Nat} (h : c ∈ red w) : c ∈ w := (redS_sub w [] c (List.mem_reverse.mp h)).elim (fun h => nomatch h) id
theorem okw_off {g : Int} {w : List Nat} {c : Nat} (h : c ∉ L6) : okw g (w ++ [c]) = false := by
  cases q : okw g (w ++ [c]) with
  | false => rfl
  | true => exact absurd (lt_sub (okw_iff.mp q c (List.mem_append_right _ List.mem_cons_self))) h
theorem lc_ex {i : Nat} {m : ME} {ρ : En} {L : List Nat} : ∀ {us : List Int}, (∀ v ∈ us, ∃ x ∈ L, m (ρ.set i (some (.sh (.int v)))) = .ok (one x)) → ∃ w : List Nat, w.length = us.length ∧ (∀ x ∈ w, x ∈ L) ∧ lcLoop (gN i) mYes m ρ (us.map PyData.int) = .ok (w.map one')
  | [], _ => ⟨[], rfl, (fun _ h => nomatch h), rfl⟩
  | v :: us, h => by
    obtain ⟨w, w1, w2, w3⟩ := lc_ex (us := us) fun y hy => h y (List.mem_cons_of_mem _ hy)
    obtain ⟨x, x1, x2⟩ := h v List.mem_cons_self
    refine ⟨x :: w, by rw [List.length_cons, List.length_cons, w1], fun y hy => (List.mem_cons.mp hy).elim (fun e => e ▸ x1) (w2 y), ?_⟩
    rw [List.map_cons, lc_cons, w3, x2]
    rfl
theorem pick_lt {g v : Int} (h1 : 1 ≤ g) (h2 : g ≤ 3) (hv : 0 ≤ v) : ∃ x ∈ lt g, dIdx (.str (S L6)) (.int (v % (2 * g))) = .ok (one x) := by
  have q0 : 0 ≤ v % (2 * g) := Int.emod_nonneg _ (by omega)
  have q1 : v % (2 * g) < 2 * g := Int.emod_lt_of_pos _ (by omega)
  generalize v % (2 * g) = z at q0 q1
  obtain ⟨j, rfl⟩ : ∃ j : Nat, z = (j : Int) := ⟨z.toNat, by omega⟩
  exact ⟨_, o_lt6 h1 h2 q1⟩
theorem cut_nat {vs : List Int} {a b : Nat} (h : b ≤ vs.length) : cutG (vs.map PyData.int) (some (a : Int)) (some (b : Int)) = ((vs.take b).drop a).map PyData.int := by
  unfold cutG
  rw [HT.sIx_nat, HT.sIx_nat, List.length_map, List.map_drop, List.map_take, Nat.min_eq_left h, List.drop_take]
  by_cases q : a ≤ vs.length
  · rw [Nat.min_eq_left q]
  · rw [Nat.min_eq_right (by omega), show b - vs.length = 0 by omega, show b - a = 0 by omega, List.take_zero, List.take_zero]
theorem dot_sum {ns ss : List Int} (hn : ns.length ≤ 3) (hl : ss.length = ns.length) : dSum [.list ((List.range ss.length).map fun k => PyData.int (ns.getD k 0 * ss.getD k 0))] = .ok (.int (dotI ns ss)) := by
  have := o_sumI (l := (List.range ss.length).map fun k => ns.getD k 0 * ss.getD k 0)
  rw [List.map_map] at this
  refine Eq.trans this ?_
  congr 2
  match ns, ss, hn, hl with
  | [], [], _, _ => rfl
  | [a], [b], _, _ => show ([a * b] : List Int).sum = a * b + 0; simp
  | [a, a2], [b, b2], _, _ => show ([a * b, a2 * b2] : List Int).sum = a * b + (a2 * b2 + 0); simp
  | [a, a2, a3], [b, b2, b3], _, _ => show ([a * b, a2 * b2, a3 * b3] : List Int).sum = a * b + (a2 * b2 + (a3 * b3 + 0)); simp
  | _ :: _ :: _ :: _ :: _, _, h, _ => simp at h
theorem ix_int {l : List Int} {k : Nat} (hk : k < l.length) : dIdx (.list (l.map PyData.int)) (.int (k : Int)) = .ok (.int (l.getD k 0)) := o_ixL (by rw [List.getElem?_map, List.getElem?_eq_getElem hk, List.getD_eq_getElem?_getD, List.getElem?_eq_getElem hk]; rfl)
theorem ixT_int {l : List Int} {k : Nat} (hk : k < l.length) : dIdx (.tuple (l.map PyData.int)) (.int (k : Int)) = .ok (.int (l.getD k 0)) := o_ixT (by rw [List.getElem?_map, List.getElem?_eq_getElem hk, List.getD_eq_getElem?_getD, List.getElem?_eq_getElem hk]; rfl)
theorem getD_in {l : List Int} {k : Nat} (hk : k < l.length) : l.getD k 0 ∈ l := by rw [List.getD_eq_getElem?_getD, List.getElem?_eq_getElem hk]; exact List.getElem_mem hk
theorem wMod_zero {m t : Int} : (wMod m t = 0) = if m = 0 then t = 0 else t % m = 0 := by unfold wMod; split <;> rfl
theorem wgt_nil (ns : List Int) : wgt ns [] = 0 := by
  have := wgt_app ns [] []
  rw [List.append_nil] at this
  omega
theorem wgt_invw {ns : List Int} (hn : ns.length ≤ 3) {w : List Nat} (h : Wd w) : wgt ns (invw w) = - wgt ns w := by
  have h1 := wgt_app ns w (invw w)
  have h2 : wgt ns (w ++ invw w) = wgt ns (red (w ++ invw w)) := by
    unfold wgt
    rw [sumsI_red hn fun c hc => (List.mem_append.mp hc).elim (h c) (invw_wd h c)]
  rw [red_invw h, wgt_nil] at h2
  omega
theorem wMod_add {m t p : Int} (h : wMod m p = 0) : wMod m (t + p) = wMod m t := by
  rw [wMod_zero] at h
  unfold wMod
  by_cases z : m = 0
  · rw [if_pos z] at h ⊢
    rw [if_pos z, h, Int.add_zero]
  · rw [if_neg z] at h ⊢
    obtain ⟨q, rfl⟩ := Int.dvd_of_emod_eq_zero h
    rw [if_neg z, Int.add_mul_emod_self_left]
theorem wMod_neg {m p : Int} (h : wMod m p = 0) : wMod m (-p) = 0 := by
  rw [wMod_zero] at h ⊢
  split at h
  · rename_i z; rw [if_pos z, h]; rfl
  · rename_i z
    rw [if_neg z]
    exact Int.emod_eq_zero_of_dvd (Int.dvd_neg.mpr (Int.dvd_of_emod_eq_zero h))
theorem wgt_put (ns : List Int) (w p : List Nat) (i : Nat) : wgt ns (w.take i ++ p ++ w.drop i) = wgt ns w + wgt ns p := by
  have e := wgt_app ns (w.take i) (w.drop i)
  rw [List.take_append_drop] at e
  rw [wgt_app, wgt_app, e]
  omega
/-- the weights of all that fits are the same -/
def WgtSame (g : Nat) (rs : List (List Nat)) (w v : List Nat) : Prop := ∀ (m : Int) (ns : List Int), ns.length = g → (∀ r ∈ rs, wMod m (wgt ns r) = 0) → wMod m (wgt ns v) = wMod m (wgt ns w)
theorem WgtSame.put {g : Nat} {rs : List (List Nat)} {w v p : List Nat} {i : Nat} (h : WgtSame g rs w v) (hp : WgtSame g rs [] p) : WgtSame g rs w (v.take i ++ p ++ v.drop i) := fun m ns hn hr => by
  have := hp m ns hn hr
  rw [wgt_nil] at this
  rw [wgt_put, wMod_add (this.trans (by unfold wMod; split <;> simp)), h m ns hn hr]
theorem WgtSame.r {g : Nat} {rs : List (List Nat)} {r : List Nat} (h : r ∈ rs) : WgtSame g rs [] r := fun m ns _ hr => by
  rw [hr r h, wgt_nil]; unfold wMod; split <;> simp
theorem WgtSame.ri {g : Nat} (g3 : g ≤ 3) {rs : List (List Nat)} {r : List Nat} (h : r ∈ rs) (hw : Wd r) : WgtSame g rs [] (invw r) := fun m ns hn hr => by
  rw [wgt_invw (by omega) hw, wgt_nil, wMod_neg (hr r h)]; unfold wMod; split <;> simp
theorem WgtSame.pair {g : Nat} (g3 : g ≤ 3) {rs : List (List Nat)} {c : Nat} (h : c ∈ L6) : WgtSame g rs [] ([c] ++ invw [c]) := fun m ns hn hr => by
  rw [wgt_app, wgt_invw (by omega) (fun x hx => by rw [List.mem_singleton.mp hx]; exact h), wgt_nil]
  congr 1
  omega

end Law

end
end
section
set_option Elab.async false
set_option linter.all false
set_option maxRecDepth 100000
set_option autoImplicit false
set_option maxHeartbeats 4000000
noncomputable section
namespace Law
open PySem PySem.Spec PyProof.Rows L2 DW
open SX (S S_tl S_len S_cat)
def k_tab : List (Str × List (Str × Bool)) := [("NotWeights", [("BadNumber", false), ("NotPresentation", false), ("NotWeights", true), ("NotWord", false)]), ("NotPresentation", [("BadNumber", false), ("NotPresentation", true), ("NotWeights", false), ("NotWord", false)])]
def k_sub (x n : Str) : Option Bool := ((k_tab.lookup x).getD []).lookup n
def k_itab : List (Str × List (Str × Bool)) := []
def k_isx (x n : Str) : Option Bool := ((k_itab.lookup x).getD []).lookup n
def lb__law_values_1 : MS := (sIf (mT (m2 dGe (mVarP 4) (m2 dPow (mC (.int 10)) (mC (.int 12))))) (sCons (sApp 3 (m2 dMod (mF dInt1 (aCons (mVarP 4) aNil)) (mVarP 2)))
  (sAsg (gN 4) (m2 dFdiv (mVarP 4) (mVarP 2)))) (sCons (sAsg (gN 6) (m2 dMod (m2 dAdd (m2 dAdd (m2 dMul (m2 dMod (mF dInt1 (aCons (mVarP 0) aNil)) (mC (.int 2147483647))) (mC (.int 48271))) (m2 dMul (mVar 5) (mC (.int 69621)))) (mC (.int 7))) (mC (.int 2147483647))))
  (sApp 3 (m2 dMod (m2 dMod (m2 dMul (mVar 6) (mC (.int 16807))) (mC (.int 2147483647))) (mVarP 2)))))
def b__law_values : MS := (sCons (sOwn 3 (aLst aNil))
  (sCons (sAsg (gN 4) (mVar 0))
  (sCons (sFor (iRange1 (aCons (mVarP 1) aNil)) (gN 5) lb__law_values_1)
  (sFrz 3 (sRet (mVar 3))))))
def m__law_values : List D → R D := runDef 7 b__law_values
def ce__law_presentation_1 : ME := (m2 dIdx (mC (.str "aAbBcC")) (m2 dMod (mVarP 7) (m2 dMul (mC (.int 2)) (mVar 2))))
def lb__law_presentation_1 : MS := (sCons (sAsg (gN 6) (mSl (mVarP 3) (oSome (m2 dAdd (m2 dMul (mC (.int 8)) (mVar 5)) (mC (.int 1)))) (oSome (m2 dAdd (m2 dAdd (m2 dMul (mC (.int 8)) (mVar 5)) (mC (.int 2))) (m2 dMod (m2 dIdx (mVarP 3) (m2 dMul (mC (.int 8)) (mVar 5))) (mC (.int 6)))))))
  (sApp 4 (m1 dJoin0 (mN (mLc [7] (iSeq (mVar 6)) (gN 7) mYes ce__law_presentation_1)))))
def b__law_presentation : MS := (sCons (sAsg (gN 3) (mCall 3 m__law_values (aCons (mVar 0) (aCons (mC (.int 40)) (aCons (mC (.int 997)) aNil)))))
  (sCons (sOwn 4 (aLst aNil))
  (sCons (sFor (iRange1 (aCons (m2 dMod (mVarP 1) (mC (.int 5))) aNil)) (gN 5) lb__law_presentation_1)
  (sFrz 4 (sRet (mTup (aCons (mVar 2) (aCons (m1 dTupOf (mVar 4)) aNil))))))))
def m__law_presentation : List D → R D := runDef 8 b__law_presentation
def ce__law_sums_1 : ME := (m2 dSub (mM1 dCountS (mVarP 1) (m2 dIdx (mC (.str "abc")) (mVarP 2))) (mM1 dCountS (mVarP 1) (m2 dIdx (mC (.str "aAbBcC")) (m2 dAdd (m2 dMul (mC (.int 2)) (mVar 2)) (mC (.int 1))))))
def b__law_sums : MS := (sRet (mN (mLc [2] (iRange1 (aCons (mVarP 0) aNil)) (gN 2) mYes ce__law_sums_1)))
def m__law_sums : List D → R D := runDef 3 b__law_sums
def ce__law_holds_1 : ME := (m2 dMul (m2 dIdx (m2 dIdx (mVarP 1) (mC (.int 1))) (mVarP 5)) (m2 dIdx (mVarP 3) (mVarP 5)))
def lb__law_holds_1 : MS := (sCons (sAsg (gN 3) (mCall 2 m__law_sums (aCons (m2 dIdx (mVarP 0) (mC (.int 0))) (aCons (mVar 2) aNil))))
  (sCons (sAsg (gN 4) (mF dSum (aCons (mN (mLc [5] (iRange1 (aCons (m2 dIdx (mVarP 0) (mC (.int 0))) aNil)) (gN 5) mYes ce__law_holds_1)) aNil)))
  (sIf (mOrT (mAndT (mT (m2 dEq (m2 dIdx (mVarP 1) (mC (.int 0))) (mC (.int 0)))) (mT (m2 dNe (mVarP 4) (mC (.int 0))))) (mAndT (mT (m2 dGt (m2 dIdx (mVarP 1) (mC (.int 0))) (mC (.int 0)))) (mT (m2 dNe (m2 dMod (mF dInt1 (aCons (mVarP 4) aNil)) (m2 dIdx (mVarP 1) (mC (.int 0)))) (mC (.int 0)))))) (sRet (mC (.bool false))) sNil)))
def b__law_holds : MS := (sCons (sFor (iSeq (m2 dIdx (mVarP 0) (mC (.int 1)))) (gN 2) lb__law_holds_1)
  (sRet (mC (.bool true))))
def m__law_holds : List D → R D := runDef 6 b__law_holds
def ce__law_word_1 : ME := (m2 dIdx (mC (.str "aAbBcC")) (m2 dMod (mVarP 4) (m2 dMul (mC (.int 2)) (mVar 1))))
def b__law_word : MS := (sCons (sAsg (gN 3) (mCall 3 m__law_values (aCons (mVar 0) (aCons (m2 dAdd (mVar 2) (mC (.int 1))) (aCons (mC (.int 997)) aNil)))))
  (sRet (m1 dJoin0 (mN (mLc [4] (iSeq (mSl (mVarP 3) (oSome (mC (.int 1))) (oSome (m2 dAdd (mC (.int 1)) (m2 dMod (m2 dIdx (mVarP 3) (mC (.int 0))) (m2 dAdd (mVar 2) (mC (.int 1)))))))) (gN 4) mYes ce__law_word_1)))))
def m__law_word : List D → R D := runDef 5 b__law_word
def ce__law_inverse_1 : ME := (m2 dIdx (mC (.str "AaBbCc")) (mM1 dIndexS (mC (.str "aAbBcC")) (mVarP 1)))
def b__law_inverse : MS := (sRet (m1 dJoin0 (mN (mLc [1] (iSeq (m1 dRev (mVar 0))) (gN 1) mYes ce__law_inverse_1))))
def m__law_inverse : List D → R D := runDef 2 b__law_inverse
def lb__law_moved_1 : MS := (sCons (sAsg (gN 6) (m2 dMod (m2 dIdx (mVarP 4) (m2 dAdd (m2 dMul (mC (.int 3)) (mVar 5)) (mC (.int 1)))) (mC (.int 4))))
  (sCons (sAsg (gN 7) (m2 dMod (m2 dIdx (mVarP 4) (m2 dAdd (m2 dMul (mC (.int 3)) (mVar 5)) (mC (.int 2)))) (m2 dAdd (mF dLen (aCons (mVarP 0) aNil)) (mC (.int 1)))))
  (sCons (sAsg (gN 8) (m2 dIdx (mC (.str "aAbBcC")) (m2 dMod (m2 dIdx (mVarP 4) (m2 dAdd (m2 dMul (mC (.int 3)) (mVar 5)) (mC (.int 3)))) (m2 dMul (mC (.int 2)) (mVar 2)))))
  (sCons (sAsg (gN 9) (m2 dAdd (mVar 8) (mCall 1 m__law_inverse (aCons (mVar 8) aNil))))
  (sCons (sIf (mAndT (mT (m2 dGt (mVarP 6) (mC (.int 0)))) (mT (m2 dGt (mF dLen (aCons (m2 dIdx (mVarP 1) (mC (.int 1))) aNil)) (mC (.int 0))))) (sCons (sAsg (gN 9) (m2 dIdx (m2 dIdx (mVarP 1) (mC (.int 1))) (m2 dMod (m2 dIdx (mVarP 4) (m2 dAdd (m2 dMul (mC (.int 3)) (mVar 5)) (mC (.int 3)))) (mF dLen (aCons (m2 dIdx (mVarP 1) (mC (.int 1))) aNil)))))
  (sIf (mT (m2 dEq (mVarP 6) (mC (.int 1)))) (sAsg (gN 9) (mCall 1 m__law_inverse (aCons (mVar 9) aNil))) sNil)) sNil)
  (sIf (mT (m2 dLe (m2 dAdd (mF dLen (aCons (mVarP 0) aNil)) (mF dLen (aCons (mVarP 9) aNil))) (mC (.int 56)))) (sAsg (gN 0) (m2 dAdd (m2 dAdd (mSl (mVarP 0) oNone (oSome (mVarP 7))) (mVar 9)) (mSl (mVarP 0) (oSome (mVarP 7)) oNone))) sNil))))))
def b__law_moved : MS := (sCons (sAsg (gN 4) (mCall 3 m__law_values (aCons (mVar 3) (aCons (mC (.int 19)) (aCons (mC (.int 997)) aNil)))))
  (sCons (sFor (iRange1 (aCons (m2 dMod (m2 dIdx (mVarP 4) (mC (.int 0))) (mC (.int 7))) aNil)) (gN 5) lb__law_moved_1)
  (sRet (mVar 0))))
def m__law_moved : List D → R D := runDef 10 b__law_moved
def b__law_cell : MS := (sCons (sIf (mT (m2 dLt (mVarP 1) (mF dLen (aCons (mVarP 0) aNil)))) (sRet (m2 dIdx (mVarP 0) (mVarP 1))) sNil)
  (sRet (mC (.int 0))))
def m__law_cell : List D → R D := runDef 2 b__law_cell
def b_letters_of : MS := (sCons (sIf (mOrT (mT (m2 dLt (mVarP 0) (mC (.int 1)))) (mT (m2 dGt (mVarP 0) (mC (.int 3))))) (sRaise "BadNumber") sNil)
  (sRet (mSl (mC (.str "aAbBcC")) oNone (oSome (m2 dMul (mC (.int 2)) (mVar 0))))))
def m_letters_of : List D → R D := runDef 1 b_letters_of
def ce_is_word_1 : ME := (m2 dInX (mVarP 3) (mVarP 2))
def b_is_word : MS := (sCons (sAsg (gN 2) (mCall 1 m_letters_of (aCons (mVar 0) aNil)))
  (sRet (mF dAll (aCons (mN (mLc [3] (iSeq (mVar 1)) (gN 3) mYes ce_is_word_1)) aNil))))
def m_is_word : List D → R D := runDef 4 b_is_word
def b__is_relator : MS := (sRet (mAnd (mChain dLe dLe (mC (.int 1)) (mF dLen (aCons (mVarP 1) aNil)) (mC (.int 20))) (mCall 2 m_is_word (aCons (mVar 0) (aCons (mVar 1) aNil)))))
def m__is_relator : List D → R D := runDef 2 b__is_relator
def ce_is_presentation_1 : ME := (mCall 2 m__is_relator (aCons (mVar 1) (aCons (mVar 3) aNil)))
def b_is_presentation : MS := (sCons (sAsg (gT 2 (gsC (gN 1) (gsC (gN 2) gsN))) (mVar 0))
  (sCons (sIf (mOrT (mT (m2 dLt (mVarP 1) (mC (.int 1)))) (mOrT (mT (m2 dGt (mVarP 1) (mC (.int 3)))) (mT (m2 dGt (mF dLen (aCons (mVarP 2) aNil)) (mC (.int 8)))))) (sRet (mC (.bool false))) sNil)
  (sRet (mF dAll (aCons (mN (mLc [3] (iSeq (mVar 2)) (gN 3) mYes ce_is_presentation_1)) aNil)))))
def m_is_presentation : List D → R D := runDef 4 b_is_presentation
def b_check_presentation : MS := (sIf (mNotT (mTru (mCall 1 m_is_presentation (aCons (mVar 0) aNil)))) (sRaise "NotPresentation") sNil)
def m_check_presentation : List D → R D := runDef 1 b_check_presentation
def b__check_weights : MS := (sCons (sAsg (gT 2 (gsC (gN 1) (gsC (gN 2) gsN))) (mVar 0))
  (sCons (sIf (mOrT (mT (m2 dLt (mVarP 1) (mC (.int 0)))) (mT (m2 dEq (mVarP 1) (mC (.int 1))))) (sRaise "NotWeights") sNil)
  (sIf (mOrT (mT (m2 dLt (mF dLen (aCons (mVarP 2) aNil)) (mC (.int 1)))) (mT (m2 dGt (mF dLen (aCons (mVarP 2) aNil)) (mC (.int 3))))) (sRaise "NotWeights") sNil)))
def m__check_weights : List D → R D := runDef 3 b__check_weights
def ce__letter_sums_1 : ME := (m2 dSub (mM1 dCountS (mVarP 1) (m2 dIdx (mVarP 2) (m2 dMul (mC (.int 2)) (mVar 3)))) (mM1 dCountS (mVarP 1) (m2 dIdx (mVarP 2) (m2 dAdd (m2 dMul (mC (.int 2)) (mVar 3)) (mC (.int 1))))))
def b__letter_sums : MS := (sCons (sAsg (gN 2) (mCall 1 m_letters_of (aCons (mVar 0) aNil)))
  (sRet (mN (mLc [3] (iRange1 (aCons (mVarP 0) aNil)) (gN 3) mYes ce__letter_sums_1))))
def m__letter_sums : List D → R D := runDef 4 b__letter_sums
def ce__weight_of_text_1 : ME := (m2 dMul (mVar 6) (mVar 7))
def b__weight_of_text : MS := (sCons (sAsg (gT 2 (gsC (gN 2) (gsC (gN 3) gsN))) (mVar 0))
  (sCons (sAsg (gN 4) (mCall 2 m__letter_sums (aCons (mF dLen (aCons (mVarP 3) aNil)) (aCons (mVar 1) aNil))))
  (sCons (sAsg (gN 5) (mF dSum (aCons (mN (mLc [6, 7] (iZipM (aCons (mVar 3) (aCons (mVar 4) aNil))) (gT 2 (gsC (gN 6) (gsC (gN 7) gsN))) mYes ce__weight_of_text_1)) aNil)))
  (sCons (sIf (mT (m2 dEq (mVarP 2) (mC (.int 0)))) (sRet (mVar 5)) sNil)
  (sRet (m2 dMod (mVarP 5) (mVarP 2)))))))
def m__weight_of_text : List D → R D := runDef 8 b__weight_of_text
def ce_fits_1 : ME := (m2 dEq (mCall 2 m__weight_of_text (aCons (mVar 1) (aCons (mVar 2) aNil))) (mC (.int 0)))
def b_fits : MS := (sCons (sExpr (mCall 1 m_check_presentation (aCons (mVar 0) aNil)))
  (sCons (sExpr (mCall 1 m__check_weights (aCons (mVar 1) aNil)))
  (sCons (sIf (mT (m2 dNe (mF dLen (aCons (m2 dIdx (mVarP 1) (mC (.int 1))) aNil)) (m2 dIdx (mVarP 0) (mC (.int 0))))) (sRaise "NotWeights") sNil)
  (sRet (mF dAll (aCons (mN (mLc [2] (iSeq (m2 dIdx (mVarP 0) (mC (.int 1)))) (gN 2) mYes ce_fits_1)) aNil))))))
def m_fits : List D → R D := runDef 3 b_fits
def b__law_told : MS := (sTryN [("NotPresentation", k_sub "NotPresentation", (sRet (mC (.str "presentation")))), ("NotWeights", k_sub "NotWeights", (sRet (mC (.str "weights"))))] (sRet (mCall 2 m_fits (aCons (mVar 0) (aCons (mVar 1) aNil)))))
def m__law_told : List D → R D := runDef 2 b__law_told
def b_check_word : MS := (sCons (sIf (mNotT (mTru (mCall 2 m_is_word (aCons (mVar 0) (aCons (mVar 1) aNil))))) (sRaise "NotWord") sNil)
  (sIf (mT (m2 dGt (mF dLen (aCons (mVarP 1) aNil)) (mC (.int 60)))) (sRaise "NotWord") sNil))
def m_check_word : List D → R D := runDef 2 b_check_word
def b_weight_of : MS := (sCons (sExpr (mCall 1 m__check_weights (aCons (mVar 0) aNil)))
  (sCons (sExpr (mCall 2 m_check_word (aCons (mF dLen (aCons (m2 dIdx (mVarP 0) (mC (.int 1))) aNil)) (aCons (mVar 1) aNil))))
  (sRet (mCall 2 m__weight_of_text (aCons (mVar 0) (aCons (mVar 1) aNil))))))
def m_weight_of : List D → R D := runDef 2 b_weight_of
def ce_law_1 : ME := (m2 dSub (mVarP 10) (mC (.int 3)))
def ce_law_2 : ME := (m2 dSub (mC (.int 0)) (m2 dMul (mVar 11) (mF dInt1 (aCons (m2 dGt (mVarP 11) (mC (.int 1))) aNil))))
def st_law_1 : MS := (sAsg (gN 1) (m2 dAdd (mC (.int 1)) (m2 dMod (mCall 2 m__law_cell (aCons (mVar 0) (aCons (mC (.int 0)) aNil))) (mC (.int 3)))))
def st_law_2 : MS := (sAsg (gN 2) (mCall 3 m__law_presentation (aCons (mCall 2 m__law_cell (aCons (mVar 0) (aCons (mC (.int 1)) aNil))) (aCons (mCall 2 m__law_cell (aCons (mVar 0) (aCons (mC (.int 2)) aNil))) (aCons (mVar 1) aNil)))))
def st_law_3 : MS := (sAsg (gN 3) (m2 dMod (mCall 2 m__law_cell (aCons (mVar 0) (aCons (mC (.int 3)) aNil))) (mC (.int 7))))
def st_law_4 : MS := (sIf (mT (m2 dEq (mVarP 3) (mC (.int 1)))) (sAsg (gN 3) (mC (.int 7))) sNil)
def st_law_5 : MS := (sAsg (gN 4) (m1 dTupOf (mN (mLc [10] (iSeq (mCall 3 m__law_values (aCons (mCall 2 m__law_cell (aCons (mVar 0) (aCons (mC (.int 4)) aNil))) (aCons (mVar 1) (aCons (mC (.int 7)) aNil))))) (gN 10) mYes ce_law_1))))
def st_law_6 : MS := (sIf (mT (m2 dEq (m2 dMod (m2 dFdiv (mCall 2 m__law_cell (aCons (mVar 0) (aCons (mC (.int 3)) aNil))) (mC (.int 7))) (mC (.int 3))) (mC (.int 0)))) (sAsg (gN 4) (m1 dTupOf (mN (mLc [11] (iSeq (mVar 4)) (gN 11) mYes ce_law_2)))) sNil)
def st_law_7 : MS := (sAsg (gN 5) (mTup (aCons (mVar 3) (aCons (mVar 4) aNil))))
def st_law_8 : MS := (sAsg (gN 6) (mCall 2 m__law_holds (aCons (mVar 2) (aCons (mVar 5) aNil))))
def st_law_9 : MS := (sIf (mT (m2 dNe (mF dRepr (aCons (mCall 2 m__law_told (aCons (mVar 2) (aCons (mVar 5) aNil))) aNil)) (mF dRepr (aCons (mVarP 6) aNil)))) (sRet (mC (.bool false))) sNil)
def st_law_10 : MS := (sAsg (gN 7) (mCall 3 m__law_word (aCons (mCall 2 m__law_cell (aCons (mVar 0) (aCons (mC (.int 5)) aNil))) (aCons (mVar 1) (aCons (mC (.int 8)) aNil)))))
def st_law_11 : MS := (sAsg (gN 8) (mCall 4 m__law_moved (aCons (mVar 7) (aCons (mVar 2) (aCons (mVar 1) (aCons (mCall 2 m__law_cell (aCons (mVar 0) (aCons (mC (.int 6)) aNil))) aNil))))))
def st_law_12 : MS := (sIf (mAndT (mTru (mVarP 6)) (mT (m2 dNe (mCall 2 m_weight_of (aCons (mVar 5) (aCons (mVar 7) aNil))) (mCall 2 m_weight_of (aCons (mVar 5) (aCons (mVar 8) aNil)))))) (sRet (mC (.bool false))) sNil)
def st_law_13 : MS := (sAsg (gN 9) (m2 dIdx (mLst (aCons (mTup (aCons (mC (.int 1)) (aCons (mVar 4) aNil))) (aCons (mTup (aCons (mC (.int 0)) (aCons (m2 dAdd (mVar 4) (mTup (aCons (mC (.int 1)) aNil))) aNil))) (aCons (mTup (aCons (mC (.int 2)) (aCons (mSl (mVarP 4) (oSome (mC (.int 1))) oNone) aNil))) (aCons (mTup (aCons (m1 dNeg (mC (.int 3))) (aCons (mVar 4) aNil))) aNil))))) (m2 dMod (mCall 2 m__law_cell (aCons (mVar 0) (aCons (mC (.int 7)) aNil))) (mC (.int 4)))))
def st_law_14 : MS := (sIf (mOrT (mT (m2 dNe (mCall 2 m__law_told (aCons (mTup (aCons (mVar 1) (aCons (mTup (aCons (mC (.str "")) aNil)) aNil))) (aCons (mVar 9) aNil))) (mC (.str "presentation")))) (mT (m2 dNe (mCall 2 m__law_told (aCons (mTup (aCons (mC (.int 0)) (aCons (mTup aNil) aNil))) (aCons (mVar 9) aNil))) (mC (.str "presentation"))))) (sRet (mC (.bool false))) sNil)
def st_law_15 : MS := (sRet (m2 dEq (mCall 2 m__law_told (aCons (mVar 2) (aCons (mVar 9) aNil))) (mC (.str "weights"))))
def b_law : MS := (sCons st_law_1
  (sCons st_law_2
  (sCons st_law_3
  (sCons st_law_4
  (sCons st_law_5
  (sCons st_law_6
  (sCons st_law_7
  (sCons st_law_8
  (sCons st_law_9
  (sCons st_law_10
  (sCons st_law_11
  (sCons st_law_12
  (sCons st_law_13
  (sCons st_law_14
  st_law_15))))))))))))))
def m_law : List D → R D := runDef 12 b_law
theorem lit_0 : Str.ofString "" = S [] := by decide +kernel
theorem lit_1 : Str.ofString "aAbBcC" = S L6 := by decide +kernel
theorem lit_2 : Str.ofString "abc" = S [97, 98, 99] := by decide +kernel
theorem lit_3 : Str.ofString "AaBbCc" = S l6 := by decide +kernel
theorem lit_4 : Str.ofString "there are 1, 2 or 3 generators" = S [116, 104, 101, 114, 101, 32, 97, 114, 101, 32, 49, 44, 32, 50, 32, 111, 114, 32, 51, 32, 103, 101, 110, 101, 114, 97, 116, 111, 114, 115] := by decide +kernel
theorem lit_5 : Str.ofString "not a presentation" = S [110, 111, 116, 32, 97, 32, 112, 114, 101, 115, 101, 110, 116, 97, 116, 105, 111, 110] := by decide +kernel
theorem lit_6 : Str.ofString "a modulus is 0, or an integer from 2 on" = S [97, 32, 109, 111, 100, 117, 108, 117, 115, 32, 105, 115, 32, 48, 44, 32, 111, 114, 32, 97, 110, 32, 105, 110, 116, 101, 103, 101, 114, 32, 102, 114, 111, 109, 32, 50, 32, 111, 110] := by decide +kernel
theorem lit_7 : Str.ofString "there are weights for 1, 2 or 3 generators" = S [116, 104, 101, 114, 101, 32, 97, 114, 101, 32, 119, 101, 105, 103, 104, 116, 115, 32, 102, 111, 114, 32, 49, 44, 32, 50, 32, 111, 114, 32, 51, 32, 103, 101, 110, 101, 114, 97, 116, 111, 114, 115] := by decide +kernel
theorem lit_8 : Str.ofString "each generator has one number" = S [101, 97, 99, 104, 32, 103, 101, 110, 101, 114, 97, 116, 111, 114, 32, 104, 97, 115, 32, 111, 110, 101, 32, 110, 117, 109, 98, 101, 114] := by decide +kernel
theorem lit_9 : Str.ofString "presentation" = S [112, 114, 101, 115, 101, 110, 116, 97, 116, 105, 111, 110] := by decide +kernel
theorem lit_10 : Str.ofString "weights" = S [119, 101, 105, 103, 104, 116, 115] := by decide +kernel
theorem lit_11 : Str.ofString "not a word over the letters of the generators" = S [110, 111, 116, 32, 97, 32, 119, 111, 114, 100, 32, 111, 118, 101, 114, 32, 116, 104, 101, 32, 108, 101, 116, 116, 101, 114, 115, 32, 111, 102, 32, 116, 104, 101, 32, 103, 101, 110, 101, 114, 97, 116, 111, 114, 115] := by decide +kernel
theorem lit_12 : Str.ofString "a word has at most 60 letters here" = S [97, 32, 119, 111, 114, 100, 32, 104, 97, 115, 32, 97, 116, 32, 109, 111, 115, 116, 32, 54, 48, 32, 108, 101, 116, 116, 101, 114, 115, 32, 104, 101, 114, 101] := by decide +kernel
theorem cl_0 : k_sub "NotWeights" "BadNumber" = some false := by decide +kernel
theorem cl_1 : k_sub "NotWeights" "NotPresentation" = some false := by decide +kernel
theorem cl_2 : k_sub "NotWeights" "NotWeights" = some true := by decide +kernel
theorem cl_3 : k_sub "NotWeights" "NotWord" = some false := by decide +kernel
theorem cl_4 : k_sub "NotPresentation" "BadNumber" = some false := by decide +kernel
theorem cl_5 : k_sub "NotPresentation" "NotPresentation" = some true := by decide +kernel
theorem cl_6 : k_sub "NotPresentation" "NotWeights" = some false := by decide +kernel
theorem cl_7 : k_sub "NotPresentation" "NotWord" = some false := by decide +kernel
end Law

end
end
section
set_option Elab.async false
set_option linter.all false
set_option maxRecDepth 100000
set_option autoImplicit false
set_option maxHeartbeats 4000000
noncomputable section
namespace Law
open PySem DW L2
open SX (S S_tl S_len S_cat)
theorem lp__law_values (c n s : Int) (hs : 0 < s) (hs2 : s < 1000000000) : ∀ (ks : List Int) (vs : List Int) (rest : Int) (o5 o6 : Option SD), (∀ k ∈ ks, 0 ≤ k ∧ k < 1000) → vs.length + ks.length ≤ 10000 → (∀ v ∈ vs, 0 ≤ v ∧ v < s) →
    ∃ (ws : List Int) (r : Int) (o5' o6' : Option SD), ws.length = vs.length + ks.length ∧ (∀ v ∈ ws, 0 ≤ v ∧ v < s) ∧
      mLoop (gN 5) lb__law_values_1 (ks.map PyData.int) [some (.sh (.int c)), some (.sh (.int n)), some (.sh (.int s)), some (.own (vs.map PyData.int)), some (.sh (.int rest)), o5, o6] =
        .nx [some (.sh (.int c)), some (.sh (.int n)), some (.sh (.int s)), some (.own (ws.map PyData.int)), some (.sh (.int r)), o5', o6']
  | [], vs, rest, o5, o6, _, _, hv => ⟨vs, rest, o5, o6, rfl, hv, rfl⟩
  | k :: ks, vs, rest, o5, o6, hk, hl, hv => by
    have hz := sizeLine_eq
    obtain ⟨k0, k1⟩ := hk k List.mem_cons_self
    rw [List.length_cons] at hl
    have more : ∀ (x : Int), (∀ v ∈ vs ++ [x % s], 0 ≤ v ∧ v < s) := fun x v h => by
      rcases List.mem_append.mp h with h | h
      · exact hv v h
      · rw [List.mem_singleton.mp h]
        exact ⟨Int.emod_nonneg _ (by omega), Int.emod_lt_of_pos _ hs⟩
    have step : ∃ (x r : Int) (o6' : Option SD), lb__law_values_1 [some (.sh (.int c)), some (.sh (.int n)), some (.sh (.int s)), some (.own (vs.map PyData.int)), some (.sh (.int rest)), some (.sh (.int k)), o6] =
        .nx [some (.sh (.int c)), some (.sh (.int n)), some (.sh (.int s)), some (.own ((vs ++ [x % s]).map PyData.int)), some (.sh (.int r)), some (.sh (.int k)), o6'] := by
      unfold lb__law_values_1
      have p10 : dPow (.int 10) (.int 12) = .ok (.int (10 ^ 12)) := o_pow (by decide)
      have app : ∀ x : Int, (vs ++ [x % s]).map PyData.int = vs.map PyData.int ++ [.int (x % s)] := fun x => by rw [List.map_append]; rfl
      by_cases h : (10 : Int) ^ 12 ≤ rest
      · refine ⟨rest, rest / s, o6, ?_⟩
        simp -implicitDefEqProofs only [e_sCons, e_sNil, e_sBreak, e_sCont, e_sRet, e_sRetN, e_sExpr, e_sIf, e_sAsg, e_sOwn, e_sFrz, e_sRaise, e_sFor, e_loop_nil, e_mC, e_m1, e_m2, e_mF, e_mCall, e_mM1, e_aNil, e_aCons, e_aLst, e_mTup, e_mLst, e_mN, e_mT, e_mTru, e_mAndT, e_mOrT, e_mNotT, e_mAnd, e_mOr, e_mNot, e_mIf, e_mChain, e_iSeq, e_iRange1, e_iRange2, e_oNone, e_oSome, e_mSl, e_mYes, e_mLc, e_gN, v0, vS, p0, p0o, pS, f0, f0s, f0n, fS, R.bind_ok, R.bind_err, R.bind_stuck, R.quiet_ok, R.sure_ok, R.sure_err, R.sure_stuck, O.of_ok, O.of_err, O.of_stuck, O.thn_nx, O.thn_rt, O.thn_bk, O.thn_ct, O.thn_err, O.thn_rto, O.lp_nx, O.lp_ct, O.lp_bk, O.lp_rt, O.lp_rto, O.lp_err, fin_nx, fin_rt, fin_err, asB_b, o_add, o_addI, o_sub, o_neg, o_lt, o_le, o_gt, o_ge, o_eqI, o_neI, o_eqS, o_neS, o_inS, o_lenL, o_lenT, o_int, o_itS, o_itL, o_itT, o_truL, o_truB, o_truI, List.set_cons_zero, List.set_cons_succ, List.length_cons, List.length_nil, if_true, if_false, Bool.not_true, Bool.not_false, Bool.false_eq_true, Option.isSome_some, Option.isSome_none, Nat.reduceAdd, Nat.zero_add, decide_true, decide_false, e_gT, e_gsC, e_gsN, e_callR0, e_callN, Nat.reduceEqDiff, lit_0, lit_1, lit_2, lit_3, lit_4, lit_5, lit_6, lit_7, lit_8, lit_9, lit_10, lit_11, lit_12, cl_0, cl_1, cl_2, cl_3, cl_4, cl_5, cl_6, cl_7, p10, decide_eq_true h]
        rw [e_app (ds := vs.map PyData.int) rfl]
        simp -implicitDefEqProofs only [e_sCons, e_sNil, e_sBreak, e_sCont, e_sRet, e_sRetN, e_sExpr, e_sIf, e_sAsg, e_sOwn, e_sFrz, e_sRaise, e_sFor, e_loop_nil, e_mC, e_m1, e_m2, e_mF, e_mCall, e_mM1, e_aNil, e_aCons, e_aLst, e_mTup, e_mLst, e_mN, e_mT, e_mTru, e_mAndT, e_mOrT, e_mNotT, e_mAnd, e_mOr, e_mNot, e_mIf, e_mChain, e_iSeq, e_iRange1, e_iRange2, e_oNone, e_oSome, e_mSl, e_mYes, e_mLc, e_gN, v0, vS, p0, p0o, pS, f0, f0s, f0n, fS, R.bind_ok, R.bind_err, R.bind_stuck, R.quiet_ok, R.sure_ok, R.sure_err, R.sure_stuck, O.of_ok, O.of_err, O.of_stuck, O.thn_nx, O.thn_rt, O.thn_bk, O.thn_ct, O.thn_err, O.thn_rto, O.lp_nx, O.lp_ct, O.lp_bk, O.lp_rt, O.lp_rto, O.lp_err, fin_nx, fin_rt, fin_err, asB_b, o_add, o_addI, o_sub, o_neg, o_lt, o_le, o_gt, o_ge, o_eqI, o_neI, o_eqS, o_neS, o_inS, o_lenL, o_lenT, o_int, o_itS, o_itL, o_itT, o_truL, o_truB, o_truI, List.set_cons_zero, List.set_cons_succ, List.length_cons, List.length_nil, if_true, if_false, Bool.not_true, Bool.not_false, Bool.false_eq_true, Option.isSome_some, Option.isSome_none, Nat.reduceAdd, Nat.zero_add, decide_true, decide_false, e_gT, e_gsC, e_gsN, e_callR0, e_callN, Nat.reduceEqDiff, lit_0, lit_1, lit_2, lit_3, lit_4, lit_5, lit_6, lit_7, lit_8, lit_9, lit_10, lit_11, lit_12, cl_0, cl_1, cl_2, cl_3, cl_4, cl_5, cl_6, cl_7, o_mod hs]
        rw [if_pos (by rw [List.length_map, hz]; omega)]
        simp -implicitDefEqProofs only [e_sCons, e_sNil, e_sBreak, e_sCont, e_sRet, e_sRetN, e_sExpr, e_sIf, e_sAsg, e_sOwn, e_sFrz, e_sRaise, e_sFor, e_loop_nil, e_mC, e_m1, e_m2, e_mF, e_mCall, e_mM1, e_aNil, e_aCons, e_aLst, e_mTup, e_mLst, e_mN, e_mT, e_mTru, e_mAndT, e_mOrT, e_mNotT, e_mAnd, e_mOr, e_mNot, e_mIf, e_mChain, e_iSeq, e_iRange1, e_iRange2, e_oNone, e_oSome, e_mSl, e_mYes, e_mLc, e_gN, v0, vS, p0, p0o, pS, f0, f0s, f0n, fS, R.bind_ok, R.bind_err, R.bind_stuck, R.quiet_ok, R.sure_ok, R.sure_err, R.sure_stuck, O.of_ok, O.of_err, O.of_stuck, O.thn_nx, O.thn_rt, O.thn_bk, O.thn_ct, O.thn_err, O.thn_rto, O.lp_nx, O.lp_ct, O.lp_bk, O.lp_rt, O.lp_rto, O.lp_err, fin_nx, fin_rt, fin_err, asB_b, o_add, o_addI, o_sub, o_neg, o_lt, o_le, o_gt, o_ge, o_eqI, o_neI, o_eqS, o_neS, o_inS, o_lenL, o_lenT, o_int, o_itS, o_itL, o_itT, o_truL, o_truB, o_truI, List.set_cons_zero, List.set_cons_succ, List.length_cons, List.length_nil, if_true, if_false, Bool.not_true, Bool.not_false, Bool.false_eq_true, Option.isSome_some, Option.isSome_none, Nat.reduceAdd, Nat.zero_add, decide_true, decide_false, e_gT, e_gsC, e_gsN, e_callR0, e_callN, Nat.reduceEqDiff, lit_0, lit_1, lit_2, lit_3, lit_4, lit_5, lit_6, lit_7, lit_8, lit_9, lit_10, lit_11, lit_12, cl_0, cl_1, cl_2, cl_3, cl_4, cl_5, cl_6, cl_7, o_fdiv ⟨hs, show s.natAbs.log2 < 9000 by have := log_small (a := s) (by omega); omega⟩, app]
      · have m1 : 0 ≤ c % 2147483647 ∧ c % 2147483647 < 2147483647 := ⟨Int.emod_nonneg _ (by decide), Int.emod_lt_of_pos _ (by decide)⟩
        have m2 : ∀ z : Int, 0 ≤ z % 2147483647 ∧ z % 2147483647 < 2147483647 := fun z => ⟨Int.emod_nonneg _ (by decide), Int.emod_lt_of_pos _ (by decide)⟩
        have m3 := m2 (c % 2147483647 * 48271 + k * 69621 + 7)
        refine ⟨(c % 2147483647 * 48271 + k * 69621 + 7) % 2147483647 * 16807 % 2147483647, rest, some (.sh (.int ((c % 2147483647 * 48271 + k * 69621 + 7) % 2147483647))), ?_⟩
        simp -implicitDefEqProofs only [e_sCons, e_sNil, e_sBreak, e_sCont, e_sRet, e_sRetN, e_sExpr, e_sIf, e_sAsg, e_sOwn, e_sFrz, e_sRaise, e_sFor, e_loop_nil, e_mC, e_m1, e_m2, e_mF, e_mCall, e_mM1, e_aNil, e_aCons, e_aLst, e_mTup, e_mLst, e_mN, e_mT, e_mTru, e_mAndT, e_mOrT, e_mNotT, e_mAnd, e_mOr, e_mNot, e_mIf, e_mChain, e_iSeq, e_iRange1, e_iRange2, e_oNone, e_oSome, e_mSl, e_mYes, e_mLc, e_gN, v0, vS, p0, p0o, pS, f0, f0s, f0n, fS, R.bind_ok, R.bind_err, R.bind_stuck, R.quiet_ok, R.sure_ok, R.sure_err, R.sure_stuck, O.of_ok, O.of_err, O.of_stuck, O.thn_nx, O.thn_rt, O.thn_bk, O.thn_ct, O.thn_err, O.thn_rto, O.lp_nx, O.lp_ct, O.lp_bk, O.lp_rt, O.lp_rto, O.lp_err, fin_nx, fin_rt, fin_err, asB_b, o_add, o_addI, o_sub, o_neg, o_lt, o_le, o_gt, o_ge, o_eqI, o_neI, o_eqS, o_neS, o_inS, o_lenL, o_lenT, o_int, o_itS, o_itL, o_itT, o_truL, o_truB, o_truI, List.set_cons_zero, List.set_cons_succ, List.length_cons, List.length_nil, if_true, if_false, Bool.not_true, Bool.not_false, Bool.false_eq_true, Option.isSome_some, Option.isSome_none, Nat.reduceAdd, Nat.zero_add, decide_true, decide_false, e_gT, e_gsC, e_gsN, e_callR0, e_callN, Nat.reduceEqDiff, lit_0, lit_1, lit_2, lit_3, lit_4, lit_5, lit_6, lit_7, lit_8, lit_9, lit_10, lit_11, lit_12, cl_0, cl_1, cl_2, cl_3, cl_4, cl_5, cl_6, cl_7, p10, decide_eq_false h, o_mod (show (0 : Int) < 2147483647 by decide), o_mulS (show (c % 2147483647).natAbs < 2 ^ 64 by omega) (show (48271 : Int).natAbs < 2 ^ 64 by decide), o_mulS (show k.natAbs < 2 ^ 64 by omega) (show (69621 : Int).natAbs < 2 ^ 64 by decide)]
        rw [e_app (ds := vs.map PyData.int) rfl]
        simp -implicitDefEqProofs only [e_sCons, e_sNil, e_sBreak, e_sCont, e_sRet, e_sRetN, e_sExpr, e_sIf, e_sAsg, e_sOwn, e_sFrz, e_sRaise, e_sFor, e_loop_nil, e_mC, e_m1, e_m2, e_mF, e_mCall, e_mM1, e_aNil, e_aCons, e_aLst, e_mTup, e_mLst, e_mN, e_mT, e_mTru, e_mAndT, e_mOrT, e_mNotT, e_mAnd, e_mOr, e_mNot, e_mIf, e_mChain, e_iSeq, e_iRange1, e_iRange2, e_oNone, e_oSome, e_mSl, e_mYes, e_mLc, e_gN, v0, vS, p0, p0o, pS, f0, f0s, f0n, fS, R.bind_ok, R.bind_err, R.bind_stuck, R.quiet_ok, R.sure_ok, R.sure_err, R.sure_stuck, O.of_ok, O.of_err, O.of_stuck, O.thn_nx, O.thn_rt, O.thn_bk, O.thn_ct, O.thn_err, O.thn_rto, O.lp_nx, O.lp_ct, O.lp_bk, O.lp_rt, O.lp_rto, O.lp_err, fin_nx, fin_rt, fin_err, asB_b, o_add, o_addI, o_sub, o_neg, o_lt, o_le, o_gt, o_ge, o_eqI, o_neI, o_eqS, o_neS, o_inS, o_lenL, o_lenT, o_int, o_itS, o_itL, o_itT, o_truL, o_truB, o_truI, List.set_cons_zero, List.set_cons_succ, List.length_cons, List.length_nil, if_true, if_false, Bool.not_true, Bool.not_false, Bool.false_eq_true, Option.isSome_some, Option.isSome_none, Nat.reduceAdd, Nat.zero_add, decide_true, decide_false, e_gT, e_gsC, e_gsN, e_callR0, e_callN, Nat.reduceEqDiff, lit_0, lit_1, lit_2, lit_3, lit_4, lit_5, lit_6, lit_7, lit_8, lit_9, lit_10, lit_11, lit_12, cl_0, cl_1, cl_2, cl_3, cl_4, cl_5, cl_6, cl_7, o_mod (show (0 : Int) < 2147483647 by decide), o_mulS (show ((c % 2147483647 * 48271 + k * 69621 + 7) % 2147483647).natAbs < 2 ^ 64 by omega) (show (16807 : Int).natAbs < 2 ^ 64 by decide), o_mod hs]
        rw [if_pos (by rw [List.length_map, hz]; omega)]
        simp -implicitDefEqProofs only [e_sCons, e_sNil, e_sBreak, e_sCont, e_sRet, e_sRetN, e_sExpr, e_sIf, e_sAsg, e_sOwn, e_sFrz, e_sRaise, e_sFor, e_loop_nil, e_mC, e_m1, e_m2, e_mF, e_mCall, e_mM1, e_aNil, e_aCons, e_aLst, e_mTup, e_mLst, e_mN, e_mT, e_mTru, e_mAndT, e_mOrT, e_mNotT, e_mAnd, e_mOr, e_mNot, e_mIf, e_mChain, e_iSeq, e_iRange1, e_iRange2, e_oNone, e_oSome, e_mSl, e_mYes, e_mLc, e_gN, v0, vS, p0, p0o, pS, f0, f0s, f0n, fS, R.bind_ok, R.bind_err, R.bind_stuck, R.quiet_ok, R.sure_ok, R.sure_err, R.sure_stuck, O.of_ok, O.of_err, O.of_stuck, O.thn_nx, O.thn_rt, O.thn_bk, O.thn_ct, O.thn_err, O.thn_rto, O.lp_nx, O.lp_ct, O.lp_bk, O.lp_rt, O.lp_rto, O.lp_err, fin_nx, fin_rt, fin_err, asB_b, o_add, o_addI, o_sub, o_neg, o_lt, o_le, o_gt, o_ge, o_eqI, o_neI, o_eqS, o_neS, o_inS, o_lenL, o_lenT, o_int, o_itS, o_itL, o_itT, o_truL, o_truB, o_truI, List.set_cons_zero, List.set_cons_succ, List.length_cons, List.length_nil, if_true, if_false, Bool.not_true, Bool.not_false, Bool.false_eq_true, Option.isSome_some, Option.isSome_none, Nat.reduceAdd, Nat.zero_add, decide_true, decide_false, e_gT, e_gsC, e_gsN, e_callR0, e_callN, Nat.reduceEqDiff, lit_0, lit_1, lit_2, lit_3, lit_4, lit_5, lit_6, lit_7, lit_8, lit_9, lit_10, lit_11, lit_12, cl_0, cl_1, cl_2, cl_3, cl_4, cl_5, cl_6, cl_7, app]
    obtain ⟨x, r, o6', hst⟩ := step
    obtain ⟨ws, r', o5', o6'', hw1, hw2, hw3⟩ := lp__law_values c n s hs hs2 ks (vs ++ [x % s]) r (some (.sh (.int k))) o6' (fun y hy => hk y (List.mem_cons_of_mem _ hy)) (by rw [List.length_append, List.length_singleton]; omega) (more x)
    refine ⟨ws, r', o5', o6'', ?_, hw2, ?_⟩
    · rw [hw1, List.length_append, List.length_singleton, List.length_cons]; omega
    · rw [List.map_cons, e_loop_nx hst]
      exact hw3
theorem rg_law {n : Nat} (hn : n ≤ 1000) : dRange1 [.int (n : Int)] = .ok (((List.range n).map fun (k : Nat) => (k : Int)).map PyData.int) := by
  have h : small (n : Int) = true := by
    unfold small
    exact decide_eq_true ⟨by omega, by omega⟩
  have e : rangeL 0 (n : Int) = ((List.range n).map fun (k : Nat) => (k : Int)).map PyData.int := by
    unfold rangeL
    rw [Int.sub_zero, Int.toNat_natCast, List.map_map]
    exact List.map_congr_left fun k _ => by show PyData.int (0 + (k : Int)) = PyData.int (k : Int); rw [Int.zero_add]
  unfold dRange1
  simp only [h, e, if_true]
theorem r__law_values (c s : Int) (n : Nat) (hn : n ≤ 1000) (hs : 0 < s) (hs2 : s < 1000000000) : ∃ ws : List Int, ws.length = n ∧ (∀ v ∈ ws, 0 ≤ v ∧ v < s) ∧ m__law_values [.int c, .int (n : Int), .int s] = .ok (.list (ws.map PyData.int)) := by
  have hz := sizeLine_eq
  have er := rg_law hn
  obtain ⟨ws, r, o5, o6, h1, h2, h3⟩ := lp__law_values c n s hs hs2 ((List.range n).map fun (k : Nat) => (k : Int)) [] c none none (fun k hk => by
    obtain ⟨j, hj, rfl⟩ := List.mem_map.mp hk
    have := List.mem_range.mp hj
    omega) (by simp; omega) (fun _ h => nomatch h)
  refine ⟨ws, by rw [h1]; simp, h2, ?_⟩
  show fin (b__law_values [some (.sh (.int c)), some (.sh (.int (n : Int))), some (.sh (.int s)), none, none, none, none]) = _
  unfold b__law_values
  simp -implicitDefEqProofs only [e_sCons, e_sNil, e_sBreak, e_sCont, e_sRet, e_sRetN, e_sExpr, e_sIf, e_sAsg, e_sOwn, e_sFrz, e_sRaise, e_sFor, e_loop_nil, e_mC, e_m1, e_m2, e_mF, e_mCall, e_mM1, e_aNil, e_aCons, e_aLst, e_mTup, e_mLst, e_mN, e_mT, e_mTru, e_mAndT, e_mOrT, e_mNotT, e_mAnd, e_mOr, e_mNot, e_mIf, e_mChain, e_iSeq, e_iRange1, e_iRange2, e_oNone, e_oSome, e_mSl, e_mYes, e_mLc, e_gN, v0, vS, p0, p0o, pS, f0, f0s, f0n, fS, R.bind_ok, R.bind_err, R.bind_stuck, R.quiet_ok, R.sure_ok, R.sure_err, R.sure_stuck, O.of_ok, O.of_err, O.of_stuck, O.thn_nx, O.thn_rt, O.thn_bk, O.thn_ct, O.thn_err, O.thn_rto, O.lp_nx, O.lp_ct, O.lp_bk, O.lp_rt, O.lp_rto, O.lp_err, fin_nx, fin_rt, fin_err, asB_b, o_add, o_addI, o_sub, o_neg, o_lt, o_le, o_gt, o_ge, o_eqI, o_neI, o_eqS, o_neS, o_inS, o_lenL, o_lenT, o_int, o_itS, o_itL, o_itT, o_truL, o_truB, o_truI, List.set_cons_zero, List.set_cons_succ, List.length_cons, List.length_nil, if_true, if_false, Bool.not_true, Bool.not_false, Bool.false_eq_true, Option.isSome_some, Option.isSome_none, Nat.reduceAdd, Nat.zero_add, decide_true, decide_false, e_gT, e_gsC, e_gsN, e_callR0, e_callN, Nat.reduceEqDiff, lit_0, lit_1, lit_2, lit_3, lit_4, lit_5, lit_6, lit_7, lit_8, lit_9, lit_10, lit_11, lit_12, cl_0, cl_1, cl_2, cl_3, cl_4, cl_5, cl_6, cl_7]
  rw [if_pos (by rw [hz]; decide)]
  simp -implicitDefEqProofs only [e_sCons, e_sNil, e_sBreak, e_sCont, e_sRet, e_sRetN, e_sExpr, e_sIf, e_sAsg, e_sOwn, e_sFrz, e_sRaise, e_sFor, e_loop_nil, e_mC, e_m1, e_m2, e_mF, e_mCall, e_mM1, e_aNil, e_aCons, e_aLst, e_mTup, e_mLst, e_mN, e_mT, e_mTru, e_mAndT, e_mOrT, e_mNotT, e_mAnd, e_mOr, e_mNot, e_mIf, e_mChain, e_iSeq, e_iRange1, e_iRange2, e_oNone, e_oSome, e_mSl, e_mYes, e_mLc, e_gN, v0, vS, p0, p0o, pS, f0, f0s, f0n, fS, R.bind_ok, R.bind_err, R.bind_stuck, R.quiet_ok, R.sure_ok, R.sure_err, R.sure_stuck, O.of_ok, O.of_err, O.of_stuck, O.thn_nx, O.thn_rt, O.thn_bk, O.thn_ct, O.thn_err, O.thn_rto, O.lp_nx, O.lp_ct, O.lp_bk, O.lp_rt, O.lp_rto, O.lp_err, fin_nx, fin_rt, fin_err, asB_b, o_add, o_addI, o_sub, o_neg, o_lt, o_le, o_gt, o_ge, o_eqI, o_neI, o_eqS, o_neS, o_inS, o_lenL, o_lenT, o_int, o_itS, o_itL, o_itT, o_truL, o_truB, o_truI, List.set_cons_zero, List.set_cons_succ, List.length_cons, List.length_nil, if_true, if_false, Bool.not_true, Bool.not_false, Bool.false_eq_true, Option.isSome_some, Option.isSome_none, Nat.reduceAdd, Nat.zero_add, decide_true, decide_false, e_gT, e_gsC, e_gsN, e_callR0, e_callN, Nat.reduceEqDiff, lit_0, lit_1, lit_2, lit_3, lit_4, lit_5, lit_6, lit_7, lit_8, lit_9, lit_10, lit_11, lit_12, cl_0, cl_1, cl_2, cl_3, cl_4, cl_5, cl_6, cl_7, er]
  have h3 : mLoop (gN 5) lb__law_values_1 (((List.range n).map fun (k : Nat) => (k : Int)).map PyData.int) [some (.sh (.int c)), some (.sh (.int (n : Int))), some (.sh (.int s)), some (.own []), some (.sh (.int c)), none, none] = .nx [some (.sh (.int c)), some (.sh (.int (n : Int))), some (.sh (.int s)), some (.own (ws.map PyData.int)), some (.sh (.int r)), o5, o6] := h3
  rw [h3]
  simp -implicitDefEqProofs only [e_sCons, e_sNil, e_sBreak, e_sCont, e_sRet, e_sRetN, e_sExpr, e_sIf, e_sAsg, e_sOwn, e_sFrz, e_sRaise, e_sFor, e_loop_nil, e_mC, e_m1, e_m2, e_mF, e_mCall, e_mM1, e_aNil, e_aCons, e_aLst, e_mTup, e_mLst, e_mN, e_mT, e_mTru, e_mAndT, e_mOrT, e_mNotT, e_mAnd, e_mOr, e_mNot, e_mIf, e_mChain, e_iSeq, e_iRange1, e_iRange2, e_oNone, e_oSome, e_mSl, e_mYes, e_mLc, e_gN, v0, vS, p0, p0o, pS, f0, f0s, f0n, fS, R.bind_ok, R.bind_err, R.bind_stuck, R.quiet_ok, R.sure_ok, R.sure_err, R.sure_stuck, O.of_ok, O.of_err, O.of_stuck, O.thn_nx, O.thn_rt, O.thn_bk, O.thn_ct, O.thn_err, O.thn_rto, O.lp_nx, O.lp_ct, O.lp_bk, O.lp_rt, O.lp_rto, O.lp_err, fin_nx, fin_rt, fin_err, asB_b, o_add, o_addI, o_sub, o_neg, o_lt, o_le, o_gt, o_ge, o_eqI, o_neI, o_eqS, o_neS, o_inS, o_lenL, o_lenT, o_int, o_itS, o_itL, o_itT, o_truL, o_truB, o_truI, List.set_cons_zero, List.set_cons_succ, List.length_cons, List.length_nil, if_true, if_false, Bool.not_true, Bool.not_false, Bool.false_eq_true, Option.isSome_some, Option.isSome_none, Nat.reduceAdd, Nat.zero_add, decide_true, decide_false, e_gT, e_gsC, e_gsN, e_callR0, e_callN, Nat.reduceEqDiff, lit_0, lit_1, lit_2, lit_3, lit_4, lit_5, lit_6, lit_7, lit_8, lit_9, lit_10, lit_11, lit_12, cl_0, cl_1, cl_2, cl_3, cl_4, cl_5, cl_6, cl_7]

end Law
end
end
section
set_option Elab.async false
set_option linter.all false
set_option maxRecDepth 100000
set_option autoImplicit false
set_option maxHeartbeats 4000000
noncomputable section
namespace Law
open PySem DW L2
open SX (S S_tl S_len S_cat)
theorem rp__law_presentation (c s g : Int) (h1 : 1 ≤ g) (h2 : g ≤ 3) : RP False (m__law_presentation [.int c, .int s, .int g]) (fun d => ∃ rs : List (List Nat), d = PV g rs ∧ Pres g rs ∧ rs.length ≤ 4 ∧ ∀ r ∈ rs, r.length ≤ 6) NoE := by
  obtain ⟨vs, hvl, hv, ev⟩ := r__law_values c 997 40 (by decide) (by decide) (by decide)
  have ev : m__law_values [.int c, .int 40, .int 997] = .ok (.list (vs.map PyData.int)) := ev
  show RP False (fin (b__law_presentation [some (.sh (.int c)), some (.sh (.int s)), some (.sh (.int g)), none, none, none, none, none])) _ _
  unfold b__law_presentation
  simp -implicitDefEqProofs only [RP_ok, RP_err, RP_stuck, RP_bind, RP_quiet, RP_sure, RP_ite, RP_fin, RP_finN, OP_nx, OP_rt, OP_rto, OP_bk, OP_ct, OP_err, OP_stuck, OP_of, OP_thn, OP_lp, OP_ite, OP_tryN, OP_tryAs, OP_endS, OP_endI, true_implies, false_implies, not_true_eq_false, not_false_eq_true, and_true, true_and, implies_true, wipe_nil, wipe_cons, List.length_map, e_callR, e_callX, e_isX, e_xf, e_sNext, e_sApp, e_sPop, e_sRev, e_sRetOwn, e_sExt, e_sGive, e_sSetIx, e_hdl, hdl_nil, e_hdlAs, ownAt_own, rndAt_rnd, excAt_exc, someD_some, caseB_t, caseB_f, intD_int, clean_nil, clean_sh, clean_no, clean_own, List.getElem?_cons_zero, List.getElem?_cons_succ, decide_eq_true_eq, Bool.not_eq_true', List.length_append, Option.getD_some, ixT0, ixT1, ixT2, ixT3, ixL0, ixL1, ixL2, ixL3, o_isB, o_isL, o_isT, o_isI, o_isS, o_niPM, o_niPL, o_max2, o_min2, o_abs, o_tupL, o_tupT, o_lofL, o_lofT, e_aListOf, e_aRep, sizeLine_eq, decide_eq_false_iff_not, Classical.not_not, Nat.reduceLeDiff, Nat.zero_le, Int.reduceLE, Int.reduceLT, Int.reduceEq, Nat.reduceLT, List.nil_append, List.cons_append, cst0, cst1, cst2, cst3, cst4, cst5, cst6, cst7, cst8, cst9, cst10, cst11, cst12, o_eqB, o_neB, reduceCtorEq, Bool.true_eq_false, e_iEnumS, e_iZipS, o_enum, o_zipL, o_zipT, e_sRaise1, e_sPar, e_sPar3, e_gTL, o_isBB, o_notBB, e_iEnumA, o_enumL, o_enumT, e_mB, ok_strD, ok_listD, e_iZipM, o_zipLL, o_zipTT, o_zipTL, o_zipLT, e_sCons, e_sNil, e_sBreak, e_sCont, e_sRet, e_sRetN, e_sExpr, e_sIf, e_sAsg, e_sOwn, e_sFrz, e_sRaise, e_sFor, e_loop_nil, e_mC, e_m1, e_m2, e_mF, e_mCall, e_mM1, e_aNil, e_aCons, e_aLst, e_mTup, e_mLst, e_mN, e_mT, e_mTru, e_mAndT, e_mOrT, e_mNotT, e_mAnd, e_mOr, e_mNot, e_mIf, e_mChain, e_iSeq, e_iRange1, e_iRange2, e_oNone, e_oSome, e_mSl, e_mYes, e_mLc, e_gN, v0, vS, p0, p0o, pS, f0, f0s, f0n, fS, R.bind_ok, R.bind_err, R.bind_stuck, R.quiet_ok, R.sure_ok, R.sure_err, R.sure_stuck, O.of_ok, O.of_err, O.of_stuck, O.thn_nx, O.thn_rt, O.thn_bk, O.thn_ct, O.thn_err, O.thn_rto, O.lp_nx, O.lp_ct, O.lp_bk, O.lp_rt, O.lp_rto, O.lp_err, fin_nx, fin_rt, fin_err, asB_b, o_add, o_addI, o_sub, o_neg, o_lt, o_le, o_gt, o_ge, o_eqI, o_neI, o_eqS, o_neS, o_inS, o_lenL, o_lenT, o_int, o_itS, o_itL, o_itT, o_truL, o_truB, o_truI, List.set_cons_zero, List.set_cons_succ, List.length_cons, List.length_nil, if_true, if_false, Bool.not_true, Bool.not_false, Bool.false_eq_true, Option.isSome_some, Option.isSome_none, Nat.reduceAdd, Nat.zero_add, decide_true, decide_false, e_gT, e_gsC, e_gsN, e_callR0, e_callN, Nat.reduceEqDiff, lit_0, lit_1, lit_2, lit_3, lit_4, lit_5, lit_6, lit_7, lit_8, lit_9, lit_10, lit_11, lit_12, cl_0, cl_1, cl_2, cl_3, cl_4, cl_5, cl_6, cl_7, ev, o_mod (show (0 : Int) < 5 by decide)]
  obtain ⟨k, hk, hk2⟩ := nat_of (z := s) (n := 5) (by omega)
  rw [hk, rg_nat (by omega)]
  simp -implicitDefEqProofs only [RP_ok, RP_err, RP_stuck, RP_bind, RP_quiet, RP_sure, RP_ite, RP_fin, RP_finN, OP_nx, OP_rt, OP_rto, OP_bk, OP_ct, OP_err, OP_stuck, OP_of, OP_thn, OP_lp, OP_ite, OP_tryN, OP_tryAs, OP_endS, OP_endI, true_implies, false_implies, not_true_eq_false, not_false_eq_true, and_true, true_and, implies_true, wipe_nil, wipe_cons, List.length_map, e_callR, e_callX, e_isX, e_xf, e_sNext, e_sApp, e_sPop, e_sRev, e_sRetOwn, e_sExt, e_sGive, e_sSetIx, e_hdl, hdl_nil, e_hdlAs, ownAt_own, rndAt_rnd, excAt_exc, someD_some, caseB_t, caseB_f, intD_int, clean_nil, clean_sh, clean_no, clean_own, List.getElem?_cons_zero, List.getElem?_cons_succ, decide_eq_true_eq, Bool.not_eq_true', List.length_append, Option.getD_some, ixT0, ixT1, ixT2, ixT3, ixL0, ixL1, ixL2, ixL3, o_isB, o_isL, o_isT, o_isI, o_isS, o_niPM, o_niPL, o_max2, o_min2, o_abs, o_tupL, o_tupT, o_lofL, o_lofT, e_aListOf, e_aRep, sizeLine_eq, decide_eq_false_iff_not, Classical.not_not, Nat.reduceLeDiff, Nat.zero_le, Int.reduceLE, Int.reduceLT, Int.reduceEq, Nat.reduceLT, List.nil_append, List.cons_append, cst0, cst1, cst2, cst3, cst4, cst5, cst6, cst7, cst8, cst9, cst10, cst11, cst12, o_eqB, o_neB, reduceCtorEq, Bool.true_eq_false, e_iEnumS, e_iZipS, o_enum, o_zipL, o_zipT, e_sRaise1, e_sPar, e_sPar3, e_gTL, o_isBB, o_notBB, e_iEnumA, o_enumL, o_enumT, e_mB, ok_strD, ok_listD, e_iZipM, o_zipLL, o_zipTT, o_zipTL, o_zipLT, e_sCons, e_sNil, e_sBreak, e_sCont, e_sRet, e_sRetN, e_sExpr, e_sIf, e_sAsg, e_sOwn, e_sFrz, e_sRaise, e_sFor, e_loop_nil, e_mC, e_m1, e_m2, e_mF, e_mCall, e_mM1, e_aNil, e_aCons, e_aLst, e_mTup, e_mLst, e_mN, e_mT, e_mTru, e_mAndT, e_mOrT, e_mNotT, e_mAnd, e_mOr, e_mNot, e_mIf, e_mChain, e_iSeq, e_iRange1, e_iRange2, e_oNone, e_oSome, e_mSl, e_mYes, e_mLc, e_gN, v0, vS, p0, p0o, pS, f0, f0s, f0n, fS, R.bind_ok, R.bind_err, R.bind_stuck, R.quiet_ok, R.sure_ok, R.sure_err, R.sure_stuck, O.of_ok, O.of_err, O.of_stuck, O.thn_nx, O.thn_rt, O.thn_bk, O.thn_ct, O.thn_err, O.thn_rto, O.lp_nx, O.lp_ct, O.lp_bk, O.lp_rt, O.lp_rto, O.lp_err, fin_nx, fin_rt, fin_err, asB_b, o_add, o_addI, o_sub, o_neg, o_lt, o_le, o_gt, o_ge, o_eqI, o_neI, o_eqS, o_neS, o_inS, o_lenL, o_lenT, o_int, o_itS, o_itL, o_itT, o_truL, o_truB, o_truI, List.set_cons_zero, List.set_cons_succ, List.length_cons, List.length_nil, if_true, if_false, Bool.not_true, Bool.not_false, Bool.false_eq_true, Option.isSome_some, Option.isSome_none, Nat.reduceAdd, Nat.zero_add, decide_true, decide_false, e_gT, e_gsC, e_gsN, e_callR0, e_callN, Nat.reduceEqDiff, lit_0, lit_1, lit_2, lit_3, lit_4, lit_5, lit_6, lit_7, lit_8, lit_9, lit_10, lit_11, lit_12, cl_0, cl_1, cl_2, cl_3, cl_4, cl_5, cl_6, cl_7]
  generalize hV : SD.sh (PyData.list (vs.map PyData.int)) = V
  refine OP_for (I := fun j ρ => ∃ (ws : List (List Nat)) (o5 o6 : Option SD), ρ = [some (.sh (.int c)), some (.sh (.int s)), some (.sh (.int g)), some V, some (.own (ws.map sD)), o5, o6, none] ∧ ws.length ≤ j ∧ ∀ w ∈ ws, (∀ c ∈ w, c ∈ lt g) ∧ 1 ≤ w.length ∧ w.length ≤ 6) ⟨[], none, none, rfl, Nat.le_refl _, fun _ h => nomatch h⟩ ?_ ?_
  · rintro j d ρ hd ⟨ws, o5, o6, rfl, hn, hw⟩
    obtain ⟨hj, rfl⟩ := loop_lt hd
    show OP (lb__law_presentation_1 [some (.sh (.int c)), some (.sh (.int s)), some (.sh (.int g)), some V, some (.own (ws.map sD)), some (.sh (.int (j : Int))), o6, none]) _
    unfold lb__law_presentation_1
    subst hV
    have e8 : 8 * (j : Int) = ((8 * j : Nat) : Int) := by omega
    obtain ⟨x, ex⟩ : ∃ x, vs[8 * j]? = some x := ⟨_, List.getElem?_eq_getElem (by omega)⟩
    have ix : dIdx (.list (vs.map PyData.int)) (.int ((8 * j : Nat) : Int)) = .ok (.int x) := o_ixL (by rw [List.getElem?_map, ex]; rfl)
    have hx := hv x (List.mem_of_getElem? ex)
    obtain ⟨t, ht, ht2⟩ := nat_of (z := x) (n := 6) (by omega)
    have ea : ((8 * j : Nat) : Int) + 1 = ((8 * j + 1 : Nat) : Int) := by omega
    have eb : ((8 * j : Nat) : Int) + 2 + (t : Int) = ((8 * j + 2 + t : Nat) : Int) := by omega
    simp -implicitDefEqProofs only [RP_ok, RP_err, RP_stuck, RP_bind, RP_quiet, RP_sure, RP_ite, RP_fin, RP_finN, OP_nx, OP_rt, OP_rto, OP_bk, OP_ct, OP_err, OP_stuck, OP_of, OP_thn, OP_lp, OP_ite, OP_tryN, OP_tryAs, OP_endS, OP_endI, true_implies, false_implies, not_true_eq_false, not_false_eq_true, and_true, true_and, implies_true, wipe_nil, wipe_cons, List.length_map, e_callR, e_callX, e_isX, e_xf, e_sNext, e_sApp, e_sPop, e_sRev, e_sRetOwn, e_sExt, e_sGive, e_sSetIx, e_hdl, hdl_nil, e_hdlAs, ownAt_own, rndAt_rnd, excAt_exc, someD_some, caseB_t, caseB_f, intD_int, clean_nil, clean_sh, clean_no, clean_own, List.getElem?_cons_zero, List.getElem?_cons_succ, decide_eq_true_eq, Bool.not_eq_true', List.length_append, Option.getD_some, ixT0, ixT1, ixT2, ixT3, ixL0, ixL1, ixL2, ixL3, o_isB, o_isL, o_isT, o_isI, o_isS, o_niPM, o_niPL, o_max2, o_min2, o_abs, o_tupL, o_tupT, o_lofL, o_lofT, e_aListOf, e_aRep, sizeLine_eq, decide_eq_false_iff_not, Classical.not_not, Nat.reduceLeDiff, Nat.zero_le, Int.reduceLE, Int.reduceLT, Int.reduceEq, Nat.reduceLT, List.nil_append, List.cons_append, cst0, cst1, cst2, cst3, cst4, cst5, cst6, cst7, cst8, cst9, cst10, cst11, cst12, o_eqB, o_neB, reduceCtorEq, Bool.true_eq_false, e_iEnumS, e_iZipS, o_enum, o_zipL, o_zipT, e_sRaise1, e_sPar, e_sPar3, e_gTL, o_isBB, o_notBB, e_iEnumA, o_enumL, o_enumT, e_mB, ok_strD, ok_listD, e_iZipM, o_zipLL, o_zipTT, o_zipTL, o_zipLT, e_sCons, e_sNil, e_sBreak, e_sCont, e_sRet, e_sRetN, e_sExpr, e_sIf, e_sAsg, e_sOwn, e_sFrz, e_sRaise, e_sFor, e_loop_nil, e_mC, e_m1, e_m2, e_mF, e_mCall, e_mM1, e_aNil, e_aCons, e_aLst, e_mTup, e_mLst, e_mN, e_mT, e_mTru, e_mAndT, e_mOrT, e_mNotT, e_mAnd, e_mOr, e_mNot, e_mIf, e_mChain, e_iSeq, e_iRange1, e_iRange2, e_oNone, e_oSome, e_mSl, e_mYes, e_mLc, e_gN, v0, vS, p0, p0o, pS, f0, f0s, f0n, fS, R.bind_ok, R.bind_err, R.bind_stuck, R.quiet_ok, R.sure_ok, R.sure_err, R.sure_stuck, O.of_ok, O.of_err, O.of_stuck, O.thn_nx, O.thn_rt, O.thn_bk, O.thn_ct, O.thn_err, O.thn_rto, O.lp_nx, O.lp_ct, O.lp_bk, O.lp_rt, O.lp_rto, O.lp_err, fin_nx, fin_rt, fin_err, asB_b, o_add, o_addI, o_sub, o_neg, o_lt, o_le, o_gt, o_ge, o_eqI, o_neI, o_eqS, o_neS, o_inS, o_lenL, o_lenT, o_int, o_itS, o_itL, o_itT, o_truL, o_truB, o_truI, List.set_cons_zero, List.set_cons_succ, List.length_cons, List.length_nil, if_true, if_false, Bool.not_true, Bool.not_false, Bool.false_eq_true, Option.isSome_some, Option.isSome_none, Nat.reduceAdd, Nat.zero_add, decide_true, decide_false, e_gT, e_gsC, e_gsN, e_callR0, e_callN, Nat.reduceEqDiff, lit_0, lit_1, lit_2, lit_3, lit_4, lit_5, lit_6, lit_7, lit_8, lit_9, lit_10, lit_11, lit_12, cl_0, cl_1, cl_2, cl_3, cl_4, cl_5, cl_6, cl_7, o_mulS (a := 8) (b := (j : Int)) (by decide) (by omega), e8, ix, o_mod (show (0 : Int) < 6 by decide), ht, ea, eb, o_slL, cut_nat (show 8 * j + 2 + t ≤ vs.length by omega)]
    have ul : ((vs.take (8 * j + 2 + t)).drop (8 * j + 1)).length = 1 + t := by rw [List.length_drop, List.length_take]; omega
    refine ck (by omega) ?_
    obtain ⟨w, w1, w2, w3⟩ := lc_ex (i := 7) (m := ce__law_presentation_1) (L := lt g) (ρ := [some (.sh (.int c)), some (.sh (.int s)), some (.sh (.int g)), some (.sh (.list (vs.map PyData.int))), some (.own (ws.map sD)), some (.sh (.int (j : Int))), some (.sh (.list (((vs.take (8 * j + 2 + t)).drop (8 * j + 1)).map PyData.int))), none]) (us := (vs.take (8 * j + 2 + t)).drop (8 * j + 1)) (fun v hv' => by
      obtain ⟨y, hy, hy2⟩ := pick_lt h1 h2 (hv v (List.mem_of_mem_take (List.mem_of_mem_drop hv'))).1
      refine ⟨y, hy, ?_⟩
      unfold ce__law_presentation_1
      simp -implicitDefEqProofs only [e_callR, e_callX, e_isX, e_xf, e_sNext, e_sApp, e_sPop, e_sRev, e_sRetOwn, e_sExt, e_sGive, e_sSetIx, e_hdl, hdl_nil, e_hdlAs, ownAt_own, rndAt_rnd, excAt_exc, someD_some, caseB_t, caseB_f, intD_int, clean_nil, clean_sh, clean_no, clean_own, List.getElem?_cons_zero, List.getElem?_cons_succ, decide_eq_true_eq, Bool.not_eq_true', List.length_append, Option.getD_some, ixT0, ixT1, ixT2, ixT3, ixL0, ixL1, ixL2, ixL3, o_isB, o_isL, o_isT, o_isI, o_isS, o_niPM, o_niPL, o_max2, o_min2, o_abs, o_tupL, o_tupT, o_lofL, o_lofT, e_aListOf, e_aRep, sizeLine_eq, decide_eq_false_iff_not, Classical.not_not, Nat.reduceLeDiff, Nat.zero_le, Int.reduceLE, Int.reduceLT, Int.reduceEq, Nat.reduceLT, List.nil_append, List.cons_append, cst0, cst1, cst2, cst3, cst4, cst5, cst6, cst7, cst8, cst9, cst10, cst11, cst12, o_eqB, o_neB, reduceCtorEq, Bool.true_eq_false, e_iEnumS, e_iZipS, o_enum, o_zipL, o_zipT, e_sRaise1, e_sPar, e_sPar3, e_gTL, o_isBB, o_notBB, e_iEnumA, o_enumL, o_enumT, e_mB, ok_strD, ok_listD, e_iZipM, o_zipLL, o_zipTT, o_zipTL, o_zipLT, e_sCons, e_sNil, e_sBreak, e_sCont, e_sRet, e_sRetN, e_sExpr, e_sIf, e_sAsg, e_sOwn, e_sFrz, e_sRaise, e_sFor, e_loop_nil, e_mC, e_m1, e_m2, e_mF, e_mCall, e_mM1, e_aNil, e_aCons, e_aLst, e_mTup, e_mLst, e_mN, e_mT, e_mTru, e_mAndT, e_mOrT, e_mNotT, e_mAnd, e_mOr, e_mNot, e_mIf, e_mChain, e_iSeq, e_iRange1, e_iRange2, e_oNone, e_oSome, e_mSl, e_mYes, e_mLc, e_gN, v0, vS, p0, p0o, pS, f0, f0s, f0n, fS, R.bind_ok, R.bind_err, R.bind_stuck, R.quiet_ok, R.sure_ok, R.sure_err, R.sure_stuck, O.of_ok, O.of_err, O.of_stuck, O.thn_nx, O.thn_rt, O.thn_bk, O.thn_ct, O.thn_err, O.thn_rto, O.lp_nx, O.lp_ct, O.lp_bk, O.lp_rt, O.lp_rto, O.lp_err, fin_nx, fin_rt, fin_err, asB_b, o_add, o_addI, o_sub, o_neg, o_lt, o_le, o_gt, o_ge, o_eqI, o_neI, o_eqS, o_neS, o_inS, o_lenL, o_lenT, o_int, o_itS, o_itL, o_itT, o_truL, o_truB, o_truI, List.set_cons_zero, List.set_cons_succ, List.length_cons, List.length_nil, if_true, if_false, Bool.not_true, Bool.not_false, Bool.false_eq_true, Option.isSome_some, Option.isSome_none, Nat.reduceAdd, Nat.zero_add, decide_true, decide_false, e_gT, e_gsC, e_gsN, e_callR0, e_callN, Nat.reduceEqDiff, lit_0, lit_1, lit_2, lit_3, lit_4, lit_5, lit_6, lit_7, lit_8, lit_9, lit_10, lit_11, lit_12, cl_0, cl_1, cl_2, cl_3, cl_4, cl_5, cl_6, cl_7, o_mulS (show (2 : Int).natAbs < 2 ^ 64 by decide) (show g.natAbs < 2 ^ 64 by omega), o_mod (show (0 : Int) < 2 * g by omega), hy2])
    rw [w3, RP_ok]
    simp -implicitDefEqProofs only [RP_ok, RP_err, RP_stuck, RP_bind, RP_quiet, RP_sure, RP_ite, RP_fin, RP_finN, OP_nx, OP_rt, OP_rto, OP_bk, OP_ct, OP_err, OP_stuck, OP_of, OP_thn, OP_lp, OP_ite, OP_tryN, OP_tryAs, OP_endS, OP_endI, true_implies, false_implies, not_true_eq_false, not_false_eq_true, and_true, true_and, implies_true, wipe_nil, wipe_cons, List.length_map, e_callR, e_callX, e_isX, e_xf, e_sNext, e_sApp, e_sPop, e_sRev, e_sRetOwn, e_sExt, e_sGive, e_sSetIx, e_hdl, hdl_nil, e_hdlAs, ownAt_own, rndAt_rnd, excAt_exc, someD_some, caseB_t, caseB_f, intD_int, clean_nil, clean_sh, clean_no, clean_own, List.getElem?_cons_zero, List.getElem?_cons_succ, decide_eq_true_eq, Bool.not_eq_true', List.length_append, Option.getD_some, ixT0, ixT1, ixT2, ixT3, ixL0, ixL1, ixL2, ixL3, o_isB, o_isL, o_isT, o_isI, o_isS, o_niPM, o_niPL, o_max2, o_min2, o_abs, o_tupL, o_tupT, o_lofL, o_lofT, e_aListOf, e_aRep, sizeLine_eq, decide_eq_false_iff_not, Classical.not_not, Nat.reduceLeDiff, Nat.zero_le, Int.reduceLE, Int.reduceLT, Int.reduceEq, Nat.reduceLT, List.nil_append, List.cons_append, cst0, cst1, cst2, cst3, cst4, cst5, cst6, cst7, cst8, cst9, cst10, cst11, cst12, o_eqB, o_neB, reduceCtorEq, Bool.true_eq_false, e_iEnumS, e_iZipS, o_enum, o_zipL, o_zipT, e_sRaise1, e_sPar, e_sPar3, e_gTL, o_isBB, o_notBB, e_iEnumA, o_enumL, o_enumT, e_mB, ok_strD, ok_listD, e_iZipM, o_zipLL, o_zipTT, o_zipTL, o_zipLT, e_sCons, e_sNil, e_sBreak, e_sCont, e_sRet, e_sRetN, e_sExpr, e_sIf, e_sAsg, e_sOwn, e_sFrz, e_sRaise, e_sFor, e_loop_nil, e_mC, e_m1, e_m2, e_mF, e_mCall, e_mM1, e_aNil, e_aCons, e_aLst, e_mTup, e_mLst, e_mN, e_mT, e_mTru, e_mAndT, e_mOrT, e_mNotT, e_mAnd, e_mOr, e_mNot, e_mIf, e_mChain, e_iSeq, e_iRange1, e_iRange2, e_oNone, e_oSome, e_mSl, e_mYes, e_mLc, e_gN, v0, vS, p0, p0o, pS, f0, f0s, f0n, fS, R.bind_ok, R.bind_err, R.bind_stuck, R.quiet_ok, R.sure_ok, R.sure_err, R.sure_stuck, O.of_ok, O.of_err, O.of_stuck, O.thn_nx, O.thn_rt, O.thn_bk, O.thn_ct, O.thn_err, O.thn_rto, O.lp_nx, O.lp_ct, O.lp_bk, O.lp_rt, O.lp_rto, O.lp_err, fin_nx, fin_rt, fin_err, asB_b, o_add, o_addI, o_sub, o_neg, o_lt, o_le, o_gt, o_ge, o_eqI, o_neI, o_eqS, o_neS, o_inS, o_lenL, o_lenT, o_int, o_itS, o_itL, o_itT, o_truL, o_truB, o_truI, List.set_cons_zero, List.set_cons_succ, List.length_cons, List.length_nil, if_true, if_false, Bool.not_true, Bool.not_false, Bool.false_eq_true, Option.isSome_some, Option.isSome_none, Nat.reduceAdd, Nat.zero_add, decide_true, decide_false, e_gT, e_gsC, e_gsN, e_callR0, e_callN, Nat.reduceEqDiff, lit_0, lit_1, lit_2, lit_3, lit_4, lit_5, lit_6, lit_7, lit_8, lit_9, lit_10, lit_11, lit_12, cl_0, cl_1, cl_2, cl_3, cl_4, cl_5, cl_6, cl_7, o_join (show w.length ≤ 16777216 by omega)]
    refine ck (by omega) ⟨ws ++ [w], _, _, by rw [List.map_append]; rfl, by rw [List.length_append, List.length_singleton]; omega, fun x hx => ?_⟩
    rcases List.mem_append.mp hx with hx | hx
    · exact hw x hx
    · rw [List.mem_singleton.mp hx]
      exact ⟨w2, by omega, by omega⟩
  · rintro ρ ⟨ws, o5, o6, rfl, hn, hw⟩
    rw [List.length_map, List.length_range] at hn
    simp -implicitDefEqProofs only [RP_ok, RP_err, RP_stuck, RP_bind, RP_quiet, RP_sure, RP_ite, RP_fin, RP_finN, OP_nx, OP_rt, OP_rto, OP_bk, OP_ct, OP_err, OP_stuck, OP_of, OP_thn, OP_lp, OP_ite, OP_tryN, OP_tryAs, OP_endS, OP_endI, true_implies, false_implies, not_true_eq_false, not_false_eq_true, and_true, true_and, implies_true, wipe_nil, wipe_cons, List.length_map, e_callR, e_callX, e_isX, e_xf, e_sNext, e_sApp, e_sPop, e_sRev, e_sRetOwn, e_sExt, e_sGive, e_sSetIx, e_hdl, hdl_nil, e_hdlAs, ownAt_own, rndAt_rnd, excAt_exc, someD_some, caseB_t, caseB_f, intD_int, clean_nil, clean_sh, clean_no, clean_own, List.getElem?_cons_zero, List.getElem?_cons_succ, decide_eq_true_eq, Bool.not_eq_true', List.length_append, Option.getD_some, ixT0, ixT1, ixT2, ixT3, ixL0, ixL1, ixL2, ixL3, o_isB, o_isL, o_isT, o_isI, o_isS, o_niPM, o_niPL, o_max2, o_min2, o_abs, o_tupL, o_tupT, o_lofL, o_lofT, e_aListOf, e_aRep, sizeLine_eq, decide_eq_false_iff_not, Classical.not_not, Nat.reduceLeDiff, Nat.zero_le, Int.reduceLE, Int.reduceLT, Int.reduceEq, Nat.reduceLT, List.nil_append, List.cons_append, cst0, cst1, cst2, cst3, cst4, cst5, cst6, cst7, cst8, cst9, cst10, cst11, cst12, o_eqB, o_neB, reduceCtorEq, Bool.true_eq_false, e_iEnumS, e_iZipS, o_enum, o_zipL, o_zipT, e_sRaise1, e_sPar, e_sPar3, e_gTL, o_isBB, o_notBB, e_iEnumA, o_enumL, o_enumT, e_mB, ok_strD, ok_listD, e_iZipM, o_zipLL, o_zipTT, o_zipTL, o_zipLT, e_sCons, e_sNil, e_sBreak, e_sCont, e_sRet, e_sRetN, e_sExpr, e_sIf, e_sAsg, e_sOwn, e_sFrz, e_sRaise, e_sFor, e_loop_nil, e_mC, e_m1, e_m2, e_mF, e_mCall, e_mM1, e_aNil, e_aCons, e_aLst, e_mTup, e_mLst, e_mN, e_mT, e_mTru, e_mAndT, e_mOrT, e_mNotT, e_mAnd, e_mOr, e_mNot, e_mIf, e_mChain, e_iSeq, e_iRange1, e_iRange2, e_oNone, e_oSome, e_mSl, e_mYes, e_mLc, e_gN, v0, vS, p0, p0o, pS, f0, f0s, f0n, fS, R.bind_ok, R.bind_err, R.bind_stuck, R.quiet_ok, R.sure_ok, R.sure_err, R.sure_stuck, O.of_ok, O.of_err, O.of_stuck, O.thn_nx, O.thn_rt, O.thn_bk, O.thn_ct, O.thn_err, O.thn_rto, O.lp_nx, O.lp_ct, O.lp_bk, O.lp_rt, O.lp_rto, O.lp_err, fin_nx, fin_rt, fin_err, asB_b, o_add, o_addI, o_sub, o_neg, o_lt, o_le, o_gt, o_ge, o_eqI, o_neI, o_eqS, o_neS, o_inS, o_lenL, o_lenT, o_int, o_itS, o_itL, o_itT, o_truL, o_truB, o_truI, List.set_cons_zero, List.set_cons_succ, List.length_cons, List.length_nil, if_true, if_false, Bool.not_true, Bool.not_false, Bool.false_eq_true, Option.isSome_some, Option.isSome_none, Nat.reduceAdd, Nat.zero_add, decide_true, decide_false, e_gT, e_gsC, e_gsN, e_callR0, e_callN, Nat.reduceEqDiff, lit_0, lit_1, lit_2, lit_3, lit_4, lit_5, lit_6, lit_7, lit_8, lit_9, lit_10, lit_11, lit_12, cl_0, cl_1, cl_2, cl_3, cl_4, cl_5, cl_6, cl_7]
    exact ⟨ws, rfl, ⟨h1, h2, by omega, fun r hr => ⟨(hw r hr).1, (hw r hr).2.1, by have := (hw r hr).2.2; omega⟩⟩, by omega, fun r hr => (hw r hr).2.2⟩

end Law
end
end
section
set_option Elab.async false
set_option linter.all false
set_option maxRecDepth 100000
set_option autoImplicit false
set_option maxHeartbeats 4000000
noncomputable section
namespace Law
open PySem DW L2
open SX (S S_tl S_len S_cat)
theorem r__law_sums {n : Nat} (hn : n ≤ 3) {w : List Nat} : m__law_sums [.int (n : Int), sD w] = .ok (intsV (sumsI n w)) := by
  refine eq_ok ?_
  show RP False (fin (b__law_sums [some (.sh (.int (n : Int))), some (.sh (sD w)), none])) _ _
  unfold b__law_sums
  simp -implicitDefEqProofs only [RP_ok, RP_err, RP_stuck, RP_bind, RP_quiet, RP_sure, RP_ite, RP_fin, RP_finN, OP_nx, OP_rt, OP_rto, OP_bk, OP_ct, OP_err, OP_stuck, OP_of, OP_thn, OP_lp, OP_ite, OP_tryN, OP_tryAs, OP_endS, OP_endI, true_implies, false_implies, not_true_eq_false, not_false_eq_true, and_true, true_and, implies_true, wipe_nil, wipe_cons, List.length_map, e_callR, e_callX, e_isX, e_xf, e_sNext, e_sApp, e_sPop, e_sRev, e_sRetOwn, e_sExt, e_sGive, e_sSetIx, e_hdl, hdl_nil, e_hdlAs, ownAt_own, rndAt_rnd, excAt_exc, someD_some, caseB_t, caseB_f, intD_int, clean_nil, clean_sh, clean_no, clean_own, List.getElem?_cons_zero, List.getElem?_cons_succ, decide_eq_true_eq, Bool.not_eq_true', List.length_append, Option.getD_some, ixT0, ixT1, ixT2, ixT3, ixL0, ixL1, ixL2, ixL3, o_isB, o_isL, o_isT, o_isI, o_isS, o_niPM, o_niPL, o_max2, o_min2, o_abs, o_tupL, o_tupT, o_lofL, o_lofT, e_aListOf, e_aRep, sizeLine_eq, decide_eq_false_iff_not, Classical.not_not, Nat.reduceLeDiff, Nat.zero_le, Int.reduceLE, Int.reduceLT, Int.reduceEq, Nat.reduceLT, List.nil_append, List.cons_append, cst0, cst1, cst2, cst3, cst4, cst5, cst6, cst7, cst8, cst9, cst10, cst11, cst12, o_eqB, o_neB, reduceCtorEq, Bool.true_eq_false, e_iEnumS, e_iZipS, o_enum, o_zipL, o_zipT, e_sRaise1, e_sPar, e_sPar3, e_gTL, o_isBB, o_notBB, e_iEnumA, o_enumL, o_enumT, e_mB, ok_strD, ok_listD, e_iZipM, o_zipLL, o_zipTT, o_zipTL, o_zipLT, e_sCons, e_sNil, e_sBreak, e_sCont, e_sRet, e_sRetN, e_sExpr, e_sIf, e_sAsg, e_sOwn, e_sFrz, e_sRaise, e_sFor, e_loop_nil, e_mC, e_m1, e_m2, e_mF, e_mCall, e_mM1, e_aNil, e_aCons, e_aLst, e_mTup, e_mLst, e_mN, e_mT, e_mTru, e_mAndT, e_mOrT, e_mNotT, e_mAnd, e_mOr, e_mNot, e_mIf, e_mChain, e_iSeq, e_iRange1, e_iRange2, e_oNone, e_oSome, e_mSl, e_mYes, e_mLc, e_gN, v0, vS, p0, p0o, pS, f0, f0s, f0n, fS, R.bind_ok, R.bind_err, R.bind_stuck, R.quiet_ok, R.sure_ok, R.sure_err, R.sure_stuck, O.of_ok, O.of_err, O.of_stuck, O.thn_nx, O.thn_rt, O.thn_bk, O.thn_ct, O.thn_err, O.thn_rto, O.lp_nx, O.lp_ct, O.lp_bk, O.lp_rt, O.lp_rto, O.lp_err, fin_nx, fin_rt, fin_err, asB_b, o_add, o_addI, o_sub, o_neg, o_lt, o_le, o_gt, o_ge, o_eqI, o_neI, o_eqS, o_neS, o_inS, o_lenL, o_lenT, o_int, o_itS, o_itL, o_itT, o_truL, o_truB, o_truI, List.set_cons_zero, List.set_cons_succ, List.length_cons, List.length_nil, if_true, if_false, Bool.not_true, Bool.not_false, Bool.false_eq_true, Option.isSome_some, Option.isSome_none, Nat.reduceAdd, Nat.zero_add, decide_true, decide_false, e_gT, e_gsC, e_gsN, e_callR0, e_callN, Nat.reduceEqDiff, lit_0, lit_1, lit_2, lit_3, lit_4, lit_5, lit_6, lit_7, lit_8, lit_9, lit_10, lit_11, lit_12, cl_0, cl_1, cl_2, cl_3, cl_4, cl_5, cl_6, cl_7, rg_nat (show n ≤ 1000 by omega)]
  refine ck (by rw [List.length_range]; omega) ?_
  rw [RP_lc (u := fun (k : Nat) => PyData.int (k : Int)) (f := fun k => PyData.int (cntK w k)) (fun k hk => by
    have hk := List.mem_range.mp hk
    unfold ce__law_sums_1
    simp -implicitDefEqProofs only [e_callR, e_callX, e_isX, e_xf, e_sNext, e_sApp, e_sPop, e_sRev, e_sRetOwn, e_sExt, e_sGive, e_sSetIx, e_hdl, hdl_nil, e_hdlAs, ownAt_own, rndAt_rnd, excAt_exc, someD_some, caseB_t, caseB_f, intD_int, clean_nil, clean_sh, clean_no, clean_own, List.getElem?_cons_zero, List.getElem?_cons_succ, decide_eq_true_eq, Bool.not_eq_true', List.length_append, Option.getD_some, ixT0, ixT1, ixT2, ixT3, ixL0, ixL1, ixL2, ixL3, o_isB, o_isL, o_isT, o_isI, o_isS, o_niPM, o_niPL, o_max2, o_min2, o_abs, o_tupL, o_tupT, o_lofL, o_lofT, e_aListOf, e_aRep, sizeLine_eq, decide_eq_false_iff_not, Classical.not_not, Nat.reduceLeDiff, Nat.zero_le, Int.reduceLE, Int.reduceLT, Int.reduceEq, Nat.reduceLT, List.nil_append, List.cons_append, cst0, cst1, cst2, cst3, cst4, cst5, cst6, cst7, cst8, cst9, cst10, cst11, cst12, o_eqB, o_neB, reduceCtorEq, Bool.true_eq_false, e_iEnumS, e_iZipS, o_enum, o_zipL, o_zipT, e_sRaise1, e_sPar, e_sPar3, e_gTL, o_isBB, o_notBB, e_iEnumA, o_enumL, o_enumT, e_mB, ok_strD, ok_listD, e_iZipM, o_zipLL, o_zipTT, o_zipTL, o_zipLT, e_sCons, e_sNil, e_sBreak, e_sCont, e_sRet, e_sRetN, e_sExpr, e_sIf, e_sAsg, e_sOwn, e_sFrz, e_sRaise, e_sFor, e_loop_nil, e_mC, e_m1, e_m2, e_mF, e_mCall, e_mM1, e_aNil, e_aCons, e_aLst, e_mTup, e_mLst, e_mN, e_mT, e_mTru, e_mAndT, e_mOrT, e_mNotT, e_mAnd, e_mOr, e_mNot, e_mIf, e_mChain, e_iSeq, e_iRange1, e_iRange2, e_oNone, e_oSome, e_mSl, e_mYes, e_mLc, e_gN, v0, vS, p0, p0o, pS, f0, f0s, f0n, fS, R.bind_ok, R.bind_err, R.bind_stuck, R.quiet_ok, R.sure_ok, R.sure_err, R.sure_stuck, O.of_ok, O.of_err, O.of_stuck, O.thn_nx, O.thn_rt, O.thn_bk, O.thn_ct, O.thn_err, O.thn_rto, O.lp_nx, O.lp_ct, O.lp_bk, O.lp_rt, O.lp_rto, O.lp_err, fin_nx, fin_rt, fin_err, asB_b, o_add, o_addI, o_sub, o_neg, o_lt, o_le, o_gt, o_ge, o_eqI, o_neI, o_eqS, o_neS, o_inS, o_lenL, o_lenT, o_int, o_itS, o_itL, o_itT, o_truL, o_truB, o_truI, List.set_cons_zero, List.set_cons_succ, List.length_cons, List.length_nil, if_true, if_false, Bool.not_true, Bool.not_false, Bool.false_eq_true, Option.isSome_some, Option.isSome_none, Nat.reduceAdd, Nat.zero_add, decide_true, decide_false, e_gT, e_gsC, e_gsN, e_callR0, e_callN, Nat.reduceEqDiff, lit_0, lit_1, lit_2, lit_3, lit_4, lit_5, lit_6, lit_7, lit_8, lit_9, lit_10, lit_11, lit_12, cl_0, cl_1, cl_2, cl_3, cl_4, cl_5, cl_6, cl_7, ix_abc (show k < 3 by omega), ix_L6o (show k < 3 by omega), o_mulS (show (2 : Int).natAbs < 2 ^ 64 by decide) (show (k : Int).natAbs < 2 ^ 64 by omega), o_count]
    rfl)]
  unfold sumsI intsV
  rw [List.map_map]
  rfl

end Law
end
end
section
set_option Elab.async false
set_option linter.all false
set_option maxRecDepth 100000
set_option autoImplicit false
set_option maxHeartbeats 4000000
noncomputable section
namespace Law
open PySem DW L2
open SX (S S_tl S_len S_cat)
theorem r__law_holds {g : Nat} {rs : List (List Nat)} {m : Int} {ns : List Int} (hg3 : g ≤ 3) (hm : 0 ≤ m) (hl : ns.length = g) (hb : NumB ns) (hr : ∀ r ∈ rs, r.length ≤ 1000000) : m__law_holds [PV (g : Int) rs, WV m ns] = .ok (.bool (rs.all fun r => decide (wMod m (wgt ns r) = 0))) := by
  refine eq_ok ?_
  show RP False (fin (b__law_holds [some (.sh (PV (g : Int) rs)), some (.sh (WV m ns)), none, none, none, none])) _ _
  unfold b__law_holds
  simp -implicitDefEqProofs only [RP_ok, RP_err, RP_stuck, RP_bind, RP_quiet, RP_sure, RP_ite, RP_fin, RP_finN, OP_nx, OP_rt, OP_rto, OP_bk, OP_ct, OP_err, OP_stuck, OP_of, OP_thn, OP_lp, OP_ite, OP_tryN, OP_tryAs, OP_endS, OP_endI, true_implies, false_implies, not_true_eq_false, not_false_eq_true, and_true, true_and, implies_true, wipe_nil, wipe_cons, List.length_map, e_callR, e_callX, e_isX, e_xf, e_sNext, e_sApp, e_sPop, e_sRev, e_sRetOwn, e_sExt, e_sGive, e_sSetIx, e_hdl, hdl_nil, e_hdlAs, ownAt_own, rndAt_rnd, excAt_exc, someD_some, caseB_t, caseB_f, intD_int, clean_nil, clean_sh, clean_no, clean_own, List.getElem?_cons_zero, List.getElem?_cons_succ, decide_eq_true_eq, Bool.not_eq_true', List.length_append, Option.getD_some, ixT0, ixT1, ixT2, ixT3, ixL0, ixL1, ixL2, ixL3, o_isB, o_isL, o_isT, o_isI, o_isS, o_niPM, o_niPL, o_max2, o_min2, o_abs, o_tupL, o_tupT, o_lofL, o_lofT, e_aListOf, e_aRep, sizeLine_eq, decide_eq_false_iff_not, Classical.not_not, Nat.reduceLeDiff, Nat.zero_le, Int.reduceLE, Int.reduceLT, Int.reduceEq, Nat.reduceLT, List.nil_append, List.cons_append, cst0, cst1, cst2, cst3, cst4, cst5, cst6, cst7, cst8, cst9, cst10, cst11, cst12, o_eqB, o_neB, reduceCtorEq, Bool.true_eq_false, e_iEnumS, e_iZipS, o_enum, o_zipL, o_zipT, e_sRaise1, e_sPar, e_sPar3, e_gTL, o_isBB, o_notBB, e_iEnumA, o_enumL, o_enumT, e_mB, ok_strD, ok_listD, e_iZipM, o_zipLL, o_zipTT, o_zipTL, o_zipLT, e_sCons, e_sNil, e_sBreak, e_sCont, e_sRet, e_sRetN, e_sExpr, e_sIf, e_sAsg, e_sOwn, e_sFrz, e_sRaise, e_sFor, e_loop_nil, e_mC, e_m1, e_m2, e_mF, e_mCall, e_mM1, e_aNil, e_aCons, e_aLst, e_mTup, e_mLst, e_mN, e_mT, e_mTru, e_mAndT, e_mOrT, e_mNotT, e_mAnd, e_mOr, e_mNot, e_mIf, e_mChain, e_iSeq, e_iRange1, e_iRange2, e_oNone, e_oSome, e_mSl, e_mYes, e_mLc, e_gN, v0, vS, p0, p0o, pS, f0, f0s, f0n, fS, R.bind_ok, R.bind_err, R.bind_stuck, R.quiet_ok, R.sure_ok, R.sure_err, R.sure_stuck, O.of_ok, O.of_err, O.of_stuck, O.thn_nx, O.thn_rt, O.thn_bk, O.thn_ct, O.thn_err, O.thn_rto, O.lp_nx, O.lp_ct, O.lp_bk, O.lp_rt, O.lp_rto, O.lp_err, fin_nx, fin_rt, fin_err, asB_b, o_add, o_addI, o_sub, o_neg, o_lt, o_le, o_gt, o_ge, o_eqI, o_neI, o_eqS, o_neS, o_inS, o_lenL, o_lenT, o_int, o_itS, o_itL, o_itT, o_truL, o_truB, o_truI, List.set_cons_zero, List.set_cons_succ, List.length_cons, List.length_nil, if_true, if_false, Bool.not_true, Bool.not_false, Bool.false_eq_true, Option.isSome_some, Option.isSome_none, Nat.reduceAdd, Nat.zero_add, decide_true, decide_false, e_gT, e_gsC, e_gsN, e_callR0, e_callN, Nat.reduceEqDiff, lit_0, lit_1, lit_2, lit_3, lit_4, lit_5, lit_6, lit_7, lit_8, lit_9, lit_10, lit_11, lit_12, cl_0, cl_1, cl_2, cl_3, cl_4, cl_5, cl_6, cl_7]
  refine OP_for (I := fun j ρ => ∃ (o2 o3 o4 : Option SD), ρ = [some (.sh (PV (g : Int) rs)), some (.sh (WV m ns)), o2, o3, o4, none] ∧ (∀ l, clean (o4 :: l) = o4 :: clean l) ∧ ∀ r ∈ rs.take j, wMod m (wgt ns r) = 0) ⟨none, none, none, rfl, fun _ => rfl, fun _ h => nomatch h⟩ ?_ ?_
  · rintro j d ρ hd ⟨o2, o3, o4, rfl, hc, hz⟩
    rw [List.getElem?_map] at hd
    obtain ⟨r, hr1, rfl⟩ := Option.map_eq_some_iff.mp hd
    show OP (lb__law_holds_1 [some (.sh (PV (g : Int) rs)), some (.sh (WV m ns)), some (.sh (sD r)), o3, o4, none]) _
    unfold lb__law_holds_1
    simp -implicitDefEqProofs only [RP_ok, RP_err, RP_stuck, RP_bind, RP_quiet, RP_sure, RP_ite, RP_fin, RP_finN, OP_nx, OP_rt, OP_rto, OP_bk, OP_ct, OP_err, OP_stuck, OP_of, OP_thn, OP_lp, OP_ite, OP_tryN, OP_tryAs, OP_endS, OP_endI, true_implies, false_implies, not_true_eq_false, not_false_eq_true, and_true, true_and, implies_true, wipe_nil, wipe_cons, List.length_map, e_callR, e_callX, e_isX, e_xf, e_sNext, e_sApp, e_sPop, e_sRev, e_sRetOwn, e_sExt, e_sGive, e_sSetIx, e_hdl, hdl_nil, e_hdlAs, ownAt_own, rndAt_rnd, excAt_exc, someD_some, caseB_t, caseB_f, intD_int, clean_nil, clean_sh, clean_no, clean_own, List.getElem?_cons_zero, List.getElem?_cons_succ, decide_eq_true_eq, Bool.not_eq_true', List.length_append, Option.getD_some, ixT0, ixT1, ixT2, ixT3, ixL0, ixL1, ixL2, ixL3, o_isB, o_isL, o_isT, o_isI, o_isS, o_niPM, o_niPL, o_max2, o_min2, o_abs, o_tupL, o_tupT, o_lofL, o_lofT, e_aListOf, e_aRep, sizeLine_eq, decide_eq_false_iff_not, Classical.not_not, Nat.reduceLeDiff, Nat.zero_le, Int.reduceLE, Int.reduceLT, Int.reduceEq, Nat.reduceLT, List.nil_append, List.cons_append, cst0, cst1, cst2, cst3, cst4, cst5, cst6, cst7, cst8, cst9, cst10, cst11, cst12, o_eqB, o_neB, reduceCtorEq, Bool.true_eq_false, e_iEnumS, e_iZipS, o_enum, o_zipL, o_zipT, e_sRaise1, e_sPar, e_sPar3, e_gTL, o_isBB, o_notBB, e_iEnumA, o_enumL, o_enumT, e_mB, ok_strD, ok_listD, e_iZipM, o_zipLL, o_zipTT, o_zipTL, o_zipLT, e_sCons, e_sNil, e_sBreak, e_sCont, e_sRet, e_sRetN, e_sExpr, e_sIf, e_sAsg, e_sOwn, e_sFrz, e_sRaise, e_sFor, e_loop_nil, e_mC, e_m1, e_m2, e_mF, e_mCall, e_mM1, e_aNil, e_aCons, e_aLst, e_mTup, e_mLst, e_mN, e_mT, e_mTru, e_mAndT, e_mOrT, e_mNotT, e_mAnd, e_mOr, e_mNot, e_mIf, e_mChain, e_iSeq, e_iRange1, e_iRange2, e_oNone, e_oSome, e_mSl, e_mYes, e_mLc, e_gN, v0, vS, p0, p0o, pS, f0, f0s, f0n, fS, R.bind_ok, R.bind_err, R.bind_stuck, R.quiet_ok, R.sure_ok, R.sure_err, R.sure_stuck, O.of_ok, O.of_err, O.of_stuck, O.thn_nx, O.thn_rt, O.thn_bk, O.thn_ct, O.thn_err, O.thn_rto, O.lp_nx, O.lp_ct, O.lp_bk, O.lp_rt, O.lp_rto, O.lp_err, fin_nx, fin_rt, fin_err, asB_b, o_add, o_addI, o_sub, o_neg, o_lt, o_le, o_gt, o_ge, o_eqI, o_neI, o_eqS, o_neS, o_inS, o_lenL, o_lenT, o_int, o_itS, o_itL, o_itT, o_truL, o_truB, o_truI, List.set_cons_zero, List.set_cons_succ, List.length_cons, List.length_nil, if_true, if_false, Bool.not_true, Bool.not_false, Bool.false_eq_true, Option.isSome_some, Option.isSome_none, Nat.reduceAdd, Nat.zero_add, decide_true, decide_false, e_gT, e_gsC, e_gsN, e_callR0, e_callN, Nat.reduceEqDiff, lit_0, lit_1, lit_2, lit_3, lit_4, lit_5, lit_6, lit_7, lit_8, lit_9, lit_10, lit_11, lit_12, cl_0, cl_1, cl_2, cl_3, cl_4, cl_5, cl_6, cl_7, r__law_sums (n := g) hg3, rg_nat (show g ≤ 1000 by omega), hc]
    refine ck (by rw [List.length_range]; omega) ?_
    have sl := sumsI_len (n := g) (w := r)
    have hrl := hr r (List.mem_of_getElem? hr1)
    rw [RP_lc (u := fun (k : Nat) => PyData.int (k : Int)) (f := fun k => PyData.int (ns.getD k 0 * (sumsI g r).getD k 0)) (fun k hk => by
      have hk := List.mem_range.mp hk
      have p1 := hb _ (getD_in (l := ns) (k := k) (by omega))
      have p2 := sumsI_abs (getD_in (l := sumsI g r) (k := k) (by omega))
      unfold ce__law_holds_1
      simp -implicitDefEqProofs only [e_callR, e_callX, e_isX, e_xf, e_sNext, e_sApp, e_sPop, e_sRev, e_sRetOwn, e_sExt, e_sGive, e_sSetIx, e_hdl, hdl_nil, e_hdlAs, ownAt_own, rndAt_rnd, excAt_exc, someD_some, caseB_t, caseB_f, intD_int, clean_nil, clean_sh, clean_no, clean_own, List.getElem?_cons_zero, List.getElem?_cons_succ, decide_eq_true_eq, Bool.not_eq_true', List.length_append, Option.getD_some, ixT0, ixT1, ixT2, ixT3, ixL0, ixL1, ixL2, ixL3, o_isB, o_isL, o_isT, o_isI, o_isS, o_niPM, o_niPL, o_max2, o_min2, o_abs, o_tupL, o_tupT, o_lofL, o_lofT, e_aListOf, e_aRep, sizeLine_eq, decide_eq_false_iff_not, Classical.not_not, Nat.reduceLeDiff, Nat.zero_le, Int.reduceLE, Int.reduceLT, Int.reduceEq, Nat.reduceLT, List.nil_append, List.cons_append, cst0, cst1, cst2, cst3, cst4, cst5, cst6, cst7, cst8, cst9, cst10, cst11, cst12, o_eqB, o_neB, reduceCtorEq, Bool.true_eq_false, e_iEnumS, e_iZipS, o_enum, o_zipL, o_zipT, e_sRaise1, e_sPar, e_sPar3, e_gTL, o_isBB, o_notBB, e_iEnumA, o_enumL, o_enumT, e_mB, ok_strD, ok_listD, e_iZipM, o_zipLL, o_zipTT, o_zipTL, o_zipLT, e_sCons, e_sNil, e_sBreak, e_sCont, e_sRet, e_sRetN, e_sExpr, e_sIf, e_sAsg, e_sOwn, e_sFrz, e_sRaise, e_sFor, e_loop_nil, e_mC, e_m1, e_m2, e_mF, e_mCall, e_mM1, e_aNil, e_aCons, e_aLst, e_mTup, e_mLst, e_mN, e_mT, e_mTru, e_mAndT, e_mOrT, e_mNotT, e_mAnd, e_mOr, e_mNot, e_mIf, e_mChain, e_iSeq, e_iRange1, e_iRange2, e_oNone, e_oSome, e_mSl, e_mYes, e_mLc, e_gN, v0, vS, p0, p0o, pS, f0, f0s, f0n, fS, R.bind_ok, R.bind_err, R.bind_stuck, R.quiet_ok, R.sure_ok, R.sure_err, R.sure_stuck, O.of_ok, O.of_err, O.of_stuck, O.thn_nx, O.thn_rt, O.thn_bk, O.thn_ct, O.thn_err, O.thn_rto, O.lp_nx, O.lp_ct, O.lp_bk, O.lp_rt, O.lp_rto, O.lp_err, fin_nx, fin_rt, fin_err, asB_b, o_add, o_addI, o_sub, o_neg, o_lt, o_le, o_gt, o_ge, o_eqI, o_neI, o_eqS, o_neS, o_inS, o_lenL, o_lenT, o_int, o_itS, o_itL, o_itT, o_truL, o_truB, o_truI, List.set_cons_zero, List.set_cons_succ, List.length_cons, List.length_nil, if_true, if_false, Bool.not_true, Bool.not_false, Bool.false_eq_true, Option.isSome_some, Option.isSome_none, Nat.reduceAdd, Nat.zero_add, decide_true, decide_false, e_gT, e_gsC, e_gsN, e_callR0, e_callN, Nat.reduceEqDiff, lit_0, lit_1, lit_2, lit_3, lit_4, lit_5, lit_6, lit_7, lit_8, lit_9, lit_10, lit_11, lit_12, cl_0, cl_1, cl_2, cl_3, cl_4, cl_5, cl_6, cl_7, ixT_int (l := ns) (k := k) (by omega), ix_int (l := sumsI g r) (k := k) (by omega), o_mulS (show (ns.getD k 0).natAbs < 2 ^ 64 by omega) (show ((sumsI g r).getD k 0).natAbs < 2 ^ 64 by omega)])]
    have es := dot_sum (ns := ns) (ss := sumsI g r) (by omega) (by omega)
    rw [sl] at es
    rw [RP_of es]
    simp -implicitDefEqProofs only [RP_ok, RP_err, RP_stuck, RP_bind, RP_quiet, RP_sure, RP_ite, RP_fin, RP_finN, OP_nx, OP_rt, OP_rto, OP_bk, OP_ct, OP_err, OP_stuck, OP_of, OP_thn, OP_lp, OP_ite, OP_tryN, OP_tryAs, OP_endS, OP_endI, true_implies, false_implies, not_true_eq_false, not_false_eq_true, and_true, true_and, implies_true, wipe_nil, wipe_cons, List.length_map, e_callR, e_callX, e_isX, e_xf, e_sNext, e_sApp, e_sPop, e_sRev, e_sRetOwn, e_sExt, e_sGive, e_sSetIx, e_hdl, hdl_nil, e_hdlAs, ownAt_own, rndAt_rnd, excAt_exc, someD_some, caseB_t, caseB_f, intD_int, clean_nil, clean_sh, clean_no, clean_own, List.getElem?_cons_zero, List.getElem?_cons_succ, decide_eq_true_eq, Bool.not_eq_true', List.length_append, Option.getD_some, ixT0, ixT1, ixT2, ixT3, ixL0, ixL1, ixL2, ixL3, o_isB, o_isL, o_isT, o_isI, o_isS, o_niPM, o_niPL, o_max2, o_min2, o_abs, o_tupL, o_tupT, o_lofL, o_lofT, e_aListOf, e_aRep, sizeLine_eq, decide_eq_false_iff_not, Classical.not_not, Nat.reduceLeDiff, Nat.zero_le, Int.reduceLE, Int.reduceLT, Int.reduceEq, Nat.reduceLT, List.nil_append, List.cons_append, cst0, cst1, cst2, cst3, cst4, cst5, cst6, cst7, cst8, cst9, cst10, cst11, cst12, o_eqB, o_neB, reduceCtorEq, Bool.true_eq_false, e_iEnumS, e_iZipS, o_enum, o_zipL, o_zipT, e_sRaise1, e_sPar, e_sPar3, e_gTL, o_isBB, o_notBB, e_iEnumA, o_enumL, o_enumT, e_mB, ok_strD, ok_listD, e_iZipM, o_zipLL, o_zipTT, o_zipTL, o_zipLT, e_sCons, e_sNil, e_sBreak, e_sCont, e_sRet, e_sRetN, e_sExpr, e_sIf, e_sAsg, e_sOwn, e_sFrz, e_sRaise, e_sFor, e_loop_nil, e_mC, e_m1, e_m2, e_mF, e_mCall, e_mM1, e_aNil, e_aCons, e_aLst, e_mTup, e_mLst, e_mN, e_mT, e_mTru, e_mAndT, e_mOrT, e_mNotT, e_mAnd, e_mOr, e_mNot, e_mIf, e_mChain, e_iSeq, e_iRange1, e_iRange2, e_oNone, e_oSome, e_mSl, e_mYes, e_mLc, e_gN, v0, vS, p0, p0o, pS, f0, f0s, f0n, fS, R.bind_ok, R.bind_err, R.bind_stuck, R.quiet_ok, R.sure_ok, R.sure_err, R.sure_stuck, O.of_ok, O.of_err, O.of_stuck, O.thn_nx, O.thn_rt, O.thn_bk, O.thn_ct, O.thn_err, O.thn_rto, O.lp_nx, O.lp_ct, O.lp_bk, O.lp_rt, O.lp_rto, O.lp_err, fin_nx, fin_rt, fin_err, asB_b, o_add, o_addI, o_sub, o_neg, o_lt, o_le, o_gt, o_ge, o_eqI, o_neI, o_eqS, o_neS, o_inS, o_lenL, o_lenT, o_int, o_itS, o_itL, o_itT, o_truL, o_truB, o_truI, List.set_cons_zero, List.set_cons_succ, List.length_cons, List.length_nil, if_true, if_false, Bool.not_true, Bool.not_false, Bool.false_eq_true, Option.isSome_some, Option.isSome_none, Nat.reduceAdd, Nat.zero_add, decide_true, decide_false, e_gT, e_gsC, e_gsN, e_callR0, e_callN, Nat.reduceEqDiff, lit_0, lit_1, lit_2, lit_3, lit_4, lit_5, lit_6, lit_7, lit_8, lit_9, lit_10, lit_11, lit_12, cl_0, cl_1, cl_2, cl_3, cl_4, cl_5, cl_6, cl_7]
    have bad : wMod m (wgt ns r) ≠ 0 → (rs.all fun r => decide (wMod m (wgt ns r) = 0)) = false := fun h => by
      rw [List.all_eq_false]
      exact ⟨r, List.mem_of_getElem? hr1, by rw [decide_eq_false h]; decide⟩
    have ew : wgt ns r = dotI ns (sumsI g r) := by unfold wgt; rw [hl]
    rw [ew] at bad
    have nx : wMod m (dotI ns (sumsI g r)) = 0 → ∀ x ∈ rs.take (j + 1), wMod m (wgt ns x) = 0 := fun h x hx => by
      rw [List.take_add_one, hr1] at hx
      rcases List.mem_append.mp hx with hx | hx
      · exact hz x hx
      · rw [List.mem_singleton.mp hx, ew]; exact h
    refine ⟨fun h0 => ⟨fun h => by rw [bad (by unfold wMod; rw [if_pos h0]; exact h)], fun h => ⟨fun z => absurd h0 (by omega), fun _ => ⟨_, _, _, rfl, fun _ => rfl, nx (by unfold wMod; rw [if_pos h0]; exact h)⟩⟩⟩, fun h0 => ⟨fun hp => ?_, fun z => absurd (by omega) z⟩⟩
    rw [RP_of (o_mod hp)]
    simp -implicitDefEqProofs only [RP_ok, RP_err, RP_stuck, RP_bind, RP_quiet, RP_sure, RP_ite, RP_fin, RP_finN, OP_nx, OP_rt, OP_rto, OP_bk, OP_ct, OP_err, OP_stuck, OP_of, OP_thn, OP_lp, OP_ite, OP_tryN, OP_tryAs, OP_endS, OP_endI, true_implies, false_implies, not_true_eq_false, not_false_eq_true, and_true, true_and, implies_true, wipe_nil, wipe_cons, List.length_map, e_callR, e_callX, e_isX, e_xf, e_sNext, e_sApp, e_sPop, e_sRev, e_sRetOwn, e_sExt, e_sGive, e_sSetIx, e_hdl, hdl_nil, e_hdlAs, ownAt_own, rndAt_rnd, excAt_exc, someD_some, caseB_t, caseB_f, intD_int, clean_nil, clean_sh, clean_no, clean_own, List.getElem?_cons_zero, List.getElem?_cons_succ, decide_eq_true_eq, Bool.not_eq_true', List.length_append, Option.getD_some, ixT0, ixT1, ixT2, ixT3, ixL0, ixL1, ixL2, ixL3, o_isB, o_isL, o_isT, o_isI, o_isS, o_niPM, o_niPL, o_max2, o_min2, o_abs, o_tupL, o_tupT, o_lofL, o_lofT, e_aListOf, e_aRep, sizeLine_eq, decide_eq_false_iff_not, Classical.not_not, Nat.reduceLeDiff, Nat.zero_le, Int.reduceLE, Int.reduceLT, Int.reduceEq, Nat.reduceLT, List.nil_append, List.cons_append, cst0, cst1, cst2, cst3, cst4, cst5, cst6, cst7, cst8, cst9, cst10, cst11, cst12, o_eqB, o_neB, reduceCtorEq, Bool.true_eq_false, e_iEnumS, e_iZipS, o_enum, o_zipL, o_zipT, e_sRaise1, e_sPar, e_sPar3, e_gTL, o_isBB, o_notBB, e_iEnumA, o_enumL, o_enumT, e_mB, ok_strD, ok_listD, e_iZipM, o_zipLL, o_zipTT, o_zipTL, o_zipLT, e_sCons, e_sNil, e_sBreak, e_sCont, e_sRet, e_sRetN, e_sExpr, e_sIf, e_sAsg, e_sOwn, e_sFrz, e_sRaise, e_sFor, e_loop_nil, e_mC, e_m1, e_m2, e_mF, e_mCall, e_mM1, e_aNil, e_aCons, e_aLst, e_mTup, e_mLst, e_mN, e_mT, e_mTru, e_mAndT, e_mOrT, e_mNotT, e_mAnd, e_mOr, e_mNot, e_mIf, e_mChain, e_iSeq, e_iRange1, e_iRange2, e_oNone, e_oSome, e_mSl, e_mYes, e_mLc, e_gN, v0, vS, p0, p0o, pS, f0, f0s, f0n, fS, R.bind_ok, R.bind_err, R.bind_stuck, R.quiet_ok, R.sure_ok, R.sure_err, R.sure_stuck, O.of_ok, O.of_err, O.of_stuck, O.thn_nx, O.thn_rt, O.thn_bk, O.thn_ct, O.thn_err, O.thn_rto, O.lp_nx, O.lp_ct, O.lp_bk, O.lp_rt, O.lp_rto, O.lp_err, fin_nx, fin_rt, fin_err, asB_b, o_add, o_addI, o_sub, o_neg, o_lt, o_le, o_gt, o_ge, o_eqI, o_neI, o_eqS, o_neS, o_inS, o_lenL, o_lenT, o_int, o_itS, o_itL, o_itT, o_truL, o_truB, o_truI, List.set_cons_zero, List.set_cons_succ, List.length_cons, List.length_nil, if_true, if_false, Bool.not_true, Bool.not_false, Bool.false_eq_true, Option.isSome_some, Option.isSome_none, Nat.reduceAdd, Nat.zero_add, decide_true, decide_false, e_gT, e_gsC, e_gsN, e_callR0, e_callN, Nat.reduceEqDiff, lit_0, lit_1, lit_2, lit_3, lit_4, lit_5, lit_6, lit_7, lit_8, lit_9, lit_10, lit_11, lit_12, cl_0, cl_1, cl_2, cl_3, cl_4, cl_5, cl_6, cl_7]
    exact ⟨fun h => by rw [bad (by unfold wMod; rw [if_neg h0]; exact h)], fun h => ⟨_, _, _, rfl, fun _ => rfl, nx (by unfold wMod; rw [if_neg h0]; exact h)⟩⟩
  · rintro ρ ⟨o2, o3, o4, rfl, hc, hz⟩
    rw [List.length_map, List.take_length] at hz
    simp -implicitDefEqProofs only [RP_ok, RP_err, RP_stuck, RP_bind, RP_quiet, RP_sure, RP_ite, RP_fin, RP_finN, OP_nx, OP_rt, OP_rto, OP_bk, OP_ct, OP_err, OP_stuck, OP_of, OP_thn, OP_lp, OP_ite, OP_tryN, OP_tryAs, OP_endS, OP_endI, true_implies, false_implies, not_true_eq_false, not_false_eq_true, and_true, true_and, implies_true, wipe_nil, wipe_cons, List.length_map, e_callR, e_callX, e_isX, e_xf, e_sNext, e_sApp, e_sPop, e_sRev, e_sRetOwn, e_sExt, e_sGive, e_sSetIx, e_hdl, hdl_nil, e_hdlAs, ownAt_own, rndAt_rnd, excAt_exc, someD_some, caseB_t, caseB_f, intD_int, clean_nil, clean_sh, clean_no, clean_own, List.getElem?_cons_zero, List.getElem?_cons_succ, decide_eq_true_eq, Bool.not_eq_true', List.length_append, Option.getD_some, ixT0, ixT1, ixT2, ixT3, ixL0, ixL1, ixL2, ixL3, o_isB, o_isL, o_isT, o_isI, o_isS, o_niPM, o_niPL, o_max2, o_min2, o_abs, o_tupL, o_tupT, o_lofL, o_lofT, e_aListOf, e_aRep, sizeLine_eq, decide_eq_false_iff_not, Classical.not_not, Nat.reduceLeDiff, Nat.zero_le, Int.reduceLE, Int.reduceLT, Int.reduceEq, Nat.reduceLT, List.nil_append, List.cons_append, cst0, cst1, cst2, cst3, cst4, cst5, cst6, cst7, cst8, cst9, cst10, cst11, cst12, o_eqB, o_neB, reduceCtorEq, Bool.true_eq_false, e_iEnumS, e_iZipS, o_enum, o_zipL, o_zipT, e_sRaise1, e_sPar, e_sPar3, e_gTL, o_isBB, o_notBB, e_iEnumA, o_enumL, o_enumT, e_mB, ok_strD, ok_listD, e_iZipM, o_zipLL, o_zipTT, o_zipTL, o_zipLT, e_sCons, e_sNil, e_sBreak, e_sCont, e_sRet, e_sRetN, e_sExpr, e_sIf, e_sAsg, e_sOwn, e_sFrz, e_sRaise, e_sFor, e_loop_nil, e_mC, e_m1, e_m2, e_mF, e_mCall, e_mM1, e_aNil, e_aCons, e_aLst, e_mTup, e_mLst, e_mN, e_mT, e_mTru, e_mAndT, e_mOrT, e_mNotT, e_mAnd, e_mOr, e_mNot, e_mIf, e_mChain, e_iSeq, e_iRange1, e_iRange2, e_oNone, e_oSome, e_mSl, e_mYes, e_mLc, e_gN, v0, vS, p0, p0o, pS, f0, f0s, f0n, fS, R.bind_ok, R.bind_err, R.bind_stuck, R.quiet_ok, R.sure_ok, R.sure_err, R.sure_stuck, O.of_ok, O.of_err, O.of_stuck, O.thn_nx, O.thn_rt, O.thn_bk, O.thn_ct, O.thn_err, O.thn_rto, O.lp_nx, O.lp_ct, O.lp_bk, O.lp_rt, O.lp_rto, O.lp_err, fin_nx, fin_rt, fin_err, asB_b, o_add, o_addI, o_sub, o_neg, o_lt, o_le, o_gt, o_ge, o_eqI, o_neI, o_eqS, o_neS, o_inS, o_lenL, o_lenT, o_int, o_itS, o_itL, o_itT, o_truL, o_truB, o_truI, List.set_cons_zero, List.set_cons_succ, List.length_cons, List.length_nil, if_true, if_false, Bool.not_true, Bool.not_false, Bool.false_eq_true, Option.isSome_some, Option.isSome_none, Nat.reduceAdd, Nat.zero_add, decide_true, decide_false, e_gT, e_gsC, e_gsN, e_callR0, e_callN, Nat.reduceEqDiff, lit_0, lit_1, lit_2, lit_3, lit_4, lit_5, lit_6, lit_7, lit_8, lit_9, lit_10, lit_11, lit_12, cl_0, cl_1, cl_2, cl_3, cl_4, cl_5, cl_6, cl_7]
    rw [List.all_eq_true.mpr fun r h => decide_eq_true (hz r h)]

end Law
end
end
section
set_option Elab.async false
set_option linter.all false
set_option maxRecDepth 100000
set_option autoImplicit false
set_option maxHeartbeats 4000000
noncomputable section
namespace Law
open PySem DW L2
open SX (S S_tl S_len S_cat)
theorem r__law_word (c g : Int) (most : Nat) (h1 : 1 ≤ g) (h2 : g ≤ 3) (hm : most ≤ 900) : ∃ w : List Nat, w.length ≤ most ∧ (∀ x ∈ w, x ∈ lt g) ∧ m__law_word [.int c, .int g, .int (most : Int)] = .ok (.str (S w)) := by
  have hz := sizeLine_eq
  obtain ⟨vs, hv1, hv2, hv3⟩ := r__law_values c 997 (most + 1) (by omega) (by decide) (by decide)
  obtain ⟨x0, e0⟩ : ∃ x0, vs[0]? = some x0 := ⟨_, List.getElem?_eq_getElem (by omega)⟩
  have m0 : 0 ≤ x0 % ((most : Int) + 1) ∧ x0 % ((most : Int) + 1) < (most : Int) + 1 := ⟨Int.emod_nonneg _ (by omega), Int.emod_lt_of_pos _ (by omega)⟩
  have hcut : ∃ us : List Int, us.length ≤ most ∧ (∀ v ∈ us, 0 ≤ v) ∧ cutG (vs.map PyData.int) (some 1) (some (1 + x0 % ((most : Int) + 1))) = us.map PyData.int := by
    refine ⟨cutG vs (some 1) (some (1 + x0 % ((most : Int) + 1))), ?_, fun v hv => ?_, ?_⟩
    · unfold cutG
      rw [List.length_take, List.length_drop, hv1]
      have e1 : HT.sIx (most + 1) 0 (some 1) = min 1 (most + 1) := HT.sIx_nat (most + 1) 0 1
      rw [e1]
      omega
    · exact (hv2 v (List.mem_of_mem_drop (List.mem_of_mem_take hv))).1
    · unfold cutG
      rw [List.length_map, List.map_take, List.map_drop]
  obtain ⟨us, hu1, hu2, hu3⟩ := hcut
  have hg : 0 < 2 * g := by omega
  have pick : ∀ v : Int, 0 ≤ v → ∃ x ∈ lt g, dIdx (.str (S L6)) (.int (v % (2 * g))) = .ok (one x) := fun v hv => by
    have q0 : 0 ≤ v % (2 * g) := Int.emod_nonneg _ (by omega)
    have q1 : v % (2 * g) < 2 * g := Int.emod_lt_of_pos _ hg
    have hl := lt_len h1 h2
    generalize v % (2 * g) = z at q0 q1
    obtain ⟨j, rfl⟩ : ∃ j : Nat, z = (j : Int) := ⟨z.toNat, by omega⟩
    have hi : j < (lt g).length := by omega
    have e : L6[j]? = some (lt g)[j] := by
      have e1 : (lt g)[j]? = some (lt g)[j] := List.getElem?_eq_getElem hi
      rw [← e1]
      unfold lt
      have : j < 2 * g.toNat := by omega
      rw [List.getElem?_take, if_pos this]
    exact ⟨_, List.getElem_mem hi, o_ixS (by decide) e⟩
  have comp : ∀ us : List Int, (∀ v ∈ us, 0 ≤ v) → ∃ w : List Nat, w.length = us.length ∧ (∀ x ∈ w, x ∈ lt g) ∧ lcLoop (gN 4) mYes ce__law_word_1 [some (.sh (.int c)), some (.sh (.int g)), some (.sh (.int (most : Int))), some (.sh (.list (vs.map PyData.int))), none] (us.map PyData.int) = .ok (w.map one') := by
    intro us
    induction us with
    | nil => exact fun _ => ⟨[], rfl, (fun _ h => nomatch h), rfl⟩
    | cons v us ih =>
      intro h
      obtain ⟨w, w1, w2, w3⟩ := ih fun y hy => h y (List.mem_cons_of_mem _ hy)
      obtain ⟨x, x1, x2⟩ := pick v (h v List.mem_cons_self)
      refine ⟨x :: w, by rw [List.length_cons, List.length_cons, w1], fun y hy => (List.mem_cons.mp hy).elim (fun e => e ▸ x1) (w2 y), ?_⟩
      show R.bind (ce__law_word_1 [some (.sh (.int c)), some (.sh (.int g)), some (.sh (.int (most : Int))), some (.sh (.list (vs.map PyData.int))), some (.sh (.int v))]).sure (fun y => (lcLoop (gN 4) mYes ce__law_word_1 [some (.sh (.int c)), some (.sh (.int g)), some (.sh (.int (most : Int))), some (.sh (.list (vs.map PyData.int))), none] (us.map PyData.int)).bind fun ys => R.ok (y :: ys)) = _
      rw [w3]
      unfold ce__law_word_1
      simp -implicitDefEqProofs only [e_sCons, e_sNil, e_sBreak, e_sCont, e_sRet, e_sRetN, e_sExpr, e_sIf, e_sAsg, e_sOwn, e_sFrz, e_sRaise, e_sFor, e_loop_nil, e_mC, e_m1, e_m2, e_mF, e_mCall, e_mM1, e_aNil, e_aCons, e_aLst, e_mTup, e_mLst, e_mN, e_mT, e_mTru, e_mAndT, e_mOrT, e_mNotT, e_mAnd, e_mOr, e_mNot, e_mIf, e_mChain, e_iSeq, e_iRange1, e_iRange2, e_oNone, e_oSome, e_mSl, e_mYes, e_mLc, e_gN, v0, vS, p0, p0o, pS, f0, f0s, f0n, fS, R.bind_ok, R.bind_err, R.bind_stuck, R.quiet_ok, R.sure_ok, R.sure_err, R.sure_stuck, O.of_ok, O.of_err, O.of_stuck, O.thn_nx, O.thn_rt, O.thn_bk, O.thn_ct, O.thn_err, O.thn_rto, O.lp_nx, O.lp_ct, O.lp_bk, O.lp_rt, O.lp_rto, O.lp_err, fin_nx, fin_rt, fin_err, asB_b, o_add, o_addI, o_sub, o_neg, o_lt, o_le, o_gt, o_ge, o_eqI, o_neI, o_eqS, o_neS, o_inS, o_lenL, o_lenT, o_int, o_itS, o_itL, o_itT, o_truL, o_truB, o_truI, List.set_cons_zero, List.set_cons_succ, List.length_cons, List.length_nil, if_true, if_false, Bool.not_true, Bool.not_false, Bool.false_eq_true, Option.isSome_some, Option.isSome_none, Nat.reduceAdd, Nat.zero_add, decide_true, decide_false, e_gT, e_gsC, e_gsN, e_callR0, e_callN, Nat.reduceEqDiff, lit_0, lit_1, lit_2, lit_3, lit_4, lit_5, lit_6, lit_7, lit_8, lit_9, lit_10, lit_11, lit_12, cl_0, cl_1, cl_2, cl_3, cl_4, cl_5, cl_6, cl_7, o_mulS (show (2 : Int).natAbs < 2 ^ 64 by decide) (show g.natAbs < 2 ^ 64 by omega), o_mod hg, x2]
      rfl
  obtain ⟨w, w1, w2, w3⟩ := comp us hu2
  refine ⟨w, by omega, w2, ?_⟩
  show fin (b__law_word [some (.sh (.int c)), some (.sh (.int g)), some (.sh (.int (most : Int))), none, none]) = _
  unfold b__law_word
  have hv3 : m__law_values [.int c, .int ((most : Int) + 1), .int 997] = .ok (.list (vs.map PyData.int)) := hv3
  have e0' : (vs.map PyData.int)[0]? = some (.int x0) := by rw [List.getElem?_map, e0]; rfl
  have ix : dIdx (.list (vs.map PyData.int)) (.int 0) = .ok (.int x0) := o_ixL (i := 0) e0'
  simp -implicitDefEqProofs only [e_sCons, e_sNil, e_sBreak, e_sCont, e_sRet, e_sRetN, e_sExpr, e_sIf, e_sAsg, e_sOwn, e_sFrz, e_sRaise, e_sFor, e_loop_nil, e_mC, e_m1, e_m2, e_mF, e_mCall, e_mM1, e_aNil, e_aCons, e_aLst, e_mTup, e_mLst, e_mN, e_mT, e_mTru, e_mAndT, e_mOrT, e_mNotT, e_mAnd, e_mOr, e_mNot, e_mIf, e_mChain, e_iSeq, e_iRange1, e_iRange2, e_oNone, e_oSome, e_mSl, e_mYes, e_mLc, e_gN, v0, vS, p0, p0o, pS, f0, f0s, f0n, fS, R.bind_ok, R.bind_err, R.bind_stuck, R.quiet_ok, R.sure_ok, R.sure_err, R.sure_stuck, O.of_ok, O.of_err, O.of_stuck, O.thn_nx, O.thn_rt, O.thn_bk, O.thn_ct, O.thn_err, O.thn_rto, O.lp_nx, O.lp_ct, O.lp_bk, O.lp_rt, O.lp_rto, O.lp_err, fin_nx, fin_rt, fin_err, asB_b, o_add, o_addI, o_sub, o_neg, o_lt, o_le, o_gt, o_ge, o_eqI, o_neI, o_eqS, o_neS, o_inS, o_lenL, o_lenT, o_int, o_itS, o_itL, o_itT, o_truL, o_truB, o_truI, List.set_cons_zero, List.set_cons_succ, List.length_cons, List.length_nil, if_true, if_false, Bool.not_true, Bool.not_false, Bool.false_eq_true, Option.isSome_some, Option.isSome_none, Nat.reduceAdd, Nat.zero_add, decide_true, decide_false, e_gT, e_gsC, e_gsN, e_callR0, e_callN, Nat.reduceEqDiff, lit_0, lit_1, lit_2, lit_3, lit_4, lit_5, lit_6, lit_7, lit_8, lit_9, lit_10, lit_11, lit_12, cl_0, cl_1, cl_2, cl_3, cl_4, cl_5, cl_6, cl_7, hv3, ix, o_mod (show (0 : Int) < (most : Int) + 1 by omega), o_slL, hu3]
  rw [if_pos (by rw [List.length_map, hz]; omega)]
  have w3 : lcLoop (gN 4) mYes ce__law_word_1 (wipeD (clean [some (.sh (.int c)), some (.sh (.int g)), some (.sh (.int (most : Int))), some (.sh (.list (vs.map PyData.int))), none]) [4]) (us.map PyData.int) = .ok (w.map one') := w3
  rw [w3]
  simp -implicitDefEqProofs only [e_sCons, e_sNil, e_sBreak, e_sCont, e_sRet, e_sRetN, e_sExpr, e_sIf, e_sAsg, e_sOwn, e_sFrz, e_sRaise, e_sFor, e_loop_nil, e_mC, e_m1, e_m2, e_mF, e_mCall, e_mM1, e_aNil, e_aCons, e_aLst, e_mTup, e_mLst, e_mN, e_mT, e_mTru, e_mAndT, e_mOrT, e_mNotT, e_mAnd, e_mOr, e_mNot, e_mIf, e_mChain, e_iSeq, e_iRange1, e_iRange2, e_oNone, e_oSome, e_mSl, e_mYes, e_mLc, e_gN, v0, vS, p0, p0o, pS, f0, f0s, f0n, fS, R.bind_ok, R.bind_err, R.bind_stuck, R.quiet_ok, R.sure_ok, R.sure_err, R.sure_stuck, O.of_ok, O.of_err, O.of_stuck, O.thn_nx, O.thn_rt, O.thn_bk, O.thn_ct, O.thn_err, O.thn_rto, O.lp_nx, O.lp_ct, O.lp_bk, O.lp_rt, O.lp_rto, O.lp_err, fin_nx, fin_rt, fin_err, asB_b, o_add, o_addI, o_sub, o_neg, o_lt, o_le, o_gt, o_ge, o_eqI, o_neI, o_eqS, o_neS, o_inS, o_lenL, o_lenT, o_int, o_itS, o_itL, o_itT, o_truL, o_truB, o_truI, List.set_cons_zero, List.set_cons_succ, List.length_cons, List.length_nil, if_true, if_false, Bool.not_true, Bool.not_false, Bool.false_eq_true, Option.isSome_some, Option.isSome_none, Nat.reduceAdd, Nat.zero_add, decide_true, decide_false, e_gT, e_gsC, e_gsN, e_callR0, e_callN, Nat.reduceEqDiff, lit_0, lit_1, lit_2, lit_3, lit_4, lit_5, lit_6, lit_7, lit_8, lit_9, lit_10, lit_11, lit_12, cl_0, cl_1, cl_2, cl_3, cl_4, cl_5, cl_6, cl_7, o_join (show w.length ≤ 16777216 by omega)]

end Law
end
end
section
set_option Elab.async false
set_option linter.all false
set_option maxRecDepth 100000
set_option autoImplicit false
set_option maxHeartbeats 4000000
noncomputable section
namespace Law
open PySem DW L2
open SX (S S_tl S_len S_cat)
theorem r__law_inverse {w : List Nat} (h : Wd w) (hl : w.length ≤ 1000000) : m__law_inverse [.str (S w)] = .ok (.str (S (invw w))) := by
  have hz := sizeLine_eq
  show fin (b__law_inverse [some (.sh (.str (S w))), none]) = _
  unfold b__law_inverse
  simp -implicitDefEqProofs only [e_sCons, e_sNil, e_sBreak, e_sCont, e_sRet, e_sRetN, e_sExpr, e_sIf, e_sAsg, e_sOwn, e_sFrz, e_sRaise, e_sFor, e_loop_nil, e_mC, e_m1, e_m2, e_mF, e_mCall, e_mM1, e_aNil, e_aCons, e_aLst, e_mTup, e_mLst, e_mN, e_mT, e_mTru, e_mAndT, e_mOrT, e_mNotT, e_mAnd, e_mOr, e_mNot, e_mIf, e_mChain, e_iSeq, e_iRange1, e_iRange2, e_oNone, e_oSome, e_mSl, e_mYes, e_mLc, e_gN, v0, vS, p0, p0o, pS, f0, f0s, f0n, fS, R.bind_ok, R.bind_err, R.bind_stuck, R.quiet_ok, R.sure_ok, R.sure_err, R.sure_stuck, O.of_ok, O.of_err, O.of_stuck, O.thn_nx, O.thn_rt, O.thn_bk, O.thn_ct, O.thn_err, O.thn_rto, O.lp_nx, O.lp_ct, O.lp_bk, O.lp_rt, O.lp_rto, O.lp_err, fin_nx, fin_rt, fin_err, asB_b, o_add, o_addI, o_sub, o_neg, o_lt, o_le, o_gt, o_ge, o_eqI, o_neI, o_eqS, o_neS, o_inS, o_lenL, o_lenT, o_int, o_itS, o_itL, o_itT, o_truL, o_truB, o_truI, List.set_cons_zero, List.set_cons_succ, List.length_cons, List.length_nil, if_true, if_false, Bool.not_true, Bool.not_false, Bool.false_eq_true, Option.isSome_some, Option.isSome_none, Nat.reduceAdd, Nat.zero_add, decide_true, decide_false, e_gT, e_gsC, e_gsN, e_callR0, e_callN, Nat.reduceEqDiff, lit_0, lit_1, lit_2, lit_3, lit_4, lit_5, lit_6, lit_7, lit_8, lit_9, lit_10, lit_11, lit_12, cl_0, cl_1, cl_2, cl_3, cl_4, cl_5, cl_6, cl_7, o_revS (show w.length ≤ 16777216 by omega)]
  have e : lcLoop (gN 1) mYes ce__law_inverse_1 (wipeD (clean [some (.sh (.str (S w))), none]) [1]) (w.reverse.map one') = .ok ((w.reverse.map one').map fun d => match d with | .str z => one (inv (z.cps.toList.getD 0 0)) | _ => .none) := by
    refine lc_map _ fun d hd => ?_
    obtain ⟨c, hc, rfl⟩ := List.mem_map.mp hd
    show ce__law_inverse_1 [some (.sh (.str (S w))), some (.sh (one c))] = _
    unfold ce__law_inverse_1
    simp -implicitDefEqProofs only [e_sCons, e_sNil, e_sBreak, e_sCont, e_sRet, e_sRetN, e_sExpr, e_sIf, e_sAsg, e_sOwn, e_sFrz, e_sRaise, e_sFor, e_loop_nil, e_mC, e_m1, e_m2, e_mF, e_mCall, e_mM1, e_aNil, e_aCons, e_aLst, e_mTup, e_mLst, e_mN, e_mT, e_mTru, e_mAndT, e_mOrT, e_mNotT, e_mAnd, e_mOr, e_mNot, e_mIf, e_mChain, e_iSeq, e_iRange1, e_iRange2, e_oNone, e_oSome, e_mSl, e_mYes, e_mLc, e_gN, v0, vS, p0, p0o, pS, f0, f0s, f0n, fS, R.bind_ok, R.bind_err, R.bind_stuck, R.quiet_ok, R.sure_ok, R.sure_err, R.sure_stuck, O.of_ok, O.of_err, O.of_stuck, O.thn_nx, O.thn_rt, O.thn_bk, O.thn_ct, O.thn_err, O.thn_rto, O.lp_nx, O.lp_ct, O.lp_bk, O.lp_rt, O.lp_rto, O.lp_err, fin_nx, fin_rt, fin_err, asB_b, o_add, o_addI, o_sub, o_neg, o_lt, o_le, o_gt, o_ge, o_eqI, o_neI, o_eqS, o_neS, o_inS, o_lenL, o_lenT, o_int, o_itS, o_itL, o_itT, o_truL, o_truB, o_truI, List.set_cons_zero, List.set_cons_succ, List.length_cons, List.length_nil, if_true, if_false, Bool.not_true, Bool.not_false, Bool.false_eq_true, Option.isSome_some, Option.isSome_none, Nat.reduceAdd, Nat.zero_add, decide_true, decide_false, e_gT, e_gsC, e_gsN, e_callR0, e_callN, Nat.reduceEqDiff, lit_0, lit_1, lit_2, lit_3, lit_4, lit_5, lit_6, lit_7, lit_8, lit_9, lit_10, lit_11, lit_12, cl_0, cl_1, cl_2, cl_3, cl_4, cl_5, cl_6, cl_7, o_idxL6 (h c (List.mem_reverse.mp hc)), o_invL6 (h c (List.mem_reverse.mp hc))]
    rfl
  rw [if_pos (by rw [List.length_map, List.length_reverse, hz]; omega), e]
  simp -implicitDefEqProofs only [e_sCons, e_sNil, e_sBreak, e_sCont, e_sRet, e_sRetN, e_sExpr, e_sIf, e_sAsg, e_sOwn, e_sFrz, e_sRaise, e_sFor, e_loop_nil, e_mC, e_m1, e_m2, e_mF, e_mCall, e_mM1, e_aNil, e_aCons, e_aLst, e_mTup, e_mLst, e_mN, e_mT, e_mTru, e_mAndT, e_mOrT, e_mNotT, e_mAnd, e_mOr, e_mNot, e_mIf, e_mChain, e_iSeq, e_iRange1, e_iRange2, e_oNone, e_oSome, e_mSl, e_mYes, e_mLc, e_gN, v0, vS, p0, p0o, pS, f0, f0s, f0n, fS, R.bind_ok, R.bind_err, R.bind_stuck, R.quiet_ok, R.sure_ok, R.sure_err, R.sure_stuck, O.of_ok, O.of_err, O.of_stuck, O.thn_nx, O.thn_rt, O.thn_bk, O.thn_ct, O.thn_err, O.thn_rto, O.lp_nx, O.lp_ct, O.lp_bk, O.lp_rt, O.lp_rto, O.lp_err, fin_nx, fin_rt, fin_err, asB_b, o_add, o_addI, o_sub, o_neg, o_lt, o_le, o_gt, o_ge, o_eqI, o_neI, o_eqS, o_neS, o_inS, o_lenL, o_lenT, o_int, o_itS, o_itL, o_itT, o_truL, o_truB, o_truI, List.set_cons_zero, List.set_cons_succ, List.length_cons, List.length_nil, if_true, if_false, Bool.not_true, Bool.not_false, Bool.false_eq_true, Option.isSome_some, Option.isSome_none, Nat.reduceAdd, Nat.zero_add, decide_true, decide_false, e_gT, e_gsC, e_gsN, e_callR0, e_callN, Nat.reduceEqDiff, lit_0, lit_1, lit_2, lit_3, lit_4, lit_5, lit_6, lit_7, lit_8, lit_9, lit_10, lit_11, lit_12, cl_0, cl_1, cl_2, cl_3, cl_4, cl_5, cl_6, cl_7]
  have e2 : ((w.reverse.map one').map fun d => match d with | .str z => one (inv (z.cps.toList.getD 0 0)) | _ => .none) = (invw w).map one' := by
    unfold invw
    rw [List.map_map, List.map_map]
    rfl
  rw [e2, o_join (by rw [invw_len]; omega)]
  simp -implicitDefEqProofs only [e_sCons, e_sNil, e_sBreak, e_sCont, e_sRet, e_sRetN, e_sExpr, e_sIf, e_sAsg, e_sOwn, e_sFrz, e_sRaise, e_sFor, e_loop_nil, e_mC, e_m1, e_m2, e_mF, e_mCall, e_mM1, e_aNil, e_aCons, e_aLst, e_mTup, e_mLst, e_mN, e_mT, e_mTru, e_mAndT, e_mOrT, e_mNotT, e_mAnd, e_mOr, e_mNot, e_mIf, e_mChain, e_iSeq, e_iRange1, e_iRange2, e_oNone, e_oSome, e_mSl, e_mYes, e_mLc, e_gN, v0, vS, p0, p0o, pS, f0, f0s, f0n, fS, R.bind_ok, R.bind_err, R.bind_stuck, R.quiet_ok, R.sure_ok, R.sure_err, R.sure_stuck, O.of_ok, O.of_err, O.of_stuck, O.thn_nx, O.thn_rt, O.thn_bk, O.thn_ct, O.thn_err, O.thn_rto, O.lp_nx, O.lp_ct, O.lp_bk, O.lp_rt, O.lp_rto, O.lp_err, fin_nx, fin_rt, fin_err, asB_b, o_add, o_addI, o_sub, o_neg, o_lt, o_le, o_gt, o_ge, o_eqI, o_neI, o_eqS, o_neS, o_inS, o_lenL, o_lenT, o_int, o_itS, o_itL, o_itT, o_truL, o_truB, o_truI, List.set_cons_zero, List.set_cons_succ, List.length_cons, List.length_nil, if_true, if_false, Bool.not_true, Bool.not_false, Bool.false_eq_true, Option.isSome_some, Option.isSome_none, Nat.reduceAdd, Nat.zero_add, decide_true, decide_false, e_gT, e_gsC, e_gsN, e_callR0, e_callN, Nat.reduceEqDiff, lit_0, lit_1, lit_2, lit_3, lit_4, lit_5, lit_6, lit_7, lit_8, lit_9, lit_10, lit_11, lit_12, cl_0, cl_1, cl_2, cl_3, cl_4, cl_5, cl_6, cl_7]

end Law
end
end
section
set_option Elab.async false
set_option linter.all false
set_option maxRecDepth 100000
set_option autoImplicit false
set_option maxHeartbeats 4000000
noncomputable section
namespace Law
open PySem DW L2
open SX (S S_tl S_len S_cat)
theorem rp__law_moved {g : Nat} {rs : List (List Nat)} (hp : Pres (g : Int) rs) (c : Int) {w0 : List Nat} (hw0 : ∀ x ∈ w0, x ∈ lt (g : Int)) (hl0 : w0.length ≤ 56) : RP False (m__law_moved [sD w0, PV (g : Int) rs, .int (g : Int), .int c]) (fun d => ∃ w : List Nat, d = sD w ∧ (∀ x ∈ w, x ∈ lt (g : Int)) ∧ w.length ≤ 56 ∧ WgtSame g rs w0 w) NoE := by
  have h1 := hp.h1
  have h2 := hp.h2
  have hrl := hp.n
  have ilt : ∀ {w : List Nat}, (∀ x ∈ w, x ∈ lt (g : Int)) → ∀ x ∈ invw w, x ∈ lt (g : Int) := fun {w} h x hx => by
    obtain ⟨c, hc, rfl⟩ := List.mem_map.mp hx
    exact inv_lt h1 h2 c (h c (List.mem_reverse.mp hc))
  obtain ⟨vs, hvl, hv, ev⟩ := r__law_values c 997 19 (by decide) (by decide) (by decide)
  have ev : m__law_values [.int c, .int 19, .int 997] = .ok (.list (vs.map PyData.int)) := ev
  show RP False (fin (b__law_moved [some (.sh (sD w0)), some (.sh (PV (g : Int) rs)), some (.sh (.int (g : Int))), some (.sh (.int c)), none, none, none, none, none, none])) _ _
  unfold b__law_moved
  have ix : ∀ i : Nat, i < 19 → ∃ x, 0 ≤ x ∧ dIdx (.list (vs.map PyData.int)) (.int (i : Int)) = .ok (.int x) := fun i hi => ⟨vs.getD i 0, (hv _ (getD_in (by omega))).1, ix_int (by omega)⟩
  obtain ⟨x0, _, e0⟩ := ix 0 (by decide)
  have e0 : dIdx (.list (vs.map PyData.int)) (.int 0) = .ok (.int x0) := e0
  obtain ⟨k, hk, hk2⟩ := nat_of (z := x0) (n := 7) (by omega)
  simp -implicitDefEqProofs only [RP_ok, RP_err, RP_stuck, RP_bind, RP_quiet, RP_sure, RP_ite, RP_fin, RP_finN, OP_nx, OP_rt, OP_rto, OP_bk, OP_ct, OP_err, OP_stuck, OP_of, OP_thn, OP_lp, OP_ite, OP_tryN, OP_tryAs, OP_endS, OP_endI, true_implies, false_implies, not_true_eq_false, not_false_eq_true, and_true, true_and, implies_true, wipe_nil, wipe_cons, List.length_map, e_callR, e_callX, e_isX, e_xf, e_sNext, e_sApp, e_sPop, e_sRev, e_sRetOwn, e_sExt, e_sGive, e_sSetIx, e_hdl, hdl_nil, e_hdlAs, ownAt_own, rndAt_rnd, excAt_exc, someD_some, caseB_t, caseB_f, intD_int, clean_nil, clean_sh, clean_no, clean_own, List.getElem?_cons_zero, List.getElem?_cons_succ, decide_eq_true_eq, Bool.not_eq_true', List.length_append, Option.getD_some, ixT0, ixT1, ixT2, ixT3, ixL0, ixL1, ixL2, ixL3, o_isB, o_isL, o_isT, o_isI, o_isS, o_niPM, o_niPL, o_max2, o_min2, o_abs, o_tupL, o_tupT, o_lofL, o_lofT, e_aListOf, e_aRep, sizeLine_eq, decide_eq_false_iff_not, Classical.not_not, Nat.reduceLeDiff, Nat.zero_le, Int.reduceLE, Int.reduceLT, Int.reduceEq, Nat.reduceLT, List.nil_append, List.cons_append, cst0, cst1, cst2, cst3, cst4, cst5, cst6, cst7, cst8, cst9, cst10, cst11, cst12, o_eqB, o_neB, reduceCtorEq, Bool.true_eq_false, e_iEnumS, e_iZipS, o_enum, o_zipL, o_zipT, e_sRaise1, e_sPar, e_sPar3, e_gTL, o_isBB, o_notBB, e_iEnumA, o_enumL, o_enumT, e_mB, ok_strD, ok_listD, e_iZipM, o_zipLL, o_zipTT, o_zipTL, o_zipLT, e_sCons, e_sNil, e_sBreak, e_sCont, e_sRet, e_sRetN, e_sExpr, e_sIf, e_sAsg, e_sOwn, e_sFrz, e_sRaise, e_sFor, e_loop_nil, e_mC, e_m1, e_m2, e_mF, e_mCall, e_mM1, e_aNil, e_aCons, e_aLst, e_mTup, e_mLst, e_mN, e_mT, e_mTru, e_mAndT, e_mOrT, e_mNotT, e_mAnd, e_mOr, e_mNot, e_mIf, e_mChain, e_iSeq, e_iRange1, e_iRange2, e_oNone, e_oSome, e_mSl, e_mYes, e_mLc, e_gN, v0, vS, p0, p0o, pS, f0, f0s, f0n, fS, R.bind_ok, R.bind_err, R.bind_stuck, R.quiet_ok, R.sure_ok, R.sure_err, R.sure_stuck, O.of_ok, O.of_err, O.of_stuck, O.thn_nx, O.thn_rt, O.thn_bk, O.thn_ct, O.thn_err, O.thn_rto, O.lp_nx, O.lp_ct, O.lp_bk, O.lp_rt, O.lp_rto, O.lp_err, fin_nx, fin_rt, fin_err, asB_b, o_add, o_addI, o_sub, o_neg, o_lt, o_le, o_gt, o_ge, o_eqI, o_neI, o_eqS, o_neS, o_inS, o_lenL, o_lenT, o_int, o_itS, o_itL, o_itT, o_truL, o_truB, o_truI, List.set_cons_zero, List.set_cons_succ, List.length_cons, List.length_nil, if_true, if_false, Bool.not_true, Bool.not_false, Bool.false_eq_true, Option.isSome_some, Option.isSome_none, Nat.reduceAdd, Nat.zero_add, decide_true, decide_false, e_gT, e_gsC, e_gsN, e_callR0, e_callN, Nat.reduceEqDiff, lit_0, lit_1, lit_2, lit_3, lit_4, lit_5, lit_6, lit_7, lit_8, lit_9, lit_10, lit_11, lit_12, cl_0, cl_1, cl_2, cl_3, cl_4, cl_5, cl_6, cl_7, ev, e0, o_mod (show (0 : Int) < 7 by decide), hk, rg_nat (show k ≤ 1000 by omega)]
  generalize hV : PyData.list (vs.map PyData.int) = V at ix
  refine OP_for (I := fun j ρ => ∃ (w : List Nat) (o5 o6 o7 o8 o9 : Option SD), ρ = [some (.sh (sD w)), some (.sh (PV (g : Int) rs)), some (.sh (.int (g : Int))), some (.sh (.int c)), some (.sh V), o5, o6, o7, o8, o9] ∧ (∀ x ∈ w, x ∈ lt (g : Int)) ∧ w.length ≤ 56 ∧ WgtSame g rs w0 w) ⟨w0, none, none, none, none, none, rfl, hw0, hl0, fun _ _ _ _ => rfl⟩ ?_ ?_
  · rintro j d ρ hd ⟨w, o5, o6, o7, o8, o9, rfl, hw, hl, hs⟩
    obtain ⟨hj, rfl⟩ := loop_lt hd
    show OP (lb__law_moved_1 [some (.sh (sD w)), some (.sh (PV (g : Int) rs)), some (.sh (.int (g : Int))), some (.sh (.int c)), some (.sh V), some (.sh (.int (j : Int))), o6, o7, o8, o9]) _
    unfold lb__law_moved_1
    obtain ⟨x1, hx1, e1⟩ := ix (3 * j + 1) (by omega)
    obtain ⟨x2, hx2, e2⟩ := ix (3 * j + 2) (by omega)
    obtain ⟨x3, hx3, e3⟩ := ix (3 * j + 3) (by omega)
    have q1 : 3 * (j : Int) + 1 = ((3 * j + 1 : Nat) : Int) := by omega
    have q2 : 3 * (j : Int) + 2 = ((3 * j + 2 : Nat) : Int) := by omega
    have q3 : 3 * (j : Int) + 3 = ((3 * j + 3 : Nat) : Int) := by omega
    obtain ⟨at', hat, hat2⟩ := nat_of (z := x2) (n := (w.length : Int) + 1) (by omega)
    obtain ⟨y, hy, hy2⟩ := pick_lt h1 h2 hx3
    have rl : (rs.map sD).length = rs.length := List.length_map ..
    have einv : m__law_inverse [one y] = .ok (sD (invw [y])) := r__law_inverse (w := [y]) (fun x hx => by rw [List.mem_singleton.mp hx]; exact lt_sub hy) (by rw [List.length_singleton]; omega)
    have tl : ∀ (p : List Nat) (o6 o8 : Option SD), (∀ x ∈ p, x ∈ lt (g : Int)) → p.length ≤ 20 → WgtSame g rs [] p → OP (sIf (mT (m2 dLe (m2 dAdd (mF dLen (aCons (mVarP 0) aNil)) (mF dLen (aCons (mVarP 9) aNil))) (mC (.int 56)))) (sAsg (gN 0) (m2 dAdd (m2 dAdd (mSl (mVarP 0) oNone (oSome (mVarP 7))) (mVar 9)) (mSl (mVarP 0) (oSome (mVarP 7)) oNone))) sNil
        [some (.sh (sD w)), some (.sh (PV (g : Int) rs)), some (.sh (.int (g : Int))), some (.sh (.int c)), some (.sh V), some (.sh (.int (j : Int))), o6, some (.sh (.int (at' : Int))), o8, some (.sh (sD p))])
        ⟨False, fun ρ => ∃ (w : List Nat) (o5 o6 o7 o8 o9 : Option SD), ρ = [some (.sh (sD w)), some (.sh (PV (g : Int) rs)), some (.sh (.int (g : Int))), some (.sh (.int c)), some (.sh V), o5, o6, o7, o8, o9] ∧ (∀ x ∈ w, x ∈ lt (g : Int)) ∧ w.length ≤ 56 ∧ WgtSame g rs w0 w, fun d => ∃ w : List Nat, d = sD w ∧ (∀ x ∈ w, x ∈ lt (g : Int)) ∧ w.length ≤ 56 ∧ WgtSame g rs w0 w, fun _ => False, fun _ => False, fun _ => False, fun e _ => NoE e⟩ := by
      intro p o6 o8 hp1 hp2 hp3
      have ct : cutG w none (some (at' : Int)) = w.take at' := cut_to2
      have cf : cutG w (some (at' : Int)) none = w.drop at' := cut_from'
      simp -implicitDefEqProofs only [RP_ok, RP_err, RP_stuck, RP_bind, RP_quiet, RP_sure, RP_ite, RP_fin, RP_finN, OP_nx, OP_rt, OP_rto, OP_bk, OP_ct, OP_err, OP_stuck, OP_of, OP_thn, OP_lp, OP_ite, OP_tryN, OP_tryAs, OP_endS, OP_endI, true_implies, false_implies, not_true_eq_false, not_false_eq_true, and_true, true_and, implies_true, wipe_nil, wipe_cons, List.length_map, e_callR, e_callX, e_isX, e_xf, e_sNext, e_sApp, e_sPop, e_sRev, e_sRetOwn, e_sExt, e_sGive, e_sSetIx, e_hdl, hdl_nil, e_hdlAs, ownAt_own, rndAt_rnd, excAt_exc, someD_some, caseB_t, caseB_f, intD_int, clean_nil, clean_sh, clean_no, clean_own, List.getElem?_cons_zero, List.getElem?_cons_succ, decide_eq_true_eq, Bool.not_eq_true', List.length_append, Option.getD_some, ixT0, ixT1, ixT2, ixT3, ixL0, ixL1, ixL2, ixL3, o_isB, o_isL, o_isT, o_isI, o_isS, o_niPM, o_niPL, o_max2, o_min2, o_abs, o_tupL, o_tupT, o_lofL, o_lofT, e_aListOf, e_aRep, sizeLine_eq, decide_eq_false_iff_not, Classical.not_not, Nat.reduceLeDiff, Nat.zero_le, Int.reduceLE, Int.reduceLT, Int.reduceEq, Nat.reduceLT, List.nil_append, List.cons_append, cst0, cst1, cst2, cst3, cst4, cst5, cst6, cst7, cst8, cst9, cst10, cst11, cst12, o_eqB, o_neB, reduceCtorEq, Bool.true_eq_false, e_iEnumS, e_iZipS, o_enum, o_zipL, o_zipT, e_sRaise1, e_sPar, e_sPar3, e_gTL, o_isBB, o_notBB, e_iEnumA, o_enumL, o_enumT, e_mB, ok_strD, ok_listD, e_iZipM, o_zipLL, o_zipTT, o_zipTL, o_zipLT, e_sCons, e_sNil, e_sBreak, e_sCont, e_sRet, e_sRetN, e_sExpr, e_sIf, e_sAsg, e_sOwn, e_sFrz, e_sRaise, e_sFor, e_loop_nil, e_mC, e_m1, e_m2, e_mF, e_mCall, e_mM1, e_aNil, e_aCons, e_aLst, e_mTup, e_mLst, e_mN, e_mT, e_mTru, e_mAndT, e_mOrT, e_mNotT, e_mAnd, e_mOr, e_mNot, e_mIf, e_mChain, e_iSeq, e_iRange1, e_iRange2, e_oNone, e_oSome, e_mSl, e_mYes, e_mLc, e_gN, v0, vS, p0, p0o, pS, f0, f0s, f0n, fS, R.bind_ok, R.bind_err, R.bind_stuck, R.quiet_ok, R.sure_ok, R.sure_err, R.sure_stuck, O.of_ok, O.of_err, O.of_stuck, O.thn_nx, O.thn_rt, O.thn_bk, O.thn_ct, O.thn_err, O.thn_rto, O.lp_nx, O.lp_ct, O.lp_bk, O.lp_rt, O.lp_rto, O.lp_err, fin_nx, fin_rt, fin_err, asB_b, o_add, o_addI, o_sub, o_neg, o_lt, o_le, o_gt, o_ge, o_eqI, o_neI, o_eqS, o_neS, o_inS, o_lenL, o_lenT, o_int, o_itS, o_itL, o_itT, o_truL, o_truB, o_truI, List.set_cons_zero, List.set_cons_succ, List.length_cons, List.length_nil, if_true, if_false, Bool.not_true, Bool.not_false, Bool.false_eq_true, Option.isSome_some, Option.isSome_none, Nat.reduceAdd, Nat.zero_add, decide_true, decide_false, e_gT, e_gsC, e_gsN, e_callR0, e_callN, Nat.reduceEqDiff, lit_0, lit_1, lit_2, lit_3, lit_4, lit_5, lit_6, lit_7, lit_8, lit_9, lit_10, lit_11, lit_12, cl_0, cl_1, cl_2, cl_3, cl_4, cl_5, cl_6, cl_7, o_lenS, o_slS (show w.length ≤ 16777216 by omega), o_addS, ct, cf]
      have lt1 : (w.take at').length ≤ w.length := List.length_take_le' ..
      have ld1 : (w.drop at').length ≤ w.length := by rw [List.length_drop]; omega
      refine ck (by omega) (ck (by omega) ⟨fun hle => ck (by omega) (ck (by omega) ⟨_, _, _, _, _, _, rfl, fun x hx => ?_, ?_, hs.put hp3⟩), fun _ => ⟨_, _, _, _, _, _, rfl, hw, hl, hs⟩⟩)
      · rcases List.mem_append.mp hx with hx | hx
        · rcases List.mem_append.mp hx with hx | hx
          · exact hw x (List.mem_of_mem_take hx)
          · exact hp1 x hx
        · exact hw x (List.mem_of_mem_drop hx)
      · rw [List.length_append, List.length_append, List.length_take, List.length_drop]
        omega
    simp -implicitDefEqProofs only [RP_ok, RP_err, RP_stuck, RP_bind, RP_quiet, RP_sure, RP_ite, RP_fin, RP_finN, OP_nx, OP_rt, OP_rto, OP_bk, OP_ct, OP_err, OP_stuck, OP_of, OP_thn, OP_lp, OP_ite, OP_tryN, OP_tryAs, OP_endS, OP_endI, true_implies, false_implies, not_true_eq_false, not_false_eq_true, and_true, true_and, implies_true, wipe_nil, wipe_cons, List.length_map, e_callR, e_callX, e_isX, e_xf, e_sNext, e_sApp, e_sPop, e_sRev, e_sRetOwn, e_sExt, e_sGive, e_sSetIx, e_hdl, hdl_nil, e_hdlAs, ownAt_own, rndAt_rnd, excAt_exc, someD_some, caseB_t, caseB_f, intD_int, clean_nil, clean_sh, clean_no, clean_own, List.getElem?_cons_zero, List.getElem?_cons_succ, decide_eq_true_eq, Bool.not_eq_true', List.length_append, Option.getD_some, ixT0, ixT1, ixT2, ixT3, ixL0, ixL1, ixL2, ixL3, o_isB, o_isL, o_isT, o_isI, o_isS, o_niPM, o_niPL, o_max2, o_min2, o_abs, o_tupL, o_tupT, o_lofL, o_lofT, e_aListOf, e_aRep, sizeLine_eq, decide_eq_false_iff_not, Classical.not_not, Nat.reduceLeDiff, Nat.zero_le, Int.reduceLE, Int.reduceLT, Int.reduceEq, Nat.reduceLT, List.nil_append, List.cons_append, cst0, cst1, cst2, cst3, cst4, cst5, cst6, cst7, cst8, cst9, cst10, cst11, cst12, o_eqB, o_neB, reduceCtorEq, Bool.true_eq_false, e_iEnumS, e_iZipS, o_enum, o_zipL, o_zipT, e_sRaise1, e_sPar, e_sPar3, e_gTL, o_isBB, o_notBB, e_iEnumA, o_enumL, o_enumT, e_mB, ok_strD, ok_listD, e_iZipM, o_zipLL, o_zipTT, o_zipTL, o_zipLT, e_sCons, e_sNil, e_sBreak, e_sCont, e_sRet, e_sRetN, e_sExpr, e_sIf, e_sAsg, e_sOwn, e_sFrz, e_sRaise, e_sFor, e_loop_nil, e_mC, e_m1, e_m2, e_mF, e_mCall, e_mM1, e_aNil, e_aCons, e_aLst, e_mTup, e_mLst, e_mN, e_mT, e_mTru, e_mAndT, e_mOrT, e_mNotT, e_mAnd, e_mOr, e_mNot, e_mIf, e_mChain, e_iSeq, e_iRange1, e_iRange2, e_oNone, e_oSome, e_mSl, e_mYes, e_mLc, e_gN, v0, vS, p0, p0o, pS, f0, f0s, f0n, fS, R.bind_ok, R.bind_err, R.bind_stuck, R.quiet_ok, R.sure_ok, R.sure_err, R.sure_stuck, O.of_ok, O.of_err, O.of_stuck, O.thn_nx, O.thn_rt, O.thn_bk, O.thn_ct, O.thn_err, O.thn_rto, O.lp_nx, O.lp_ct, O.lp_bk, O.lp_rt, O.lp_rto, O.lp_err, fin_nx, fin_rt, fin_err, asB_b, o_add, o_addI, o_sub, o_neg, o_lt, o_le, o_gt, o_ge, o_eqI, o_neI, o_eqS, o_neS, o_inS, o_lenL, o_lenT, o_int, o_itS, o_itL, o_itT, o_truL, o_truB, o_truI, List.set_cons_zero, List.set_cons_succ, List.length_cons, List.length_nil, if_true, if_false, Bool.not_true, Bool.not_false, Bool.false_eq_true, Option.isSome_some, Option.isSome_none, Nat.reduceAdd, Nat.zero_add, decide_true, decide_false, e_gT, e_gsC, e_gsN, e_callR0, e_callN, Nat.reduceEqDiff, lit_0, lit_1, lit_2, lit_3, lit_4, lit_5, lit_6, lit_7, lit_8, lit_9, lit_10, lit_11, lit_12, cl_0, cl_1, cl_2, cl_3, cl_4, cl_5, cl_6, cl_7, o_lenS, o_addS] at tl
    simp -implicitDefEqProofs only [RP_ok, RP_err, RP_stuck, RP_bind, RP_quiet, RP_sure, RP_ite, RP_fin, RP_finN, OP_nx, OP_rt, OP_rto, OP_bk, OP_ct, OP_err, OP_stuck, OP_of, OP_thn, OP_lp, OP_ite, OP_tryN, OP_tryAs, OP_endS, OP_endI, true_implies, false_implies, not_true_eq_false, not_false_eq_true, and_true, true_and, implies_true, wipe_nil, wipe_cons, List.length_map, e_callR, e_callX, e_isX, e_xf, e_sNext, e_sApp, e_sPop, e_sRev, e_sRetOwn, e_sExt, e_sGive, e_sSetIx, e_hdl, hdl_nil, e_hdlAs, ownAt_own, rndAt_rnd, excAt_exc, someD_some, caseB_t, caseB_f, intD_int, clean_nil, clean_sh, clean_no, clean_own, List.getElem?_cons_zero, List.getElem?_cons_succ, decide_eq_true_eq, Bool.not_eq_true', List.length_append, Option.getD_some, ixT0, ixT1, ixT2, ixT3, ixL0, ixL1, ixL2, ixL3, o_isB, o_isL, o_isT, o_isI, o_isS, o_niPM, o_niPL, o_max2, o_min2, o_abs, o_tupL, o_tupT, o_lofL, o_lofT, e_aListOf, e_aRep, sizeLine_eq, decide_eq_false_iff_not, Classical.not_not, Nat.reduceLeDiff, Nat.zero_le, Int.reduceLE, Int.reduceLT, Int.reduceEq, Nat.reduceLT, List.nil_append, List.cons_append, cst0, cst1, cst2, cst3, cst4, cst5, cst6, cst7, cst8, cst9, cst10, cst11, cst12, o_eqB, o_neB, reduceCtorEq, Bool.true_eq_false, e_iEnumS, e_iZipS, o_enum, o_zipL, o_zipT, e_sRaise1, e_sPar, e_sPar3, e_gTL, o_isBB, o_notBB, e_iEnumA, o_enumL, o_enumT, e_mB, ok_strD, ok_listD, e_iZipM, o_zipLL, o_zipTT, o_zipTL, o_zipLT, e_sCons, e_sNil, e_sBreak, e_sCont, e_sRet, e_sRetN, e_sExpr, e_sIf, e_sAsg, e_sOwn, e_sFrz, e_sRaise, e_sFor, e_loop_nil, e_mC, e_m1, e_m2, e_mF, e_mCall, e_mM1, e_aNil, e_aCons, e_aLst, e_mTup, e_mLst, e_mN, e_mT, e_mTru, e_mAndT, e_mOrT, e_mNotT, e_mAnd, e_mOr, e_mNot, e_mIf, e_mChain, e_iSeq, e_iRange1, e_iRange2, e_oNone, e_oSome, e_mSl, e_mYes, e_mLc, e_gN, v0, vS, p0, p0o, pS, f0, f0s, f0n, fS, R.bind_ok, R.bind_err, R.bind_stuck, R.quiet_ok, R.sure_ok, R.sure_err, R.sure_stuck, O.of_ok, O.of_err, O.of_stuck, O.thn_nx, O.thn_rt, O.thn_bk, O.thn_ct, O.thn_err, O.thn_rto, O.lp_nx, O.lp_ct, O.lp_bk, O.lp_rt, O.lp_rto, O.lp_err, fin_nx, fin_rt, fin_err, asB_b, o_add, o_addI, o_sub, o_neg, o_lt, o_le, o_gt, o_ge, o_eqI, o_neI, o_eqS, o_neS, o_inS, o_lenL, o_lenT, o_int, o_itS, o_itL, o_itT, o_truL, o_truB, o_truI, List.set_cons_zero, List.set_cons_succ, List.length_cons, List.length_nil, if_true, if_false, Bool.not_true, Bool.not_false, Bool.false_eq_true, Option.isSome_some, Option.isSome_none, Nat.reduceAdd, Nat.zero_add, decide_true, decide_false, e_gT, e_gsC, e_gsN, e_callR0, e_callN, Nat.reduceEqDiff, lit_0, lit_1, lit_2, lit_3, lit_4, lit_5, lit_6, lit_7, lit_8, lit_9, lit_10, lit_11, lit_12, cl_0, cl_1, cl_2, cl_3, cl_4, cl_5, cl_6, cl_7, o_mulS (a := 3) (b := (j : Int)) (by decide) (by omega), q1, q2, q3, e1, e2, e3, o_mod (show (0 : Int) < 4 by decide), o_mod (show (0 : Int) < (w.length : Int) + 1 by omega), o_lenS, hat, o_mulS (show (2 : Int).natAbs < 2 ^ 64 by decide) (show (g : Int).natAbs < 2 ^ 64 by omega), o_mod (show (0 : Int) < 2 * (g : Int) by omega), hy2, einv, o_addS, o_lenT, rl]
    have yw : ∀ x ∈ [y], x ∈ lt (g : Int) := fun x hx => by rw [List.mem_singleton.mp hx]; exact hy
    have pl : ([y] ++ invw [y]).length = 2 := by rw [List.length_append, invw_len]; rfl
    have pair := fun o6 => tl ([y] ++ invw [y]) o6 (some (.sh (one y))) (fun x hx => (List.mem_append.mp hx).elim (yw x) (fun h => ilt yw x h)) (by omega) (.pair (by omega) (lt_sub hy))
    refine ck (by omega) (ck (by rw [invw_len, List.length_singleton]; omega) ⟨fun hk0 => ⟨fun hr0 => ?_, fun _ => ?_⟩, fun _ => ?_⟩)
    rotate_left
    · have := pair (some (.sh (.int (x1 % 4))))
      simp -implicitDefEqProofs only [RP_ok, RP_err, RP_stuck, RP_bind, RP_quiet, RP_sure, RP_ite, RP_fin, RP_finN, OP_nx, OP_rt, OP_rto, OP_bk, OP_ct, OP_err, OP_stuck, OP_of, OP_thn, OP_lp, OP_ite, OP_tryN, OP_tryAs, OP_endS, OP_endI, true_implies, false_implies, not_true_eq_false, not_false_eq_true, and_true, true_and, implies_true, wipe_nil, wipe_cons, List.length_map, e_callR, e_callX, e_isX, e_xf, e_sNext, e_sApp, e_sPop, e_sRev, e_sRetOwn, e_sExt, e_sGive, e_sSetIx, e_hdl, hdl_nil, e_hdlAs, ownAt_own, rndAt_rnd, excAt_exc, someD_some, caseB_t, caseB_f, intD_int, clean_nil, clean_sh, clean_no, clean_own, List.getElem?_cons_zero, List.getElem?_cons_succ, decide_eq_true_eq, Bool.not_eq_true', List.length_append, Option.getD_some, ixT0, ixT1, ixT2, ixT3, ixL0, ixL1, ixL2, ixL3, o_isB, o_isL, o_isT, o_isI, o_isS, o_niPM, o_niPL, o_max2, o_min2, o_abs, o_tupL, o_tupT, o_lofL, o_lofT, e_aListOf, e_aRep, sizeLine_eq, decide_eq_false_iff_not, Classical.not_not, Nat.reduceLeDiff, Nat.zero_le, Int.reduceLE, Int.reduceLT, Int.reduceEq, Nat.reduceLT, List.nil_append, List.cons_append, cst0, cst1, cst2, cst3, cst4, cst5, cst6, cst7, cst8, cst9, cst10, cst11, cst12, o_eqB, o_neB, reduceCtorEq, Bool.true_eq_false, e_iEnumS, e_iZipS, o_enum, o_zipL, o_zipT, e_sRaise1, e_sPar, e_sPar3, e_gTL, o_isBB, o_notBB, e_iEnumA, o_enumL, o_enumT, e_mB, ok_strD, ok_listD, e_iZipM, o_zipLL, o_zipTT, o_zipTL, o_zipLT, e_sCons, e_sNil, e_sBreak, e_sCont, e_sRet, e_sRetN, e_sExpr, e_sIf, e_sAsg, e_sOwn, e_sFrz, e_sRaise, e_sFor, e_loop_nil, e_mC, e_m1, e_m2, e_mF, e_mCall, e_mM1, e_aNil, e_aCons, e_aLst, e_mTup, e_mLst, e_mN, e_mT, e_mTru, e_mAndT, e_mOrT, e_mNotT, e_mAnd, e_mOr, e_mNot, e_mIf, e_mChain, e_iSeq, e_iRange1, e_iRange2, e_oNone, e_oSome, e_mSl, e_mYes, e_mLc, e_gN, v0, vS, p0, p0o, pS, f0, f0s, f0n, fS, R.bind_ok, R.bind_err, R.bind_stuck, R.quiet_ok, R.sure_ok, R.sure_err, R.sure_stuck, O.of_ok, O.of_err, O.of_stuck, O.thn_nx, O.thn_rt, O.thn_bk, O.thn_ct, O.thn_err, O.thn_rto, O.lp_nx, O.lp_ct, O.lp_bk, O.lp_rt, O.lp_rto, O.lp_err, fin_nx, fin_rt, fin_err, asB_b, o_add, o_addI, o_sub, o_neg, o_lt, o_le, o_gt, o_ge, o_eqI, o_neI, o_eqS, o_neS, o_inS, o_lenL, o_lenT, o_int, o_itS, o_itL, o_itT, o_truL, o_truB, o_truI, List.set_cons_zero, List.set_cons_succ, List.length_cons, List.length_nil, if_true, if_false, Bool.not_true, Bool.not_false, Bool.false_eq_true, Option.isSome_some, Option.isSome_none, Nat.reduceAdd, Nat.zero_add, decide_true, decide_false, e_gT, e_gsC, e_gsN, e_callR0, e_callN, Nat.reduceEqDiff, lit_0, lit_1, lit_2, lit_3, lit_4, lit_5, lit_6, lit_7, lit_8, lit_9, lit_10, lit_11, lit_12, cl_0, cl_1, cl_2, cl_3, cl_4, cl_5, cl_6, cl_7, o_lenS, o_addS] at this ⊢
      exact this
    · have := pair (some (.sh (.int (x1 % 4))))
      simp -implicitDefEqProofs only [RP_ok, RP_err, RP_stuck, RP_bind, RP_quiet, RP_sure, RP_ite, RP_fin, RP_finN, OP_nx, OP_rt, OP_rto, OP_bk, OP_ct, OP_err, OP_stuck, OP_of, OP_thn, OP_lp, OP_ite, OP_tryN, OP_tryAs, OP_endS, OP_endI, true_implies, false_implies, not_true_eq_false, not_false_eq_true, and_true, true_and, implies_true, wipe_nil, wipe_cons, List.length_map, e_callR, e_callX, e_isX, e_xf, e_sNext, e_sApp, e_sPop, e_sRev, e_sRetOwn, e_sExt, e_sGive, e_sSetIx, e_hdl, hdl_nil, e_hdlAs, ownAt_own, rndAt_rnd, excAt_exc, someD_some, caseB_t, caseB_f, intD_int, clean_nil, clean_sh, clean_no, clean_own, List.getElem?_cons_zero, List.getElem?_cons_succ, decide_eq_true_eq, Bool.not_eq_true', List.length_append, Option.getD_some, ixT0, ixT1, ixT2, ixT3, ixL0, ixL1, ixL2, ixL3, o_isB, o_isL, o_isT, o_isI, o_isS, o_niPM, o_niPL, o_max2, o_min2, o_abs, o_tupL, o_tupT, o_lofL, o_lofT, e_aListOf, e_aRep, sizeLine_eq, decide_eq_false_iff_not, Classical.not_not, Nat.reduceLeDiff, Nat.zero_le, Int.reduceLE, Int.reduceLT, Int.reduceEq, Nat.reduceLT, List.nil_append, List.cons_append, cst0, cst1, cst2, cst3, cst4, cst5, cst6, cst7, cst8, cst9, cst10, cst11, cst12, o_eqB, o_neB, reduceCtorEq, Bool.true_eq_false, e_iEnumS, e_iZipS, o_enum, o_zipL, o_zipT, e_sRaise1, e_sPar, e_sPar3, e_gTL, o_isBB, o_notBB, e_iEnumA, o_enumL, o_enumT, e_mB, ok_strD, ok_listD, e_iZipM, o_zipLL, o_zipTT, o_zipTL, o_zipLT, e_sCons, e_sNil, e_sBreak, e_sCont, e_sRet, e_sRetN, e_sExpr, e_sIf, e_sAsg, e_sOwn, e_sFrz, e_sRaise, e_sFor, e_loop_nil, e_mC, e_m1, e_m2, e_mF, e_mCall, e_mM1, e_aNil, e_aCons, e_aLst, e_mTup, e_mLst, e_mN, e_mT, e_mTru, e_mAndT, e_mOrT, e_mNotT, e_mAnd, e_mOr, e_mNot, e_mIf, e_mChain, e_iSeq, e_iRange1, e_iRange2, e_oNone, e_oSome, e_mSl, e_mYes, e_mLc, e_gN, v0, vS, p0, p0o, pS, f0, f0s, f0n, fS, R.bind_ok, R.bind_err, R.bind_stuck, R.quiet_ok, R.sure_ok, R.sure_err, R.sure_stuck, O.of_ok, O.of_err, O.of_stuck, O.thn_nx, O.thn_rt, O.thn_bk, O.thn_ct, O.thn_err, O.thn_rto, O.lp_nx, O.lp_ct, O.lp_bk, O.lp_rt, O.lp_rto, O.lp_err, fin_nx, fin_rt, fin_err, asB_b, o_add, o_addI, o_sub, o_neg, o_lt, o_le, o_gt, o_ge, o_eqI, o_neI, o_eqS, o_neS, o_inS, o_lenL, o_lenT, o_int, o_itS, o_itL, o_itT, o_truL, o_truB, o_truI, List.set_cons_zero, List.set_cons_succ, List.length_cons, List.length_nil, if_true, if_false, Bool.not_true, Bool.not_false, Bool.false_eq_true, Option.isSome_some, Option.isSome_none, Nat.reduceAdd, Nat.zero_add, decide_true, decide_false, e_gT, e_gsC, e_gsN, e_callR0, e_callN, Nat.reduceEqDiff, lit_0, lit_1, lit_2, lit_3, lit_4, lit_5, lit_6, lit_7, lit_8, lit_9, lit_10, lit_11, lit_12, cl_0, cl_1, cl_2, cl_3, cl_4, cl_5, cl_6, cl_7, o_lenS, o_addS] at this ⊢
      exact this
    obtain ⟨i, hi, hi2⟩ := nat_of (z := x3) (n := (rs.length : Int)) (by omega)
    rw [RP_of (o_mod (show (0 : Int) < (rs.length : Int) by omega)), hi]
    have hi3 : i < rs.length := by omega
    have er : dIdx (.tuple (rs.map sD)) (.int (i : Int)) = .ok (sD rs[i]) := o_ixT (by rw [List.getElem?_map, List.getElem?_eq_getElem hi3]; rfl)
    rw [RP_of er]
    have hr := hp.r rs[i] (List.getElem_mem hi3)
    refine ⟨fun _ => ?_, fun _ => ?_⟩
    rotate_left
    · have := tl rs[i] (some (.sh (.int (x1 % 4)))) (some (.sh (one y))) hr.1 hr.2.2 (.r (List.getElem_mem hi3))
      simp -implicitDefEqProofs only [RP_ok, RP_err, RP_stuck, RP_bind, RP_quiet, RP_sure, RP_ite, RP_fin, RP_finN, OP_nx, OP_rt, OP_rto, OP_bk, OP_ct, OP_err, OP_stuck, OP_of, OP_thn, OP_lp, OP_ite, OP_tryN, OP_tryAs, OP_endS, OP_endI, true_implies, false_implies, not_true_eq_false, not_false_eq_true, and_true, true_and, implies_true, wipe_nil, wipe_cons, List.length_map, e_callR, e_callX, e_isX, e_xf, e_sNext, e_sApp, e_sPop, e_sRev, e_sRetOwn, e_sExt, e_sGive, e_sSetIx, e_hdl, hdl_nil, e_hdlAs, ownAt_own, rndAt_rnd, excAt_exc, someD_some, caseB_t, caseB_f, intD_int, clean_nil, clean_sh, clean_no, clean_own, List.getElem?_cons_zero, List.getElem?_cons_succ, decide_eq_true_eq, Bool.not_eq_true', List.length_append, Option.getD_some, ixT0, ixT1, ixT2, ixT3, ixL0, ixL1, ixL2, ixL3, o_isB, o_isL, o_isT, o_isI, o_isS, o_niPM, o_niPL, o_max2, o_min2, o_abs, o_tupL, o_tupT, o_lofL, o_lofT, e_aListOf, e_aRep, sizeLine_eq, decide_eq_false_iff_not, Classical.not_not, Nat.reduceLeDiff, Nat.zero_le, Int.reduceLE, Int.reduceLT, Int.reduceEq, Nat.reduceLT, List.nil_append, List.cons_append, cst0, cst1, cst2, cst3, cst4, cst5, cst6, cst7, cst8, cst9, cst10, cst11, cst12, o_eqB, o_neB, reduceCtorEq, Bool.true_eq_false, e_iEnumS, e_iZipS, o_enum, o_zipL, o_zipT, e_sRaise1, e_sPar, e_sPar3, e_gTL, o_isBB, o_notBB, e_iEnumA, o_enumL, o_enumT, e_mB, ok_strD, ok_listD, e_iZipM, o_zipLL, o_zipTT, o_zipTL, o_zipLT, e_sCons, e_sNil, e_sBreak, e_sCont, e_sRet, e_sRetN, e_sExpr, e_sIf, e_sAsg, e_sOwn, e_sFrz, e_sRaise, e_sFor, e_loop_nil, e_mC, e_m1, e_m2, e_mF, e_mCall, e_mM1, e_aNil, e_aCons, e_aLst, e_mTup, e_mLst, e_mN, e_mT, e_mTru, e_mAndT, e_mOrT, e_mNotT, e_mAnd, e_mOr, e_mNot, e_mIf, e_mChain, e_iSeq, e_iRange1, e_iRange2, e_oNone, e_oSome, e_mSl, e_mYes, e_mLc, e_gN, v0, vS, p0, p0o, pS, f0, f0s, f0n, fS, R.bind_ok, R.bind_err, R.bind_stuck, R.quiet_ok, R.sure_ok, R.sure_err, R.sure_stuck, O.of_ok, O.of_err, O.of_stuck, O.thn_nx, O.thn_rt, O.thn_bk, O.thn_ct, O.thn_err, O.thn_rto, O.lp_nx, O.lp_ct, O.lp_bk, O.lp_rt, O.lp_rto, O.lp_err, fin_nx, fin_rt, fin_err, asB_b, o_add, o_addI, o_sub, o_neg, o_lt, o_le, o_gt, o_ge, o_eqI, o_neI, o_eqS, o_neS, o_inS, o_lenL, o_lenT, o_int, o_itS, o_itL, o_itT, o_truL, o_truB, o_truI, List.set_cons_zero, List.set_cons_succ, List.length_cons, List.length_nil, if_true, if_false, Bool.not_true, Bool.not_false, Bool.false_eq_true, Option.isSome_some, Option.isSome_none, Nat.reduceAdd, Nat.zero_add, decide_true, decide_false, e_gT, e_gsC, e_gsN, e_callR0, e_callN, Nat.reduceEqDiff, lit_0, lit_1, lit_2, lit_3, lit_4, lit_5, lit_6, lit_7, lit_8, lit_9, lit_10, lit_11, lit_12, cl_0, cl_1, cl_2, cl_3, cl_4, cl_5, cl_6, cl_7, o_lenS, o_addS] at this ⊢
      exact this
    rw [RP_of (r__law_inverse (lt_wd hr.1) (by omega))]
    have := tl (invw rs[i]) (some (.sh (.int (x1 % 4)))) (some (.sh (one y))) (ilt hr.1) (by rw [invw_len]; exact hr.2.2) (.ri (by omega) (List.getElem_mem hi3) (lt_wd hr.1))
    simp -implicitDefEqProofs only [RP_ok, RP_err, RP_stuck, RP_bind, RP_quiet, RP_sure, RP_ite, RP_fin, RP_finN, OP_nx, OP_rt, OP_rto, OP_bk, OP_ct, OP_err, OP_stuck, OP_of, OP_thn, OP_lp, OP_ite, OP_tryN, OP_tryAs, OP_endS, OP_endI, true_implies, false_implies, not_true_eq_false, not_false_eq_true, and_true, true_and, implies_true, wipe_nil, wipe_cons, List.length_map, e_callR, e_callX, e_isX, e_xf, e_sNext, e_sApp, e_sPop, e_sRev, e_sRetOwn, e_sExt, e_sGive, e_sSetIx, e_hdl, hdl_nil, e_hdlAs, ownAt_own, rndAt_rnd, excAt_exc, someD_some, caseB_t, caseB_f, intD_int, clean_nil, clean_sh, clean_no, clean_own, List.getElem?_cons_zero, List.getElem?_cons_succ, decide_eq_true_eq, Bool.not_eq_true', List.length_append, Option.getD_some, ixT0, ixT1, ixT2, ixT3, ixL0, ixL1, ixL2, ixL3, o_isB, o_isL, o_isT, o_isI, o_isS, o_niPM, o_niPL, o_max2, o_min2, o_abs, o_tupL, o_tupT, o_lofL, o_lofT, e_aListOf, e_aRep, sizeLine_eq, decide_eq_false_iff_not, Classical.not_not, Nat.reduceLeDiff, Nat.zero_le, Int.reduceLE, Int.reduceLT, Int.reduceEq, Nat.reduceLT, List.nil_append, List.cons_append, cst0, cst1, cst2, cst3, cst4, cst5, cst6, cst7, cst8, cst9, cst10, cst11, cst12, o_eqB, o_neB, reduceCtorEq, Bool.true_eq_false, e_iEnumS, e_iZipS, o_enum, o_zipL, o_zipT, e_sRaise1, e_sPar, e_sPar3, e_gTL, o_isBB, o_notBB, e_iEnumA, o_enumL, o_enumT, e_mB, ok_strD, ok_listD, e_iZipM, o_zipLL, o_zipTT, o_zipTL, o_zipLT, e_sCons, e_sNil, e_sBreak, e_sCont, e_sRet, e_sRetN, e_sExpr, e_sIf, e_sAsg, e_sOwn, e_sFrz, e_sRaise, e_sFor, e_loop_nil, e_mC, e_m1, e_m2, e_mF, e_mCall, e_mM1, e_aNil, e_aCons, e_aLst, e_mTup, e_mLst, e_mN, e_mT, e_mTru, e_mAndT, e_mOrT, e_mNotT, e_mAnd, e_mOr, e_mNot, e_mIf, e_mChain, e_iSeq, e_iRange1, e_iRange2, e_oNone, e_oSome, e_mSl, e_mYes, e_mLc, e_gN, v0, vS, p0, p0o, pS, f0, f0s, f0n, fS, R.bind_ok, R.bind_err, R.bind_stuck, R.quiet_ok, R.sure_ok, R.sure_err, R.sure_stuck, O.of_ok, O.of_err, O.of_stuck, O.thn_nx, O.thn_rt, O.thn_bk, O.thn_ct, O.thn_err, O.thn_rto, O.lp_nx, O.lp_ct, O.lp_bk, O.lp_rt, O.lp_rto, O.lp_err, fin_nx, fin_rt, fin_err, asB_b, o_add, o_addI, o_sub, o_neg, o_lt, o_le, o_gt, o_ge, o_eqI, o_neI, o_eqS, o_neS, o_inS, o_lenL, o_lenT, o_int, o_itS, o_itL, o_itT, o_truL, o_truB, o_truI, List.set_cons_zero, List.set_cons_succ, List.length_cons, List.length_nil, if_true, if_false, Bool.not_true, Bool.not_false, Bool.false_eq_true, Option.isSome_some, Option.isSome_none, Nat.reduceAdd, Nat.zero_add, decide_true, decide_false, e_gT, e_gsC, e_gsN, e_callR0, e_callN, Nat.reduceEqDiff, lit_0, lit_1, lit_2, lit_3, lit_4, lit_5, lit_6, lit_7, lit_8, lit_9, lit_10, lit_11, lit_12, cl_0, cl_1, cl_2, cl_3, cl_4, cl_5, cl_6, cl_7, o_lenS, o_addS] at this ⊢
    exact this
  · rintro ρ ⟨w, o5, o6, o7, o8, o9, rfl, hw, hl, hs⟩
    simp -implicitDefEqProofs only [RP_ok, RP_err, RP_stuck, RP_bind, RP_quiet, RP_sure, RP_ite, RP_fin, RP_finN, OP_nx, OP_rt, OP_rto, OP_bk, OP_ct, OP_err, OP_stuck, OP_of, OP_thn, OP_lp, OP_ite, OP_tryN, OP_tryAs, OP_endS, OP_endI, true_implies, false_implies, not_true_eq_false, not_false_eq_true, and_true, true_and, implies_true, wipe_nil, wipe_cons, List.length_map, e_callR, e_callX, e_isX, e_xf, e_sNext, e_sApp, e_sPop, e_sRev, e_sRetOwn, e_sExt, e_sGive, e_sSetIx, e_hdl, hdl_nil, e_hdlAs, ownAt_own, rndAt_rnd, excAt_exc, someD_some, caseB_t, caseB_f, intD_int, clean_nil, clean_sh, clean_no, clean_own, List.getElem?_cons_zero, List.getElem?_cons_succ, decide_eq_true_eq, Bool.not_eq_true', List.length_append, Option.getD_some, ixT0, ixT1, ixT2, ixT3, ixL0, ixL1, ixL2, ixL3, o_isB, o_isL, o_isT, o_isI, o_isS, o_niPM, o_niPL, o_max2, o_min2, o_abs, o_tupL, o_tupT, o_lofL, o_lofT, e_aListOf, e_aRep, sizeLine_eq, decide_eq_false_iff_not, Classical.not_not, Nat.reduceLeDiff, Nat.zero_le, Int.reduceLE, Int.reduceLT, Int.reduceEq, Nat.reduceLT, List.nil_append, List.cons_append, cst0, cst1, cst2, cst3, cst4, cst5, cst6, cst7, cst8, cst9, cst10, cst11, cst12, o_eqB, o_neB, reduceCtorEq, Bool.true_eq_false, e_iEnumS, e_iZipS, o_enum, o_zipL, o_zipT, e_sRaise1, e_sPar, e_sPar3, e_gTL, o_isBB, o_notBB, e_iEnumA, o_enumL, o_enumT, e_mB, ok_strD, ok_listD, e_iZipM, o_zipLL, o_zipTT, o_zipTL, o_zipLT, e_sCons, e_sNil, e_sBreak, e_sCont, e_sRet, e_sRetN, e_sExpr, e_sIf, e_sAsg, e_sOwn, e_sFrz, e_sRaise, e_sFor, e_loop_nil, e_mC, e_m1, e_m2, e_mF, e_mCall, e_mM1, e_aNil, e_aCons, e_aLst, e_mTup, e_mLst, e_mN, e_mT, e_mTru, e_mAndT, e_mOrT, e_mNotT, e_mAnd, e_mOr, e_mNot, e_mIf, e_mChain, e_iSeq, e_iRange1, e_iRange2, e_oNone, e_oSome, e_mSl, e_mYes, e_mLc, e_gN, v0, vS, p0, p0o, pS, f0, f0s, f0n, fS, R.bind_ok, R.bind_err, R.bind_stuck, R.quiet_ok, R.sure_ok, R.sure_err, R.sure_stuck, O.of_ok, O.of_err, O.of_stuck, O.thn_nx, O.thn_rt, O.thn_bk, O.thn_ct, O.thn_err, O.thn_rto, O.lp_nx, O.lp_ct, O.lp_bk, O.lp_rt, O.lp_rto, O.lp_err, fin_nx, fin_rt, fin_err, asB_b, o_add, o_addI, o_sub, o_neg, o_lt, o_le, o_gt, o_ge, o_eqI, o_neI, o_eqS, o_neS, o_inS, o_lenL, o_lenT, o_int, o_itS, o_itL, o_itT, o_truL, o_truB, o_truI, List.set_cons_zero, List.set_cons_succ, List.length_cons, List.length_nil, if_true, if_false, Bool.not_true, Bool.not_false, Bool.false_eq_true, Option.isSome_some, Option.isSome_none, Nat.reduceAdd, Nat.zero_add, decide_true, decide_false, e_gT, e_gsC, e_gsN, e_callR0, e_callN, Nat.reduceEqDiff, lit_0, lit_1, lit_2, lit_3, lit_4, lit_5, lit_6, lit_7, lit_8, lit_9, lit_10, lit_11, lit_12, cl_0, cl_1, cl_2, cl_3, cl_4, cl_5, cl_6, cl_7]
    exact ⟨w, rfl, hw, hl, hs⟩

end Law
end
end
section
set_option Elab.async false
set_option linter.all false
set_option maxRecDepth 100000
set_option autoImplicit false
set_option maxHeartbeats 4000000
noncomputable section
namespace Law
open PySem DW L2
open SX (S S_tl S_len S_cat)
theorem r__law_cell (ns : List Int) (k : Nat) (hl : ns.length ≤ 1000) : m__law_cell [.list (ns.map PyData.int), .int (k : Int)] = .ok (.int (cellN ns k)) := by
  show fin (b__law_cell [some (.sh (.list (ns.map PyData.int))), some (.sh (.int (k : Int)))]) = _
  unfold b__law_cell cellN
  by_cases h : k < ns.length
  · have e : (ns.map PyData.int)[k]? = some (.int ns[k]) := by rw [List.getElem?_map, List.getElem?_eq_getElem h]; rfl
    simp -implicitDefEqProofs only [e_sCons, e_sNil, e_sBreak, e_sCont, e_sRet, e_sRetN, e_sExpr, e_sIf, e_sAsg, e_sOwn, e_sFrz, e_sRaise, e_sFor, e_loop_nil, e_mC, e_m1, e_m2, e_mF, e_mCall, e_mM1, e_aNil, e_aCons, e_aLst, e_mTup, e_mLst, e_mN, e_mT, e_mTru, e_mAndT, e_mOrT, e_mNotT, e_mAnd, e_mOr, e_mNot, e_mIf, e_mChain, e_iSeq, e_iRange1, e_iRange2, e_oNone, e_oSome, e_mSl, e_mYes, e_mLc, e_gN, v0, vS, p0, p0o, pS, f0, f0s, f0n, fS, R.bind_ok, R.bind_err, R.bind_stuck, R.quiet_ok, R.sure_ok, R.sure_err, R.sure_stuck, O.of_ok, O.of_err, O.of_stuck, O.thn_nx, O.thn_rt, O.thn_bk, O.thn_ct, O.thn_err, O.thn_rto, O.lp_nx, O.lp_ct, O.lp_bk, O.lp_rt, O.lp_rto, O.lp_err, fin_nx, fin_rt, fin_err, asB_b, o_add, o_addI, o_sub, o_neg, o_lt, o_le, o_gt, o_ge, o_eqI, o_neI, o_eqS, o_neS, o_inS, o_lenL, o_lenT, o_int, o_itS, o_itL, o_itT, o_truL, o_truB, o_truI, List.set_cons_zero, List.set_cons_succ, List.length_cons, List.length_nil, if_true, if_false, Bool.not_true, Bool.not_false, Bool.false_eq_true, Option.isSome_some, Option.isSome_none, Nat.reduceAdd, Nat.zero_add, decide_true, decide_false, e_gT, e_gsC, e_gsN, e_callR0, e_callN, Nat.reduceEqDiff, lit_0, lit_1, lit_2, lit_3, lit_4, lit_5, lit_6, lit_7, lit_8, lit_9, lit_10, lit_11, lit_12, cl_0, cl_1, cl_2, cl_3, cl_4, cl_5, cl_6, cl_7, List.length_map, decide_eq_true (show (k : Int) < (ns.length : Int) by omega), o_ixL e]
    rw [List.getD_eq_getElem?_getD, List.getElem?_eq_getElem h]
    rfl
  · simp -implicitDefEqProofs only [e_sCons, e_sNil, e_sBreak, e_sCont, e_sRet, e_sRetN, e_sExpr, e_sIf, e_sAsg, e_sOwn, e_sFrz, e_sRaise, e_sFor, e_loop_nil, e_mC, e_m1, e_m2, e_mF, e_mCall, e_mM1, e_aNil, e_aCons, e_aLst, e_mTup, e_mLst, e_mN, e_mT, e_mTru, e_mAndT, e_mOrT, e_mNotT, e_mAnd, e_mOr, e_mNot, e_mIf, e_mChain, e_iSeq, e_iRange1, e_iRange2, e_oNone, e_oSome, e_mSl, e_mYes, e_mLc, e_gN, v0, vS, p0, p0o, pS, f0, f0s, f0n, fS, R.bind_ok, R.bind_err, R.bind_stuck, R.quiet_ok, R.sure_ok, R.sure_err, R.sure_stuck, O.of_ok, O.of_err, O.of_stuck, O.thn_nx, O.thn_rt, O.thn_bk, O.thn_ct, O.thn_err, O.thn_rto, O.lp_nx, O.lp_ct, O.lp_bk, O.lp_rt, O.lp_rto, O.lp_err, fin_nx, fin_rt, fin_err, asB_b, o_add, o_addI, o_sub, o_neg, o_lt, o_le, o_gt, o_ge, o_eqI, o_neI, o_eqS, o_neS, o_inS, o_lenL, o_lenT, o_int, o_itS, o_itL, o_itT, o_truL, o_truB, o_truI, List.set_cons_zero, List.set_cons_succ, List.length_cons, List.length_nil, if_true, if_false, Bool.not_true, Bool.not_false, Bool.false_eq_true, Option.isSome_some, Option.isSome_none, Nat.reduceAdd, Nat.zero_add, decide_true, decide_false, e_gT, e_gsC, e_gsN, e_callR0, e_callN, Nat.reduceEqDiff, lit_0, lit_1, lit_2, lit_3, lit_4, lit_5, lit_6, lit_7, lit_8, lit_9, lit_10, lit_11, lit_12, cl_0, cl_1, cl_2, cl_3, cl_4, cl_5, cl_6, cl_7, List.length_map, decide_eq_false (show ¬ (k : Int) < (ns.length : Int) by omega)]
    rw [List.getD_eq_getElem?_getD, List.getElem?_eq_none (by omega)]
    rfl

end Law
end
end
section
set_option Elab.async false
set_option linter.all false
set_option maxRecDepth 100000
set_option autoImplicit false
set_option maxHeartbeats 4000000
noncomputable section
namespace Law
open PySem DW L2
open SX (S S_tl S_len S_cat)
theorem r_letters_of {g : Int} (h1 : 1 ≤ g) (h2 : g ≤ 3) : m_letters_of [.int g] = .ok (.str (S (lt g))) := by
  show fin (b_letters_of [some (.sh (.int g))]) = _
  unfold b_letters_of
  have e1 : decide (g < 1) = false := decide_eq_false (by omega)
  have e2 : decide (3 < g) = false := decide_eq_false (by omega)
  simp -implicitDefEqProofs only [e_sCons, e_sNil, e_sBreak, e_sCont, e_sRet, e_sRetN, e_sExpr, e_sIf, e_sAsg, e_sOwn, e_sFrz, e_sRaise, e_sFor, e_loop_nil, e_mC, e_m1, e_m2, e_mF, e_mCall, e_mM1, e_aNil, e_aCons, e_aLst, e_mTup, e_mLst, e_mN, e_mT, e_mTru, e_mAndT, e_mOrT, e_mNotT, e_mAnd, e_mOr, e_mNot, e_mIf, e_mChain, e_iSeq, e_iRange1, e_iRange2, e_oNone, e_oSome, e_mSl, e_mYes, e_mLc, e_gN, v0, vS, p0, p0o, pS, f0, f0s, f0n, fS, R.bind_ok, R.bind_err, R.bind_stuck, R.quiet_ok, R.sure_ok, R.sure_err, R.sure_stuck, O.of_ok, O.of_err, O.of_stuck, O.thn_nx, O.thn_rt, O.thn_bk, O.thn_ct, O.thn_err, O.thn_rto, O.lp_nx, O.lp_ct, O.lp_bk, O.lp_rt, O.lp_rto, O.lp_err, fin_nx, fin_rt, fin_err, asB_b, o_add, o_addI, o_sub, o_neg, o_lt, o_le, o_gt, o_ge, o_eqI, o_neI, o_eqS, o_neS, o_inS, o_lenL, o_lenT, o_int, o_itS, o_itL, o_itT, o_truL, o_truB, o_truI, List.set_cons_zero, List.set_cons_succ, List.length_cons, List.length_nil, if_true, if_false, Bool.not_true, Bool.not_false, Bool.false_eq_true, Option.isSome_some, Option.isSome_none, Nat.reduceAdd, Nat.zero_add, decide_true, decide_false, e_gT, e_gsC, e_gsN, e_callR0, e_callN, Nat.reduceEqDiff, lit_0, lit_1, lit_2, lit_3, lit_4, lit_5, lit_6, lit_7, lit_8, lit_9, lit_10, lit_11, lit_12, cl_0, cl_1, cl_2, cl_3, cl_4, cl_5, cl_6, cl_7, e1, e2, o_mulS (show (2 : Int).natAbs < 2 ^ 64 by decide) (show g.natAbs < 2 ^ 64 by omega), o_slS (show L6.length ≤ 16777216 by decide), cut_lt h1 h2]
theorem r_letters_of_bad {g : Int} (h : g < 1 ∨ 3 < g) : m_letters_of [.int g] = .err ("BadNumber", []) := by
  show fin (b_letters_of [some (.sh (.int g))]) = _
  unfold b_letters_of
  rcases h with h | h
  · simp -implicitDefEqProofs only [e_sCons, e_sNil, e_sBreak, e_sCont, e_sRet, e_sRetN, e_sExpr, e_sIf, e_sAsg, e_sOwn, e_sFrz, e_sRaise, e_sFor, e_loop_nil, e_mC, e_m1, e_m2, e_mF, e_mCall, e_mM1, e_aNil, e_aCons, e_aLst, e_mTup, e_mLst, e_mN, e_mT, e_mTru, e_mAndT, e_mOrT, e_mNotT, e_mAnd, e_mOr, e_mNot, e_mIf, e_mChain, e_iSeq, e_iRange1, e_iRange2, e_oNone, e_oSome, e_mSl, e_mYes, e_mLc, e_gN, v0, vS, p0, p0o, pS, f0, f0s, f0n, fS, R.bind_ok, R.bind_err, R.bind_stuck, R.quiet_ok, R.sure_ok, R.sure_err, R.sure_stuck, O.of_ok, O.of_err, O.of_stuck, O.thn_nx, O.thn_rt, O.thn_bk, O.thn_ct, O.thn_err, O.thn_rto, O.lp_nx, O.lp_ct, O.lp_bk, O.lp_rt, O.lp_rto, O.lp_err, fin_nx, fin_rt, fin_err, asB_b, o_add, o_addI, o_sub, o_neg, o_lt, o_le, o_gt, o_ge, o_eqI, o_neI, o_eqS, o_neS, o_inS, o_lenL, o_lenT, o_int, o_itS, o_itL, o_itT, o_truL, o_truB, o_truI, List.set_cons_zero, List.set_cons_succ, List.length_cons, List.length_nil, if_true, if_false, Bool.not_true, Bool.not_false, Bool.false_eq_true, Option.isSome_some, Option.isSome_none, Nat.reduceAdd, Nat.zero_add, decide_true, decide_false, e_gT, e_gsC, e_gsN, e_callR0, e_callN, Nat.reduceEqDiff, lit_0, lit_1, lit_2, lit_3, lit_4, lit_5, lit_6, lit_7, lit_8, lit_9, lit_10, lit_11, lit_12, cl_0, cl_1, cl_2, cl_3, cl_4, cl_5, cl_6, cl_7, decide_eq_true h]
  · by_cases h2 : g < 1
    · simp -implicitDefEqProofs only [e_sCons, e_sNil, e_sBreak, e_sCont, e_sRet, e_sRetN, e_sExpr, e_sIf, e_sAsg, e_sOwn, e_sFrz, e_sRaise, e_sFor, e_loop_nil, e_mC, e_m1, e_m2, e_mF, e_mCall, e_mM1, e_aNil, e_aCons, e_aLst, e_mTup, e_mLst, e_mN, e_mT, e_mTru, e_mAndT, e_mOrT, e_mNotT, e_mAnd, e_mOr, e_mNot, e_mIf, e_mChain, e_iSeq, e_iRange1, e_iRange2, e_oNone, e_oSome, e_mSl, e_mYes, e_mLc, e_gN, v0, vS, p0, p0o, pS, f0, f0s, f0n, fS, R.bind_ok, R.bind_err, R.bind_stuck, R.quiet_ok, R.sure_ok, R.sure_err, R.sure_stuck, O.of_ok, O.of_err, O.of_stuck, O.thn_nx, O.thn_rt, O.thn_bk, O.thn_ct, O.thn_err, O.thn_rto, O.lp_nx, O.lp_ct, O.lp_bk, O.lp_rt, O.lp_rto, O.lp_err, fin_nx, fin_rt, fin_err, asB_b, o_add, o_addI, o_sub, o_neg, o_lt, o_le, o_gt, o_ge, o_eqI, o_neI, o_eqS, o_neS, o_inS, o_lenL, o_lenT, o_int, o_itS, o_itL, o_itT, o_truL, o_truB, o_truI, List.set_cons_zero, List.set_cons_succ, List.length_cons, List.length_nil, if_true, if_false, Bool.not_true, Bool.not_false, Bool.false_eq_true, Option.isSome_some, Option.isSome_none, Nat.reduceAdd, Nat.zero_add, decide_true, decide_false, e_gT, e_gsC, e_gsN, e_callR0, e_callN, Nat.reduceEqDiff, lit_0, lit_1, lit_2, lit_3, lit_4, lit_5, lit_6, lit_7, lit_8, lit_9, lit_10, lit_11, lit_12, cl_0, cl_1, cl_2, cl_3, cl_4, cl_5, cl_6, cl_7, decide_eq_true h2]
    · simp -implicitDefEqProofs only [e_sCons, e_sNil, e_sBreak, e_sCont, e_sRet, e_sRetN, e_sExpr, e_sIf, e_sAsg, e_sOwn, e_sFrz, e_sRaise, e_sFor, e_loop_nil, e_mC, e_m1, e_m2, e_mF, e_mCall, e_mM1, e_aNil, e_aCons, e_aLst, e_mTup, e_mLst, e_mN, e_mT, e_mTru, e_mAndT, e_mOrT, e_mNotT, e_mAnd, e_mOr, e_mNot, e_mIf, e_mChain, e_iSeq, e_iRange1, e_iRange2, e_oNone, e_oSome, e_mSl, e_mYes, e_mLc, e_gN, v0, vS, p0, p0o, pS, f0, f0s, f0n, fS, R.bind_ok, R.bind_err, R.bind_stuck, R.quiet_ok, R.sure_ok, R.sure_err, R.sure_stuck, O.of_ok, O.of_err, O.of_stuck, O.thn_nx, O.thn_rt, O.thn_bk, O.thn_ct, O.thn_err, O.thn_rto, O.lp_nx, O.lp_ct, O.lp_bk, O.lp_rt, O.lp_rto, O.lp_err, fin_nx, fin_rt, fin_err, asB_b, o_add, o_addI, o_sub, o_neg, o_lt, o_le, o_gt, o_ge, o_eqI, o_neI, o_eqS, o_neS, o_inS, o_lenL, o_lenT, o_int, o_itS, o_itL, o_itT, o_truL, o_truB, o_truI, List.set_cons_zero, List.set_cons_succ, List.length_cons, List.length_nil, if_true, if_false, Bool.not_true, Bool.not_false, Bool.false_eq_true, Option.isSome_some, Option.isSome_none, Nat.reduceAdd, Nat.zero_add, decide_true, decide_false, e_gT, e_gsC, e_gsN, e_callR0, e_callN, Nat.reduceEqDiff, lit_0, lit_1, lit_2, lit_3, lit_4, lit_5, lit_6, lit_7, lit_8, lit_9, lit_10, lit_11, lit_12, cl_0, cl_1, cl_2, cl_3, cl_4, cl_5, cl_6, cl_7, decide_eq_true h, decide_eq_false h2]

end Law
end
end
section
set_option Elab.async false
set_option linter.all false
set_option maxRecDepth 100000
set_option autoImplicit false
set_option maxHeartbeats 4000000
noncomputable section
namespace Law
open PySem DW L2
open SX (S S_tl S_len S_cat)
theorem r_is_word {g : Int} {t : List Nat} (h1 : 1 ≤ g) (h2 : g ≤ 3) (hl : t.length ≤ 1000000) : m_is_word [.int g, .str (S t)] = .ok (.bool (okw g t)) := by
  have hz := sizeLine_eq
  show fin (b_is_word [some (.sh (.int g)), some (.sh (.str (S t))), none, none]) = _
  unfold b_is_word
  simp -implicitDefEqProofs only [e_sCons, e_sNil, e_sBreak, e_sCont, e_sRet, e_sRetN, e_sExpr, e_sIf, e_sAsg, e_sOwn, e_sFrz, e_sRaise, e_sFor, e_loop_nil, e_mC, e_m1, e_m2, e_mF, e_mCall, e_mM1, e_aNil, e_aCons, e_aLst, e_mTup, e_mLst, e_mN, e_mT, e_mTru, e_mAndT, e_mOrT, e_mNotT, e_mAnd, e_mOr, e_mNot, e_mIf, e_mChain, e_iSeq, e_iRange1, e_iRange2, e_oNone, e_oSome, e_mSl, e_mYes, e_mLc, e_gN, v0, vS, p0, p0o, pS, f0, f0s, f0n, fS, R.bind_ok, R.bind_err, R.bind_stuck, R.quiet_ok, R.sure_ok, R.sure_err, R.sure_stuck, O.of_ok, O.of_err, O.of_stuck, O.thn_nx, O.thn_rt, O.thn_bk, O.thn_ct, O.thn_err, O.thn_rto, O.lp_nx, O.lp_ct, O.lp_bk, O.lp_rt, O.lp_rto, O.lp_err, fin_nx, fin_rt, fin_err, asB_b, o_add, o_addI, o_sub, o_neg, o_lt, o_le, o_gt, o_ge, o_eqI, o_neI, o_eqS, o_neS, o_inS, o_lenL, o_lenT, o_int, o_itS, o_itL, o_itT, o_truL, o_truB, o_truI, List.set_cons_zero, List.set_cons_succ, List.length_cons, List.length_nil, if_true, if_false, Bool.not_true, Bool.not_false, Bool.false_eq_true, Option.isSome_some, Option.isSome_none, Nat.reduceAdd, Nat.zero_add, decide_true, decide_false, e_gT, e_gsC, e_gsN, e_callR0, e_callN, Nat.reduceEqDiff, lit_0, lit_1, lit_2, lit_3, lit_4, lit_5, lit_6, lit_7, lit_8, lit_9, lit_10, lit_11, lit_12, cl_0, cl_1, cl_2, cl_3, cl_4, cl_5, cl_6, cl_7, r_letters_of h1 h2]
  have e : lcLoop (gN 3) mYes ce_is_word_1 (wipeD (clean [some (.sh (.int g)), some (.sh (.str (S t))), some (.sh (.str (S (lt g)))), none]) [3]) (t.map one') = .ok ((t.map one').map fun d => match d with | .str z => .bool (decide (z.cps.toList.getD 0 0 ∈ lt g)) | _ => .none) := by
    refine lc_map _ fun d hd => ?_
    obtain ⟨c, _, rfl⟩ := List.mem_map.mp hd
    show ce_is_word_1 [some (.sh (.int g)), some (.sh (.str (S t))), some (.sh (.str (S (lt g)))), some (.sh (one c))] = _
    unfold ce_is_word_1
    simp -implicitDefEqProofs only [e_sCons, e_sNil, e_sBreak, e_sCont, e_sRet, e_sRetN, e_sExpr, e_sIf, e_sAsg, e_sOwn, e_sFrz, e_sRaise, e_sFor, e_loop_nil, e_mC, e_m1, e_m2, e_mF, e_mCall, e_mM1, e_aNil, e_aCons, e_aLst, e_mTup, e_mLst, e_mN, e_mT, e_mTru, e_mAndT, e_mOrT, e_mNotT, e_mAnd, e_mOr, e_mNot, e_mIf, e_mChain, e_iSeq, e_iRange1, e_iRange2, e_oNone, e_oSome, e_mSl, e_mYes, e_mLc, e_gN, v0, vS, p0, p0o, pS, f0, f0s, f0n, fS, R.bind_ok, R.bind_err, R.bind_stuck, R.quiet_ok, R.sure_ok, R.sure_err, R.sure_stuck, O.of_ok, O.of_err, O.of_stuck, O.thn_nx, O.thn_rt, O.thn_bk, O.thn_ct, O.thn_err, O.thn_rto, O.lp_nx, O.lp_ct, O.lp_bk, O.lp_rt, O.lp_rto, O.lp_err, fin_nx, fin_rt, fin_err, asB_b, o_add, o_addI, o_sub, o_neg, o_lt, o_le, o_gt, o_ge, o_eqI, o_neI, o_eqS, o_neS, o_inS, o_lenL, o_lenT, o_int, o_itS, o_itL, o_itT, o_truL, o_truB, o_truI, List.set_cons_zero, List.set_cons_succ, List.length_cons, List.length_nil, if_true, if_false, Bool.not_true, Bool.not_false, Bool.false_eq_true, Option.isSome_some, Option.isSome_none, Nat.reduceAdd, Nat.zero_add, decide_true, decide_false, e_gT, e_gsC, e_gsN, e_callR0, e_callN, Nat.reduceEqDiff, lit_0, lit_1, lit_2, lit_3, lit_4, lit_5, lit_6, lit_7, lit_8, lit_9, lit_10, lit_11, lit_12, cl_0, cl_1, cl_2, cl_3, cl_4, cl_5, cl_6, cl_7]
    rfl
  rw [if_pos (by rw [List.length_map, hz]; omega), e]
  simp -implicitDefEqProofs only [e_sCons, e_sNil, e_sBreak, e_sCont, e_sRet, e_sRetN, e_sExpr, e_sIf, e_sAsg, e_sOwn, e_sFrz, e_sRaise, e_sFor, e_loop_nil, e_mC, e_m1, e_m2, e_mF, e_mCall, e_mM1, e_aNil, e_aCons, e_aLst, e_mTup, e_mLst, e_mN, e_mT, e_mTru, e_mAndT, e_mOrT, e_mNotT, e_mAnd, e_mOr, e_mNot, e_mIf, e_mChain, e_iSeq, e_iRange1, e_iRange2, e_oNone, e_oSome, e_mSl, e_mYes, e_mLc, e_gN, v0, vS, p0, p0o, pS, f0, f0s, f0n, fS, R.bind_ok, R.bind_err, R.bind_stuck, R.quiet_ok, R.sure_ok, R.sure_err, R.sure_stuck, O.of_ok, O.of_err, O.of_stuck, O.thn_nx, O.thn_rt, O.thn_bk, O.thn_ct, O.thn_err, O.thn_rto, O.lp_nx, O.lp_ct, O.lp_bk, O.lp_rt, O.lp_rto, O.lp_err, fin_nx, fin_rt, fin_err, asB_b, o_add, o_addI, o_sub, o_neg, o_lt, o_le, o_gt, o_ge, o_eqI, o_neI, o_eqS, o_neS, o_inS, o_lenL, o_lenT, o_int, o_itS, o_itL, o_itT, o_truL, o_truB, o_truI, List.set_cons_zero, List.set_cons_succ, List.length_cons, List.length_nil, if_true, if_false, Bool.not_true, Bool.not_false, Bool.false_eq_true, Option.isSome_some, Option.isSome_none, Nat.reduceAdd, Nat.zero_add, decide_true, decide_false, e_gT, e_gsC, e_gsN, e_callR0, e_callN, Nat.reduceEqDiff, lit_0, lit_1, lit_2, lit_3, lit_4, lit_5, lit_6, lit_7, lit_8, lit_9, lit_10, lit_11, lit_12, cl_0, cl_1, cl_2, cl_3, cl_4, cl_5, cl_6, cl_7]
  have e2 : ((t.map one').map fun d => match d with | .str z => PyData.bool (decide (z.cps.toList.getD 0 0 ∈ lt g)) | _ => .none) = (t.map fun c => decide (c ∈ lt g)).map PyData.bool := by
    rw [List.map_map, List.map_map]
    rfl
  rw [e2, o_all]
  simp -implicitDefEqProofs only [e_sCons, e_sNil, e_sBreak, e_sCont, e_sRet, e_sRetN, e_sExpr, e_sIf, e_sAsg, e_sOwn, e_sFrz, e_sRaise, e_sFor, e_loop_nil, e_mC, e_m1, e_m2, e_mF, e_mCall, e_mM1, e_aNil, e_aCons, e_aLst, e_mTup, e_mLst, e_mN, e_mT, e_mTru, e_mAndT, e_mOrT, e_mNotT, e_mAnd, e_mOr, e_mNot, e_mIf, e_mChain, e_iSeq, e_iRange1, e_iRange2, e_oNone, e_oSome, e_mSl, e_mYes, e_mLc, e_gN, v0, vS, p0, p0o, pS, f0, f0s, f0n, fS, R.bind_ok, R.bind_err, R.bind_stuck, R.quiet_ok, R.sure_ok, R.sure_err, R.sure_stuck, O.of_ok, O.of_err, O.of_stuck, O.thn_nx, O.thn_rt, O.thn_bk, O.thn_ct, O.thn_err, O.thn_rto, O.lp_nx, O.lp_ct, O.lp_bk, O.lp_rt, O.lp_rto, O.lp_err, fin_nx, fin_rt, fin_err, asB_b, o_add, o_addI, o_sub, o_neg, o_lt, o_le, o_gt, o_ge, o_eqI, o_neI, o_eqS, o_neS, o_inS, o_lenL, o_lenT, o_int, o_itS, o_itL, o_itT, o_truL, o_truB, o_truI, List.set_cons_zero, List.set_cons_succ, List.length_cons, List.length_nil, if_true, if_false, Bool.not_true, Bool.not_false, Bool.false_eq_true, Option.isSome_some, Option.isSome_none, Nat.reduceAdd, Nat.zero_add, decide_true, decide_false, e_gT, e_gsC, e_gsN, e_callR0, e_callN, Nat.reduceEqDiff, lit_0, lit_1, lit_2, lit_3, lit_4, lit_5, lit_6, lit_7, lit_8, lit_9, lit_10, lit_11, lit_12, cl_0, cl_1, cl_2, cl_3, cl_4, cl_5, cl_6, cl_7]
  rw [List.all_map]
  rfl
theorem r_is_word_bad {g : Int} {t : Str} (h : g < 1 ∨ 3 < g) : m_is_word [.int g, .str t] = .err ("BadNumber", []) := by
  show fin (b_is_word [some (.sh (.int g)), some (.sh (.str t)), none, none]) = _
  unfold b_is_word
  simp -implicitDefEqProofs only [e_sCons, e_sNil, e_sBreak, e_sCont, e_sRet, e_sRetN, e_sExpr, e_sIf, e_sAsg, e_sOwn, e_sFrz, e_sRaise, e_sFor, e_loop_nil, e_mC, e_m1, e_m2, e_mF, e_mCall, e_mM1, e_aNil, e_aCons, e_aLst, e_mTup, e_mLst, e_mN, e_mT, e_mTru, e_mAndT, e_mOrT, e_mNotT, e_mAnd, e_mOr, e_mNot, e_mIf, e_mChain, e_iSeq, e_iRange1, e_iRange2, e_oNone, e_oSome, e_mSl, e_mYes, e_mLc, e_gN, v0, vS, p0, p0o, pS, f0, f0s, f0n, fS, R.bind_ok, R.bind_err, R.bind_stuck, R.quiet_ok, R.sure_ok, R.sure_err, R.sure_stuck, O.of_ok, O.of_err, O.of_stuck, O.thn_nx, O.thn_rt, O.thn_bk, O.thn_ct, O.thn_err, O.thn_rto, O.lp_nx, O.lp_ct, O.lp_bk, O.lp_rt, O.lp_rto, O.lp_err, fin_nx, fin_rt, fin_err, asB_b, o_add, o_addI, o_sub, o_neg, o_lt, o_le, o_gt, o_ge, o_eqI, o_neI, o_eqS, o_neS, o_inS, o_lenL, o_lenT, o_int, o_itS, o_itL, o_itT, o_truL, o_truB, o_truI, List.set_cons_zero, List.set_cons_succ, List.length_cons, List.length_nil, if_true, if_false, Bool.not_true, Bool.not_false, Bool.false_eq_true, Option.isSome_some, Option.isSome_none, Nat.reduceAdd, Nat.zero_add, decide_true, decide_false, e_gT, e_gsC, e_gsN, e_callR0, e_callN, Nat.reduceEqDiff, lit_0, lit_1, lit_2, lit_3, lit_4, lit_5, lit_6, lit_7, lit_8, lit_9, lit_10, lit_11, lit_12, cl_0, cl_1, cl_2, cl_3, cl_4, cl_5, cl_6, cl_7, r_letters_of_bad h]

end Law
end
end
section
set_option Elab.async false
set_option linter.all false
set_option maxRecDepth 100000
set_option autoImplicit false
set_option maxHeartbeats 4000000
noncomputable section
namespace Law
open PySem DW L2
open SX (S S_tl S_len S_cat)
theorem r__is_relator {g : Int} {r : List Nat} (h1 : 1 ≤ g) (h2 : g ≤ 3) (hl : r.length ≤ 1000000) : m__is_relator [.int g, sD r] = .ok (.bool (relB g r)) := by
  have hz := sizeLine_eq
  refine eq_ok ?_
  show RP False (fin (b__is_relator [some (.sh (.int g)), some (.sh (sD r))])) _ _
  unfold b__is_relator relB
  simp -implicitDefEqProofs only [RP_ok, RP_err, RP_stuck, RP_bind, RP_quiet, RP_sure, RP_ite, RP_fin, RP_finN, OP_nx, OP_rt, OP_rto, OP_bk, OP_ct, OP_err, OP_stuck, OP_of, OP_thn, OP_lp, OP_ite, OP_tryN, OP_tryAs, OP_endS, OP_endI, true_implies, false_implies, not_true_eq_false, not_false_eq_true, and_true, true_and, implies_true, wipe_nil, wipe_cons, List.length_map, e_callR, e_callX, e_isX, e_xf, e_sNext, e_sApp, e_sPop, e_sRev, e_sRetOwn, e_sExt, e_sGive, e_sSetIx, e_hdl, hdl_nil, e_hdlAs, ownAt_own, rndAt_rnd, excAt_exc, someD_some, caseB_t, caseB_f, intD_int, clean_nil, clean_sh, clean_no, clean_own, List.getElem?_cons_zero, List.getElem?_cons_succ, decide_eq_true_eq, Bool.not_eq_true', List.length_append, Option.getD_some, ixT0, ixT1, ixT2, ixT3, ixL0, ixL1, ixL2, ixL3, o_isB, o_isL, o_isT, o_isI, o_isS, o_niPM, o_niPL, o_max2, o_min2, o_abs, o_tupL, o_tupT, o_lofL, o_lofT, e_aListOf, e_aRep, sizeLine_eq, decide_eq_false_iff_not, Classical.not_not, Nat.reduceLeDiff, Nat.zero_le, Int.reduceLE, Int.reduceLT, Int.reduceEq, Nat.reduceLT, List.nil_append, List.cons_append, cst0, cst1, cst2, cst3, cst4, cst5, cst6, cst7, cst8, cst9, cst10, cst11, cst12, o_eqB, o_neB, reduceCtorEq, Bool.true_eq_false, e_iEnumS, e_iZipS, o_enum, o_zipL, o_zipT, e_sRaise1, e_sPar, e_sPar3, e_gTL, o_isBB, o_notBB, e_iEnumA, o_enumL, o_enumT, e_mB, ok_strD, ok_listD, e_iZipM, o_zipLL, o_zipTT, o_zipTL, o_zipLT, e_sCons, e_sNil, e_sBreak, e_sCont, e_sRet, e_sRetN, e_sExpr, e_sIf, e_sAsg, e_sOwn, e_sFrz, e_sRaise, e_sFor, e_loop_nil, e_mC, e_m1, e_m2, e_mF, e_mCall, e_mM1, e_aNil, e_aCons, e_aLst, e_mTup, e_mLst, e_mN, e_mT, e_mTru, e_mAndT, e_mOrT, e_mNotT, e_mAnd, e_mOr, e_mNot, e_mIf, e_mChain, e_iSeq, e_iRange1, e_iRange2, e_oNone, e_oSome, e_mSl, e_mYes, e_mLc, e_gN, v0, vS, p0, p0o, pS, f0, f0s, f0n, fS, R.bind_ok, R.bind_err, R.bind_stuck, R.quiet_ok, R.sure_ok, R.sure_err, R.sure_stuck, O.of_ok, O.of_err, O.of_stuck, O.thn_nx, O.thn_rt, O.thn_bk, O.thn_ct, O.thn_err, O.thn_rto, O.lp_nx, O.lp_ct, O.lp_bk, O.lp_rt, O.lp_rto, O.lp_err, fin_nx, fin_rt, fin_err, asB_b, o_add, o_addI, o_sub, o_neg, o_lt, o_le, o_gt, o_ge, o_eqI, o_neI, o_eqS, o_neS, o_inS, o_lenL, o_lenT, o_int, o_itS, o_itL, o_itT, o_truL, o_truB, o_truI, List.set_cons_zero, List.set_cons_succ, List.length_cons, List.length_nil, if_true, if_false, Bool.not_true, Bool.not_false, Bool.false_eq_true, Option.isSome_some, Option.isSome_none, Nat.reduceAdd, Nat.zero_add, decide_true, decide_false, e_gT, e_gsC, e_gsN, e_callR0, e_callN, Nat.reduceEqDiff, lit_0, lit_1, lit_2, lit_3, lit_4, lit_5, lit_6, lit_7, lit_8, lit_9, lit_10, lit_11, lit_12, cl_0, cl_1, cl_2, cl_3, cl_4, cl_5, cl_6, cl_7, o_lenS, r_is_word h1 h2 hl]
  grind

end Law
end
end
section
set_option Elab.async false
set_option linter.all false
set_option maxRecDepth 100000
set_option autoImplicit false
set_option maxHeartbeats 4000000
noncomputable section
namespace Law
open PySem DW L2
open SX (S S_tl S_len S_cat)
theorem r_is_presentation {g : Int} {rs : List (List Nat)} (hl : ∀ r ∈ rs, r.length ≤ 1000000) (hn : rs.length ≤ 1000000) : m_is_presentation [PV g rs] = .ok (.bool (presB g rs)) := by
  have hz := sizeLine_eq
  refine eq_ok ?_
  show RP False (fin (b_is_presentation [some (.sh (PV g rs)), none, none, none])) _ _
  unfold b_is_presentation presB
  simp -implicitDefEqProofs only [RP_ok, RP_err, RP_stuck, RP_bind, RP_quiet, RP_sure, RP_ite, RP_fin, RP_finN, OP_nx, OP_rt, OP_rto, OP_bk, OP_ct, OP_err, OP_stuck, OP_of, OP_thn, OP_lp, OP_ite, OP_tryN, OP_tryAs, OP_endS, OP_endI, true_implies, false_implies, not_true_eq_false, not_false_eq_true, and_true, true_and, implies_true, wipe_nil, wipe_cons, List.length_map, e_callR, e_callX, e_isX, e_xf, e_sNext, e_sApp, e_sPop, e_sRev, e_sRetOwn, e_sExt, e_sGive, e_sSetIx, e_hdl, hdl_nil, e_hdlAs, ownAt_own, rndAt_rnd, excAt_exc, someD_some, caseB_t, caseB_f, intD_int, clean_nil, clean_sh, clean_no, clean_own, List.getElem?_cons_zero, List.getElem?_cons_succ, decide_eq_true_eq, Bool.not_eq_true', List.length_append, Option.getD_some, ixT0, ixT1, ixT2, ixT3, ixL0, ixL1, ixL2, ixL3, o_isB, o_isL, o_isT, o_isI, o_isS, o_niPM, o_niPL, o_max2, o_min2, o_abs, o_tupL, o_tupT, o_lofL, o_lofT, e_aListOf, e_aRep, sizeLine_eq, decide_eq_false_iff_not, Classical.not_not, Nat.reduceLeDiff, Nat.zero_le, Int.reduceLE, Int.reduceLT, Int.reduceEq, Nat.reduceLT, List.nil_append, List.cons_append, cst0, cst1, cst2, cst3, cst4, cst5, cst6, cst7, cst8, cst9, cst10, cst11, cst12, o_eqB, o_neB, reduceCtorEq, Bool.true_eq_false, e_iEnumS, e_iZipS, o_enum, o_zipL, o_zipT, e_sRaise1, e_sPar, e_sPar3, e_gTL, o_isBB, o_notBB, e_iEnumA, o_enumL, o_enumT, e_mB, ok_strD, ok_listD, e_iZipM, o_zipLL, o_zipTT, o_zipTL, o_zipLT, e_sCons, e_sNil, e_sBreak, e_sCont, e_sRet, e_sRetN, e_sExpr, e_sIf, e_sAsg, e_sOwn, e_sFrz, e_sRaise, e_sFor, e_loop_nil, e_mC, e_m1, e_m2, e_mF, e_mCall, e_mM1, e_aNil, e_aCons, e_aLst, e_mTup, e_mLst, e_mN, e_mT, e_mTru, e_mAndT, e_mOrT, e_mNotT, e_mAnd, e_mOr, e_mNot, e_mIf, e_mChain, e_iSeq, e_iRange1, e_iRange2, e_oNone, e_oSome, e_mSl, e_mYes, e_mLc, e_gN, v0, vS, p0, p0o, pS, f0, f0s, f0n, fS, R.bind_ok, R.bind_err, R.bind_stuck, R.quiet_ok, R.sure_ok, R.sure_err, R.sure_stuck, O.of_ok, O.of_err, O.of_stuck, O.thn_nx, O.thn_rt, O.thn_bk, O.thn_ct, O.thn_err, O.thn_rto, O.lp_nx, O.lp_ct, O.lp_bk, O.lp_rt, O.lp_rto, O.lp_err, fin_nx, fin_rt, fin_err, asB_b, o_add, o_addI, o_sub, o_neg, o_lt, o_le, o_gt, o_ge, o_eqI, o_neI, o_eqS, o_neS, o_inS, o_lenL, o_lenT, o_int, o_itS, o_itL, o_itT, o_truL, o_truB, o_truI, List.set_cons_zero, List.set_cons_succ, List.length_cons, List.length_nil, if_true, if_false, Bool.not_true, Bool.not_false, Bool.false_eq_true, Option.isSome_some, Option.isSome_none, Nat.reduceAdd, Nat.zero_add, decide_true, decide_false, e_gT, e_gsC, e_gsN, e_callR0, e_callN, Nat.reduceEqDiff, lit_0, lit_1, lit_2, lit_3, lit_4, lit_5, lit_6, lit_7, lit_8, lit_9, lit_10, lit_11, lit_12, cl_0, cl_1, cl_2, cl_3, cl_4, cl_5, cl_6, cl_7, o_itT]
  have h8 : (rs.length ≤ 16777216) = True := eq_true (by omega)
  simp only [h8, true_implies, not_true_eq_false, false_implies, and_true]
  refine ⟨fun _ => by grind, fun h1 => ⟨fun _ => by grind, fun h2 => ⟨fun _ => by grind, fun h3 => ?_⟩⟩⟩
  rw [RP_lc (f := fun r => .bool (relB g r)) ?_]
  · rw [o_allM]
    simp -implicitDefEqProofs only [RP_ok, RP_err, RP_stuck, RP_bind, RP_quiet, RP_sure, RP_ite, RP_fin, RP_finN, OP_nx, OP_rt, OP_rto, OP_bk, OP_ct, OP_err, OP_stuck, OP_of, OP_thn, OP_lp, OP_ite, OP_tryN, OP_tryAs, OP_endS, OP_endI, true_implies, false_implies, not_true_eq_false, not_false_eq_true, and_true, true_and, implies_true, wipe_nil, wipe_cons, List.length_map, e_callR, e_callX, e_isX, e_xf, e_sNext, e_sApp, e_sPop, e_sRev, e_sRetOwn, e_sExt, e_sGive, e_sSetIx, e_hdl, hdl_nil, e_hdlAs, ownAt_own, rndAt_rnd, excAt_exc, someD_some, caseB_t, caseB_f, intD_int, clean_nil, clean_sh, clean_no, clean_own, List.getElem?_cons_zero, List.getElem?_cons_succ, decide_eq_true_eq, Bool.not_eq_true', List.length_append, Option.getD_some, ixT0, ixT1, ixT2, ixT3, ixL0, ixL1, ixL2, ixL3, o_isB, o_isL, o_isT, o_isI, o_isS, o_niPM, o_niPL, o_max2, o_min2, o_abs, o_tupL, o_tupT, o_lofL, o_lofT, e_aListOf, e_aRep, sizeLine_eq, decide_eq_false_iff_not, Classical.not_not, Nat.reduceLeDiff, Nat.zero_le, Int.reduceLE, Int.reduceLT, Int.reduceEq, Nat.reduceLT, List.nil_append, List.cons_append, cst0, cst1, cst2, cst3, cst4, cst5, cst6, cst7, cst8, cst9, cst10, cst11, cst12, o_eqB, o_neB, reduceCtorEq, Bool.true_eq_false, e_iEnumS, e_iZipS, o_enum, o_zipL, o_zipT, e_sRaise1, e_sPar, e_sPar3, e_gTL, o_isBB, o_notBB, e_iEnumA, o_enumL, o_enumT, e_mB, ok_strD, ok_listD, e_iZipM, o_zipLL, o_zipTT, o_zipTL, o_zipLT, e_sCons, e_sNil, e_sBreak, e_sCont, e_sRet, e_sRetN, e_sExpr, e_sIf, e_sAsg, e_sOwn, e_sFrz, e_sRaise, e_sFor, e_loop_nil, e_mC, e_m1, e_m2, e_mF, e_mCall, e_mM1, e_aNil, e_aCons, e_aLst, e_mTup, e_mLst, e_mN, e_mT, e_mTru, e_mAndT, e_mOrT, e_mNotT, e_mAnd, e_mOr, e_mNot, e_mIf, e_mChain, e_iSeq, e_iRange1, e_iRange2, e_oNone, e_oSome, e_mSl, e_mYes, e_mLc, e_gN, v0, vS, p0, p0o, pS, f0, f0s, f0n, fS, R.bind_ok, R.bind_err, R.bind_stuck, R.quiet_ok, R.sure_ok, R.sure_err, R.sure_stuck, O.of_ok, O.of_err, O.of_stuck, O.thn_nx, O.thn_rt, O.thn_bk, O.thn_ct, O.thn_err, O.thn_rto, O.lp_nx, O.lp_ct, O.lp_bk, O.lp_rt, O.lp_rto, O.lp_err, fin_nx, fin_rt, fin_err, asB_b, o_add, o_addI, o_sub, o_neg, o_lt, o_le, o_gt, o_ge, o_eqI, o_neI, o_eqS, o_neS, o_inS, o_lenL, o_lenT, o_int, o_itS, o_itL, o_itT, o_truL, o_truB, o_truI, List.set_cons_zero, List.set_cons_succ, List.length_cons, List.length_nil, if_true, if_false, Bool.not_true, Bool.not_false, Bool.false_eq_true, Option.isSome_some, Option.isSome_none, Nat.reduceAdd, Nat.zero_add, decide_true, decide_false, e_gT, e_gsC, e_gsN, e_callR0, e_callN, Nat.reduceEqDiff, lit_0, lit_1, lit_2, lit_3, lit_4, lit_5, lit_6, lit_7, lit_8, lit_9, lit_10, lit_11, lit_12, cl_0, cl_1, cl_2, cl_3, cl_4, cl_5, cl_6, cl_7]
    grind
  · intro r hr
    show ce_is_presentation_1 [_, _, _, some (.sh (sD r))] = _
    unfold ce_is_presentation_1
    simp -implicitDefEqProofs only [e_callR, e_callX, e_isX, e_xf, e_sNext, e_sApp, e_sPop, e_sRev, e_sRetOwn, e_sExt, e_sGive, e_sSetIx, e_hdl, hdl_nil, e_hdlAs, ownAt_own, rndAt_rnd, excAt_exc, someD_some, caseB_t, caseB_f, intD_int, clean_nil, clean_sh, clean_no, clean_own, List.getElem?_cons_zero, List.getElem?_cons_succ, decide_eq_true_eq, Bool.not_eq_true', List.length_append, Option.getD_some, ixT0, ixT1, ixT2, ixT3, ixL0, ixL1, ixL2, ixL3, o_isB, o_isL, o_isT, o_isI, o_isS, o_niPM, o_niPL, o_max2, o_min2, o_abs, o_tupL, o_tupT, o_lofL, o_lofT, e_aListOf, e_aRep, sizeLine_eq, decide_eq_false_iff_not, Classical.not_not, Nat.reduceLeDiff, Nat.zero_le, Int.reduceLE, Int.reduceLT, Int.reduceEq, Nat.reduceLT, List.nil_append, List.cons_append, cst0, cst1, cst2, cst3, cst4, cst5, cst6, cst7, cst8, cst9, cst10, cst11, cst12, o_eqB, o_neB, reduceCtorEq, Bool.true_eq_false, e_iEnumS, e_iZipS, o_enum, o_zipL, o_zipT, e_sRaise1, e_sPar, e_sPar3, e_gTL, o_isBB, o_notBB, e_iEnumA, o_enumL, o_enumT, e_mB, ok_strD, ok_listD, e_iZipM, o_zipLL, o_zipTT, o_zipTL, o_zipLT, e_sCons, e_sNil, e_sBreak, e_sCont, e_sRet, e_sRetN, e_sExpr, e_sIf, e_sAsg, e_sOwn, e_sFrz, e_sRaise, e_sFor, e_loop_nil, e_mC, e_m1, e_m2, e_mF, e_mCall, e_mM1, e_aNil, e_aCons, e_aLst, e_mTup, e_mLst, e_mN, e_mT, e_mTru, e_mAndT, e_mOrT, e_mNotT, e_mAnd, e_mOr, e_mNot, e_mIf, e_mChain, e_iSeq, e_iRange1, e_iRange2, e_oNone, e_oSome, e_mSl, e_mYes, e_mLc, e_gN, v0, vS, p0, p0o, pS, f0, f0s, f0n, fS, R.bind_ok, R.bind_err, R.bind_stuck, R.quiet_ok, R.sure_ok, R.sure_err, R.sure_stuck, O.of_ok, O.of_err, O.of_stuck, O.thn_nx, O.thn_rt, O.thn_bk, O.thn_ct, O.thn_err, O.thn_rto, O.lp_nx, O.lp_ct, O.lp_bk, O.lp_rt, O.lp_rto, O.lp_err, fin_nx, fin_rt, fin_err, asB_b, o_add, o_addI, o_sub, o_neg, o_lt, o_le, o_gt, o_ge, o_eqI, o_neI, o_eqS, o_neS, o_inS, o_lenL, o_lenT, o_int, o_itS, o_itL, o_itT, o_truL, o_truB, o_truI, List.set_cons_zero, List.set_cons_succ, List.length_cons, List.length_nil, if_true, if_false, Bool.not_true, Bool.not_false, Bool.false_eq_true, Option.isSome_some, Option.isSome_none, Nat.reduceAdd, Nat.zero_add, decide_true, decide_false, e_gT, e_gsC, e_gsN, e_callR0, e_callN, Nat.reduceEqDiff, lit_0, lit_1, lit_2, lit_3, lit_4, lit_5, lit_6, lit_7, lit_8, lit_9, lit_10, lit_11, lit_12, cl_0, cl_1, cl_2, cl_3, cl_4, cl_5, cl_6, cl_7, r__is_relator (show 1 ≤ g by omega) (show g ≤ 3 by omega) (hl r hr)]

end Law
end
end
section
set_option Elab.async false
set_option linter.all false
set_option maxRecDepth 100000
set_option autoImplicit false
set_option maxHeartbeats 4000000
noncomputable section
namespace Law
open PySem DW L2
open SX (S S_tl S_len S_cat)
theorem r_check_presentation {g : Int} {rs : List (List Nat)} (hl : ∀ r ∈ rs, r.length ≤ 1000000) (hn : rs.length ≤ 1000000) (h : presB g rs = true) : m_check_presentation [PV g rs] = .ok .none := by
  show fin (b_check_presentation [some (.sh (PV g rs))]) = _
  unfold b_check_presentation
  simp -implicitDefEqProofs only [e_callR, e_callX, e_isX, e_xf, e_sNext, e_sApp, e_sPop, e_sRev, e_sRetOwn, e_sExt, e_sGive, e_sSetIx, e_hdl, hdl_nil, e_hdlAs, ownAt_own, rndAt_rnd, excAt_exc, someD_some, caseB_t, caseB_f, intD_int, clean_nil, clean_sh, clean_no, clean_own, List.getElem?_cons_zero, List.getElem?_cons_succ, decide_eq_true_eq, Bool.not_eq_true', List.length_append, Option.getD_some, ixT0, ixT1, ixT2, ixT3, ixL0, ixL1, ixL2, ixL3, o_isB, o_isL, o_isT, o_isI, o_isS, o_niPM, o_niPL, o_max2, o_min2, o_abs, o_tupL, o_tupT, o_lofL, o_lofT, e_aListOf, e_aRep, sizeLine_eq, decide_eq_false_iff_not, Classical.not_not, Nat.reduceLeDiff, Nat.zero_le, Int.reduceLE, Int.reduceLT, Int.reduceEq, Nat.reduceLT, List.nil_append, List.cons_append, cst0, cst1, cst2, cst3, cst4, cst5, cst6, cst7, cst8, cst9, cst10, cst11, cst12, o_eqB, o_neB, reduceCtorEq, Bool.true_eq_false, e_iEnumS, e_iZipS, o_enum, o_zipL, o_zipT, e_sRaise1, e_sPar, e_sPar3, e_gTL, o_isBB, o_notBB, e_iEnumA, o_enumL, o_enumT, e_mB, ok_strD, ok_listD, e_iZipM, o_zipLL, o_zipTT, o_zipTL, o_zipLT, e_sCons, e_sNil, e_sBreak, e_sCont, e_sRet, e_sRetN, e_sExpr, e_sIf, e_sAsg, e_sOwn, e_sFrz, e_sRaise, e_sFor, e_loop_nil, e_mC, e_m1, e_m2, e_mF, e_mCall, e_mM1, e_aNil, e_aCons, e_aLst, e_mTup, e_mLst, e_mN, e_mT, e_mTru, e_mAndT, e_mOrT, e_mNotT, e_mAnd, e_mOr, e_mNot, e_mIf, e_mChain, e_iSeq, e_iRange1, e_iRange2, e_oNone, e_oSome, e_mSl, e_mYes, e_mLc, e_gN, v0, vS, p0, p0o, pS, f0, f0s, f0n, fS, R.bind_ok, R.bind_err, R.bind_stuck, R.quiet_ok, R.sure_ok, R.sure_err, R.sure_stuck, O.of_ok, O.of_err, O.of_stuck, O.thn_nx, O.thn_rt, O.thn_bk, O.thn_ct, O.thn_err, O.thn_rto, O.lp_nx, O.lp_ct, O.lp_bk, O.lp_rt, O.lp_rto, O.lp_err, fin_nx, fin_rt, fin_err, asB_b, o_add, o_addI, o_sub, o_neg, o_lt, o_le, o_gt, o_ge, o_eqI, o_neI, o_eqS, o_neS, o_inS, o_lenL, o_lenT, o_int, o_itS, o_itL, o_itT, o_truL, o_truB, o_truI, List.set_cons_zero, List.set_cons_succ, List.length_cons, List.length_nil, if_true, if_false, Bool.not_true, Bool.not_false, Bool.false_eq_true, Option.isSome_some, Option.isSome_none, Nat.reduceAdd, Nat.zero_add, decide_true, decide_false, e_gT, e_gsC, e_gsN, e_callR0, e_callN, Nat.reduceEqDiff, lit_0, lit_1, lit_2, lit_3, lit_4, lit_5, lit_6, lit_7, lit_8, lit_9, lit_10, lit_11, lit_12, cl_0, cl_1, cl_2, cl_3, cl_4, cl_5, cl_6, cl_7, r_is_presentation hl hn, h]
theorem r_check_presentation_bad {g : Int} {rs : List (List Nat)} (hl : ∀ r ∈ rs, r.length ≤ 1000000) (hn : rs.length ≤ 1000000) (h : presB g rs = false) : m_check_presentation [PV g rs] = .err ("NotPresentation", []) := by
  show fin (b_check_presentation [some (.sh (PV g rs))]) = _
  unfold b_check_presentation
  simp -implicitDefEqProofs only [e_callR, e_callX, e_isX, e_xf, e_sNext, e_sApp, e_sPop, e_sRev, e_sRetOwn, e_sExt, e_sGive, e_sSetIx, e_hdl, hdl_nil, e_hdlAs, ownAt_own, rndAt_rnd, excAt_exc, someD_some, caseB_t, caseB_f, intD_int, clean_nil, clean_sh, clean_no, clean_own, List.getElem?_cons_zero, List.getElem?_cons_succ, decide_eq_true_eq, Bool.not_eq_true', List.length_append, Option.getD_some, ixT0, ixT1, ixT2, ixT3, ixL0, ixL1, ixL2, ixL3, o_isB, o_isL, o_isT, o_isI, o_isS, o_niPM, o_niPL, o_max2, o_min2, o_abs, o_tupL, o_tupT, o_lofL, o_lofT, e_aListOf, e_aRep, sizeLine_eq, decide_eq_false_iff_not, Classical.not_not, Nat.reduceLeDiff, Nat.zero_le, Int.reduceLE, Int.reduceLT, Int.reduceEq, Nat.reduceLT, List.nil_append, List.cons_append, cst0, cst1, cst2, cst3, cst4, cst5, cst6, cst7, cst8, cst9, cst10, cst11, cst12, o_eqB, o_neB, reduceCtorEq, Bool.true_eq_false, e_iEnumS, e_iZipS, o_enum, o_zipL, o_zipT, e_sRaise1, e_sPar, e_sPar3, e_gTL, o_isBB, o_notBB, e_iEnumA, o_enumL, o_enumT, e_mB, ok_strD, ok_listD, e_iZipM, o_zipLL, o_zipTT, o_zipTL, o_zipLT, e_sCons, e_sNil, e_sBreak, e_sCont, e_sRet, e_sRetN, e_sExpr, e_sIf, e_sAsg, e_sOwn, e_sFrz, e_sRaise, e_sFor, e_loop_nil, e_mC, e_m1, e_m2, e_mF, e_mCall, e_mM1, e_aNil, e_aCons, e_aLst, e_mTup, e_mLst, e_mN, e_mT, e_mTru, e_mAndT, e_mOrT, e_mNotT, e_mAnd, e_mOr, e_mNot, e_mIf, e_mChain, e_iSeq, e_iRange1, e_iRange2, e_oNone, e_oSome, e_mSl, e_mYes, e_mLc, e_gN, v0, vS, p0, p0o, pS, f0, f0s, f0n, fS, R.bind_ok, R.bind_err, R.bind_stuck, R.quiet_ok, R.sure_ok, R.sure_err, R.sure_stuck, O.of_ok, O.of_err, O.of_stuck, O.thn_nx, O.thn_rt, O.thn_bk, O.thn_ct, O.thn_err, O.thn_rto, O.lp_nx, O.lp_ct, O.lp_bk, O.lp_rt, O.lp_rto, O.lp_err, fin_nx, fin_rt, fin_err, asB_b, o_add, o_addI, o_sub, o_neg, o_lt, o_le, o_gt, o_ge, o_eqI, o_neI, o_eqS, o_neS, o_inS, o_lenL, o_lenT, o_int, o_itS, o_itL, o_itT, o_truL, o_truB, o_truI, List.set_cons_zero, List.set_cons_succ, List.length_cons, List.length_nil, if_true, if_false, Bool.not_true, Bool.not_false, Bool.false_eq_true, Option.isSome_some, Option.isSome_none, Nat.reduceAdd, Nat.zero_add, decide_true, decide_false, e_gT, e_gsC, e_gsN, e_callR0, e_callN, Nat.reduceEqDiff, lit_0, lit_1, lit_2, lit_3, lit_4, lit_5, lit_6, lit_7, lit_8, lit_9, lit_10, lit_11, lit_12, cl_0, cl_1, cl_2, cl_3, cl_4, cl_5, cl_6, cl_7, r_is_presentation hl hn, h]

end Law
end
end
section
set_option Elab.async false
set_option linter.all false
set_option maxRecDepth 100000
set_option autoImplicit false
set_option maxHeartbeats 4000000
noncomputable section
namespace Law
open PySem DW L2
open SX (S S_tl S_len S_cat)
theorem r__check_weights {m : Int} {ns : List Int} : m__check_weights [WV m ns] = if okWt m ns = true then .ok .none else .err ("NotWeights", []) := by
  have main : ∀ (Q : D → Prop) (E : Exn → Prop), (okWt m ns = true → Q .none) → (okWt m ns = false → E ("NotWeights", [])) → RP False (m__check_weights [WV m ns]) Q E := by
    intro Q E h1 h2
    show RP False (fin (b__check_weights [some (.sh (WV m ns)), none, none])) _ _
    unfold b__check_weights
    have nl : (ns.map PyData.int).length = ns.length := List.length_map ..
    unfold okWt at h1 h2
    simp -implicitDefEqProofs only [RP_ok, RP_err, RP_stuck, RP_bind, RP_quiet, RP_sure, RP_ite, RP_fin, RP_finN, OP_nx, OP_rt, OP_rto, OP_bk, OP_ct, OP_err, OP_stuck, OP_of, OP_thn, OP_lp, OP_ite, OP_tryN, OP_tryAs, OP_endS, OP_endI, true_implies, false_implies, not_true_eq_false, not_false_eq_true, and_true, true_and, implies_true, wipe_nil, wipe_cons, List.length_map, e_callR, e_callX, e_isX, e_xf, e_sNext, e_sApp, e_sPop, e_sRev, e_sRetOwn, e_sExt, e_sGive, e_sSetIx, e_hdl, hdl_nil, e_hdlAs, ownAt_own, rndAt_rnd, excAt_exc, someD_some, caseB_t, caseB_f, intD_int, clean_nil, clean_sh, clean_no, clean_own, List.getElem?_cons_zero, List.getElem?_cons_succ, decide_eq_true_eq, Bool.not_eq_true', List.length_append, Option.getD_some, ixT0, ixT1, ixT2, ixT3, ixL0, ixL1, ixL2, ixL3, o_isB, o_isL, o_isT, o_isI, o_isS, o_niPM, o_niPL, o_max2, o_min2, o_abs, o_tupL, o_tupT, o_lofL, o_lofT, e_aListOf, e_aRep, sizeLine_eq, decide_eq_false_iff_not, Classical.not_not, Nat.reduceLeDiff, Nat.zero_le, Int.reduceLE, Int.reduceLT, Int.reduceEq, Nat.reduceLT, List.nil_append, List.cons_append, cst0, cst1, cst2, cst3, cst4, cst5, cst6, cst7, cst8, cst9, cst10, cst11, cst12, o_eqB, o_neB, reduceCtorEq, Bool.true_eq_false, e_iEnumS, e_iZipS, o_enum, o_zipL, o_zipT, e_sRaise1, e_sPar, e_sPar3, e_gTL, o_isBB, o_notBB, e_iEnumA, o_enumL, o_enumT, e_mB, ok_strD, ok_listD, e_iZipM, o_zipLL, o_zipTT, o_zipTL, o_zipLT, e_sCons, e_sNil, e_sBreak, e_sCont, e_sRet, e_sRetN, e_sExpr, e_sIf, e_sAsg, e_sOwn, e_sFrz, e_sRaise, e_sFor, e_loop_nil, e_mC, e_m1, e_m2, e_mF, e_mCall, e_mM1, e_aNil, e_aCons, e_aLst, e_mTup, e_mLst, e_mN, e_mT, e_mTru, e_mAndT, e_mOrT, e_mNotT, e_mAnd, e_mOr, e_mNot, e_mIf, e_mChain, e_iSeq, e_iRange1, e_iRange2, e_oNone, e_oSome, e_mSl, e_mYes, e_mLc, e_gN, v0, vS, p0, p0o, pS, f0, f0s, f0n, fS, R.bind_ok, R.bind_err, R.bind_stuck, R.quiet_ok, R.sure_ok, R.sure_err, R.sure_stuck, O.of_ok, O.of_err, O.of_stuck, O.thn_nx, O.thn_rt, O.thn_bk, O.thn_ct, O.thn_err, O.thn_rto, O.lp_nx, O.lp_ct, O.lp_bk, O.lp_rt, O.lp_rto, O.lp_err, fin_nx, fin_rt, fin_err, asB_b, o_add, o_addI, o_sub, o_neg, o_lt, o_le, o_gt, o_ge, o_eqI, o_neI, o_eqS, o_neS, o_inS, o_lenL, o_lenT, o_int, o_itS, o_itL, o_itT, o_truL, o_truB, o_truI, List.set_cons_zero, List.set_cons_succ, List.length_cons, List.length_nil, if_true, if_false, Bool.not_true, Bool.not_false, Bool.false_eq_true, Option.isSome_some, Option.isSome_none, Nat.reduceAdd, Nat.zero_add, decide_true, decide_false, e_gT, e_gsC, e_gsN, e_callR0, e_callN, Nat.reduceEqDiff, lit_0, lit_1, lit_2, lit_3, lit_4, lit_5, lit_6, lit_7, lit_8, lit_9, lit_10, lit_11, lit_12, cl_0, cl_1, cl_2, cl_3, cl_4, cl_5, cl_6, cl_7, nl]
    refine ⟨fun a => h2 (decide_eq_false fun z => by omega), fun a => ⟨fun b => h2 (decide_eq_false fun z => by omega), fun b => ⟨fun c => h2 (decide_eq_false fun z => by omega), fun c => ⟨fun d => h2 (decide_eq_false fun z => by omega), fun d => h1 (decide_eq_true (by omega))⟩⟩⟩⟩
  cases q : okWt m ns with
  | true => rw [if_pos rfl]; exact eq_ok (main _ _ (fun _ => rfl) (fun h => by rw [q] at h; cases h))
  | false => rw [if_neg (by decide)]; exact eq_err (main _ _ (fun h => by rw [q] at h; cases h) (fun _ => rfl))

end Law
end
end
section
set_option Elab.async false
set_option linter.all false
set_option maxRecDepth 100000
set_option autoImplicit false
set_option maxHeartbeats 4000000
noncomputable section
namespace Law
open PySem DW L2
open SX (S S_tl S_len S_cat)
theorem r__letter_sums {n : Nat} (h1 : 1 ≤ n) (hn : n ≤ 3) {w : List Nat} : m__letter_sums [.int (n : Int), sD w] = .ok (intsV (sumsI n w)) := by
  refine eq_ok ?_
  show RP False (fin (b__letter_sums [some (.sh (.int (n : Int))), some (.sh (sD w)), none, none])) _ _
  unfold b__letter_sums
  simp -implicitDefEqProofs only [RP_ok, RP_err, RP_stuck, RP_bind, RP_quiet, RP_sure, RP_ite, RP_fin, RP_finN, OP_nx, OP_rt, OP_rto, OP_bk, OP_ct, OP_err, OP_stuck, OP_of, OP_thn, OP_lp, OP_ite, OP_tryN, OP_tryAs, OP_endS, OP_endI, true_implies, false_implies, not_true_eq_false, not_false_eq_true, and_true, true_and, implies_true, wipe_nil, wipe_cons, List.length_map, e_callR, e_callX, e_isX, e_xf, e_sNext, e_sApp, e_sPop, e_sRev, e_sRetOwn, e_sExt, e_sGive, e_sSetIx, e_hdl, hdl_nil, e_hdlAs, ownAt_own, rndAt_rnd, excAt_exc, someD_some, caseB_t, caseB_f, intD_int, clean_nil, clean_sh, clean_no, clean_own, List.getElem?_cons_zero, List.getElem?_cons_succ, decide_eq_true_eq, Bool.not_eq_true', List.length_append, Option.getD_some, ixT0, ixT1, ixT2, ixT3, ixL0, ixL1, ixL2, ixL3, o_isB, o_isL, o_isT, o_isI, o_isS, o_niPM, o_niPL, o_max2, o_min2, o_abs, o_tupL, o_tupT, o_lofL, o_lofT, e_aListOf, e_aRep, sizeLine_eq, decide_eq_false_iff_not, Classical.not_not, Nat.reduceLeDiff, Nat.zero_le, Int.reduceLE, Int.reduceLT, Int.reduceEq, Nat.reduceLT, List.nil_append, List.cons_append, cst0, cst1, cst2, cst3, cst4, cst5, cst6, cst7, cst8, cst9, cst10, cst11, cst12, o_eqB, o_neB, reduceCtorEq, Bool.true_eq_false, e_iEnumS, e_iZipS, o_enum, o_zipL, o_zipT, e_sRaise1, e_sPar, e_sPar3, e_gTL, o_isBB, o_notBB, e_iEnumA, o_enumL, o_enumT, e_mB, ok_strD, ok_listD, e_iZipM, o_zipLL, o_zipTT, o_zipTL, o_zipLT, e_sCons, e_sNil, e_sBreak, e_sCont, e_sRet, e_sRetN, e_sExpr, e_sIf, e_sAsg, e_sOwn, e_sFrz, e_sRaise, e_sFor, e_loop_nil, e_mC, e_m1, e_m2, e_mF, e_mCall, e_mM1, e_aNil, e_aCons, e_aLst, e_mTup, e_mLst, e_mN, e_mT, e_mTru, e_mAndT, e_mOrT, e_mNotT, e_mAnd, e_mOr, e_mNot, e_mIf, e_mChain, e_iSeq, e_iRange1, e_iRange2, e_oNone, e_oSome, e_mSl, e_mYes, e_mLc, e_gN, v0, vS, p0, p0o, pS, f0, f0s, f0n, fS, R.bind_ok, R.bind_err, R.bind_stuck, R.quiet_ok, R.sure_ok, R.sure_err, R.sure_stuck, O.of_ok, O.of_err, O.of_stuck, O.thn_nx, O.thn_rt, O.thn_bk, O.thn_ct, O.thn_err, O.thn_rto, O.lp_nx, O.lp_ct, O.lp_bk, O.lp_rt, O.lp_rto, O.lp_err, fin_nx, fin_rt, fin_err, asB_b, o_add, o_addI, o_sub, o_neg, o_lt, o_le, o_gt, o_ge, o_eqI, o_neI, o_eqS, o_neS, o_inS, o_lenL, o_lenT, o_int, o_itS, o_itL, o_itT, o_truL, o_truB, o_truI, List.set_cons_zero, List.set_cons_succ, List.length_cons, List.length_nil, if_true, if_false, Bool.not_true, Bool.not_false, Bool.false_eq_true, Option.isSome_some, Option.isSome_none, Nat.reduceAdd, Nat.zero_add, decide_true, decide_false, e_gT, e_gsC, e_gsN, e_callR0, e_callN, Nat.reduceEqDiff, lit_0, lit_1, lit_2, lit_3, lit_4, lit_5, lit_6, lit_7, lit_8, lit_9, lit_10, lit_11, lit_12, cl_0, cl_1, cl_2, cl_3, cl_4, cl_5, cl_6, cl_7, r_letters_of (g := (n : Int)) (by omega) (by omega), rg_nat (show n ≤ 1000 by omega)]
  refine ck (by rw [List.length_range]; omega) ?_
  rw [RP_lc (u := fun (k : Nat) => PyData.int (k : Int)) (f := fun k => PyData.int (cntK w k)) (fun k hk => by
    have hk := List.mem_range.mp hk
    unfold ce__letter_sums_1
    simp -implicitDefEqProofs only [e_callR, e_callX, e_isX, e_xf, e_sNext, e_sApp, e_sPop, e_sRev, e_sRetOwn, e_sExt, e_sGive, e_sSetIx, e_hdl, hdl_nil, e_hdlAs, ownAt_own, rndAt_rnd, excAt_exc, someD_some, caseB_t, caseB_f, intD_int, clean_nil, clean_sh, clean_no, clean_own, List.getElem?_cons_zero, List.getElem?_cons_succ, decide_eq_true_eq, Bool.not_eq_true', List.length_append, Option.getD_some, ixT0, ixT1, ixT2, ixT3, ixL0, ixL1, ixL2, ixL3, o_isB, o_isL, o_isT, o_isI, o_isS, o_niPM, o_niPL, o_max2, o_min2, o_abs, o_tupL, o_tupT, o_lofL, o_lofT, e_aListOf, e_aRep, sizeLine_eq, decide_eq_false_iff_not, Classical.not_not, Nat.reduceLeDiff, Nat.zero_le, Int.reduceLE, Int.reduceLT, Int.reduceEq, Nat.reduceLT, List.nil_append, List.cons_append, cst0, cst1, cst2, cst3, cst4, cst5, cst6, cst7, cst8, cst9, cst10, cst11, cst12, o_eqB, o_neB, reduceCtorEq, Bool.true_eq_false, e_iEnumS, e_iZipS, o_enum, o_zipL, o_zipT, e_sRaise1, e_sPar, e_sPar3, e_gTL, o_isBB, o_notBB, e_iEnumA, o_enumL, o_enumT, e_mB, ok_strD, ok_listD, e_iZipM, o_zipLL, o_zipTT, o_zipTL, o_zipLT, e_sCons, e_sNil, e_sBreak, e_sCont, e_sRet, e_sRetN, e_sExpr, e_sIf, e_sAsg, e_sOwn, e_sFrz, e_sRaise, e_sFor, e_loop_nil, e_mC, e_m1, e_m2, e_mF, e_mCall, e_mM1, e_aNil, e_aCons, e_aLst, e_mTup, e_mLst, e_mN, e_mT, e_mTru, e_mAndT, e_mOrT, e_mNotT, e_mAnd, e_mOr, e_mNot, e_mIf, e_mChain, e_iSeq, e_iRange1, e_iRange2, e_oNone, e_oSome, e_mSl, e_mYes, e_mLc, e_gN, v0, vS, p0, p0o, pS, f0, f0s, f0n, fS, R.bind_ok, R.bind_err, R.bind_stuck, R.quiet_ok, R.sure_ok, R.sure_err, R.sure_stuck, O.of_ok, O.of_err, O.of_stuck, O.thn_nx, O.thn_rt, O.thn_bk, O.thn_ct, O.thn_err, O.thn_rto, O.lp_nx, O.lp_ct, O.lp_bk, O.lp_rt, O.lp_rto, O.lp_err, fin_nx, fin_rt, fin_err, asB_b, o_add, o_addI, o_sub, o_neg, o_lt, o_le, o_gt, o_ge, o_eqI, o_neI, o_eqS, o_neS, o_inS, o_lenL, o_lenT, o_int, o_itS, o_itL, o_itT, o_truL, o_truB, o_truI, List.set_cons_zero, List.set_cons_succ, List.length_cons, List.length_nil, if_true, if_false, Bool.not_true, Bool.not_false, Bool.false_eq_true, Option.isSome_some, Option.isSome_none, Nat.reduceAdd, Nat.zero_add, decide_true, decide_false, e_gT, e_gsC, e_gsN, e_callR0, e_callN, Nat.reduceEqDiff, lit_0, lit_1, lit_2, lit_3, lit_4, lit_5, lit_6, lit_7, lit_8, lit_9, lit_10, lit_11, lit_12, cl_0, cl_1, cl_2, cl_3, cl_4, cl_5, cl_6, cl_7, ix_lte (g := (n : Int)) (k := k) (by omega) (by omega) (by omega), ix_lto (g := (n : Int)) (k := k) (by omega) (by omega) (by omega), o_mulS (show (2 : Int).natAbs < 2 ^ 64 by decide) (show (k : Int).natAbs < 2 ^ 64 by omega), o_count]
    rfl)]
  unfold sumsI intsV
  rw [List.map_map]
  rfl

end Law
end
end
section
set_option Elab.async false
set_option linter.all false
set_option maxRecDepth 100000
set_option autoImplicit false
set_option maxHeartbeats 4000000
noncomputable section
namespace Law
open PySem DW L2
open SX (S S_tl S_len S_cat)
theorem r__weight_of_text {m : Int} {ns : List Int} (hm : 0 ≤ m) (h1 : 1 ≤ ns.length) (h3 : ns.length ≤ 3) (hb : NumB ns) {w : List Nat} (hl : w.length ≤ 1000000) : m__weight_of_text [WV m ns, sD w] = .ok (.int (wMod m (wgt ns w))) := by
  refine eq_ok ?_
  show RP False (fin (b__weight_of_text [some (.sh (WV m ns)), some (.sh (sD w)), none, none, none, none, none, none])) _ _
  unfold b__weight_of_text
  have nl : (ns.map PyData.int).length = ns.length := List.length_map ..
  simp -implicitDefEqProofs only [RP_ok, RP_err, RP_stuck, RP_bind, RP_quiet, RP_sure, RP_ite, RP_fin, RP_finN, OP_nx, OP_rt, OP_rto, OP_bk, OP_ct, OP_err, OP_stuck, OP_of, OP_thn, OP_lp, OP_ite, OP_tryN, OP_tryAs, OP_endS, OP_endI, true_implies, false_implies, not_true_eq_false, not_false_eq_true, and_true, true_and, implies_true, wipe_nil, wipe_cons, List.length_map, e_callR, e_callX, e_isX, e_xf, e_sNext, e_sApp, e_sPop, e_sRev, e_sRetOwn, e_sExt, e_sGive, e_sSetIx, e_hdl, hdl_nil, e_hdlAs, ownAt_own, rndAt_rnd, excAt_exc, someD_some, caseB_t, caseB_f, intD_int, clean_nil, clean_sh, clean_no, clean_own, List.getElem?_cons_zero, List.getElem?_cons_succ, decide_eq_true_eq, Bool.not_eq_true', List.length_append, Option.getD_some, ixT0, ixT1, ixT2, ixT3, ixL0, ixL1, ixL2, ixL3, o_isB, o_isL, o_isT, o_isI, o_isS, o_niPM, o_niPL, o_max2, o_min2, o_abs, o_tupL, o_tupT, o_lofL, o_lofT, e_aListOf, e_aRep, sizeLine_eq, decide_eq_false_iff_not, Classical.not_not, Nat.reduceLeDiff, Nat.zero_le, Int.reduceLE, Int.reduceLT, Int.reduceEq, Nat.reduceLT, List.nil_append, List.cons_append, cst0, cst1, cst2, cst3, cst4, cst5, cst6, cst7, cst8, cst9, cst10, cst11, cst12, o_eqB, o_neB, reduceCtorEq, Bool.true_eq_false, e_iEnumS, e_iZipS, o_enum, o_zipL, o_zipT, e_sRaise1, e_sPar, e_sPar3, e_gTL, o_isBB, o_notBB, e_iEnumA, o_enumL, o_enumT, e_mB, ok_strD, ok_listD, e_iZipM, o_zipLL, o_zipTT, o_zipTL, o_zipLT, e_sCons, e_sNil, e_sBreak, e_sCont, e_sRet, e_sRetN, e_sExpr, e_sIf, e_sAsg, e_sOwn, e_sFrz, e_sRaise, e_sFor, e_loop_nil, e_mC, e_m1, e_m2, e_mF, e_mCall, e_mM1, e_aNil, e_aCons, e_aLst, e_mTup, e_mLst, e_mN, e_mT, e_mTru, e_mAndT, e_mOrT, e_mNotT, e_mAnd, e_mOr, e_mNot, e_mIf, e_mChain, e_iSeq, e_iRange1, e_iRange2, e_oNone, e_oSome, e_mSl, e_mYes, e_mLc, e_gN, v0, vS, p0, p0o, pS, f0, f0s, f0n, fS, R.bind_ok, R.bind_err, R.bind_stuck, R.quiet_ok, R.sure_ok, R.sure_err, R.sure_stuck, O.of_ok, O.of_err, O.of_stuck, O.thn_nx, O.thn_rt, O.thn_bk, O.thn_ct, O.thn_err, O.thn_rto, O.lp_nx, O.lp_ct, O.lp_bk, O.lp_rt, O.lp_rto, O.lp_err, fin_nx, fin_rt, fin_err, asB_b, o_add, o_addI, o_sub, o_neg, o_lt, o_le, o_gt, o_ge, o_eqI, o_neI, o_eqS, o_neS, o_inS, o_lenL, o_lenT, o_int, o_itS, o_itL, o_itT, o_truL, o_truB, o_truI, List.set_cons_zero, List.set_cons_succ, List.length_cons, List.length_nil, if_true, if_false, Bool.not_true, Bool.not_false, Bool.false_eq_true, Option.isSome_some, Option.isSome_none, Nat.reduceAdd, Nat.zero_add, decide_true, decide_false, e_gT, e_gsC, e_gsN, e_callR0, e_callN, Nat.reduceEqDiff, lit_0, lit_1, lit_2, lit_3, lit_4, lit_5, lit_6, lit_7, lit_8, lit_9, lit_10, lit_11, lit_12, cl_0, cl_1, cl_2, cl_3, cl_4, cl_5, cl_6, cl_7, nl, r__letter_sums (n := ns.length) h1 h3, zipD_map]
  have zl : (ns.zip (sumsI ns.length w)).length ≤ 3 := by rw [List.length_zip, sumsI_len]; omega
  refine ck (by omega) ?_
  rw [lc_gm (u := fun p : Int × Int => PyData.tuple [.int p.1, .int p.2]) (f := fun p => PyData.int (p.1 * p.2)) (fun p hp => ⟨_, rfl, by
    have p1 := hb p.1 (List.of_mem_zip hp).1
    obtain ⟨k, _, hk⟩ := sumsI_mem (List.of_mem_zip hp).2
    have p2 := cntK_abs w k
    unfold ce__weight_of_text_1
    simp -implicitDefEqProofs only [e_callR, e_callX, e_isX, e_xf, e_sNext, e_sApp, e_sPop, e_sRev, e_sRetOwn, e_sExt, e_sGive, e_sSetIx, e_hdl, hdl_nil, e_hdlAs, ownAt_own, rndAt_rnd, excAt_exc, someD_some, caseB_t, caseB_f, intD_int, clean_nil, clean_sh, clean_no, clean_own, List.getElem?_cons_zero, List.getElem?_cons_succ, decide_eq_true_eq, Bool.not_eq_true', List.length_append, Option.getD_some, ixT0, ixT1, ixT2, ixT3, ixL0, ixL1, ixL2, ixL3, o_isB, o_isL, o_isT, o_isI, o_isS, o_niPM, o_niPL, o_max2, o_min2, o_abs, o_tupL, o_tupT, o_lofL, o_lofT, e_aListOf, e_aRep, sizeLine_eq, decide_eq_false_iff_not, Classical.not_not, Nat.reduceLeDiff, Nat.zero_le, Int.reduceLE, Int.reduceLT, Int.reduceEq, Nat.reduceLT, List.nil_append, List.cons_append, cst0, cst1, cst2, cst3, cst4, cst5, cst6, cst7, cst8, cst9, cst10, cst11, cst12, o_eqB, o_neB, reduceCtorEq, Bool.true_eq_false, e_iEnumS, e_iZipS, o_enum, o_zipL, o_zipT, e_sRaise1, e_sPar, e_sPar3, e_gTL, o_isBB, o_notBB, e_iEnumA, o_enumL, o_enumT, e_mB, ok_strD, ok_listD, e_iZipM, o_zipLL, o_zipTT, o_zipTL, o_zipLT, e_sCons, e_sNil, e_sBreak, e_sCont, e_sRet, e_sRetN, e_sExpr, e_sIf, e_sAsg, e_sOwn, e_sFrz, e_sRaise, e_sFor, e_loop_nil, e_mC, e_m1, e_m2, e_mF, e_mCall, e_mM1, e_aNil, e_aCons, e_aLst, e_mTup, e_mLst, e_mN, e_mT, e_mTru, e_mAndT, e_mOrT, e_mNotT, e_mAnd, e_mOr, e_mNot, e_mIf, e_mChain, e_iSeq, e_iRange1, e_iRange2, e_oNone, e_oSome, e_mSl, e_mYes, e_mLc, e_gN, v0, vS, p0, p0o, pS, f0, f0s, f0n, fS, R.bind_ok, R.bind_err, R.bind_stuck, R.quiet_ok, R.sure_ok, R.sure_err, R.sure_stuck, O.of_ok, O.of_err, O.of_stuck, O.thn_nx, O.thn_rt, O.thn_bk, O.thn_ct, O.thn_err, O.thn_rto, O.lp_nx, O.lp_ct, O.lp_bk, O.lp_rt, O.lp_rto, O.lp_err, fin_nx, fin_rt, fin_err, asB_b, o_add, o_addI, o_sub, o_neg, o_lt, o_le, o_gt, o_ge, o_eqI, o_neI, o_eqS, o_neS, o_inS, o_lenL, o_lenT, o_int, o_itS, o_itL, o_itT, o_truL, o_truB, o_truI, List.set_cons_zero, List.set_cons_succ, List.length_cons, List.length_nil, if_true, if_false, Bool.not_true, Bool.not_false, Bool.false_eq_true, Option.isSome_some, Option.isSome_none, Nat.reduceAdd, Nat.zero_add, decide_true, decide_false, e_gT, e_gsC, e_gsN, e_callR0, e_callN, Nat.reduceEqDiff, lit_0, lit_1, lit_2, lit_3, lit_4, lit_5, lit_6, lit_7, lit_8, lit_9, lit_10, lit_11, lit_12, cl_0, cl_1, cl_2, cl_3, cl_4, cl_5, cl_6, cl_7, o_mulS (show p.1.natAbs < 2 ^ 64 by omega) (show p.2.natAbs < 2 ^ 64 by omega)]⟩), RP_ok]
  have es : dSum [.list ((ns.zip (sumsI ns.length w)).map fun p => PyData.int (p.1 * p.2))] = .ok (.int (wgt ns w)) := by
    have := o_sumI (l := (ns.zip (sumsI ns.length w)).map fun p => p.1 * p.2)
    rw [List.map_map] at this
    unfold wgt
    rw [dotI_sum]
    exact this
  rw [RP_of es]
  unfold wMod
  refine ⟨fun h => by rw [if_pos h], fun h => ?_⟩
  rw [RP_of (o_mod (show (0 : Int) < m by omega)), if_neg h]

end Law
end
end
section
set_option Elab.async false
set_option linter.all false
set_option maxRecDepth 100000
set_option autoImplicit false
set_option maxHeartbeats 4000000
noncomputable section
namespace Law
open PySem DW L2
open SX (S S_tl S_len S_cat)
theorem r_fits {g : Nat} {rs : List (List Nat)} {m : Int} {ns : List Int} (hp : Pres (g : Int) rs) (hk : okWt m ns = true) (hl : ns.length = g) (hb : NumB ns) : m_fits [PV (g : Int) rs, WV m ns] = .ok (.bool (rs.all fun r => decide (wMod m (wgt ns r) = 0))) := by
  have hk' := of_decide_eq_true hk
  refine eq_ok ?_
  show RP False (fin (b_fits [some (.sh (PV (g : Int) rs)), some (.sh (WV m ns)), none])) _ _
  unfold b_fits
  have nl : (ns.map PyData.int).length = ns.length := List.length_map ..
  have rl : (rs.map sD).length = rs.length := List.length_map ..
  have hn := hp.n
  simp -implicitDefEqProofs only [RP_ok, RP_err, RP_stuck, RP_bind, RP_quiet, RP_sure, RP_ite, RP_fin, RP_finN, OP_nx, OP_rt, OP_rto, OP_bk, OP_ct, OP_err, OP_stuck, OP_of, OP_thn, OP_lp, OP_ite, OP_tryN, OP_tryAs, OP_endS, OP_endI, true_implies, false_implies, not_true_eq_false, not_false_eq_true, and_true, true_and, implies_true, wipe_nil, wipe_cons, List.length_map, e_callR, e_callX, e_isX, e_xf, e_sNext, e_sApp, e_sPop, e_sRev, e_sRetOwn, e_sExt, e_sGive, e_sSetIx, e_hdl, hdl_nil, e_hdlAs, ownAt_own, rndAt_rnd, excAt_exc, someD_some, caseB_t, caseB_f, intD_int, clean_nil, clean_sh, clean_no, clean_own, List.getElem?_cons_zero, List.getElem?_cons_succ, decide_eq_true_eq, Bool.not_eq_true', List.length_append, Option.getD_some, ixT0, ixT1, ixT2, ixT3, ixL0, ixL1, ixL2, ixL3, o_isB, o_isL, o_isT, o_isI, o_isS, o_niPM, o_niPL, o_max2, o_min2, o_abs, o_tupL, o_tupT, o_lofL, o_lofT, e_aListOf, e_aRep, sizeLine_eq, decide_eq_false_iff_not, Classical.not_not, Nat.reduceLeDiff, Nat.zero_le, Int.reduceLE, Int.reduceLT, Int.reduceEq, Nat.reduceLT, List.nil_append, List.cons_append, cst0, cst1, cst2, cst3, cst4, cst5, cst6, cst7, cst8, cst9, cst10, cst11, cst12, o_eqB, o_neB, reduceCtorEq, Bool.true_eq_false, e_iEnumS, e_iZipS, o_enum, o_zipL, o_zipT, e_sRaise1, e_sPar, e_sPar3, e_gTL, o_isBB, o_notBB, e_iEnumA, o_enumL, o_enumT, e_mB, ok_strD, ok_listD, e_iZipM, o_zipLL, o_zipTT, o_zipTL, o_zipLT, e_sCons, e_sNil, e_sBreak, e_sCont, e_sRet, e_sRetN, e_sExpr, e_sIf, e_sAsg, e_sOwn, e_sFrz, e_sRaise, e_sFor, e_loop_nil, e_mC, e_m1, e_m2, e_mF, e_mCall, e_mM1, e_aNil, e_aCons, e_aLst, e_mTup, e_mLst, e_mN, e_mT, e_mTru, e_mAndT, e_mOrT, e_mNotT, e_mAnd, e_mOr, e_mNot, e_mIf, e_mChain, e_iSeq, e_iRange1, e_iRange2, e_oNone, e_oSome, e_mSl, e_mYes, e_mLc, e_gN, v0, vS, p0, p0o, pS, f0, f0s, f0n, fS, R.bind_ok, R.bind_err, R.bind_stuck, R.quiet_ok, R.sure_ok, R.sure_err, R.sure_stuck, O.of_ok, O.of_err, O.of_stuck, O.thn_nx, O.thn_rt, O.thn_bk, O.thn_ct, O.thn_err, O.thn_rto, O.lp_nx, O.lp_ct, O.lp_bk, O.lp_rt, O.lp_rto, O.lp_err, fin_nx, fin_rt, fin_err, asB_b, o_add, o_addI, o_sub, o_neg, o_lt, o_le, o_gt, o_ge, o_eqI, o_neI, o_eqS, o_neS, o_inS, o_lenL, o_lenT, o_int, o_itS, o_itL, o_itT, o_truL, o_truB, o_truI, List.set_cons_zero, List.set_cons_succ, List.length_cons, List.length_nil, if_true, if_false, Bool.not_true, Bool.not_false, Bool.false_eq_true, Option.isSome_some, Option.isSome_none, Nat.reduceAdd, Nat.zero_add, decide_true, decide_false, e_gT, e_gsC, e_gsN, e_callR0, e_callN, Nat.reduceEqDiff, lit_0, lit_1, lit_2, lit_3, lit_4, lit_5, lit_6, lit_7, lit_8, lit_9, lit_10, lit_11, lit_12, cl_0, cl_1, cl_2, cl_3, cl_4, cl_5, cl_6, cl_7, r_check_presentation hp.len (by omega) hp.ok, r__check_weights, hk, nl, hl]
  refine ck (by omega) ?_
  rw [RP_lc (u := sD) (f := fun r => PyData.bool (decide (wMod m (wgt ns r) = 0))) (fun r hr => by
    have := hp.r r hr
    unfold ce_fits_1
    simp -implicitDefEqProofs only [e_callR, e_callX, e_isX, e_xf, e_sNext, e_sApp, e_sPop, e_sRev, e_sRetOwn, e_sExt, e_sGive, e_sSetIx, e_hdl, hdl_nil, e_hdlAs, ownAt_own, rndAt_rnd, excAt_exc, someD_some, caseB_t, caseB_f, intD_int, clean_nil, clean_sh, clean_no, clean_own, List.getElem?_cons_zero, List.getElem?_cons_succ, decide_eq_true_eq, Bool.not_eq_true', List.length_append, Option.getD_some, ixT0, ixT1, ixT2, ixT3, ixL0, ixL1, ixL2, ixL3, o_isB, o_isL, o_isT, o_isI, o_isS, o_niPM, o_niPL, o_max2, o_min2, o_abs, o_tupL, o_tupT, o_lofL, o_lofT, e_aListOf, e_aRep, sizeLine_eq, decide_eq_false_iff_not, Classical.not_not, Nat.reduceLeDiff, Nat.zero_le, Int.reduceLE, Int.reduceLT, Int.reduceEq, Nat.reduceLT, List.nil_append, List.cons_append, cst0, cst1, cst2, cst3, cst4, cst5, cst6, cst7, cst8, cst9, cst10, cst11, cst12, o_eqB, o_neB, reduceCtorEq, Bool.true_eq_false, e_iEnumS, e_iZipS, o_enum, o_zipL, o_zipT, e_sRaise1, e_sPar, e_sPar3, e_gTL, o_isBB, o_notBB, e_iEnumA, o_enumL, o_enumT, e_mB, ok_strD, ok_listD, e_iZipM, o_zipLL, o_zipTT, o_zipTL, o_zipLT, e_sCons, e_sNil, e_sBreak, e_sCont, e_sRet, e_sRetN, e_sExpr, e_sIf, e_sAsg, e_sOwn, e_sFrz, e_sRaise, e_sFor, e_loop_nil, e_mC, e_m1, e_m2, e_mF, e_mCall, e_mM1, e_aNil, e_aCons, e_aLst, e_mTup, e_mLst, e_mN, e_mT, e_mTru, e_mAndT, e_mOrT, e_mNotT, e_mAnd, e_mOr, e_mNot, e_mIf, e_mChain, e_iSeq, e_iRange1, e_iRange2, e_oNone, e_oSome, e_mSl, e_mYes, e_mLc, e_gN, v0, vS, p0, p0o, pS, f0, f0s, f0n, fS, R.bind_ok, R.bind_err, R.bind_stuck, R.quiet_ok, R.sure_ok, R.sure_err, R.sure_stuck, O.of_ok, O.of_err, O.of_stuck, O.thn_nx, O.thn_rt, O.thn_bk, O.thn_ct, O.thn_err, O.thn_rto, O.lp_nx, O.lp_ct, O.lp_bk, O.lp_rt, O.lp_rto, O.lp_err, fin_nx, fin_rt, fin_err, asB_b, o_add, o_addI, o_sub, o_neg, o_lt, o_le, o_gt, o_ge, o_eqI, o_neI, o_eqS, o_neS, o_inS, o_lenL, o_lenT, o_int, o_itS, o_itL, o_itT, o_truL, o_truB, o_truI, List.set_cons_zero, List.set_cons_succ, List.length_cons, List.length_nil, if_true, if_false, Bool.not_true, Bool.not_false, Bool.false_eq_true, Option.isSome_some, Option.isSome_none, Nat.reduceAdd, Nat.zero_add, decide_true, decide_false, e_gT, e_gsC, e_gsN, e_callR0, e_callN, Nat.reduceEqDiff, lit_0, lit_1, lit_2, lit_3, lit_4, lit_5, lit_6, lit_7, lit_8, lit_9, lit_10, lit_11, lit_12, cl_0, cl_1, cl_2, cl_3, cl_4, cl_5, cl_6, cl_7, r__weight_of_text (m := m) (ns := ns) (w := r) hk'.1 hk'.2.2.1 hk'.2.2.2 hb (by omega)])]
  rw [RP_of (o_allM (xs := rs) (b := fun r => decide (wMod m (wgt ns r) = 0)))]
theorem r_fits_weights {g : Nat} {rs : List (List Nat)} {m : Int} {ns : List Int} (hp : Pres (g : Int) rs) (h : okWt m ns = false ∨ ns.length ≠ g) : m_fits [PV (g : Int) rs, WV m ns] = .err ("NotWeights", []) := by
  show fin (b_fits [some (.sh (PV (g : Int) rs)), some (.sh (WV m ns)), none]) = _
  unfold b_fits
  have nl : (ns.map PyData.int).length = ns.length := List.length_map ..
  have hn := hp.n
  cases q : okWt m ns with
  | false => simp -implicitDefEqProofs only [e_callR, e_callX, e_isX, e_xf, e_sNext, e_sApp, e_sPop, e_sRev, e_sRetOwn, e_sExt, e_sGive, e_sSetIx, e_hdl, hdl_nil, e_hdlAs, ownAt_own, rndAt_rnd, excAt_exc, someD_some, caseB_t, caseB_f, intD_int, clean_nil, clean_sh, clean_no, clean_own, List.getElem?_cons_zero, List.getElem?_cons_succ, decide_eq_true_eq, Bool.not_eq_true', List.length_append, Option.getD_some, ixT0, ixT1, ixT2, ixT3, ixL0, ixL1, ixL2, ixL3, o_isB, o_isL, o_isT, o_isI, o_isS, o_niPM, o_niPL, o_max2, o_min2, o_abs, o_tupL, o_tupT, o_lofL, o_lofT, e_aListOf, e_aRep, sizeLine_eq, decide_eq_false_iff_not, Classical.not_not, Nat.reduceLeDiff, Nat.zero_le, Int.reduceLE, Int.reduceLT, Int.reduceEq, Nat.reduceLT, List.nil_append, List.cons_append, cst0, cst1, cst2, cst3, cst4, cst5, cst6, cst7, cst8, cst9, cst10, cst11, cst12, o_eqB, o_neB, reduceCtorEq, Bool.true_eq_false, e_iEnumS, e_iZipS, o_enum, o_zipL, o_zipT, e_sRaise1, e_sPar, e_sPar3, e_gTL, o_isBB, o_notBB, e_iEnumA, o_enumL, o_enumT, e_mB, ok_strD, ok_listD, e_iZipM, o_zipLL, o_zipTT, o_zipTL, o_zipLT, e_sCons, e_sNil, e_sBreak, e_sCont, e_sRet, e_sRetN, e_sExpr, e_sIf, e_sAsg, e_sOwn, e_sFrz, e_sRaise, e_sFor, e_loop_nil, e_mC, e_m1, e_m2, e_mF, e_mCall, e_mM1, e_aNil, e_aCons, e_aLst, e_mTup, e_mLst, e_mN, e_mT, e_mTru, e_mAndT, e_mOrT, e_mNotT, e_mAnd, e_mOr, e_mNot, e_mIf, e_mChain, e_iSeq, e_iRange1, e_iRange2, e_oNone, e_oSome, e_mSl, e_mYes, e_mLc, e_gN, v0, vS, p0, p0o, pS, f0, f0s, f0n, fS, R.bind_ok, R.bind_err, R.bind_stuck, R.quiet_ok, R.sure_ok, R.sure_err, R.sure_stuck, O.of_ok, O.of_err, O.of_stuck, O.thn_nx, O.thn_rt, O.thn_bk, O.thn_ct, O.thn_err, O.thn_rto, O.lp_nx, O.lp_ct, O.lp_bk, O.lp_rt, O.lp_rto, O.lp_err, fin_nx, fin_rt, fin_err, asB_b, o_add, o_addI, o_sub, o_neg, o_lt, o_le, o_gt, o_ge, o_eqI, o_neI, o_eqS, o_neS, o_inS, o_lenL, o_lenT, o_int, o_itS, o_itL, o_itT, o_truL, o_truB, o_truI, List.set_cons_zero, List.set_cons_succ, List.length_cons, List.length_nil, if_true, if_false, Bool.not_true, Bool.not_false, Bool.false_eq_true, Option.isSome_some, Option.isSome_none, Nat.reduceAdd, Nat.zero_add, decide_true, decide_false, e_gT, e_gsC, e_gsN, e_callR0, e_callN, Nat.reduceEqDiff, lit_0, lit_1, lit_2, lit_3, lit_4, lit_5, lit_6, lit_7, lit_8, lit_9, lit_10, lit_11, lit_12, cl_0, cl_1, cl_2, cl_3, cl_4, cl_5, cl_6, cl_7, r_check_presentation hp.len (by omega) hp.ok, r__check_weights, q]
  | true =>
    have h2 : ns.length ≠ g := h.elim (fun z => by rw [q] at z; cases z) id
    have h3 : ¬ ((ns.length : Int) = (g : Int)) := by omega
    simp -implicitDefEqProofs only [e_callR, e_callX, e_isX, e_xf, e_sNext, e_sApp, e_sPop, e_sRev, e_sRetOwn, e_sExt, e_sGive, e_sSetIx, e_hdl, hdl_nil, e_hdlAs, ownAt_own, rndAt_rnd, excAt_exc, someD_some, caseB_t, caseB_f, intD_int, clean_nil, clean_sh, clean_no, clean_own, List.getElem?_cons_zero, List.getElem?_cons_succ, decide_eq_true_eq, Bool.not_eq_true', List.length_append, Option.getD_some, ixT0, ixT1, ixT2, ixT3, ixL0, ixL1, ixL2, ixL3, o_isB, o_isL, o_isT, o_isI, o_isS, o_niPM, o_niPL, o_max2, o_min2, o_abs, o_tupL, o_tupT, o_lofL, o_lofT, e_aListOf, e_aRep, sizeLine_eq, decide_eq_false_iff_not, Classical.not_not, Nat.reduceLeDiff, Nat.zero_le, Int.reduceLE, Int.reduceLT, Int.reduceEq, Nat.reduceLT, List.nil_append, List.cons_append, cst0, cst1, cst2, cst3, cst4, cst5, cst6, cst7, cst8, cst9, cst10, cst11, cst12, o_eqB, o_neB, reduceCtorEq, Bool.true_eq_false, e_iEnumS, e_iZipS, o_enum, o_zipL, o_zipT, e_sRaise1, e_sPar, e_sPar3, e_gTL, o_isBB, o_notBB, e_iEnumA, o_enumL, o_enumT, e_mB, ok_strD, ok_listD, e_iZipM, o_zipLL, o_zipTT, o_zipTL, o_zipLT, e_sCons, e_sNil, e_sBreak, e_sCont, e_sRet, e_sRetN, e_sExpr, e_sIf, e_sAsg, e_sOwn, e_sFrz, e_sRaise, e_sFor, e_loop_nil, e_mC, e_m1, e_m2, e_mF, e_mCall, e_mM1, e_aNil, e_aCons, e_aLst, e_mTup, e_mLst, e_mN, e_mT, e_mTru, e_mAndT, e_mOrT, e_mNotT, e_mAnd, e_mOr, e_mNot, e_mIf, e_mChain, e_iSeq, e_iRange1, e_iRange2, e_oNone, e_oSome, e_mSl, e_mYes, e_mLc, e_gN, v0, vS, p0, p0o, pS, f0, f0s, f0n, fS, R.bind_ok, R.bind_err, R.bind_stuck, R.quiet_ok, R.sure_ok, R.sure_err, R.sure_stuck, O.of_ok, O.of_err, O.of_stuck, O.thn_nx, O.thn_rt, O.thn_bk, O.thn_ct, O.thn_err, O.thn_rto, O.lp_nx, O.lp_ct, O.lp_bk, O.lp_rt, O.lp_rto, O.lp_err, fin_nx, fin_rt, fin_err, asB_b, o_add, o_addI, o_sub, o_neg, o_lt, o_le, o_gt, o_ge, o_eqI, o_neI, o_eqS, o_neS, o_inS, o_lenL, o_lenT, o_int, o_itS, o_itL, o_itT, o_truL, o_truB, o_truI, List.set_cons_zero, List.set_cons_succ, List.length_cons, List.length_nil, if_true, if_false, Bool.not_true, Bool.not_false, Bool.false_eq_true, Option.isSome_some, Option.isSome_none, Nat.reduceAdd, Nat.zero_add, decide_true, decide_false, e_gT, e_gsC, e_gsN, e_callR0, e_callN, Nat.reduceEqDiff, lit_0, lit_1, lit_2, lit_3, lit_4, lit_5, lit_6, lit_7, lit_8, lit_9, lit_10, lit_11, lit_12, cl_0, cl_1, cl_2, cl_3, cl_4, cl_5, cl_6, cl_7, r_check_presentation hp.len (by omega) hp.ok, r__check_weights, q, nl, decide_eq_false h3]
theorem r_fits_pres {g : Int} {rs : List (List Nat)} (hl : ∀ r ∈ rs, r.length ≤ 1000000) (hn : rs.length ≤ 1000000) (h : presB g rs = false) {d : D} : m_fits [PV g rs, d] = .err ("NotPresentation", []) := by
  show fin (b_fits [some (.sh (PV g rs)), some (.sh d), none]) = _
  unfold b_fits
  simp -implicitDefEqProofs only [e_callR, e_callX, e_isX, e_xf, e_sNext, e_sApp, e_sPop, e_sRev, e_sRetOwn, e_sExt, e_sGive, e_sSetIx, e_hdl, hdl_nil, e_hdlAs, ownAt_own, rndAt_rnd, excAt_exc, someD_some, caseB_t, caseB_f, intD_int, clean_nil, clean_sh, clean_no, clean_own, List.getElem?_cons_zero, List.getElem?_cons_succ, decide_eq_true_eq, Bool.not_eq_true', List.length_append, Option.getD_some, ixT0, ixT1, ixT2, ixT3, ixL0, ixL1, ixL2, ixL3, o_isB, o_isL, o_isT, o_isI, o_isS, o_niPM, o_niPL, o_max2, o_min2, o_abs, o_tupL, o_tupT, o_lofL, o_lofT, e_aListOf, e_aRep, sizeLine_eq, decide_eq_false_iff_not, Classical.not_not, Nat.reduceLeDiff, Nat.zero_le, Int.reduceLE, Int.reduceLT, Int.reduceEq, Nat.reduceLT, List.nil_append, List.cons_append, cst0, cst1, cst2, cst3, cst4, cst5, cst6, cst7, cst8, cst9, cst10, cst11, cst12, o_eqB, o_neB, reduceCtorEq, Bool.true_eq_false, e_iEnumS, e_iZipS, o_enum, o_zipL, o_zipT, e_sRaise1, e_sPar, e_sPar3, e_gTL, o_isBB, o_notBB, e_iEnumA, o_enumL, o_enumT, e_mB, ok_strD, ok_listD, e_iZipM, o_zipLL, o_zipTT, o_zipTL, o_zipLT, e_sCons, e_sNil, e_sBreak, e_sCont, e_sRet, e_sRetN, e_sExpr, e_sIf, e_sAsg, e_sOwn, e_sFrz, e_sRaise, e_sFor, e_loop_nil, e_mC, e_m1, e_m2, e_mF, e_mCall, e_mM1, e_aNil, e_aCons, e_aLst, e_mTup, e_mLst, e_mN, e_mT, e_mTru, e_mAndT, e_mOrT, e_mNotT, e_mAnd, e_mOr, e_mNot, e_mIf, e_mChain, e_iSeq, e_iRange1, e_iRange2, e_oNone, e_oSome, e_mSl, e_mYes, e_mLc, e_gN, v0, vS, p0, p0o, pS, f0, f0s, f0n, fS, R.bind_ok, R.bind_err, R.bind_stuck, R.quiet_ok, R.sure_ok, R.sure_err, R.sure_stuck, O.of_ok, O.of_err, O.of_stuck, O.thn_nx, O.thn_rt, O.thn_bk, O.thn_ct, O.thn_err, O.thn_rto, O.lp_nx, O.lp_ct, O.lp_bk, O.lp_rt, O.lp_rto, O.lp_err, fin_nx, fin_rt, fin_err, asB_b, o_add, o_addI, o_sub, o_neg, o_lt, o_le, o_gt, o_ge, o_eqI, o_neI, o_eqS, o_neS, o_inS, o_lenL, o_lenT, o_int, o_itS, o_itL, o_itT, o_truL, o_truB, o_truI, List.set_cons_zero, List.set_cons_succ, List.length_cons, List.length_nil, if_true, if_false, Bool.not_true, Bool.not_false, Bool.false_eq_true, Option.isSome_some, Option.isSome_none, Nat.reduceAdd, Nat.zero_add, decide_true, decide_false, e_gT, e_gsC, e_gsN, e_callR0, e_callN, Nat.reduceEqDiff, lit_0, lit_1, lit_2, lit_3, lit_4, lit_5, lit_6, lit_7, lit_8, lit_9, lit_10, lit_11, lit_12, cl_0, cl_1, cl_2, cl_3, cl_4, cl_5, cl_6, cl_7, r_check_presentation_bad hl hn h]

end Law
end
end
section
set_option Elab.async false
set_option linter.all false
set_option maxRecDepth 100000
set_option autoImplicit false
set_option maxHeartbeats 4000000
noncomputable section
namespace Law
open PySem DW L2
open SX (S S_tl S_len S_cat)
abbrev kPres : List Nat := [112, 114, 101, 115, 101, 110, 116, 97, 116, 105, 111, 110]
abbrev kWts : List Nat := [119, 101, 105, 103, 104, 116, 115]
theorem toldf {P W d : D} (e : m_fits [P, W] = .ok d) : m__law_told [P, W] = .ok d := by
  refine eq_ok ?_
  show RP False (fin (b__law_told [some (.sh P), some (.sh W)])) _ _
  unfold b__law_told
  simp -implicitDefEqProofs only [RP_ok, RP_err, RP_stuck, RP_bind, RP_quiet, RP_sure, RP_ite, RP_fin, RP_finN, OP_nx, OP_rt, OP_rto, OP_bk, OP_ct, OP_err, OP_stuck, OP_of, OP_thn, OP_lp, OP_ite, OP_tryN, OP_tryAs, OP_endS, OP_endI, true_implies, false_implies, not_true_eq_false, not_false_eq_true, and_true, true_and, implies_true, wipe_nil, wipe_cons, List.length_map, e_callR, e_callX, e_isX, e_xf, e_sNext, e_sApp, e_sPop, e_sRev, e_sRetOwn, e_sExt, e_sGive, e_sSetIx, e_hdl, hdl_nil, e_hdlAs, ownAt_own, rndAt_rnd, excAt_exc, someD_some, caseB_t, caseB_f, intD_int, clean_nil, clean_sh, clean_no, clean_own, List.getElem?_cons_zero, List.getElem?_cons_succ, decide_eq_true_eq, Bool.not_eq_true', List.length_append, Option.getD_some, ixT0, ixT1, ixT2, ixT3, ixL0, ixL1, ixL2, ixL3, o_isB, o_isL, o_isT, o_isI, o_isS, o_niPM, o_niPL, o_max2, o_min2, o_abs, o_tupL, o_tupT, o_lofL, o_lofT, e_aListOf, e_aRep, sizeLine_eq, decide_eq_false_iff_not, Classical.not_not, Nat.reduceLeDiff, Nat.zero_le, Int.reduceLE, Int.reduceLT, Int.reduceEq, Nat.reduceLT, List.nil_append, List.cons_append, cst0, cst1, cst2, cst3, cst4, cst5, cst6, cst7, cst8, cst9, cst10, cst11, cst12, o_eqB, o_neB, reduceCtorEq, Bool.true_eq_false, e_iEnumS, e_iZipS, o_enum, o_zipL, o_zipT, e_sRaise1, e_sPar, e_sPar3, e_gTL, o_isBB, o_notBB, e_iEnumA, o_enumL, o_enumT, e_mB, ok_strD, ok_listD, e_iZipM, o_zipLL, o_zipTT, o_zipTL, o_zipLT, e_sCons, e_sNil, e_sBreak, e_sCont, e_sRet, e_sRetN, e_sExpr, e_sIf, e_sAsg, e_sOwn, e_sFrz, e_sRaise, e_sFor, e_loop_nil, e_mC, e_m1, e_m2, e_mF, e_mCall, e_mM1, e_aNil, e_aCons, e_aLst, e_mTup, e_mLst, e_mN, e_mT, e_mTru, e_mAndT, e_mOrT, e_mNotT, e_mAnd, e_mOr, e_mNot, e_mIf, e_mChain, e_iSeq, e_iRange1, e_iRange2, e_oNone, e_oSome, e_mSl, e_mYes, e_mLc, e_gN, v0, vS, p0, p0o, pS, f0, f0s, f0n, fS, R.bind_ok, R.bind_err, R.bind_stuck, R.quiet_ok, R.sure_ok, R.sure_err, R.sure_stuck, O.of_ok, O.of_err, O.of_stuck, O.thn_nx, O.thn_rt, O.thn_bk, O.thn_ct, O.thn_err, O.thn_rto, O.lp_nx, O.lp_ct, O.lp_bk, O.lp_rt, O.lp_rto, O.lp_err, fin_nx, fin_rt, fin_err, asB_b, o_add, o_addI, o_sub, o_neg, o_lt, o_le, o_gt, o_ge, o_eqI, o_neI, o_eqS, o_neS, o_inS, o_lenL, o_lenT, o_int, o_itS, o_itL, o_itT, o_truL, o_truB, o_truI, List.set_cons_zero, List.set_cons_succ, List.length_cons, List.length_nil, if_true, if_false, Bool.not_true, Bool.not_false, Bool.false_eq_true, Option.isSome_some, Option.isSome_none, Nat.reduceAdd, Nat.zero_add, decide_true, decide_false, e_gT, e_gsC, e_gsN, e_callR0, e_callN, Nat.reduceEqDiff, lit_0, lit_1, lit_2, lit_3, lit_4, lit_5, lit_6, lit_7, lit_8, lit_9, lit_10, lit_11, lit_12, cl_0, cl_1, cl_2, cl_3, cl_4, cl_5, cl_6, cl_7, e]
theorem toldfp {P W : D} (e : m_fits [P, W] = .err ("NotPresentation", [])) : m__law_told [P, W] = .ok (sD kPres) := by
  refine eq_ok ?_
  show RP False (fin (b__law_told [some (.sh P), some (.sh W)])) _ _
  unfold b__law_told
  simp -implicitDefEqProofs only [RP_ok, RP_err, RP_stuck, RP_bind, RP_quiet, RP_sure, RP_ite, RP_fin, RP_finN, OP_nx, OP_rt, OP_rto, OP_bk, OP_ct, OP_err, OP_stuck, OP_of, OP_thn, OP_lp, OP_ite, OP_tryN, OP_tryAs, OP_endS, OP_endI, true_implies, false_implies, not_true_eq_false, not_false_eq_true, and_true, true_and, implies_true, wipe_nil, wipe_cons, List.length_map, e_callR, e_callX, e_isX, e_xf, e_sNext, e_sApp, e_sPop, e_sRev, e_sRetOwn, e_sExt, e_sGive, e_sSetIx, e_hdl, hdl_nil, e_hdlAs, ownAt_own, rndAt_rnd, excAt_exc, someD_some, caseB_t, caseB_f, intD_int, clean_nil, clean_sh, clean_no, clean_own, List.getElem?_cons_zero, List.getElem?_cons_succ, decide_eq_true_eq, Bool.not_eq_true', List.length_append, Option.getD_some, ixT0, ixT1, ixT2, ixT3, ixL0, ixL1, ixL2, ixL3, o_isB, o_isL, o_isT, o_isI, o_isS, o_niPM, o_niPL, o_max2, o_min2, o_abs, o_tupL, o_tupT, o_lofL, o_lofT, e_aListOf, e_aRep, sizeLine_eq, decide_eq_false_iff_not, Classical.not_not, Nat.reduceLeDiff, Nat.zero_le, Int.reduceLE, Int.reduceLT, Int.reduceEq, Nat.reduceLT, List.nil_append, List.cons_append, cst0, cst1, cst2, cst3, cst4, cst5, cst6, cst7, cst8, cst9, cst10, cst11, cst12, o_eqB, o_neB, reduceCtorEq, Bool.true_eq_false, e_iEnumS, e_iZipS, o_enum, o_zipL, o_zipT, e_sRaise1, e_sPar, e_sPar3, e_gTL, o_isBB, o_notBB, e_iEnumA, o_enumL, o_enumT, e_mB, ok_strD, ok_listD, e_iZipM, o_zipLL, o_zipTT, o_zipTL, o_zipLT, e_sCons, e_sNil, e_sBreak, e_sCont, e_sRet, e_sRetN, e_sExpr, e_sIf, e_sAsg, e_sOwn, e_sFrz, e_sRaise, e_sFor, e_loop_nil, e_mC, e_m1, e_m2, e_mF, e_mCall, e_mM1, e_aNil, e_aCons, e_aLst, e_mTup, e_mLst, e_mN, e_mT, e_mTru, e_mAndT, e_mOrT, e_mNotT, e_mAnd, e_mOr, e_mNot, e_mIf, e_mChain, e_iSeq, e_iRange1, e_iRange2, e_oNone, e_oSome, e_mSl, e_mYes, e_mLc, e_gN, v0, vS, p0, p0o, pS, f0, f0s, f0n, fS, R.bind_ok, R.bind_err, R.bind_stuck, R.quiet_ok, R.sure_ok, R.sure_err, R.sure_stuck, O.of_ok, O.of_err, O.of_stuck, O.thn_nx, O.thn_rt, O.thn_bk, O.thn_ct, O.thn_err, O.thn_rto, O.lp_nx, O.lp_ct, O.lp_bk, O.lp_rt, O.lp_rto, O.lp_err, fin_nx, fin_rt, fin_err, asB_b, o_add, o_addI, o_sub, o_neg, o_lt, o_le, o_gt, o_ge, o_eqI, o_neI, o_eqS, o_neS, o_inS, o_lenL, o_lenT, o_int, o_itS, o_itL, o_itT, o_truL, o_truB, o_truI, List.set_cons_zero, List.set_cons_succ, List.length_cons, List.length_nil, if_true, if_false, Bool.not_true, Bool.not_false, Bool.false_eq_true, Option.isSome_some, Option.isSome_none, Nat.reduceAdd, Nat.zero_add, decide_true, decide_false, e_gT, e_gsC, e_gsN, e_callR0, e_callN, Nat.reduceEqDiff, lit_0, lit_1, lit_2, lit_3, lit_4, lit_5, lit_6, lit_7, lit_8, lit_9, lit_10, lit_11, lit_12, cl_0, cl_1, cl_2, cl_3, cl_4, cl_5, cl_6, cl_7, e]
theorem toldfw {P W : D} (e : m_fits [P, W] = .err ("NotWeights", [])) : m__law_told [P, W] = .ok (sD kWts) := by
  refine eq_ok ?_
  show RP False (fin (b__law_told [some (.sh P), some (.sh W)])) _ _
  unfold b__law_told
  simp -implicitDefEqProofs only [RP_ok, RP_err, RP_stuck, RP_bind, RP_quiet, RP_sure, RP_ite, RP_fin, RP_finN, OP_nx, OP_rt, OP_rto, OP_bk, OP_ct, OP_err, OP_stuck, OP_of, OP_thn, OP_lp, OP_ite, OP_tryN, OP_tryAs, OP_endS, OP_endI, true_implies, false_implies, not_true_eq_false, not_false_eq_true, and_true, true_and, implies_true, wipe_nil, wipe_cons, List.length_map, e_callR, e_callX, e_isX, e_xf, e_sNext, e_sApp, e_sPop, e_sRev, e_sRetOwn, e_sExt, e_sGive, e_sSetIx, e_hdl, hdl_nil, e_hdlAs, ownAt_own, rndAt_rnd, excAt_exc, someD_some, caseB_t, caseB_f, intD_int, clean_nil, clean_sh, clean_no, clean_own, List.getElem?_cons_zero, List.getElem?_cons_succ, decide_eq_true_eq, Bool.not_eq_true', List.length_append, Option.getD_some, ixT0, ixT1, ixT2, ixT3, ixL0, ixL1, ixL2, ixL3, o_isB, o_isL, o_isT, o_isI, o_isS, o_niPM, o_niPL, o_max2, o_min2, o_abs, o_tupL, o_tupT, o_lofL, o_lofT, e_aListOf, e_aRep, sizeLine_eq, decide_eq_false_iff_not, Classical.not_not, Nat.reduceLeDiff, Nat.zero_le, Int.reduceLE, Int.reduceLT, Int.reduceEq, Nat.reduceLT, List.nil_append, List.cons_append, cst0, cst1, cst2, cst3, cst4, cst5, cst6, cst7, cst8, cst9, cst10, cst11, cst12, o_eqB, o_neB, reduceCtorEq, Bool.true_eq_false, e_iEnumS, e_iZipS, o_enum, o_zipL, o_zipT, e_sRaise1, e_sPar, e_sPar3, e_gTL, o_isBB, o_notBB, e_iEnumA, o_enumL, o_enumT, e_mB, ok_strD, ok_listD, e_iZipM, o_zipLL, o_zipTT, o_zipTL, o_zipLT, e_sCons, e_sNil, e_sBreak, e_sCont, e_sRet, e_sRetN, e_sExpr, e_sIf, e_sAsg, e_sOwn, e_sFrz, e_sRaise, e_sFor, e_loop_nil, e_mC, e_m1, e_m2, e_mF, e_mCall, e_mM1, e_aNil, e_aCons, e_aLst, e_mTup, e_mLst, e_mN, e_mT, e_mTru, e_mAndT, e_mOrT, e_mNotT, e_mAnd, e_mOr, e_mNot, e_mIf, e_mChain, e_iSeq, e_iRange1, e_iRange2, e_oNone, e_oSome, e_mSl, e_mYes, e_mLc, e_gN, v0, vS, p0, p0o, pS, f0, f0s, f0n, fS, R.bind_ok, R.bind_err, R.bind_stuck, R.quiet_ok, R.sure_ok, R.sure_err, R.sure_stuck, O.of_ok, O.of_err, O.of_stuck, O.thn_nx, O.thn_rt, O.thn_bk, O.thn_ct, O.thn_err, O.thn_rto, O.lp_nx, O.lp_ct, O.lp_bk, O.lp_rt, O.lp_rto, O.lp_err, fin_nx, fin_rt, fin_err, asB_b, o_add, o_addI, o_sub, o_neg, o_lt, o_le, o_gt, o_ge, o_eqI, o_neI, o_eqS, o_neS, o_inS, o_lenL, o_lenT, o_int, o_itS, o_itL, o_itT, o_truL, o_truB, o_truI, List.set_cons_zero, List.set_cons_succ, List.length_cons, List.length_nil, if_true, if_false, Bool.not_true, Bool.not_false, Bool.false_eq_true, Option.isSome_some, Option.isSome_none, Nat.reduceAdd, Nat.zero_add, decide_true, decide_false, e_gT, e_gsC, e_gsN, e_callR0, e_callN, Nat.reduceEqDiff, lit_0, lit_1, lit_2, lit_3, lit_4, lit_5, lit_6, lit_7, lit_8, lit_9, lit_10, lit_11, lit_12, cl_0, cl_1, cl_2, cl_3, cl_4, cl_5, cl_6, cl_7, e]

end Law
end
end
section
set_option Elab.async false
set_option linter.all false
set_option maxRecDepth 100000
set_option autoImplicit false
set_option maxHeartbeats 4000000
noncomputable section
namespace Law
open PySem DW L2
open SX (S S_tl S_len S_cat)
theorem r_check_word {g : Int} {t : List Nat} (h1 : 1 ≤ g) (h2 : g ≤ 3) (h : okw g t = true) (hl : t.length ≤ 60) : m_check_word [.int g, .str (S t)] = .ok .none := by
  have hz := sizeLine_eq
  show fin (b_check_word [some (.sh (.int g)), some (.sh (.str (S t)))]) = _
  unfold b_check_word
  simp -implicitDefEqProofs only [e_sCons, e_sNil, e_sBreak, e_sCont, e_sRet, e_sRetN, e_sExpr, e_sIf, e_sAsg, e_sOwn, e_sFrz, e_sRaise, e_sFor, e_loop_nil, e_mC, e_m1, e_m2, e_mF, e_mCall, e_mM1, e_aNil, e_aCons, e_aLst, e_mTup, e_mLst, e_mN, e_mT, e_mTru, e_mAndT, e_mOrT, e_mNotT, e_mAnd, e_mOr, e_mNot, e_mIf, e_mChain, e_iSeq, e_iRange1, e_iRange2, e_oNone, e_oSome, e_mSl, e_mYes, e_mLc, e_gN, v0, vS, p0, p0o, pS, f0, f0s, f0n, fS, R.bind_ok, R.bind_err, R.bind_stuck, R.quiet_ok, R.sure_ok, R.sure_err, R.sure_stuck, O.of_ok, O.of_err, O.of_stuck, O.thn_nx, O.thn_rt, O.thn_bk, O.thn_ct, O.thn_err, O.thn_rto, O.lp_nx, O.lp_ct, O.lp_bk, O.lp_rt, O.lp_rto, O.lp_err, fin_nx, fin_rt, fin_err, asB_b, o_add, o_addI, o_sub, o_neg, o_lt, o_le, o_gt, o_ge, o_eqI, o_neI, o_eqS, o_neS, o_inS, o_lenL, o_lenT, o_int, o_itS, o_itL, o_itT, o_truL, o_truB, o_truI, List.set_cons_zero, List.set_cons_succ, List.length_cons, List.length_nil, if_true, if_false, Bool.not_true, Bool.not_false, Bool.false_eq_true, Option.isSome_some, Option.isSome_none, Nat.reduceAdd, Nat.zero_add, decide_true, decide_false, e_gT, e_gsC, e_gsN, e_callR0, e_callN, Nat.reduceEqDiff, lit_0, lit_1, lit_2, lit_3, lit_4, lit_5, lit_6, lit_7, lit_8, lit_9, lit_10, lit_11, lit_12, cl_0, cl_1, cl_2, cl_3, cl_4, cl_5, cl_6, cl_7, r_is_word h1 h2 (show t.length ≤ 1000000 by omega), h, o_lenS]
  rw [if_pos (by rw [hz]; omega)]
  simp -implicitDefEqProofs only [e_sCons, e_sNil, e_sBreak, e_sCont, e_sRet, e_sRetN, e_sExpr, e_sIf, e_sAsg, e_sOwn, e_sFrz, e_sRaise, e_sFor, e_loop_nil, e_mC, e_m1, e_m2, e_mF, e_mCall, e_mM1, e_aNil, e_aCons, e_aLst, e_mTup, e_mLst, e_mN, e_mT, e_mTru, e_mAndT, e_mOrT, e_mNotT, e_mAnd, e_mOr, e_mNot, e_mIf, e_mChain, e_iSeq, e_iRange1, e_iRange2, e_oNone, e_oSome, e_mSl, e_mYes, e_mLc, e_gN, v0, vS, p0, p0o, pS, f0, f0s, f0n, fS, R.bind_ok, R.bind_err, R.bind_stuck, R.quiet_ok, R.sure_ok, R.sure_err, R.sure_stuck, O.of_ok, O.of_err, O.of_stuck, O.thn_nx, O.thn_rt, O.thn_bk, O.thn_ct, O.thn_err, O.thn_rto, O.lp_nx, O.lp_ct, O.lp_bk, O.lp_rt, O.lp_rto, O.lp_err, fin_nx, fin_rt, fin_err, asB_b, o_add, o_addI, o_sub, o_neg, o_lt, o_le, o_gt, o_ge, o_eqI, o_neI, o_eqS, o_neS, o_inS, o_lenL, o_lenT, o_int, o_itS, o_itL, o_itT, o_truL, o_truB, o_truI, List.set_cons_zero, List.set_cons_succ, List.length_cons, List.length_nil, if_true, if_false, Bool.not_true, Bool.not_false, Bool.false_eq_true, Option.isSome_some, Option.isSome_none, Nat.reduceAdd, Nat.zero_add, decide_true, decide_false, e_gT, e_gsC, e_gsN, e_callR0, e_callN, Nat.reduceEqDiff, lit_0, lit_1, lit_2, lit_3, lit_4, lit_5, lit_6, lit_7, lit_8, lit_9, lit_10, lit_11, lit_12, cl_0, cl_1, cl_2, cl_3, cl_4, cl_5, cl_6, cl_7, decide_eq_false (show ¬ (60 : Int) < (t.length : Int) by omega)]
theorem r_check_word_bad {g : Int} {t : List Nat} (h1 : 1 ≤ g) (h2 : g ≤ 3) (hl : t.length ≤ 1000000) (h : okw g t = false ∨ 60 < t.length) : m_check_word [.int g, .str (S t)] = .err ("NotWord", []) := by
  have hz := sizeLine_eq
  show fin (b_check_word [some (.sh (.int g)), some (.sh (.str (S t)))]) = _
  unfold b_check_word
  cases e : okw g t with
  | false => simp -implicitDefEqProofs only [e_sCons, e_sNil, e_sBreak, e_sCont, e_sRet, e_sRetN, e_sExpr, e_sIf, e_sAsg, e_sOwn, e_sFrz, e_sRaise, e_sFor, e_loop_nil, e_mC, e_m1, e_m2, e_mF, e_mCall, e_mM1, e_aNil, e_aCons, e_aLst, e_mTup, e_mLst, e_mN, e_mT, e_mTru, e_mAndT, e_mOrT, e_mNotT, e_mAnd, e_mOr, e_mNot, e_mIf, e_mChain, e_iSeq, e_iRange1, e_iRange2, e_oNone, e_oSome, e_mSl, e_mYes, e_mLc, e_gN, v0, vS, p0, p0o, pS, f0, f0s, f0n, fS, R.bind_ok, R.bind_err, R.bind_stuck, R.quiet_ok, R.sure_ok, R.sure_err, R.sure_stuck, O.of_ok, O.of_err, O.of_stuck, O.thn_nx, O.thn_rt, O.thn_bk, O.thn_ct, O.thn_err, O.thn_rto, O.lp_nx, O.lp_ct, O.lp_bk, O.lp_rt, O.lp_rto, O.lp_err, fin_nx, fin_rt, fin_err, asB_b, o_add, o_addI, o_sub, o_neg, o_lt, o_le, o_gt, o_ge, o_eqI, o_neI, o_eqS, o_neS, o_inS, o_lenL, o_lenT, o_int, o_itS, o_itL, o_itT, o_truL, o_truB, o_truI, List.set_cons_zero, List.set_cons_succ, List.length_cons, List.length_nil, if_true, if_false, Bool.not_true, Bool.not_false, Bool.false_eq_true, Option.isSome_some, Option.isSome_none, Nat.reduceAdd, Nat.zero_add, decide_true, decide_false, e_gT, e_gsC, e_gsN, e_callR0, e_callN, Nat.reduceEqDiff, lit_0, lit_1, lit_2, lit_3, lit_4, lit_5, lit_6, lit_7, lit_8, lit_9, lit_10, lit_11, lit_12, cl_0, cl_1, cl_2, cl_3, cl_4, cl_5, cl_6, cl_7, r_is_word h1 h2 hl, e]
  | true =>
    rcases h with h | h
    · rw [e] at h; cases h
    · simp -implicitDefEqProofs only [e_sCons, e_sNil, e_sBreak, e_sCont, e_sRet, e_sRetN, e_sExpr, e_sIf, e_sAsg, e_sOwn, e_sFrz, e_sRaise, e_sFor, e_loop_nil, e_mC, e_m1, e_m2, e_mF, e_mCall, e_mM1, e_aNil, e_aCons, e_aLst, e_mTup, e_mLst, e_mN, e_mT, e_mTru, e_mAndT, e_mOrT, e_mNotT, e_mAnd, e_mOr, e_mNot, e_mIf, e_mChain, e_iSeq, e_iRange1, e_iRange2, e_oNone, e_oSome, e_mSl, e_mYes, e_mLc, e_gN, v0, vS, p0, p0o, pS, f0, f0s, f0n, fS, R.bind_ok, R.bind_err, R.bind_stuck, R.quiet_ok, R.sure_ok, R.sure_err, R.sure_stuck, O.of_ok, O.of_err, O.of_stuck, O.thn_nx, O.thn_rt, O.thn_bk, O.thn_ct, O.thn_err, O.thn_rto, O.lp_nx, O.lp_ct, O.lp_bk, O.lp_rt, O.lp_rto, O.lp_err, fin_nx, fin_rt, fin_err, asB_b, o_add, o_addI, o_sub, o_neg, o_lt, o_le, o_gt, o_ge, o_eqI, o_neI, o_eqS, o_neS, o_inS, o_lenL, o_lenT, o_int, o_itS, o_itL, o_itT, o_truL, o_truB, o_truI, List.set_cons_zero, List.set_cons_succ, List.length_cons, List.length_nil, if_true, if_false, Bool.not_true, Bool.not_false, Bool.false_eq_true, Option.isSome_some, Option.isSome_none, Nat.reduceAdd, Nat.zero_add, decide_true, decide_false, e_gT, e_gsC, e_gsN, e_callR0, e_callN, Nat.reduceEqDiff, lit_0, lit_1, lit_2, lit_3, lit_4, lit_5, lit_6, lit_7, lit_8, lit_9, lit_10, lit_11, lit_12, cl_0, cl_1, cl_2, cl_3, cl_4, cl_5, cl_6, cl_7, r_is_word h1 h2 hl, e, o_lenS]
      rw [if_pos (by rw [hz]; omega)]
      simp -implicitDefEqProofs only [e_sCons, e_sNil, e_sBreak, e_sCont, e_sRet, e_sRetN, e_sExpr, e_sIf, e_sAsg, e_sOwn, e_sFrz, e_sRaise, e_sFor, e_loop_nil, e_mC, e_m1, e_m2, e_mF, e_mCall, e_mM1, e_aNil, e_aCons, e_aLst, e_mTup, e_mLst, e_mN, e_mT, e_mTru, e_mAndT, e_mOrT, e_mNotT, e_mAnd, e_mOr, e_mNot, e_mIf, e_mChain, e_iSeq, e_iRange1, e_iRange2, e_oNone, e_oSome, e_mSl, e_mYes, e_mLc, e_gN, v0, vS, p0, p0o, pS, f0, f0s, f0n, fS, R.bind_ok, R.bind_err, R.bind_stuck, R.quiet_ok, R.sure_ok, R.sure_err, R.sure_stuck, O.of_ok, O.of_err, O.of_stuck, O.thn_nx, O.thn_rt, O.thn_bk, O.thn_ct, O.thn_err, O.thn_rto, O.lp_nx, O.lp_ct, O.lp_bk, O.lp_rt, O.lp_rto, O.lp_err, fin_nx, fin_rt, fin_err, asB_b, o_add, o_addI, o_sub, o_neg, o_lt, o_le, o_gt, o_ge, o_eqI, o_neI, o_eqS, o_neS, o_inS, o_lenL, o_lenT, o_int, o_itS, o_itL, o_itT, o_truL, o_truB, o_truI, List.set_cons_zero, List.set_cons_succ, List.length_cons, List.length_nil, if_true, if_false, Bool.not_true, Bool.not_false, Bool.false_eq_true, Option.isSome_some, Option.isSome_none, Nat.reduceAdd, Nat.zero_add, decide_true, decide_false, e_gT, e_gsC, e_gsN, e_callR0, e_callN, Nat.reduceEqDiff, lit_0, lit_1, lit_2, lit_3, lit_4, lit_5, lit_6, lit_7, lit_8, lit_9, lit_10, lit_11, lit_12, cl_0, cl_1, cl_2, cl_3, cl_4, cl_5, cl_6, cl_7, decide_eq_true (show (60 : Int) < (t.length : Int) by omega)]
theorem r_check_word_num {g : Int} (h : g < 1 ∨ 3 < g) {t : Str} : m_check_word [.int g, .str t] = .err ("BadNumber", []) := by
  show fin (b_check_word [some (.sh (.int g)), some (.sh (.str t))]) = _
  unfold b_check_word
  simp -implicitDefEqProofs only [e_sCons, e_sNil, e_sBreak, e_sCont, e_sRet, e_sRetN, e_sExpr, e_sIf, e_sAsg, e_sOwn, e_sFrz, e_sRaise, e_sFor, e_loop_nil, e_mC, e_m1, e_m2, e_mF, e_mCall, e_mM1, e_aNil, e_aCons, e_aLst, e_mTup, e_mLst, e_mN, e_mT, e_mTru, e_mAndT, e_mOrT, e_mNotT, e_mAnd, e_mOr, e_mNot, e_mIf, e_mChain, e_iSeq, e_iRange1, e_iRange2, e_oNone, e_oSome, e_mSl, e_mYes, e_mLc, e_gN, v0, vS, p0, p0o, pS, f0, f0s, f0n, fS, R.bind_ok, R.bind_err, R.bind_stuck, R.quiet_ok, R.sure_ok, R.sure_err, R.sure_stuck, O.of_ok, O.of_err, O.of_stuck, O.thn_nx, O.thn_rt, O.thn_bk, O.thn_ct, O.thn_err, O.thn_rto, O.lp_nx, O.lp_ct, O.lp_bk, O.lp_rt, O.lp_rto, O.lp_err, fin_nx, fin_rt, fin_err, asB_b, o_add, o_addI, o_sub, o_neg, o_lt, o_le, o_gt, o_ge, o_eqI, o_neI, o_eqS, o_neS, o_inS, o_lenL, o_lenT, o_int, o_itS, o_itL, o_itT, o_truL, o_truB, o_truI, List.set_cons_zero, List.set_cons_succ, List.length_cons, List.length_nil, if_true, if_false, Bool.not_true, Bool.not_false, Bool.false_eq_true, Option.isSome_some, Option.isSome_none, Nat.reduceAdd, Nat.zero_add, decide_true, decide_false, e_gT, e_gsC, e_gsN, e_callR0, e_callN, Nat.reduceEqDiff, lit_0, lit_1, lit_2, lit_3, lit_4, lit_5, lit_6, lit_7, lit_8, lit_9, lit_10, lit_11, lit_12, cl_0, cl_1, cl_2, cl_3, cl_4, cl_5, cl_6, cl_7, r_is_word_bad h]

end Law
end
end
section
set_option Elab.async false
set_option linter.all false
set_option maxRecDepth 100000
set_option autoImplicit false
set_option maxHeartbeats 4000000
noncomputable section
namespace Law
open PySem DW L2
open SX (S S_tl S_len S_cat)
theorem r_weight_of {m : Int} {ns : List Int} (hk : okWt m ns = true) (hb : NumB ns) {w : List Nat} (hw : okw (ns.length : Int) w = true) (hl : w.length ≤ 60) : m_weight_of [WV m ns, sD w] = .ok (.int (wMod m (wgt ns w))) := by
  show fin (b_weight_of [some (.sh (WV m ns)), some (.sh (sD w))]) = _
  unfold b_weight_of
  have nl : (ns.map PyData.int).length = ns.length := List.length_map ..
  have k := r__check_weights (m := m) (ns := ns)
  rw [if_pos hk] at k
  have hk2 := of_decide_eq_true hk
  simp -implicitDefEqProofs only [e_callR, e_callX, e_isX, e_xf, e_sNext, e_sApp, e_sPop, e_sRev, e_sRetOwn, e_sExt, e_sGive, e_sSetIx, e_hdl, hdl_nil, e_hdlAs, ownAt_own, rndAt_rnd, excAt_exc, someD_some, caseB_t, caseB_f, intD_int, clean_nil, clean_sh, clean_no, clean_own, List.getElem?_cons_zero, List.getElem?_cons_succ, decide_eq_true_eq, Bool.not_eq_true', List.length_append, Option.getD_some, ixT0, ixT1, ixT2, ixT3, ixL0, ixL1, ixL2, ixL3, o_isB, o_isL, o_isT, o_isI, o_isS, o_niPM, o_niPL, o_max2, o_min2, o_abs, o_tupL, o_tupT, o_lofL, o_lofT, e_aListOf, e_aRep, sizeLine_eq, decide_eq_false_iff_not, Classical.not_not, Nat.reduceLeDiff, Nat.zero_le, Int.reduceLE, Int.reduceLT, Int.reduceEq, Nat.reduceLT, List.nil_append, List.cons_append, cst0, cst1, cst2, cst3, cst4, cst5, cst6, cst7, cst8, cst9, cst10, cst11, cst12, o_eqB, o_neB, reduceCtorEq, Bool.true_eq_false, e_iEnumS, e_iZipS, o_enum, o_zipL, o_zipT, e_sRaise1, e_sPar, e_sPar3, e_gTL, o_isBB, o_notBB, e_iEnumA, o_enumL, o_enumT, e_mB, ok_strD, ok_listD, e_iZipM, o_zipLL, o_zipTT, o_zipTL, o_zipLT, e_sCons, e_sNil, e_sBreak, e_sCont, e_sRet, e_sRetN, e_sExpr, e_sIf, e_sAsg, e_sOwn, e_sFrz, e_sRaise, e_sFor, e_loop_nil, e_mC, e_m1, e_m2, e_mF, e_mCall, e_mM1, e_aNil, e_aCons, e_aLst, e_mTup, e_mLst, e_mN, e_mT, e_mTru, e_mAndT, e_mOrT, e_mNotT, e_mAnd, e_mOr, e_mNot, e_mIf, e_mChain, e_iSeq, e_iRange1, e_iRange2, e_oNone, e_oSome, e_mSl, e_mYes, e_mLc, e_gN, v0, vS, p0, p0o, pS, f0, f0s, f0n, fS, R.bind_ok, R.bind_err, R.bind_stuck, R.quiet_ok, R.sure_ok, R.sure_err, R.sure_stuck, O.of_ok, O.of_err, O.of_stuck, O.thn_nx, O.thn_rt, O.thn_bk, O.thn_ct, O.thn_err, O.thn_rto, O.lp_nx, O.lp_ct, O.lp_bk, O.lp_rt, O.lp_rto, O.lp_err, fin_nx, fin_rt, fin_err, asB_b, o_add, o_addI, o_sub, o_neg, o_lt, o_le, o_gt, o_ge, o_eqI, o_neI, o_eqS, o_neS, o_inS, o_lenL, o_lenT, o_int, o_itS, o_itL, o_itT, o_truL, o_truB, o_truI, List.set_cons_zero, List.set_cons_succ, List.length_cons, List.length_nil, if_true, if_false, Bool.not_true, Bool.not_false, Bool.false_eq_true, Option.isSome_some, Option.isSome_none, Nat.reduceAdd, Nat.zero_add, decide_true, decide_false, e_gT, e_gsC, e_gsN, e_callR0, e_callN, Nat.reduceEqDiff, lit_0, lit_1, lit_2, lit_3, lit_4, lit_5, lit_6, lit_7, lit_8, lit_9, lit_10, lit_11, lit_12, cl_0, cl_1, cl_2, cl_3, cl_4, cl_5, cl_6, cl_7, k, nl, r_check_word (g := (ns.length : Int)) (by omega) (by omega) hw hl, r__weight_of_text (m := m) (ns := ns) (w := w) (by omega) (by omega) (by omega) hb (show w.length ≤ 1000000 by omega)]
theorem r_weight_of_word {m : Int} {ns : List Int} (hk : okWt m ns = true) {w : List Nat} (hl : w.length ≤ 1000000) (h : okw (ns.length : Int) w = false ∨ 60 < w.length) : m_weight_of [WV m ns, sD w] = .err ("NotWord", []) := by
  show fin (b_weight_of [some (.sh (WV m ns)), some (.sh (sD w))]) = _
  unfold b_weight_of
  have nl : (ns.map PyData.int).length = ns.length := List.length_map ..
  have k := r__check_weights (m := m) (ns := ns)
  rw [if_pos hk] at k
  have hk2 := of_decide_eq_true hk
  simp -implicitDefEqProofs only [e_callR, e_callX, e_isX, e_xf, e_sNext, e_sApp, e_sPop, e_sRev, e_sRetOwn, e_sExt, e_sGive, e_sSetIx, e_hdl, hdl_nil, e_hdlAs, ownAt_own, rndAt_rnd, excAt_exc, someD_some, caseB_t, caseB_f, intD_int, clean_nil, clean_sh, clean_no, clean_own, List.getElem?_cons_zero, List.getElem?_cons_succ, decide_eq_true_eq, Bool.not_eq_true', List.length_append, Option.getD_some, ixT0, ixT1, ixT2, ixT3, ixL0, ixL1, ixL2, ixL3, o_isB, o_isL, o_isT, o_isI, o_isS, o_niPM, o_niPL, o_max2, o_min2, o_abs, o_tupL, o_tupT, o_lofL, o_lofT, e_aListOf, e_aRep, sizeLine_eq, decide_eq_false_iff_not, Classical.not_not, Nat.reduceLeDiff, Nat.zero_le, Int.reduceLE, Int.reduceLT, Int.reduceEq, Nat.reduceLT, List.nil_append, List.cons_append, cst0, cst1, cst2, cst3, cst4, cst5, cst6, cst7, cst8, cst9, cst10, cst11, cst12, o_eqB, o_neB, reduceCtorEq, Bool.true_eq_false, e_iEnumS, e_iZipS, o_enum, o_zipL, o_zipT, e_sRaise1, e_sPar, e_sPar3, e_gTL, o_isBB, o_notBB, e_iEnumA, o_enumL, o_enumT, e_mB, ok_strD, ok_listD, e_iZipM, o_zipLL, o_zipTT, o_zipTL, o_zipLT, e_sCons, e_sNil, e_sBreak, e_sCont, e_sRet, e_sRetN, e_sExpr, e_sIf, e_sAsg, e_sOwn, e_sFrz, e_sRaise, e_sFor, e_loop_nil, e_mC, e_m1, e_m2, e_mF, e_mCall, e_mM1, e_aNil, e_aCons, e_aLst, e_mTup, e_mLst, e_mN, e_mT, e_mTru, e_mAndT, e_mOrT, e_mNotT, e_mAnd, e_mOr, e_mNot, e_mIf, e_mChain, e_iSeq, e_iRange1, e_iRange2, e_oNone, e_oSome, e_mSl, e_mYes, e_mLc, e_gN, v0, vS, p0, p0o, pS, f0, f0s, f0n, fS, R.bind_ok, R.bind_err, R.bind_stuck, R.quiet_ok, R.sure_ok, R.sure_err, R.sure_stuck, O.of_ok, O.of_err, O.of_stuck, O.thn_nx, O.thn_rt, O.thn_bk, O.thn_ct, O.thn_err, O.thn_rto, O.lp_nx, O.lp_ct, O.lp_bk, O.lp_rt, O.lp_rto, O.lp_err, fin_nx, fin_rt, fin_err, asB_b, o_add, o_addI, o_sub, o_neg, o_lt, o_le, o_gt, o_ge, o_eqI, o_neI, o_eqS, o_neS, o_inS, o_lenL, o_lenT, o_int, o_itS, o_itL, o_itT, o_truL, o_truB, o_truI, List.set_cons_zero, List.set_cons_succ, List.length_cons, List.length_nil, if_true, if_false, Bool.not_true, Bool.not_false, Bool.false_eq_true, Option.isSome_some, Option.isSome_none, Nat.reduceAdd, Nat.zero_add, decide_true, decide_false, e_gT, e_gsC, e_gsN, e_callR0, e_callN, Nat.reduceEqDiff, lit_0, lit_1, lit_2, lit_3, lit_4, lit_5, lit_6, lit_7, lit_8, lit_9, lit_10, lit_11, lit_12, cl_0, cl_1, cl_2, cl_3, cl_4, cl_5, cl_6, cl_7, k, nl, r_check_word_bad (g := (ns.length : Int)) (by omega) (by omega) hl h]
theorem r_weight_of_bad {m : Int} {ns : List Int} (hk : okWt m ns = false) {d : D} : m_weight_of [WV m ns, d] = .err ("NotWeights", []) := by
  show fin (b_weight_of [some (.sh (WV m ns)), some (.sh d)]) = _
  unfold b_weight_of
  have k := r__check_weights (m := m) (ns := ns)
  rw [if_neg (by rw [hk]; decide)] at k
  simp -implicitDefEqProofs only [e_callR, e_callX, e_isX, e_xf, e_sNext, e_sApp, e_sPop, e_sRev, e_sRetOwn, e_sExt, e_sGive, e_sSetIx, e_hdl, hdl_nil, e_hdlAs, ownAt_own, rndAt_rnd, excAt_exc, someD_some, caseB_t, caseB_f, intD_int, clean_nil, clean_sh, clean_no, clean_own, List.getElem?_cons_zero, List.getElem?_cons_succ, decide_eq_true_eq, Bool.not_eq_true', List.length_append, Option.getD_some, ixT0, ixT1, ixT2, ixT3, ixL0, ixL1, ixL2, ixL3, o_isB, o_isL, o_isT, o_isI, o_isS, o_niPM, o_niPL, o_max2, o_min2, o_abs, o_tupL, o_tupT, o_lofL, o_lofT, e_aListOf, e_aRep, sizeLine_eq, decide_eq_false_iff_not, Classical.not_not, Nat.reduceLeDiff, Nat.zero_le, Int.reduceLE, Int.reduceLT, Int.reduceEq, Nat.reduceLT, List.nil_append, List.cons_append, cst0, cst1, cst2, cst3, cst4, cst5, cst6, cst7, cst8, cst9, cst10, cst11, cst12, o_eqB, o_neB, reduceCtorEq, Bool.true_eq_false, e_iEnumS, e_iZipS, o_enum, o_zipL, o_zipT, e_sRaise1, e_sPar, e_sPar3, e_gTL, o_isBB, o_notBB, e_iEnumA, o_enumL, o_enumT, e_mB, ok_strD, ok_listD, e_iZipM, o_zipLL, o_zipTT, o_zipTL, o_zipLT, e_sCons, e_sNil, e_sBreak, e_sCont, e_sRet, e_sRetN, e_sExpr, e_sIf, e_sAsg, e_sOwn, e_sFrz, e_sRaise, e_sFor, e_loop_nil, e_mC, e_m1, e_m2, e_mF, e_mCall, e_mM1, e_aNil, e_aCons, e_aLst, e_mTup, e_mLst, e_mN, e_mT, e_mTru, e_mAndT, e_mOrT, e_mNotT, e_mAnd, e_mOr, e_mNot, e_mIf, e_mChain, e_iSeq, e_iRange1, e_iRange2, e_oNone, e_oSome, e_mSl, e_mYes, e_mLc, e_gN, v0, vS, p0, p0o, pS, f0, f0s, f0n, fS, R.bind_ok, R.bind_err, R.bind_stuck, R.quiet_ok, R.sure_ok, R.sure_err, R.sure_stuck, O.of_ok, O.of_err, O.of_stuck, O.thn_nx, O.thn_rt, O.thn_bk, O.thn_ct, O.thn_err, O.thn_rto, O.lp_nx, O.lp_ct, O.lp_bk, O.lp_rt, O.lp_rto, O.lp_err, fin_nx, fin_rt, fin_err, asB_b, o_add, o_addI, o_sub, o_neg, o_lt, o_le, o_gt, o_ge, o_eqI, o_neI, o_eqS, o_neS, o_inS, o_lenL, o_lenT, o_int, o_itS, o_itL, o_itT, o_truL, o_truB, o_truI, List.set_cons_zero, List.set_cons_succ, List.length_cons, List.length_nil, if_true, if_false, Bool.not_true, Bool.not_false, Bool.false_eq_true, Option.isSome_some, Option.isSome_none, Nat.reduceAdd, Nat.zero_add, decide_true, decide_false, e_gT, e_gsC, e_gsN, e_callR0, e_callN, Nat.reduceEqDiff, lit_0, lit_1, lit_2, lit_3, lit_4, lit_5, lit_6, lit_7, lit_8, lit_9, lit_10, lit_11, lit_12, cl_0, cl_1, cl_2, cl_3, cl_4, cl_5, cl_6, cl_7, k]

end Law
end
end
section
set_option Elab.async false
set_option linter.all false
set_option maxRecDepth 100000
set_option autoImplicit false
set_option maxHeartbeats 4000000
noncomputable section
namespace Law
open PySem DW L2
open SX (S S_tl S_len S_cat)
theorem law_yes (ns : List Int) (hl : ns.length ≤ 63) (hb : ∀ z ∈ ns, Builtin.Int.intBits z ≤ 1048576) : (m_law [.list (ns.map PyData.int)]).yes := by
  refine yes_RP ?_
  show RP True (fin (b_law [some (.sh (.list (ns.map PyData.int))), none, none, none, none, none, none, none, none, none, none, none])) _ _
  have cell := fun k => r__law_cell ns k (by omega)
  have c0 := cell 0
  have c1 := cell 1
  have c2 := cell 2
  have c3 := cell 3
  have c4 := cell 4
  have c5 := cell 5
  have c6 := cell 6
  have c7 := cell 7
  generalize cellN ns 0 = z0 at c0
  generalize cellN ns 1 = z1 at c1
  generalize cellN ns 2 = z2 at c2
  generalize cellN ns 3 = z3 at c3
  generalize cellN ns 4 = z4 at c4
  generalize cellN ns 5 = z5 at c5
  generalize cellN ns 6 = z6 at c6
  generalize cellN ns 7 = z7 at c7
  generalize hA0 : PyData.list (ns.map PyData.int) = A0 at c0 c1 c2 c3 c4 c5 c6 c7 ⊢
  have c0 : m__law_cell [A0, .int 0] = .ok (.int z0) := c0
  have c1 : m__law_cell [A0, .int 1] = .ok (.int z1) := c1
  have c2 : m__law_cell [A0, .int 2] = .ok (.int z2) := c2
  have c3 : m__law_cell [A0, .int 3] = .ok (.int z3) := c3
  have c4 : m__law_cell [A0, .int 4] = .ok (.int z4) := c4
  have c5 : m__law_cell [A0, .int 5] = .ok (.int z5) := c5
  have c6 : m__law_cell [A0, .int 6] = .ok (.int z6) := c6
  have c7 : m__law_cell [A0, .int 7] = .ok (.int z7) := c7
  obtain ⟨n, hn1, hn3, hn⟩ : ∃ n : Nat, 1 ≤ n ∧ n ≤ 3 ∧ 1 + z0 % 3 = (n : Int) := ⟨(1 + z0 % 3).toNat, by omega, by omega, by omega⟩
  unfold b_law st_law_1 st_law_2
  simp -implicitDefEqProofs only [RP_ok, RP_err, RP_stuck, RP_bind, RP_quiet, RP_sure, RP_ite, RP_fin, RP_finN, OP_nx, OP_rt, OP_rto, OP_bk, OP_ct, OP_err, OP_stuck, OP_of, OP_thn, OP_lp, OP_ite, OP_tryN, OP_tryAs, OP_endS, OP_endI, true_implies, false_implies, not_true_eq_false, not_false_eq_true, and_true, true_and, implies_true, wipe_nil, wipe_cons, List.length_map, e_callR, e_callX, e_isX, e_xf, e_sNext, e_sApp, e_sPop, e_sRev, e_sRetOwn, e_sExt, e_sGive, e_sSetIx, e_hdl, hdl_nil, e_hdlAs, ownAt_own, rndAt_rnd, excAt_exc, someD_some, caseB_t, caseB_f, intD_int, clean_nil, clean_sh, clean_no, clean_own, List.getElem?_cons_zero, List.getElem?_cons_succ, decide_eq_true_eq, Bool.not_eq_true', List.length_append, Option.getD_some, ixT0, ixT1, ixT2, ixT3, ixL0, ixL1, ixL2, ixL3, o_isB, o_isL, o_isT, o_isI, o_isS, o_niPM, o_niPL, o_max2, o_min2, o_abs, o_tupL, o_tupT, o_lofL, o_lofT, e_aListOf, e_aRep, sizeLine_eq, decide_eq_false_iff_not, Classical.not_not, Nat.reduceLeDiff, Nat.zero_le, Int.reduceLE, Int.reduceLT, Int.reduceEq, Nat.reduceLT, List.nil_append, List.cons_append, cst0, cst1, cst2, cst3, cst4, cst5, cst6, cst7, cst8, cst9, cst10, cst11, cst12, o_eqB, o_neB, reduceCtorEq, Bool.true_eq_false, e_iEnumS, e_iZipS, o_enum, o_zipL, o_zipT, e_sRaise1, e_sPar, e_sPar3, e_gTL, o_isBB, o_notBB, e_iEnumA, o_enumL, o_enumT, e_mB, ok_strD, ok_listD, e_iZipM, o_zipLL, o_zipTT, o_zipTL, o_zipLT, e_sCons, e_sNil, e_sBreak, e_sCont, e_sRet, e_sRetN, e_sExpr, e_sIf, e_sAsg, e_sOwn, e_sFrz, e_sRaise, e_sFor, e_loop_nil, e_mC, e_m1, e_m2, e_mF, e_mCall, e_mM1, e_aNil, e_aCons, e_aLst, e_mTup, e_mLst, e_mN, e_mT, e_mTru, e_mAndT, e_mOrT, e_mNotT, e_mAnd, e_mOr, e_mNot, e_mIf, e_mChain, e_iSeq, e_iRange1, e_iRange2, e_oNone, e_oSome, e_mSl, e_mYes, e_mLc, e_gN, v0, vS, p0, p0o, pS, f0, f0s, f0n, fS, R.bind_ok, R.bind_err, R.bind_stuck, R.quiet_ok, R.sure_ok, R.sure_err, R.sure_stuck, O.of_ok, O.of_err, O.of_stuck, O.thn_nx, O.thn_rt, O.thn_bk, O.thn_ct, O.thn_err, O.thn_rto, O.lp_nx, O.lp_ct, O.lp_bk, O.lp_rt, O.lp_rto, O.lp_err, fin_nx, fin_rt, fin_err, asB_b, o_add, o_addI, o_sub, o_neg, o_lt, o_le, o_gt, o_ge, o_eqI, o_neI, o_eqS, o_neS, o_inS, o_lenL, o_lenT, o_int, o_itS, o_itL, o_itT, o_truL, o_truB, o_truI, List.set_cons_zero, List.set_cons_succ, List.length_cons, List.length_nil, if_true, if_false, Bool.not_true, Bool.not_false, Bool.false_eq_true, Option.isSome_some, Option.isSome_none, Nat.reduceAdd, Nat.zero_add, decide_true, decide_false, e_gT, e_gsC, e_gsN, e_callR0, e_callN, Nat.reduceEqDiff, lit_0, lit_1, lit_2, lit_3, lit_4, lit_5, lit_6, lit_7, lit_8, lit_9, lit_10, lit_11, lit_12, cl_0, cl_1, cl_2, cl_3, cl_4, cl_5, cl_6, cl_7, c0, c1, c2, o_mod (show (0 : Int) < 3 by decide), hn]
  refine (rp__law_presentation z1 z2 (n : Int) (by omega) (by omega)).le (fun z => z.elim) fun d ⟨rs, hd, hp, hr4, hr6⟩ => ?_
  subst hd
  have rest : ∀ (m : Int) (ns : List Int), 0 ≤ m → m ≠ 1 → ns.length = n → NumB ns → OP (sCons st_law_7 (sCons st_law_8 (sCons st_law_9 (sCons st_law_10 (sCons st_law_11 (sCons st_law_12 (sCons st_law_13 (sCons st_law_14 st_law_15)))))))
      [some (.sh A0), some (.sh (.int (n : Int))), some (.sh (PV (n : Int) rs)), some (.sh (.int m)), some (.sh (.tuple (ns.map PyData.int))), none, none, none, none, none, none, none])
      ⟨True, fun _ => PyData.none = PyData.bool true, fun d => d = PyData.bool true, fun _ => False, fun _ => False, fun _ => False, fun e _ => NoE e⟩ := by
    intro m ns hm0 hm1 hnl hnb
    have hok : okWt m ns = true := decide_eq_true ⟨hm0, hm1, by omega, by omega⟩
    have eh := r__law_holds (rs := rs) (m := m) (ns := ns) hn3 hm0 hnl hnb hp.len
    have et := toldf (r_fits hp hok hnl hnb)
    obtain ⟨w1, l1, hw1, e1⟩ := r__law_word z5 (n : Int) 8 (by omega) (by omega) (by decide)
    have e1 : m__law_word [.int z5, .int (n : Int), .int 8] = .ok (.str (S w1)) := e1
    unfold st_law_7 st_law_8 st_law_9 st_law_10 st_law_11
    simp -implicitDefEqProofs only [RP_ok, RP_err, RP_stuck, RP_bind, RP_quiet, RP_sure, RP_ite, RP_fin, RP_finN, OP_nx, OP_rt, OP_rto, OP_bk, OP_ct, OP_err, OP_stuck, OP_of, OP_thn, OP_lp, OP_ite, OP_tryN, OP_tryAs, OP_endS, OP_endI, true_implies, false_implies, not_true_eq_false, not_false_eq_true, and_true, true_and, implies_true, wipe_nil, wipe_cons, List.length_map, e_callR, e_callX, e_isX, e_xf, e_sNext, e_sApp, e_sPop, e_sRev, e_sRetOwn, e_sExt, e_sGive, e_sSetIx, e_hdl, hdl_nil, e_hdlAs, ownAt_own, rndAt_rnd, excAt_exc, someD_some, caseB_t, caseB_f, intD_int, clean_nil, clean_sh, clean_no, clean_own, List.getElem?_cons_zero, List.getElem?_cons_succ, decide_eq_true_eq, Bool.not_eq_true', List.length_append, Option.getD_some, ixT0, ixT1, ixT2, ixT3, ixL0, ixL1, ixL2, ixL3, o_isB, o_isL, o_isT, o_isI, o_isS, o_niPM, o_niPL, o_max2, o_min2, o_abs, o_tupL, o_tupT, o_lofL, o_lofT, e_aListOf, e_aRep, sizeLine_eq, decide_eq_false_iff_not, Classical.not_not, Nat.reduceLeDiff, Nat.zero_le, Int.reduceLE, Int.reduceLT, Int.reduceEq, Nat.reduceLT, List.nil_append, List.cons_append, cst0, cst1, cst2, cst3, cst4, cst5, cst6, cst7, cst8, cst9, cst10, cst11, cst12, o_eqB, o_neB, reduceCtorEq, Bool.true_eq_false, e_iEnumS, e_iZipS, o_enum, o_zipL, o_zipT, e_sRaise1, e_sPar, e_sPar3, e_gTL, o_isBB, o_notBB, e_iEnumA, o_enumL, o_enumT, e_mB, ok_strD, ok_listD, e_iZipM, o_zipLL, o_zipTT, o_zipTL, o_zipLT, e_sCons, e_sNil, e_sBreak, e_sCont, e_sRet, e_sRetN, e_sExpr, e_sIf, e_sAsg, e_sOwn, e_sFrz, e_sRaise, e_sFor, e_loop_nil, e_mC, e_m1, e_m2, e_mF, e_mCall, e_mM1, e_aNil, e_aCons, e_aLst, e_mTup, e_mLst, e_mN, e_mT, e_mTru, e_mAndT, e_mOrT, e_mNotT, e_mAnd, e_mOr, e_mNot, e_mIf, e_mChain, e_iSeq, e_iRange1, e_iRange2, e_oNone, e_oSome, e_mSl, e_mYes, e_mLc, e_gN, v0, vS, p0, p0o, pS, f0, f0s, f0n, fS, R.bind_ok, R.bind_err, R.bind_stuck, R.quiet_ok, R.sure_ok, R.sure_err, R.sure_stuck, O.of_ok, O.of_err, O.of_stuck, O.thn_nx, O.thn_rt, O.thn_bk, O.thn_ct, O.thn_err, O.thn_rto, O.lp_nx, O.lp_ct, O.lp_bk, O.lp_rt, O.lp_rto, O.lp_err, fin_nx, fin_rt, fin_err, asB_b, o_add, o_addI, o_sub, o_neg, o_lt, o_le, o_gt, o_ge, o_eqI, o_neI, o_eqS, o_neS, o_inS, o_lenL, o_lenT, o_int, o_itS, o_itL, o_itT, o_truL, o_truB, o_truI, List.set_cons_zero, List.set_cons_succ, List.length_cons, List.length_nil, if_true, if_false, Bool.not_true, Bool.not_false, Bool.false_eq_true, Option.isSome_some, Option.isSome_none, Nat.reduceAdd, Nat.zero_add, decide_true, decide_false, e_gT, e_gsC, e_gsN, e_callR0, e_callN, Nat.reduceEqDiff, lit_0, lit_1, lit_2, lit_3, lit_4, lit_5, lit_6, lit_7, lit_8, lit_9, lit_10, lit_11, lit_12, cl_0, cl_1, cl_2, cl_3, cl_4, cl_5, cl_6, cl_7, eh, et, o_repB, o_neZ, c5, c6, e1]
    refine (rp__law_moved hp z6 hw1 (by omega)).le (fun z => z.elim) fun d ⟨w2, hd, hw2, l2, hs⟩ => ?_
    subst hd
    have ew1 := r_weight_of hok hnb (w := w1) (by rw [hnl]; exact okw_iff.mpr hw1) (by omega)
    have ew2 := r_weight_of hok hnb (w := w2) (by rw [hnl]; exact okw_iff.mpr hw2) (by omega)
    have hm4 := m_nn (z := z7) (show (0 : Int) < 4 by decide)
    have hm4' := m_lt (z := z7) (show (0 : Int) < 4 by decide)
    obtain ⟨m', ns', hw, ew⟩ : ∃ (m' : Int) (ns' : List Int), (okWt m' ns' = false ∨ ns'.length ≠ n) ∧ dIdx (.list [.tuple [.int 1, .tuple (ns.map PyData.int)], .tuple [.int 0, .tuple (ns.map PyData.int ++ [.int 1])], .tuple [.int 2, .tuple ((ns.map PyData.int).drop 1)], .tuple [.int (-3), .tuple (ns.map PyData.int)]]) (.int (z7 % 4)) = .ok (WV m' ns') := by
      have : z7 % 4 = ((0 : Nat) : Int) ∨ z7 % 4 = ((1 : Nat) : Int) ∨ z7 % 4 = ((2 : Nat) : Int) ∨ z7 % 4 = ((3 : Nat) : Int) := by omega
      rcases this with e | e | e | e <;> rw [e]
      · exact ⟨1, ns, .inl (decide_eq_false (by omega)), o_ixL rfl⟩
      · exact ⟨0, ns ++ [1], .inr (by rw [List.length_append, List.length_singleton]; omega), o_ixL (by
          show some (PyData.tuple [.int 0, .tuple (ns.map PyData.int ++ [.int 1])]) = some (PyData.tuple [.int 0, .tuple ((ns ++ [1]).map PyData.int)])
          rw [List.map_append]; rfl)⟩
      · exact ⟨2, ns.drop 1, .inr (by rw [List.length_drop]; omega), o_ixL (by
          show some (PyData.tuple [.int 2, .tuple ((ns.map PyData.int).drop 1)]) = some (PyData.tuple [.int 2, .tuple ((ns.drop 1).map PyData.int)])
          rw [List.map_drop])⟩
      · exact ⟨-3, ns, .inl (decide_eq_false (by omega)), o_ixL rfl⟩
    have pz : presB (n : Int) [[]] = false := by
      unfold presB
      have : ([[]] : List (List Nat)).all (relB (n : Int)) = false := by
        show (relB (n : Int) [] && true) = false
        unfold relB
        rfl
      rw [this, Bool.and_false]
    have p1 : m__law_told [.tuple [.int (n : Int), .tuple [.str (S [])]], WV m' ns'] = .ok (sD kPres) := toldfp (r_fits_pres (g := (n : Int)) (rs := [[]]) (fun r hr => by rw [List.mem_singleton.mp hr]; decide) (by decide) pz (d := WV m' ns'))
    have p2 : m__law_told [.tuple [.int 0, .tuple []], WV m' ns'] = .ok (sD kPres) := toldfp (r_fits_pres (g := 0) (rs := []) (fun r hr => nomatch hr) (by decide) (by decide) (d := WV m' ns'))
    have p3 := toldfw (r_fits_weights hp hw)
    have nsl : (ns.map PyData.int).length = ns.length := List.length_map ..
    have sl : dSl (.tuple (ns.map PyData.int)) (some 1) none = .ok (.tuple ((ns.map PyData.int).drop 1)) := by
      have h := o_slT (l := ns.map PyData.int) (lo := some 1) (hi := none) (fun h => by
        have e1 : HT.sIx (ns.map PyData.int).length 0 (some ((1 : Nat) : Int)) = min 1 (ns.map PyData.int).length := HT.sIx_nat _ _ _
        have e2 : HT.sIx (ns.map PyData.int).length 0 (some 1) = min 1 (ns.map PyData.int).length := e1
        rw [e2, nsl] at h
        omega)
      have e3 : cutG (ns.map PyData.int) (some 1) none = (ns.map PyData.int).drop 1 := cut_from' (n := 1)
      rw [h, e3]
    have rest3 : ∀ o6 : Option SD, OP (sCons st_law_13 (sCons st_law_14 st_law_15)
      [some (.sh A0), some (.sh (.int (n : Int))), some (.sh (PV (n : Int) rs)), some (.sh (.int m)), some (.sh (.tuple (ns.map PyData.int))), some (.sh (WV m ns)), o6, some (.sh (.str (S w1))), some (.sh (sD w2)), none, none, none])
      ⟨True, fun _ => PyData.none = PyData.bool true, fun d => d = PyData.bool true, fun _ => False, fun _ => False, fun _ => False, fun e _ => NoE e⟩ := by
      intro o6
      unfold st_law_13 st_law_14 st_law_15
      simp -implicitDefEqProofs only [RP_ok, RP_err, RP_stuck, RP_bind, RP_quiet, RP_sure, RP_ite, RP_fin, RP_finN, OP_nx, OP_rt, OP_rto, OP_bk, OP_ct, OP_err, OP_stuck, OP_of, OP_thn, OP_lp, OP_ite, OP_tryN, OP_tryAs, OP_endS, OP_endI, true_implies, false_implies, not_true_eq_false, not_false_eq_true, and_true, true_and, implies_true, wipe_nil, wipe_cons, List.length_map, e_callR, e_callX, e_isX, e_xf, e_sNext, e_sApp, e_sPop, e_sRev, e_sRetOwn, e_sExt, e_sGive, e_sSetIx, e_hdl, hdl_nil, e_hdlAs, ownAt_own, rndAt_rnd, excAt_exc, someD_some, caseB_t, caseB_f, intD_int, clean_nil, clean_sh, clean_no, clean_own, List.getElem?_cons_zero, List.getElem?_cons_succ, decide_eq_true_eq, Bool.not_eq_true', List.length_append, Option.getD_some, ixT0, ixT1, ixT2, ixT3, ixL0, ixL1, ixL2, ixL3, o_isB, o_isL, o_isT, o_isI, o_isS, o_niPM, o_niPL, o_max2, o_min2, o_abs, o_tupL, o_tupT, o_lofL, o_lofT, e_aListOf, e_aRep, sizeLine_eq, decide_eq_false_iff_not, Classical.not_not, Nat.reduceLeDiff, Nat.zero_le, Int.reduceLE, Int.reduceLT, Int.reduceEq, Nat.reduceLT, List.nil_append, List.cons_append, cst0, cst1, cst2, cst3, cst4, cst5, cst6, cst7, cst8, cst9, cst10, cst11, cst12, o_eqB, o_neB, reduceCtorEq, Bool.true_eq_false, e_iEnumS, e_iZipS, o_enum, o_zipL, o_zipT, e_sRaise1, e_sPar, e_sPar3, e_gTL, o_isBB, o_notBB, e_iEnumA, o_enumL, o_enumT, e_mB, ok_strD, ok_listD, e_iZipM, o_zipLL, o_zipTT, o_zipTL, o_zipLT, e_sCons, e_sNil, e_sBreak, e_sCont, e_sRet, e_sRetN, e_sExpr, e_sIf, e_sAsg, e_sOwn, e_sFrz, e_sRaise, e_sFor, e_loop_nil, e_mC, e_m1, e_m2, e_mF, e_mCall, e_mM1, e_aNil, e_aCons, e_aLst, e_mTup, e_mLst, e_mN, e_mT, e_mTru, e_mAndT, e_mOrT, e_mNotT, e_mAnd, e_mOr, e_mNot, e_mIf, e_mChain, e_iSeq, e_iRange1, e_iRange2, e_oNone, e_oSome, e_mSl, e_mYes, e_mLc, e_gN, v0, vS, p0, p0o, pS, f0, f0s, f0n, fS, R.bind_ok, R.bind_err, R.bind_stuck, R.quiet_ok, R.sure_ok, R.sure_err, R.sure_stuck, O.of_ok, O.of_err, O.of_stuck, O.thn_nx, O.thn_rt, O.thn_bk, O.thn_ct, O.thn_err, O.thn_rto, O.lp_nx, O.lp_ct, O.lp_bk, O.lp_rt, O.lp_rto, O.lp_err, fin_nx, fin_rt, fin_err, asB_b, o_add, o_addI, o_sub, o_neg, o_lt, o_le, o_gt, o_ge, o_eqI, o_neI, o_eqS, o_neS, o_inS, o_lenL, o_lenT, o_int, o_itS, o_itL, o_itT, o_truL, o_truB, o_truI, List.set_cons_zero, List.set_cons_succ, List.length_cons, List.length_nil, if_true, if_false, Bool.not_true, Bool.not_false, Bool.false_eq_true, Option.isSome_some, Option.isSome_none, Nat.reduceAdd, Nat.zero_add, decide_true, decide_false, e_gT, e_gsC, e_gsN, e_callR0, e_callN, Nat.reduceEqDiff, lit_0, lit_1, lit_2, lit_3, lit_4, lit_5, lit_6, lit_7, lit_8, lit_9, lit_10, lit_11, lit_12, cl_0, cl_1, cl_2, cl_3, cl_4, cl_5, cl_6, cl_7, o_addT, sl, c7, o_mod (show (0 : Int) < 4 by decide), nsl]
      refine ck (by omega) ?_
      rw [RP_of ew]
      simp -implicitDefEqProofs only [RP_ok, RP_err, RP_stuck, RP_bind, RP_quiet, RP_sure, RP_ite, RP_fin, RP_finN, OP_nx, OP_rt, OP_rto, OP_bk, OP_ct, OP_err, OP_stuck, OP_of, OP_thn, OP_lp, OP_ite, OP_tryN, OP_tryAs, OP_endS, OP_endI, true_implies, false_implies, not_true_eq_false, not_false_eq_true, and_true, true_and, implies_true, wipe_nil, wipe_cons, List.length_map, e_callR, e_callX, e_isX, e_xf, e_sNext, e_sApp, e_sPop, e_sRev, e_sRetOwn, e_sExt, e_sGive, e_sSetIx, e_hdl, hdl_nil, e_hdlAs, ownAt_own, rndAt_rnd, excAt_exc, someD_some, caseB_t, caseB_f, intD_int, clean_nil, clean_sh, clean_no, clean_own, List.getElem?_cons_zero, List.getElem?_cons_succ, decide_eq_true_eq, Bool.not_eq_true', List.length_append, Option.getD_some, ixT0, ixT1, ixT2, ixT3, ixL0, ixL1, ixL2, ixL3, o_isB, o_isL, o_isT, o_isI, o_isS, o_niPM, o_niPL, o_max2, o_min2, o_abs, o_tupL, o_tupT, o_lofL, o_lofT, e_aListOf, e_aRep, sizeLine_eq, decide_eq_false_iff_not, Classical.not_not, Nat.reduceLeDiff, Nat.zero_le, Int.reduceLE, Int.reduceLT, Int.reduceEq, Nat.reduceLT, List.nil_append, List.cons_append, cst0, cst1, cst2, cst3, cst4, cst5, cst6, cst7, cst8, cst9, cst10, cst11, cst12, o_eqB, o_neB, reduceCtorEq, Bool.true_eq_false, e_iEnumS, e_iZipS, o_enum, o_zipL, o_zipT, e_sRaise1, e_sPar, e_sPar3, e_gTL, o_isBB, o_notBB, e_iEnumA, o_enumL, o_enumT, e_mB, ok_strD, ok_listD, e_iZipM, o_zipLL, o_zipTT, o_zipTL, o_zipLT, e_sCons, e_sNil, e_sBreak, e_sCont, e_sRet, e_sRetN, e_sExpr, e_sIf, e_sAsg, e_sOwn, e_sFrz, e_sRaise, e_sFor, e_loop_nil, e_mC, e_m1, e_m2, e_mF, e_mCall, e_mM1, e_aNil, e_aCons, e_aLst, e_mTup, e_mLst, e_mN, e_mT, e_mTru, e_mAndT, e_mOrT, e_mNotT, e_mAnd, e_mOr, e_mNot, e_mIf, e_mChain, e_iSeq, e_iRange1, e_iRange2, e_oNone, e_oSome, e_mSl, e_mYes, e_mLc, e_gN, v0, vS, p0, p0o, pS, f0, f0s, f0n, fS, R.bind_ok, R.bind_err, R.bind_stuck, R.quiet_ok, R.sure_ok, R.sure_err, R.sure_stuck, O.of_ok, O.of_err, O.of_stuck, O.thn_nx, O.thn_rt, O.thn_bk, O.thn_ct, O.thn_err, O.thn_rto, O.lp_nx, O.lp_ct, O.lp_bk, O.lp_rt, O.lp_rto, O.lp_err, fin_nx, fin_rt, fin_err, asB_b, o_add, o_addI, o_sub, o_neg, o_lt, o_le, o_gt, o_ge, o_eqI, o_neI, o_eqS, o_neS, o_inS, o_lenL, o_lenT, o_int, o_itS, o_itL, o_itT, o_truL, o_truB, o_truI, List.set_cons_zero, List.set_cons_succ, List.length_cons, List.length_nil, if_true, if_false, Bool.not_true, Bool.not_false, Bool.false_eq_true, Option.isSome_some, Option.isSome_none, Nat.reduceAdd, Nat.zero_add, decide_true, decide_false, e_gT, e_gsC, e_gsN, e_callR0, e_callN, Nat.reduceEqDiff, lit_0, lit_1, lit_2, lit_3, lit_4, lit_5, lit_6, lit_7, lit_8, lit_9, lit_10, lit_11, lit_12, cl_0, cl_1, cl_2, cl_3, cl_4, cl_5, cl_6, cl_7, p1, p2, p3, o_neS, o_eqS]
    simp -implicitDefEqProofs only [RP_ok, RP_err, RP_stuck, RP_bind, RP_quiet, RP_sure, RP_ite, RP_fin, RP_finN, OP_nx, OP_rt, OP_rto, OP_bk, OP_ct, OP_err, OP_stuck, OP_of, OP_thn, OP_lp, OP_ite, OP_tryN, OP_tryAs, OP_endS, OP_endI, true_implies, false_implies, not_true_eq_false, not_false_eq_true, and_true, true_and, implies_true, wipe_nil, wipe_cons, List.length_map, e_callR, e_callX, e_isX, e_xf, e_sNext, e_sApp, e_sPop, e_sRev, e_sRetOwn, e_sExt, e_sGive, e_sSetIx, e_hdl, hdl_nil, e_hdlAs, ownAt_own, rndAt_rnd, excAt_exc, someD_some, caseB_t, caseB_f, intD_int, clean_nil, clean_sh, clean_no, clean_own, List.getElem?_cons_zero, List.getElem?_cons_succ, decide_eq_true_eq, Bool.not_eq_true', List.length_append, Option.getD_some, ixT0, ixT1, ixT2, ixT3, ixL0, ixL1, ixL2, ixL3, o_isB, o_isL, o_isT, o_isI, o_isS, o_niPM, o_niPL, o_max2, o_min2, o_abs, o_tupL, o_tupT, o_lofL, o_lofT, e_aListOf, e_aRep, sizeLine_eq, decide_eq_false_iff_not, Classical.not_not, Nat.reduceLeDiff, Nat.zero_le, Int.reduceLE, Int.reduceLT, Int.reduceEq, Nat.reduceLT, List.nil_append, List.cons_append, cst0, cst1, cst2, cst3, cst4, cst5, cst6, cst7, cst8, cst9, cst10, cst11, cst12, o_eqB, o_neB, reduceCtorEq, Bool.true_eq_false, e_iEnumS, e_iZipS, o_enum, o_zipL, o_zipT, e_sRaise1, e_sPar, e_sPar3, e_gTL, o_isBB, o_notBB, e_iEnumA, o_enumL, o_enumT, e_mB, ok_strD, ok_listD, e_iZipM, o_zipLL, o_zipTT, o_zipTL, o_zipLT, e_sCons, e_sNil, e_sBreak, e_sCont, e_sRet, e_sRetN, e_sExpr, e_sIf, e_sAsg, e_sOwn, e_sFrz, e_sRaise, e_sFor, e_loop_nil, e_mC, e_m1, e_m2, e_mF, e_mCall, e_mM1, e_aNil, e_aCons, e_aLst, e_mTup, e_mLst, e_mN, e_mT, e_mTru, e_mAndT, e_mOrT, e_mNotT, e_mAnd, e_mOr, e_mNot, e_mIf, e_mChain, e_iSeq, e_iRange1, e_iRange2, e_oNone, e_oSome, e_mSl, e_mYes, e_mLc, e_gN, v0, vS, p0, p0o, pS, f0, f0s, f0n, fS, R.bind_ok, R.bind_err, R.bind_stuck, R.quiet_ok, R.sure_ok, R.sure_err, R.sure_stuck, O.of_ok, O.of_err, O.of_stuck, O.thn_nx, O.thn_rt, O.thn_bk, O.thn_ct, O.thn_err, O.thn_rto, O.lp_nx, O.lp_ct, O.lp_bk, O.lp_rt, O.lp_rto, O.lp_err, fin_nx, fin_rt, fin_err, asB_b, o_add, o_addI, o_sub, o_neg, o_lt, o_le, o_gt, o_ge, o_eqI, o_neI, o_eqS, o_neS, o_inS, o_lenL, o_lenT, o_int, o_itS, o_itL, o_itT, o_truL, o_truB, o_truI, List.set_cons_zero, List.set_cons_succ, List.length_cons, List.length_nil, if_true, if_false, Bool.not_true, Bool.not_false, Bool.false_eq_true, Option.isSome_some, Option.isSome_none, Nat.reduceAdd, Nat.zero_add, decide_true, decide_false, e_gT, e_gsC, e_gsN, e_callR0, e_callN, Nat.reduceEqDiff, lit_0, lit_1, lit_2, lit_3, lit_4, lit_5, lit_6, lit_7, lit_8, lit_9, lit_10, lit_11, lit_12, cl_0, cl_1, cl_2, cl_3, cl_4, cl_5, cl_6, cl_7] at rest3
    unfold st_law_12
    simp -implicitDefEqProofs only [RP_ok, RP_err, RP_stuck, RP_bind, RP_quiet, RP_sure, RP_ite, RP_fin, RP_finN, OP_nx, OP_rt, OP_rto, OP_bk, OP_ct, OP_err, OP_stuck, OP_of, OP_thn, OP_lp, OP_ite, OP_tryN, OP_tryAs, OP_endS, OP_endI, true_implies, false_implies, not_true_eq_false, not_false_eq_true, and_true, true_and, implies_true, wipe_nil, wipe_cons, List.length_map, e_callR, e_callX, e_isX, e_xf, e_sNext, e_sApp, e_sPop, e_sRev, e_sRetOwn, e_sExt, e_sGive, e_sSetIx, e_hdl, hdl_nil, e_hdlAs, ownAt_own, rndAt_rnd, excAt_exc, someD_some, caseB_t, caseB_f, intD_int, clean_nil, clean_sh, clean_no, clean_own, List.getElem?_cons_zero, List.getElem?_cons_succ, decide_eq_true_eq, Bool.not_eq_true', List.length_append, Option.getD_some, ixT0, ixT1, ixT2, ixT3, ixL0, ixL1, ixL2, ixL3, o_isB, o_isL, o_isT, o_isI, o_isS, o_niPM, o_niPL, o_max2, o_min2, o_abs, o_tupL, o_tupT, o_lofL, o_lofT, e_aListOf, e_aRep, sizeLine_eq, decide_eq_false_iff_not, Classical.not_not, Nat.reduceLeDiff, Nat.zero_le, Int.reduceLE, Int.reduceLT, Int.reduceEq, Nat.reduceLT, List.nil_append, List.cons_append, cst0, cst1, cst2, cst3, cst4, cst5, cst6, cst7, cst8, cst9, cst10, cst11, cst12, o_eqB, o_neB, reduceCtorEq, Bool.true_eq_false, e_iEnumS, e_iZipS, o_enum, o_zipL, o_zipT, e_sRaise1, e_sPar, e_sPar3, e_gTL, o_isBB, o_notBB, e_iEnumA, o_enumL, o_enumT, e_mB, ok_strD, ok_listD, e_iZipM, o_zipLL, o_zipTT, o_zipTL, o_zipLT, e_sCons, e_sNil, e_sBreak, e_sCont, e_sRet, e_sRetN, e_sExpr, e_sIf, e_sAsg, e_sOwn, e_sFrz, e_sRaise, e_sFor, e_loop_nil, e_mC, e_m1, e_m2, e_mF, e_mCall, e_mM1, e_aNil, e_aCons, e_aLst, e_mTup, e_mLst, e_mN, e_mT, e_mTru, e_mAndT, e_mOrT, e_mNotT, e_mAnd, e_mOr, e_mNot, e_mIf, e_mChain, e_iSeq, e_iRange1, e_iRange2, e_oNone, e_oSome, e_mSl, e_mYes, e_mLc, e_gN, v0, vS, p0, p0o, pS, f0, f0s, f0n, fS, R.bind_ok, R.bind_err, R.bind_stuck, R.quiet_ok, R.sure_ok, R.sure_err, R.sure_stuck, O.of_ok, O.of_err, O.of_stuck, O.thn_nx, O.thn_rt, O.thn_bk, O.thn_ct, O.thn_err, O.thn_rto, O.lp_nx, O.lp_ct, O.lp_bk, O.lp_rt, O.lp_rto, O.lp_err, fin_nx, fin_rt, fin_err, asB_b, o_add, o_addI, o_sub, o_neg, o_lt, o_le, o_gt, o_ge, o_eqI, o_neI, o_eqS, o_neS, o_inS, o_lenL, o_lenT, o_int, o_itS, o_itL, o_itT, o_truL, o_truB, o_truI, List.set_cons_zero, List.set_cons_succ, List.length_cons, List.length_nil, if_true, if_false, Bool.not_true, Bool.not_false, Bool.false_eq_true, Option.isSome_some, Option.isSome_none, Nat.reduceAdd, Nat.zero_add, decide_true, decide_false, e_gT, e_gsC, e_gsN, e_callR0, e_callN, Nat.reduceEqDiff, lit_0, lit_1, lit_2, lit_3, lit_4, lit_5, lit_6, lit_7, lit_8, lit_9, lit_10, lit_11, lit_12, cl_0, cl_1, cl_2, cl_3, cl_4, cl_5, cl_6, cl_7, ew1, ew2]
    exact ⟨fun h => ⟨fun z => absurd (hs m ns hnl fun r hr => of_decide_eq_true (List.all_eq_true.mp h r hr)).symm z, fun _ => rest3 _⟩, fun _ => rest3 _⟩
  simp -implicitDefEqProofs only [RP_ok, RP_err, RP_stuck, RP_bind, RP_quiet, RP_sure, RP_ite, RP_fin, RP_finN, OP_nx, OP_rt, OP_rto, OP_bk, OP_ct, OP_err, OP_stuck, OP_of, OP_thn, OP_lp, OP_ite, OP_tryN, OP_tryAs, OP_endS, OP_endI, true_implies, false_implies, not_true_eq_false, not_false_eq_true, and_true, true_and, implies_true, wipe_nil, wipe_cons, List.length_map, e_callR, e_callX, e_isX, e_xf, e_sNext, e_sApp, e_sPop, e_sRev, e_sRetOwn, e_sExt, e_sGive, e_sSetIx, e_hdl, hdl_nil, e_hdlAs, ownAt_own, rndAt_rnd, excAt_exc, someD_some, caseB_t, caseB_f, intD_int, clean_nil, clean_sh, clean_no, clean_own, List.getElem?_cons_zero, List.getElem?_cons_succ, decide_eq_true_eq, Bool.not_eq_true', List.length_append, Option.getD_some, ixT0, ixT1, ixT2, ixT3, ixL0, ixL1, ixL2, ixL3, o_isB, o_isL, o_isT, o_isI, o_isS, o_niPM, o_niPL, o_max2, o_min2, o_abs, o_tupL, o_tupT, o_lofL, o_lofT, e_aListOf, e_aRep, sizeLine_eq, decide_eq_false_iff_not, Classical.not_not, Nat.reduceLeDiff, Nat.zero_le, Int.reduceLE, Int.reduceLT, Int.reduceEq, Nat.reduceLT, List.nil_append, List.cons_append, cst0, cst1, cst2, cst3, cst4, cst5, cst6, cst7, cst8, cst9, cst10, cst11, cst12, o_eqB, o_neB, reduceCtorEq, Bool.true_eq_false, e_iEnumS, e_iZipS, o_enum, o_zipL, o_zipT, e_sRaise1, e_sPar, e_sPar3, e_gTL, o_isBB, o_notBB, e_iEnumA, o_enumL, o_enumT, e_mB, ok_strD, ok_listD, e_iZipM, o_zipLL, o_zipTT, o_zipTL, o_zipLT, e_sCons, e_sNil, e_sBreak, e_sCont, e_sRet, e_sRetN, e_sExpr, e_sIf, e_sAsg, e_sOwn, e_sFrz, e_sRaise, e_sFor, e_loop_nil, e_mC, e_m1, e_m2, e_mF, e_mCall, e_mM1, e_aNil, e_aCons, e_aLst, e_mTup, e_mLst, e_mN, e_mT, e_mTru, e_mAndT, e_mOrT, e_mNotT, e_mAnd, e_mOr, e_mNot, e_mIf, e_mChain, e_iSeq, e_iRange1, e_iRange2, e_oNone, e_oSome, e_mSl, e_mYes, e_mLc, e_gN, v0, vS, p0, p0o, pS, f0, f0s, f0n, fS, R.bind_ok, R.bind_err, R.bind_stuck, R.quiet_ok, R.sure_ok, R.sure_err, R.sure_stuck, O.of_ok, O.of_err, O.of_stuck, O.thn_nx, O.thn_rt, O.thn_bk, O.thn_ct, O.thn_err, O.thn_rto, O.lp_nx, O.lp_ct, O.lp_bk, O.lp_rt, O.lp_rto, O.lp_err, fin_nx, fin_rt, fin_err, asB_b, o_add, o_addI, o_sub, o_neg, o_lt, o_le, o_gt, o_ge, o_eqI, o_neI, o_eqS, o_neS, o_inS, o_lenL, o_lenT, o_int, o_itS, o_itL, o_itT, o_truL, o_truB, o_truI, List.set_cons_zero, List.set_cons_succ, List.length_cons, List.length_nil, if_true, if_false, Bool.not_true, Bool.not_false, Bool.false_eq_true, Option.isSome_some, Option.isSome_none, Nat.reduceAdd, Nat.zero_add, decide_true, decide_false, e_gT, e_gsC, e_gsN, e_callR0, e_callN, Nat.reduceEqDiff, lit_0, lit_1, lit_2, lit_3, lit_4, lit_5, lit_6, lit_7, lit_8, lit_9, lit_10, lit_11, lit_12, cl_0, cl_1, cl_2, cl_3, cl_4, cl_5, cl_6, cl_7] at rest
  have rest2 : ∀ m : Int, 0 ≤ m → m ≠ 1 → OP (sCons st_law_5 (sCons st_law_6 (sCons st_law_7 (sCons st_law_8 (sCons st_law_9 (sCons st_law_10 (sCons st_law_11 (sCons st_law_12 (sCons st_law_13 (sCons st_law_14 st_law_15)))))))))
      [some (.sh A0), some (.sh (.int (n : Int))), some (.sh (PV (n : Int) rs)), some (.sh (.int m)), none, none, none, none, none, none, none, none])
      ⟨True, fun _ => PyData.none = PyData.bool true, fun d => d = PyData.bool true, fun _ => False, fun _ => False, fun _ => False, fun e _ => NoE e⟩ := by
    intro m hm0 hm1
    obtain ⟨vs, hvl, hv, ev⟩ := r__law_values z4 7 n (by omega) (by decide) (by decide)
    have vl : (vs.map PyData.int).length = vs.length := List.length_map ..
    unfold st_law_5 st_law_6
    simp -implicitDefEqProofs only [RP_ok, RP_err, RP_stuck, RP_bind, RP_quiet, RP_sure, RP_ite, RP_fin, RP_finN, OP_nx, OP_rt, OP_rto, OP_bk, OP_ct, OP_err, OP_stuck, OP_of, OP_thn, OP_lp, OP_ite, OP_tryN, OP_tryAs, OP_endS, OP_endI, true_implies, false_implies, not_true_eq_false, not_false_eq_true, and_true, true_and, implies_true, wipe_nil, wipe_cons, List.length_map, e_callR, e_callX, e_isX, e_xf, e_sNext, e_sApp, e_sPop, e_sRev, e_sRetOwn, e_sExt, e_sGive, e_sSetIx, e_hdl, hdl_nil, e_hdlAs, ownAt_own, rndAt_rnd, excAt_exc, someD_some, caseB_t, caseB_f, intD_int, clean_nil, clean_sh, clean_no, clean_own, List.getElem?_cons_zero, List.getElem?_cons_succ, decide_eq_true_eq, Bool.not_eq_true', List.length_append, Option.getD_some, ixT0, ixT1, ixT2, ixT3, ixL0, ixL1, ixL2, ixL3, o_isB, o_isL, o_isT, o_isI, o_isS, o_niPM, o_niPL, o_max2, o_min2, o_abs, o_tupL, o_tupT, o_lofL, o_lofT, e_aListOf, e_aRep, sizeLine_eq, decide_eq_false_iff_not, Classical.not_not, Nat.reduceLeDiff, Nat.zero_le, Int.reduceLE, Int.reduceLT, Int.reduceEq, Nat.reduceLT, List.nil_append, List.cons_append, cst0, cst1, cst2, cst3, cst4, cst5, cst6, cst7, cst8, cst9, cst10, cst11, cst12, o_eqB, o_neB, reduceCtorEq, Bool.true_eq_false, e_iEnumS, e_iZipS, o_enum, o_zipL, o_zipT, e_sRaise1, e_sPar, e_sPar3, e_gTL, o_isBB, o_notBB, e_iEnumA, o_enumL, o_enumT, e_mB, ok_strD, ok_listD, e_iZipM, o_zipLL, o_zipTT, o_zipTL, o_zipLT, e_sCons, e_sNil, e_sBreak, e_sCont, e_sRet, e_sRetN, e_sExpr, e_sIf, e_sAsg, e_sOwn, e_sFrz, e_sRaise, e_sFor, e_loop_nil, e_mC, e_m1, e_m2, e_mF, e_mCall, e_mM1, e_aNil, e_aCons, e_aLst, e_mTup, e_mLst, e_mN, e_mT, e_mTru, e_mAndT, e_mOrT, e_mNotT, e_mAnd, e_mOr, e_mNot, e_mIf, e_mChain, e_iSeq, e_iRange1, e_iRange2, e_oNone, e_oSome, e_mSl, e_mYes, e_mLc, e_gN, v0, vS, p0, p0o, pS, f0, f0s, f0n, fS, R.bind_ok, R.bind_err, R.bind_stuck, R.quiet_ok, R.sure_ok, R.sure_err, R.sure_stuck, O.of_ok, O.of_err, O.of_stuck, O.thn_nx, O.thn_rt, O.thn_bk, O.thn_ct, O.thn_err, O.thn_rto, O.lp_nx, O.lp_ct, O.lp_bk, O.lp_rt, O.lp_rto, O.lp_err, fin_nx, fin_rt, fin_err, asB_b, o_add, o_addI, o_sub, o_neg, o_lt, o_le, o_gt, o_ge, o_eqI, o_neI, o_eqS, o_neS, o_inS, o_lenL, o_lenT, o_int, o_itS, o_itL, o_itT, o_truL, o_truB, o_truI, List.set_cons_zero, List.set_cons_succ, List.length_cons, List.length_nil, if_true, if_false, Bool.not_true, Bool.not_false, Bool.false_eq_true, Option.isSome_some, Option.isSome_none, Nat.reduceAdd, Nat.zero_add, decide_true, decide_false, e_gT, e_gsC, e_gsN, e_callR0, e_callN, Nat.reduceEqDiff, lit_0, lit_1, lit_2, lit_3, lit_4, lit_5, lit_6, lit_7, lit_8, lit_9, lit_10, lit_11, lit_12, cl_0, cl_1, cl_2, cl_3, cl_4, cl_5, cl_6, cl_7, c3, c4, ev, o_mod (show (0 : Int) < 7 by decide), o_mod (show (0 : Int) < 3 by decide), o_fdiv (a := z3) (b := 7) (by decide), vl]
    refine ck (by omega) ?_
    have lc1 : ∀ ρ : En, ρ = [some (.sh A0), some (.sh (.int (n : Int))), some (.sh (PV (n : Int) rs)), some (.sh (.int m)), none, none, none, none, none, none, none, none] → lcLoop (gN 10) mYes ce_law_1 ρ (vs.map PyData.int) = .ok (vs.map fun v => .int (v - 3)) := by
      rintro ρ rfl
      refine lc_mapM fun v hv' => ?_
      unfold ce_law_1
      simp -implicitDefEqProofs only [RP_ok, RP_err, RP_stuck, RP_bind, RP_quiet, RP_sure, RP_ite, RP_fin, RP_finN, OP_nx, OP_rt, OP_rto, OP_bk, OP_ct, OP_err, OP_stuck, OP_of, OP_thn, OP_lp, OP_ite, OP_tryN, OP_tryAs, OP_endS, OP_endI, true_implies, false_implies, not_true_eq_false, not_false_eq_true, and_true, true_and, implies_true, wipe_nil, wipe_cons, List.length_map, e_callR, e_callX, e_isX, e_xf, e_sNext, e_sApp, e_sPop, e_sRev, e_sRetOwn, e_sExt, e_sGive, e_sSetIx, e_hdl, hdl_nil, e_hdlAs, ownAt_own, rndAt_rnd, excAt_exc, someD_some, caseB_t, caseB_f, intD_int, clean_nil, clean_sh, clean_no, clean_own, List.getElem?_cons_zero, List.getElem?_cons_succ, decide_eq_true_eq, Bool.not_eq_true', List.length_append, Option.getD_some, ixT0, ixT1, ixT2, ixT3, ixL0, ixL1, ixL2, ixL3, o_isB, o_isL, o_isT, o_isI, o_isS, o_niPM, o_niPL, o_max2, o_min2, o_abs, o_tupL, o_tupT, o_lofL, o_lofT, e_aListOf, e_aRep, sizeLine_eq, decide_eq_false_iff_not, Classical.not_not, Nat.reduceLeDiff, Nat.zero_le, Int.reduceLE, Int.reduceLT, Int.reduceEq, Nat.reduceLT, List.nil_append, List.cons_append, cst0, cst1, cst2, cst3, cst4, cst5, cst6, cst7, cst8, cst9, cst10, cst11, cst12, o_eqB, o_neB, reduceCtorEq, Bool.true_eq_false, e_iEnumS, e_iZipS, o_enum, o_zipL, o_zipT, e_sRaise1, e_sPar, e_sPar3, e_gTL, o_isBB, o_notBB, e_iEnumA, o_enumL, o_enumT, e_mB, ok_strD, ok_listD, e_iZipM, o_zipLL, o_zipTT, o_zipTL, o_zipLT, e_sCons, e_sNil, e_sBreak, e_sCont, e_sRet, e_sRetN, e_sExpr, e_sIf, e_sAsg, e_sOwn, e_sFrz, e_sRaise, e_sFor, e_loop_nil, e_mC, e_m1, e_m2, e_mF, e_mCall, e_mM1, e_aNil, e_aCons, e_aLst, e_mTup, e_mLst, e_mN, e_mT, e_mTru, e_mAndT, e_mOrT, e_mNotT, e_mAnd, e_mOr, e_mNot, e_mIf, e_mChain, e_iSeq, e_iRange1, e_iRange2, e_oNone, e_oSome, e_mSl, e_mYes, e_mLc, e_gN, v0, vS, p0, p0o, pS, f0, f0s, f0n, fS, R.bind_ok, R.bind_err, R.bind_stuck, R.quiet_ok, R.sure_ok, R.sure_err, R.sure_stuck, O.of_ok, O.of_err, O.of_stuck, O.thn_nx, O.thn_rt, O.thn_bk, O.thn_ct, O.thn_err, O.thn_rto, O.lp_nx, O.lp_ct, O.lp_bk, O.lp_rt, O.lp_rto, O.lp_err, fin_nx, fin_rt, fin_err, asB_b, o_add, o_addI, o_sub, o_neg, o_lt, o_le, o_gt, o_ge, o_eqI, o_neI, o_eqS, o_neS, o_inS, o_lenL, o_lenT, o_int, o_itS, o_itL, o_itT, o_truL, o_truB, o_truI, List.set_cons_zero, List.set_cons_succ, List.length_cons, List.length_nil, if_true, if_false, Bool.not_true, Bool.not_false, Bool.false_eq_true, Option.isSome_some, Option.isSome_none, Nat.reduceAdd, Nat.zero_add, decide_true, decide_false, e_gT, e_gsC, e_gsN, e_callR0, e_callN, Nat.reduceEqDiff, lit_0, lit_1, lit_2, lit_3, lit_4, lit_5, lit_6, lit_7, lit_8, lit_9, lit_10, lit_11, lit_12, cl_0, cl_1, cl_2, cl_3, cl_4, cl_5, cl_6, cl_7]
    rw [lc1 _ rfl]
    simp -implicitDefEqProofs only [RP_ok, RP_err, RP_stuck, RP_bind, RP_quiet, RP_sure, RP_ite, RP_fin, RP_finN, OP_nx, OP_rt, OP_rto, OP_bk, OP_ct, OP_err, OP_stuck, OP_of, OP_thn, OP_lp, OP_ite, OP_tryN, OP_tryAs, OP_endS, OP_endI, true_implies, false_implies, not_true_eq_false, not_false_eq_true, and_true, true_and, implies_true, wipe_nil, wipe_cons, List.length_map, e_callR, e_callX, e_isX, e_xf, e_sNext, e_sApp, e_sPop, e_sRev, e_sRetOwn, e_sExt, e_sGive, e_sSetIx, e_hdl, hdl_nil, e_hdlAs, ownAt_own, rndAt_rnd, excAt_exc, someD_some, caseB_t, caseB_f, intD_int, clean_nil, clean_sh, clean_no, clean_own, List.getElem?_cons_zero, List.getElem?_cons_succ, decide_eq_true_eq, Bool.not_eq_true', List.length_append, Option.getD_some, ixT0, ixT1, ixT2, ixT3, ixL0, ixL1, ixL2, ixL3, o_isB, o_isL, o_isT, o_isI, o_isS, o_niPM, o_niPL, o_max2, o_min2, o_abs, o_tupL, o_tupT, o_lofL, o_lofT, e_aListOf, e_aRep, sizeLine_eq, decide_eq_false_iff_not, Classical.not_not, Nat.reduceLeDiff, Nat.zero_le, Int.reduceLE, Int.reduceLT, Int.reduceEq, Nat.reduceLT, List.nil_append, List.cons_append, cst0, cst1, cst2, cst3, cst4, cst5, cst6, cst7, cst8, cst9, cst10, cst11, cst12, o_eqB, o_neB, reduceCtorEq, Bool.true_eq_false, e_iEnumS, e_iZipS, o_enum, o_zipL, o_zipT, e_sRaise1, e_sPar, e_sPar3, e_gTL, o_isBB, o_notBB, e_iEnumA, o_enumL, o_enumT, e_mB, ok_strD, ok_listD, e_iZipM, o_zipLL, o_zipTT, o_zipTL, o_zipLT, e_sCons, e_sNil, e_sBreak, e_sCont, e_sRet, e_sRetN, e_sExpr, e_sIf, e_sAsg, e_sOwn, e_sFrz, e_sRaise, e_sFor, e_loop_nil, e_mC, e_m1, e_m2, e_mF, e_mCall, e_mM1, e_aNil, e_aCons, e_aLst, e_mTup, e_mLst, e_mN, e_mT, e_mTru, e_mAndT, e_mOrT, e_mNotT, e_mAnd, e_mOr, e_mNot, e_mIf, e_mChain, e_iSeq, e_iRange1, e_iRange2, e_oNone, e_oSome, e_mSl, e_mYes, e_mLc, e_gN, v0, vS, p0, p0o, pS, f0, f0s, f0n, fS, R.bind_ok, R.bind_err, R.bind_stuck, R.quiet_ok, R.sure_ok, R.sure_err, R.sure_stuck, O.of_ok, O.of_err, O.of_stuck, O.thn_nx, O.thn_rt, O.thn_bk, O.thn_ct, O.thn_err, O.thn_rto, O.lp_nx, O.lp_ct, O.lp_bk, O.lp_rt, O.lp_rto, O.lp_err, fin_nx, fin_rt, fin_err, asB_b, o_add, o_addI, o_sub, o_neg, o_lt, o_le, o_gt, o_ge, o_eqI, o_neI, o_eqS, o_neS, o_inS, o_lenL, o_lenT, o_int, o_itS, o_itL, o_itT, o_truL, o_truB, o_truI, List.set_cons_zero, List.set_cons_succ, List.length_cons, List.length_nil, if_true, if_false, Bool.not_true, Bool.not_false, Bool.false_eq_true, Option.isSome_some, Option.isSome_none, Nat.reduceAdd, Nat.zero_add, decide_true, decide_false, e_gT, e_gsC, e_gsN, e_callR0, e_callN, Nat.reduceEqDiff, lit_0, lit_1, lit_2, lit_3, lit_4, lit_5, lit_6, lit_7, lit_8, lit_9, lit_10, lit_11, lit_12, cl_0, cl_1, cl_2, cl_3, cl_4, cl_5, cl_6, cl_7]
    refine ⟨fun _ => ck (by omega) ?_, fun _ => ?_⟩
    · have lc2 : ∀ ρ : En, ρ = [some (.sh A0), some (.sh (.int (n : Int))), some (.sh (PV (n : Int) rs)), some (.sh (.int m)), some (.sh (.tuple (vs.map fun v => PyData.int (v - 3)))), none, none, none, none, none, none, none] → lcLoop (gN 11) mYes ce_law_2 ρ (vs.map fun v => PyData.int (v - 3)) = .ok (vs.map fun v => .int (if 1 < v - 3 then 0 - (v - 3) else 0)) := by
        rintro ρ rfl
        refine lc_mapM fun v hv' => ?_
        have := hv v hv'
        unfold ce_law_2
        by_cases h : 1 < v - 3
        · have i1 : dInt1 [.bool true] = .ok (.int 1) := rfl
          simp -implicitDefEqProofs only [e_callR, e_callX, e_isX, e_xf, e_sNext, e_sApp, e_sPop, e_sRev, e_sRetOwn, e_sExt, e_sGive, e_sSetIx, e_hdl, hdl_nil, e_hdlAs, ownAt_own, rndAt_rnd, excAt_exc, someD_some, caseB_t, caseB_f, intD_int, clean_nil, clean_sh, clean_no, clean_own, List.getElem?_cons_zero, List.getElem?_cons_succ, decide_eq_true_eq, Bool.not_eq_true', List.length_append, Option.getD_some, ixT0, ixT1, ixT2, ixT3, ixL0, ixL1, ixL2, ixL3, o_isB, o_isL, o_isT, o_isI, o_isS, o_niPM, o_niPL, o_max2, o_min2, o_abs, o_tupL, o_tupT, o_lofL, o_lofT, e_aListOf, e_aRep, sizeLine_eq, decide_eq_false_iff_not, Classical.not_not, Nat.reduceLeDiff, Nat.zero_le, Int.reduceLE, Int.reduceLT, Int.reduceEq, Nat.reduceLT, List.nil_append, List.cons_append, cst0, cst1, cst2, cst3, cst4, cst5, cst6, cst7, cst8, cst9, cst10, cst11, cst12, o_eqB, o_neB, reduceCtorEq, Bool.true_eq_false, e_iEnumS, e_iZipS, o_enum, o_zipL, o_zipT, e_sRaise1, e_sPar, e_sPar3, e_gTL, o_isBB, o_notBB, e_iEnumA, o_enumL, o_enumT, e_mB, ok_strD, ok_listD, e_iZipM, o_zipLL, o_zipTT, o_zipTL, o_zipLT, e_sCons, e_sNil, e_sBreak, e_sCont, e_sRet, e_sRetN, e_sExpr, e_sIf, e_sAsg, e_sOwn, e_sFrz, e_sRaise, e_sFor, e_loop_nil, e_mC, e_m1, e_m2, e_mF, e_mCall, e_mM1, e_aNil, e_aCons, e_aLst, e_mTup, e_mLst, e_mN, e_mT, e_mTru, e_mAndT, e_mOrT, e_mNotT, e_mAnd, e_mOr, e_mNot, e_mIf, e_mChain, e_iSeq, e_iRange1, e_iRange2, e_oNone, e_oSome, e_mSl, e_mYes, e_mLc, e_gN, v0, vS, p0, p0o, pS, f0, f0s, f0n, fS, R.bind_ok, R.bind_err, R.bind_stuck, R.quiet_ok, R.sure_ok, R.sure_err, R.sure_stuck, O.of_ok, O.of_err, O.of_stuck, O.thn_nx, O.thn_rt, O.thn_bk, O.thn_ct, O.thn_err, O.thn_rto, O.lp_nx, O.lp_ct, O.lp_bk, O.lp_rt, O.lp_rto, O.lp_err, fin_nx, fin_rt, fin_err, asB_b, o_add, o_addI, o_sub, o_neg, o_lt, o_le, o_gt, o_ge, o_eqI, o_neI, o_eqS, o_neS, o_inS, o_lenL, o_lenT, o_int, o_itS, o_itL, o_itT, o_truL, o_truB, o_truI, List.set_cons_zero, List.set_cons_succ, List.length_cons, List.length_nil, if_true, if_false, Bool.not_true, Bool.not_false, Bool.false_eq_true, Option.isSome_some, Option.isSome_none, Nat.reduceAdd, Nat.zero_add, decide_true, decide_false, e_gT, e_gsC, e_gsN, e_callR0, e_callN, Nat.reduceEqDiff, lit_0, lit_1, lit_2, lit_3, lit_4, lit_5, lit_6, lit_7, lit_8, lit_9, lit_10, lit_11, lit_12, cl_0, cl_1, cl_2, cl_3, cl_4, cl_5, cl_6, cl_7, decide_eq_true h, i1, o_mulS (a := v - 3) (b := 1) (by omega) (by decide), if_pos h, Int.mul_one]
        · have i0 : dInt1 [.bool false] = .ok (.int 0) := rfl
          simp -implicitDefEqProofs only [e_callR, e_callX, e_isX, e_xf, e_sNext, e_sApp, e_sPop, e_sRev, e_sRetOwn, e_sExt, e_sGive, e_sSetIx, e_hdl, hdl_nil, e_hdlAs, ownAt_own, rndAt_rnd, excAt_exc, someD_some, caseB_t, caseB_f, intD_int, clean_nil, clean_sh, clean_no, clean_own, List.getElem?_cons_zero, List.getElem?_cons_succ, decide_eq_true_eq, Bool.not_eq_true', List.length_append, Option.getD_some, ixT0, ixT1, ixT2, ixT3, ixL0, ixL1, ixL2, ixL3, o_isB, o_isL, o_isT, o_isI, o_isS, o_niPM, o_niPL, o_max2, o_min2, o_abs, o_tupL, o_tupT, o_lofL, o_lofT, e_aListOf, e_aRep, sizeLine_eq, decide_eq_false_iff_not, Classical.not_not, Nat.reduceLeDiff, Nat.zero_le, Int.reduceLE, Int.reduceLT, Int.reduceEq, Nat.reduceLT, List.nil_append, List.cons_append, cst0, cst1, cst2, cst3, cst4, cst5, cst6, cst7, cst8, cst9, cst10, cst11, cst12, o_eqB, o_neB, reduceCtorEq, Bool.true_eq_false, e_iEnumS, e_iZipS, o_enum, o_zipL, o_zipT, e_sRaise1, e_sPar, e_sPar3, e_gTL, o_isBB, o_notBB, e_iEnumA, o_enumL, o_enumT, e_mB, ok_strD, ok_listD, e_iZipM, o_zipLL, o_zipTT, o_zipTL, o_zipLT, e_sCons, e_sNil, e_sBreak, e_sCont, e_sRet, e_sRetN, e_sExpr, e_sIf, e_sAsg, e_sOwn, e_sFrz, e_sRaise, e_sFor, e_loop_nil, e_mC, e_m1, e_m2, e_mF, e_mCall, e_mM1, e_aNil, e_aCons, e_aLst, e_mTup, e_mLst, e_mN, e_mT, e_mTru, e_mAndT, e_mOrT, e_mNotT, e_mAnd, e_mOr, e_mNot, e_mIf, e_mChain, e_iSeq, e_iRange1, e_iRange2, e_oNone, e_oSome, e_mSl, e_mYes, e_mLc, e_gN, v0, vS, p0, p0o, pS, f0, f0s, f0n, fS, R.bind_ok, R.bind_err, R.bind_stuck, R.quiet_ok, R.sure_ok, R.sure_err, R.sure_stuck, O.of_ok, O.of_err, O.of_stuck, O.thn_nx, O.thn_rt, O.thn_bk, O.thn_ct, O.thn_err, O.thn_rto, O.lp_nx, O.lp_ct, O.lp_bk, O.lp_rt, O.lp_rto, O.lp_err, fin_nx, fin_rt, fin_err, asB_b, o_add, o_addI, o_sub, o_neg, o_lt, o_le, o_gt, o_ge, o_eqI, o_neI, o_eqS, o_neS, o_inS, o_lenL, o_lenT, o_int, o_itS, o_itL, o_itT, o_truL, o_truB, o_truI, List.set_cons_zero, List.set_cons_succ, List.length_cons, List.length_nil, if_true, if_false, Bool.not_true, Bool.not_false, Bool.false_eq_true, Option.isSome_some, Option.isSome_none, Nat.reduceAdd, Nat.zero_add, decide_true, decide_false, e_gT, e_gsC, e_gsN, e_callR0, e_callN, Nat.reduceEqDiff, lit_0, lit_1, lit_2, lit_3, lit_4, lit_5, lit_6, lit_7, lit_8, lit_9, lit_10, lit_11, lit_12, cl_0, cl_1, cl_2, cl_3, cl_4, cl_5, cl_6, cl_7, decide_eq_false h, i0, o_mulS (a := v - 3) (b := 0) (by omega) (by decide), if_neg h, Int.mul_zero]
          rfl
      rw [lc2 _ rfl]
      simp -implicitDefEqProofs only [RP_ok, RP_err, RP_stuck, RP_bind, RP_quiet, RP_sure, RP_ite, RP_fin, RP_finN, OP_nx, OP_rt, OP_rto, OP_bk, OP_ct, OP_err, OP_stuck, OP_of, OP_thn, OP_lp, OP_ite, OP_tryN, OP_tryAs, OP_endS, OP_endI, true_implies, false_implies, not_true_eq_false, not_false_eq_true, and_true, true_and, implies_true, wipe_nil, wipe_cons, List.length_map, e_callR, e_callX, e_isX, e_xf, e_sNext, e_sApp, e_sPop, e_sRev, e_sRetOwn, e_sExt, e_sGive, e_sSetIx, e_hdl, hdl_nil, e_hdlAs, ownAt_own, rndAt_rnd, excAt_exc, someD_some, caseB_t, caseB_f, intD_int, clean_nil, clean_sh, clean_no, clean_own, List.getElem?_cons_zero, List.getElem?_cons_succ, decide_eq_true_eq, Bool.not_eq_true', List.length_append, Option.getD_some, ixT0, ixT1, ixT2, ixT3, ixL0, ixL1, ixL2, ixL3, o_isB, o_isL, o_isT, o_isI, o_isS, o_niPM, o_niPL, o_max2, o_min2, o_abs, o_tupL, o_tupT, o_lofL, o_lofT, e_aListOf, e_aRep, sizeLine_eq, decide_eq_false_iff_not, Classical.not_not, Nat.reduceLeDiff, Nat.zero_le, Int.reduceLE, Int.reduceLT, Int.reduceEq, Nat.reduceLT, List.nil_append, List.cons_append, cst0, cst1, cst2, cst3, cst4, cst5, cst6, cst7, cst8, cst9, cst10, cst11, cst12, o_eqB, o_neB, reduceCtorEq, Bool.true_eq_false, e_iEnumS, e_iZipS, o_enum, o_zipL, o_zipT, e_sRaise1, e_sPar, e_sPar3, e_gTL, o_isBB, o_notBB, e_iEnumA, o_enumL, o_enumT, e_mB, ok_strD, ok_listD, e_iZipM, o_zipLL, o_zipTT, o_zipTL, o_zipLT, e_sCons, e_sNil, e_sBreak, e_sCont, e_sRet, e_sRetN, e_sExpr, e_sIf, e_sAsg, e_sOwn, e_sFrz, e_sRaise, e_sFor, e_loop_nil, e_mC, e_m1, e_m2, e_mF, e_mCall, e_mM1, e_aNil, e_aCons, e_aLst, e_mTup, e_mLst, e_mN, e_mT, e_mTru, e_mAndT, e_mOrT, e_mNotT, e_mAnd, e_mOr, e_mNot, e_mIf, e_mChain, e_iSeq, e_iRange1, e_iRange2, e_oNone, e_oSome, e_mSl, e_mYes, e_mLc, e_gN, v0, vS, p0, p0o, pS, f0, f0s, f0n, fS, R.bind_ok, R.bind_err, R.bind_stuck, R.quiet_ok, R.sure_ok, R.sure_err, R.sure_stuck, O.of_ok, O.of_err, O.of_stuck, O.thn_nx, O.thn_rt, O.thn_bk, O.thn_ct, O.thn_err, O.thn_rto, O.lp_nx, O.lp_ct, O.lp_bk, O.lp_rt, O.lp_rto, O.lp_err, fin_nx, fin_rt, fin_err, asB_b, o_add, o_addI, o_sub, o_neg, o_lt, o_le, o_gt, o_ge, o_eqI, o_neI, o_eqS, o_neS, o_inS, o_lenL, o_lenT, o_int, o_itS, o_itL, o_itT, o_truL, o_truB, o_truI, List.set_cons_zero, List.set_cons_succ, List.length_cons, List.length_nil, if_true, if_false, Bool.not_true, Bool.not_false, Bool.false_eq_true, Option.isSome_some, Option.isSome_none, Nat.reduceAdd, Nat.zero_add, decide_true, decide_false, e_gT, e_gsC, e_gsN, e_callR0, e_callN, Nat.reduceEqDiff, lit_0, lit_1, lit_2, lit_3, lit_4, lit_5, lit_6, lit_7, lit_8, lit_9, lit_10, lit_11, lit_12, cl_0, cl_1, cl_2, cl_3, cl_4, cl_5, cl_6, cl_7]
      have := rest m (vs.map fun v => if 1 < v - 3 then 0 - (v - 3) else 0) hm0 hm1 (by rw [List.length_map, hvl]) (fun x hx => by
        obtain ⟨v, hv', rfl⟩ := List.mem_map.mp hx
        have := hv v hv'
        split <;> omega)
      rw [List.map_map] at this
      exact this
    · have := rest m (vs.map fun v => v - 3) hm0 hm1 (by rw [List.length_map, hvl]) (fun x hx => by
        obtain ⟨v, hv', rfl⟩ := List.mem_map.mp hx
        have := hv v hv'; omega)
      rw [List.map_map] at this
      exact this
  simp -implicitDefEqProofs only [RP_ok, RP_err, RP_stuck, RP_bind, RP_quiet, RP_sure, RP_ite, RP_fin, RP_finN, OP_nx, OP_rt, OP_rto, OP_bk, OP_ct, OP_err, OP_stuck, OP_of, OP_thn, OP_lp, OP_ite, OP_tryN, OP_tryAs, OP_endS, OP_endI, true_implies, false_implies, not_true_eq_false, not_false_eq_true, and_true, true_and, implies_true, wipe_nil, wipe_cons, List.length_map, e_callR, e_callX, e_isX, e_xf, e_sNext, e_sApp, e_sPop, e_sRev, e_sRetOwn, e_sExt, e_sGive, e_sSetIx, e_hdl, hdl_nil, e_hdlAs, ownAt_own, rndAt_rnd, excAt_exc, someD_some, caseB_t, caseB_f, intD_int, clean_nil, clean_sh, clean_no, clean_own, List.getElem?_cons_zero, List.getElem?_cons_succ, decide_eq_true_eq, Bool.not_eq_true', List.length_append, Option.getD_some, ixT0, ixT1, ixT2, ixT3, ixL0, ixL1, ixL2, ixL3, o_isB, o_isL, o_isT, o_isI, o_isS, o_niPM, o_niPL, o_max2, o_min2, o_abs, o_tupL, o_tupT, o_lofL, o_lofT, e_aListOf, e_aRep, sizeLine_eq, decide_eq_false_iff_not, Classical.not_not, Nat.reduceLeDiff, Nat.zero_le, Int.reduceLE, Int.reduceLT, Int.reduceEq, Nat.reduceLT, List.nil_append, List.cons_append, cst0, cst1, cst2, cst3, cst4, cst5, cst6, cst7, cst8, cst9, cst10, cst11, cst12, o_eqB, o_neB, reduceCtorEq, Bool.true_eq_false, e_iEnumS, e_iZipS, o_enum, o_zipL, o_zipT, e_sRaise1, e_sPar, e_sPar3, e_gTL, o_isBB, o_notBB, e_iEnumA, o_enumL, o_enumT, e_mB, ok_strD, ok_listD, e_iZipM, o_zipLL, o_zipTT, o_zipTL, o_zipLT, e_sCons, e_sNil, e_sBreak, e_sCont, e_sRet, e_sRetN, e_sExpr, e_sIf, e_sAsg, e_sOwn, e_sFrz, e_sRaise, e_sFor, e_loop_nil, e_mC, e_m1, e_m2, e_mF, e_mCall, e_mM1, e_aNil, e_aCons, e_aLst, e_mTup, e_mLst, e_mN, e_mT, e_mTru, e_mAndT, e_mOrT, e_mNotT, e_mAnd, e_mOr, e_mNot, e_mIf, e_mChain, e_iSeq, e_iRange1, e_iRange2, e_oNone, e_oSome, e_mSl, e_mYes, e_mLc, e_gN, v0, vS, p0, p0o, pS, f0, f0s, f0n, fS, R.bind_ok, R.bind_err, R.bind_stuck, R.quiet_ok, R.sure_ok, R.sure_err, R.sure_stuck, O.of_ok, O.of_err, O.of_stuck, O.thn_nx, O.thn_rt, O.thn_bk, O.thn_ct, O.thn_err, O.thn_rto, O.lp_nx, O.lp_ct, O.lp_bk, O.lp_rt, O.lp_rto, O.lp_err, fin_nx, fin_rt, fin_err, asB_b, o_add, o_addI, o_sub, o_neg, o_lt, o_le, o_gt, o_ge, o_eqI, o_neI, o_eqS, o_neS, o_inS, o_lenL, o_lenT, o_int, o_itS, o_itL, o_itT, o_truL, o_truB, o_truI, List.set_cons_zero, List.set_cons_succ, List.length_cons, List.length_nil, if_true, if_false, Bool.not_true, Bool.not_false, Bool.false_eq_true, Option.isSome_some, Option.isSome_none, Nat.reduceAdd, Nat.zero_add, decide_true, decide_false, e_gT, e_gsC, e_gsN, e_callR0, e_callN, Nat.reduceEqDiff, lit_0, lit_1, lit_2, lit_3, lit_4, lit_5, lit_6, lit_7, lit_8, lit_9, lit_10, lit_11, lit_12, cl_0, cl_1, cl_2, cl_3, cl_4, cl_5, cl_6, cl_7] at rest2
  unfold st_law_3 st_law_4
  simp -implicitDefEqProofs only [RP_ok, RP_err, RP_stuck, RP_bind, RP_quiet, RP_sure, RP_ite, RP_fin, RP_finN, OP_nx, OP_rt, OP_rto, OP_bk, OP_ct, OP_err, OP_stuck, OP_of, OP_thn, OP_lp, OP_ite, OP_tryN, OP_tryAs, OP_endS, OP_endI, true_implies, false_implies, not_true_eq_false, not_false_eq_true, and_true, true_and, implies_true, wipe_nil, wipe_cons, List.length_map, e_callR, e_callX, e_isX, e_xf, e_sNext, e_sApp, e_sPop, e_sRev, e_sRetOwn, e_sExt, e_sGive, e_sSetIx, e_hdl, hdl_nil, e_hdlAs, ownAt_own, rndAt_rnd, excAt_exc, someD_some, caseB_t, caseB_f, intD_int, clean_nil, clean_sh, clean_no, clean_own, List.getElem?_cons_zero, List.getElem?_cons_succ, decide_eq_true_eq, Bool.not_eq_true', List.length_append, Option.getD_some, ixT0, ixT1, ixT2, ixT3, ixL0, ixL1, ixL2, ixL3, o_isB, o_isL, o_isT, o_isI, o_isS, o_niPM, o_niPL, o_max2, o_min2, o_abs, o_tupL, o_tupT, o_lofL, o_lofT, e_aListOf, e_aRep, sizeLine_eq, decide_eq_false_iff_not, Classical.not_not, Nat.reduceLeDiff, Nat.zero_le, Int.reduceLE, Int.reduceLT, Int.reduceEq, Nat.reduceLT, List.nil_append, List.cons_append, cst0, cst1, cst2, cst3, cst4, cst5, cst6, cst7, cst8, cst9, cst10, cst11, cst12, o_eqB, o_neB, reduceCtorEq, Bool.true_eq_false, e_iEnumS, e_iZipS, o_enum, o_zipL, o_zipT, e_sRaise1, e_sPar, e_sPar3, e_gTL, o_isBB, o_notBB, e_iEnumA, o_enumL, o_enumT, e_mB, ok_strD, ok_listD, e_iZipM, o_zipLL, o_zipTT, o_zipTL, o_zipLT, e_sCons, e_sNil, e_sBreak, e_sCont, e_sRet, e_sRetN, e_sExpr, e_sIf, e_sAsg, e_sOwn, e_sFrz, e_sRaise, e_sFor, e_loop_nil, e_mC, e_m1, e_m2, e_mF, e_mCall, e_mM1, e_aNil, e_aCons, e_aLst, e_mTup, e_mLst, e_mN, e_mT, e_mTru, e_mAndT, e_mOrT, e_mNotT, e_mAnd, e_mOr, e_mNot, e_mIf, e_mChain, e_iSeq, e_iRange1, e_iRange2, e_oNone, e_oSome, e_mSl, e_mYes, e_mLc, e_gN, v0, vS, p0, p0o, pS, f0, f0s, f0n, fS, R.bind_ok, R.bind_err, R.bind_stuck, R.quiet_ok, R.sure_ok, R.sure_err, R.sure_stuck, O.of_ok, O.of_err, O.of_stuck, O.thn_nx, O.thn_rt, O.thn_bk, O.thn_ct, O.thn_err, O.thn_rto, O.lp_nx, O.lp_ct, O.lp_bk, O.lp_rt, O.lp_rto, O.lp_err, fin_nx, fin_rt, fin_err, asB_b, o_add, o_addI, o_sub, o_neg, o_lt, o_le, o_gt, o_ge, o_eqI, o_neI, o_eqS, o_neS, o_inS, o_lenL, o_lenT, o_int, o_itS, o_itL, o_itT, o_truL, o_truB, o_truI, List.set_cons_zero, List.set_cons_succ, List.length_cons, List.length_nil, if_true, if_false, Bool.not_true, Bool.not_false, Bool.false_eq_true, Option.isSome_some, Option.isSome_none, Nat.reduceAdd, Nat.zero_add, decide_true, decide_false, e_gT, e_gsC, e_gsN, e_callR0, e_callN, Nat.reduceEqDiff, lit_0, lit_1, lit_2, lit_3, lit_4, lit_5, lit_6, lit_7, lit_8, lit_9, lit_10, lit_11, lit_12, cl_0, cl_1, cl_2, cl_3, cl_4, cl_5, cl_6, cl_7, c3, o_mod (show (0 : Int) < 7 by decide)]
  have := m_nn (z := z3) (show (0 : Int) < 7 by decide)
  exact ⟨fun _ => rest2 7 (by decide) (by decide), fun h => rest2 _ (by omega) h⟩

end Law
end
end
section
set_option Elab.async false
set_option linter.all false
set_option maxRecDepth 100000
set_option autoImplicit false
set_option maxHeartbeats 8000000
noncomputable section
namespace Law
open PySem PySem.Spec PyProof.Rows L2 DW
open SX (S S_tl S_len S_cat)
def topS (i : Nat) : Stmt := PySem.Challenge.pw_cayleywalk_k25_weights_that_fit.main.body.getD i (.Pass ⟨0, 0, 0, 0⟩)
abbrev s__law_values : Stmt := topS 27
theorem sc__law_values : FnScope ["cell", "count", "size", "values", "rest", "k", "mixed"] ["cell", "count", "size"] (defScope s__law_values) := ⟨rfl, rfl, rfl, by decide +kernel, rfl, by decide +kernel, by decide +kernel⟩
theorem ok__law_values {P : Program} {w : World} {K : PySem.W.Frag} {mg : Str → Option Value} {base : Heap} (F : FD K mg "_law_values" s__law_values)
    (n_range : mg "range" = none)
    (n_int : mg "int" = none) :
    Def P w K mg base "_law_values" ["cell", "count", "size"] 1 m__law_values := by
  refine mk_def F sc__law_values (by decide) (fun _ _ _ _ _ _ us hl => match us, hl with | [_, _, _], _ => rfl) fun f cdv A outer s H E hr => ?_
  have tkD := takes_of (X := cxOf (L2.CX P w) P w K mg base ["cell", "count", "size", "values", "rest", "k", "mixed"] "_law_values" (defScope s__law_values) f cdv A outer s H E) (E := E) rfl rfl rfl rfl
  have howD : PassesOwn (model P w) (A.deeper (envOfC "_law_values" (defScope s__law_values) s.heap.objs.size f cdv)) (envOfC "_law_values" (defScope s__law_values) s.heap.objs.size f cdv) (cxOf (L2.CX P w) P w K mg base ["cell", "count", "size", "values", "rest", "k", "mixed"] "_law_values" (defScope s__law_values) f cdv A outer s H E).xe := PassesOwn.leaving
  exact ⟨_, (bss_cons (bs_setOwn 3 (bn_lst ba_nil) sc__law_values.nd rfl (by first | exact .inl rfl | exact .inr rfl))
  (bss_cons (bs_set 4 (be_var 0 (pv 0)) sc__law_values.nd rfl (by first | exact .inl rfl | exact .inr rfl))
  (bss_cons (bs_for howD rfl (bi_range1 (by rfl) n_range (ba_cons (be_varP 1 (pv 1)) ba_nil)) (bg_name 5 (pg_name (i := 5) sc__law_values.nd rfl (by first | exact .inl rfl | exact .inr rfl))) (bss_one (bs_if (bt_cmp (md := false) dGe (op_geA hr.units) op2_ge (be_varP 4 (pv 4)) (BE.p (be_op (md := false) dPow op_pow op2_pow be_int be_int)) (nomark _)) (bss_cons (bs_appS (i := 3) (be_op (md := false) dMod op_mod op2_mod (BE.p (be_callTy (md := false) dInt1 call_int1 fn_int1 (by rfl) n_int (by decide +kernel) (ba_cons (be_varP 4 (pv 4)) ba_nil))) (be_varP 2 (pv 2))) (pv 3))
  (bss_one (bs_set 4 (be_op (md := false) dFdiv op_fdivW op2_fdiv (be_varP 4 (pv 4)) (be_varP 2 (pv 2))) sc__law_values.nd rfl (by first | exact .inl rfl | exact .inr rfl)))) (bss_cons (bs_set 6 (be_op (md := false) dMod op_mod op2_mod (BE.p (be_op (md := true) dAdd op_addA op2_add (be_op (md := true) dAdd op_addA op2_add (be_op (md := true) dMul op_mulA op2_mul (be_op (md := false) dMod op_mod op2_mod (BE.p (be_callTy (md := false) dInt1 call_int1 fn_int1 (by rfl) n_int (by decide +kernel) (ba_cons (be_varP 0 (pv 0)) ba_nil))) be_int) be_int) (be_op (md := true) dMul op_mulA op2_mul (be_var 5 (pv 5)) be_int)) be_int)) be_int) sc__law_values.nd rfl (by first | exact .inl rfl | exact .inr rfl))
  (bss_one (bs_appS (i := 3) (be_op (md := false) dMod op_mod op2_mod (BE.p (be_op (md := false) dMod op_mod op2_mod (BE.p (be_op (md := true) dMul op_mulA op2_mul (be_var 6 (pv 6)) be_int)) be_int)) (be_varP 2 (pv 2))) (pv 3)))))))
  (bss_one (bs_frz 3 (bs_ret (be_var 3 (pv 3))))))))⟩
abbrev s__law_presentation : Stmt := topS 30
theorem sc__law_presentation : FnScope ["cell", "second", "g", "values", "relators", "k", "letters", "value"] ["cell", "second", "g"] (defScope s__law_presentation) := ⟨rfl, rfl, rfl, by decide +kernel, rfl, by decide +kernel, by decide +kernel⟩
theorem ok__law_presentation {P : Program} {w : World} {K : PySem.W.Frag} {mg : Str → Option Value} {base : Heap} (F : FD K mg "_law_presentation" s__law_presentation)
    (d__law_values : Def P w K mg base "_law_values" ["cell", "count", "size"] 1 m__law_values)
    (n_range : mg "range" = none)
    (n_tuple : mg "tuple" = none) :
    Def P w K mg base "_law_presentation" ["cell", "second", "g"] 2 m__law_presentation := by
  refine mk_def F sc__law_presentation (by decide) (fun _ _ _ _ _ _ us hl => match us, hl with | [_, _, _], _ => rfl) fun f cdv A outer s H E hr => ?_
  have tkD := takes_of (X := cxOf (L2.CX P w) P w K mg base ["cell", "second", "g", "values", "relators", "k", "letters", "value"] "_law_presentation" (defScope s__law_presentation) f cdv A outer s H E) (E := E) rfl rfl rfl rfl
  have howD : PassesOwn (model P w) (A.deeper (envOfC "_law_presentation" (defScope s__law_presentation) s.heap.objs.size f cdv)) (envOfC "_law_presentation" (defScope s__law_presentation) s.heap.objs.size f cdv) (cxOf (L2.CX P w) P w K mg base ["cell", "second", "g", "values", "relators", "k", "letters", "value"] "_law_presentation" (defScope s__law_presentation) f cdv A outer s H E).xe := PassesOwn.leaving
  exact ⟨_, (bss_cons (bs_set 3 (be_call d__law_values hr (by decide) (by rfl) tkD (ba_cons (be_var 0 (pv 0)) (ba_cons be_int (ba_cons be_int ba_nil)))) sc__law_presentation.nd rfl (by first | exact .inl rfl | exact .inr rfl))
  (bss_cons (bs_setOwn 4 (bn_lst ba_nil) sc__law_presentation.nd rfl (by first | exact .inl rfl | exact .inr rfl))
  (bss_cons (bs_for howD rfl (bi_range1 (by rfl) n_range (ba_cons (BE.p (be_op (md := false) dMod op_mod op2_mod (be_varP 1 (pv 1)) be_int)) ba_nil)) (bg_name 5 (pg_name (i := 5) sc__law_presentation.nd rfl (by first | exact .inl rfl | exact .inr rfl))) (bss_cons (bs_set 6 (be_slV (pv 3) (bo_some (BE.p (be_op (md := true) dAdd op_addA op2_add (be_op (md := true) dMul op_mulA op2_mul be_int (be_var 5 (pv 5))) be_int))) (bo_some (BE.p (be_op (md := true) dAdd op_addA op2_add (be_op (md := true) dAdd op_addA op2_add (be_op (md := true) dMul op_mulA op2_mul be_int (be_var 5 (pv 5))) be_int) (be_op (md := false) dMod op_mod op2_mod (BE.p (be_ixV (pv 3) (BE.p (be_op (md := true) dMul op_mulA op2_mul be_int (be_var 5 (pv 5)))) (fun _ _ => rfl))) be_int))))) sc__law_presentation.nd rfl (by first | exact .inl rfl | exact .inr rfl))
  (bss_one (bs_appS (i := 4) (be_join0S (be_n (bn_lc (own := [("value", 7)]) rfl sc__law_presentation.nd (bi_seq (be_var 6 (pv 6))) (blkOk_by (N := ["cell", "second", "g", "values", "relators", "k", "letters", "value"]) (sc := defScope s__law_presentation) (by decide +kernel)) (by decide) (fun _ _ _ _ _ => ⟨_, (bg_name 7 (pg_name (i := 7) sc__law_presentation.nd rfl (by first | exact .inl rfl | exact .inr rfl)))⟩) (fun _ _ _ _ _ => ⟨_, bts_nil⟩) (fun _ _ _ _ _ => ⟨_, (be_ix be_str (BE.p (be_op (md := false) dMod op_mod op2_mod (be_varP 7 (pv 7)) (BE.p (be_op (md := true) dMul op_mulA op2_mul be_int (be_var 2 (pv 2)))))) (fun _ _ => rfl))⟩)))) (pv 4)))))
  (bss_one (bs_frz 4 (bs_ret (be_tup (ba_cons (be_var 2 (pv 2)) (ba_cons (be_tupleOf (by rfl) n_tuple (be_var 4 (pv 4))) ba_nil)))))))))⟩
abbrev s__law_sums : Stmt := topS 32
theorem sc__law_sums : FnScope ["g", "word", "k"] ["g", "word"] (defScope s__law_sums) := ⟨rfl, rfl, rfl, by decide +kernel, rfl, by decide +kernel, by decide +kernel⟩
theorem ok__law_sums {P : Program} {w : World} {K : PySem.W.Frag} {mg : Str → Option Value} {base : Heap} (F : FD K mg "_law_sums" s__law_sums)
    (n_range : mg "range" = none) :
    Def P w K mg base "_law_sums" ["g", "word"] 1 m__law_sums := by
  refine mk_def F sc__law_sums (by decide) (fun _ _ _ _ _ _ us hl => match us, hl with | [_, _], _ => rfl) fun f cdv A outer s H E hr => ?_
  have tkD := takes_of (X := cxOf (L2.CX P w) P w K mg base ["g", "word", "k"] "_law_sums" (defScope s__law_sums) f cdv A outer s H E) (E := E) rfl rfl rfl rfl
  have howD : PassesOwn (model P w) (A.deeper (envOfC "_law_sums" (defScope s__law_sums) s.heap.objs.size f cdv)) (envOfC "_law_sums" (defScope s__law_sums) s.heap.objs.size f cdv) (cxOf (L2.CX P w) P w K mg base ["g", "word", "k"] "_law_sums" (defScope s__law_sums) f cdv A outer s H E).xe := PassesOwn.leaving
  exact ⟨_, (bss_one (bs_ret (be_n (bn_lc (own := [("k", 2)]) rfl sc__law_sums.nd (bi_range1 (by rfl) n_range (ba_cons (be_varP 0 (pv 0)) ba_nil)) (blkOk_by (N := ["g", "word", "k"]) (sc := defScope s__law_sums) (by decide +kernel)) (by decide) (fun _ _ _ _ _ => ⟨_, (bg_name 2 (pg_name (i := 2) sc__law_sums.nd rfl (by first | exact .inl rfl | exact .inr rfl)))⟩) (fun _ _ _ _ _ => ⟨_, bts_nil⟩) (fun _ _ _ _ _ => ⟨_, (be_op (md := false) dSub op_sub op2_sub (BE.p (be_m1 dCountS PySem.F.slot_str_count PySem.F.type_str_count mt_count mt1_count (be_varP 1 (pv 1)) (BE.p (be_ix be_str (be_varP 2 (pv 2)) (fun _ _ => rfl))))) (BE.p (be_m1 dCountS PySem.F.slot_str_count PySem.F.type_str_count mt_count mt1_count (be_varP 1 (pv 1)) (BE.p (be_ix be_str (BE.p (be_op (md := true) dAdd op_addA op2_add (be_op (md := true) dMul op_mulA op2_mul be_int (be_var 2 (pv 2))) be_int)) (fun _ _ => rfl))))))⟩)))))⟩
abbrev s__law_holds : Stmt := topS 34
theorem sc__law_holds : FnScope ["presentation", "weights", "relator", "sums", "total", "k"] ["presentation", "weights"] (defScope s__law_holds) := ⟨rfl, rfl, rfl, by decide +kernel, rfl, by decide +kernel, by decide +kernel⟩
theorem ok__law_holds {P : Program} {w : World} {K : PySem.W.Frag} {mg : Str → Option Value} {base : Heap} (F : FD K mg "_law_holds" s__law_holds)
    (d__law_sums : Def P w K mg base "_law_sums" ["g", "word"] 1 m__law_sums)
    (n_range : mg "range" = none)
    (n_sum : mg "sum" = none)
    (n_int : mg "int" = none) :
    Def P w K mg base "_law_holds" ["presentation", "weights"] 2 m__law_holds := by
  refine mk_def F sc__law_holds (by decide) (fun _ _ _ _ _ _ us hl => match us, hl with | [_, _], _ => rfl) fun f cdv A outer s H E hr => ?_
  have tkD := takes_of (X := cxOf (L2.CX P w) P w K mg base ["presentation", "weights", "relator", "sums", "total", "k"] "_law_holds" (defScope s__law_holds) f cdv A outer s H E) (E := E) rfl rfl rfl rfl
  have howD : PassesOwn (model P w) (A.deeper (envOfC "_law_holds" (defScope s__law_holds) s.heap.objs.size f cdv)) (envOfC "_law_holds" (defScope s__law_holds) s.heap.objs.size f cdv) (cxOf (L2.CX P w) P w K mg base ["presentation", "weights", "relator", "sums", "total", "k"] "_law_holds" (defScope s__law_holds) f cdv A outer s H E).xe := PassesOwn.leaving
  exact ⟨_, (bss_cons (bs_for howD rfl (bi_seq (be_ixV (pv 0) be_int (fun _ _ => rfl))) (bg_name 2 (pg_name (i := 2) sc__law_holds.nd rfl (by first | exact .inl rfl | exact .inr rfl))) (bss_cons (bs_set 3 (be_call d__law_sums hr (by decide) (by rfl) tkD (ba_cons (be_ixV (pv 0) be_int (fun _ _ => rfl)) (ba_cons (be_var 2 (pv 2)) ba_nil))) sc__law_holds.nd rfl (by first | exact .inl rfl | exact .inr rfl))
  (bss_cons (bs_set 4 (be_callB (md := false) dSum (cr_sum rfl) fn_sum (by rfl) n_sum (by decide +kernel) (ba_cons (BE.p (be_n (bn_lc (own := [("k", 5)]) rfl sc__law_holds.nd (bi_range1 (by rfl) n_range (ba_cons (BE.p (be_ixV (pv 0) be_int (fun _ _ => rfl))) ba_nil)) (blkOk_by (N := ["presentation", "weights", "relator", "sums", "total", "k"]) (sc := defScope s__law_holds) (by decide +kernel)) (by decide) (fun _ _ _ _ _ => ⟨_, (bg_name 5 (pg_name (i := 5) sc__law_holds.nd rfl (by first | exact .inl rfl | exact .inr rfl)))⟩) (fun _ _ _ _ _ => ⟨_, bts_nil⟩) (fun _ _ _ _ _ => ⟨_, (be_op (md := true) dMul op_mulA op2_mul (be_ix (be_ixV (pv 1) be_int (fun _ _ => rfl)) (be_varP 5 (pv 5)) (fun _ _ => rfl)) (be_ixV (pv 3) (be_varP 5 (pv 5)) (fun _ _ => rfl)))⟩)))) ba_nil)) sc__law_holds.nd rfl (by first | exact .inl rfl | exact .inr rfl))
  (bss_one (bs_if (bt_w (bw_or (bt_w (bw_and (bt_cmp (md := false) dEq (op_eqA hr.units) op2_eq (BE.p (be_ixV (pv 1) be_int (fun _ _ => rfl))) be_int (nomark _)) (bw_and1 (bt_cmp (md := false) dNe (op_neA hr.units) op2_ne (be_varP 4 (pv 4)) be_int (nomark _))))) (bw_or1 (bt_w (bw_and (bt_cmp (md := false) dGt (op_gtA hr.units) op2_gt (BE.p (be_ixV (pv 1) be_int (fun _ _ => rfl))) be_int (nomark _)) (bw_and1 (bt_cmp (md := false) dNe (op_neA hr.units) op2_ne (BE.p (be_op (md := false) dMod op_mod op2_mod (BE.p (be_callTy (md := false) dInt1 call_int1 fn_int1 (by rfl) n_int (by decide +kernel) (ba_cons (be_varP 4 (pv 4)) ba_nil))) (BE.p (be_ixV (pv 1) be_int (fun _ _ => rfl))))) be_int (nomark _)))))))) (bss_one (bs_ret be_bool)) bss_nil)))))
  (bss_one (bs_ret be_bool)))⟩
abbrev s__law_word : Stmt := topS 28
theorem sc__law_word : FnScope ["cell", "g", "most", "values", "value"] ["cell", "g", "most"] (defScope s__law_word) := ⟨rfl, rfl, rfl, by decide +kernel, rfl, by decide +kernel, by decide +kernel⟩
theorem ok__law_word {P : Program} {w : World} {K : PySem.W.Frag} {mg : Str → Option Value} {base : Heap} (F : FD K mg "_law_word" s__law_word)
    (d__law_values : Def P w K mg base "_law_values" ["cell", "count", "size"] 1 m__law_values) :
    Def P w K mg base "_law_word" ["cell", "g", "most"] 2 m__law_word := by
  refine mk_def F sc__law_word (by decide) (fun _ _ _ _ _ _ us hl => match us, hl with | [_, _, _], _ => rfl) fun f cdv A outer s H E hr => ?_
  have tkD := takes_of (X := cxOf (L2.CX P w) P w K mg base ["cell", "g", "most", "values", "value"] "_law_word" (defScope s__law_word) f cdv A outer s H E) (E := E) rfl rfl rfl rfl
  have howD : PassesOwn (model P w) (A.deeper (envOfC "_law_word" (defScope s__law_word) s.heap.objs.size f cdv)) (envOfC "_law_word" (defScope s__law_word) s.heap.objs.size f cdv) (cxOf (L2.CX P w) P w K mg base ["cell", "g", "most", "values", "value"] "_law_word" (defScope s__law_word) f cdv A outer s H E).xe := PassesOwn.leaving
  exact ⟨_, (bss_cons (bs_set 3 (be_call d__law_values hr (by decide) (by rfl) tkD (ba_cons (be_var 0 (pv 0)) (ba_cons (be_op (md := true) dAdd op_addA op2_add (be_var 2 (pv 2)) be_int) (ba_cons be_int ba_nil)))) sc__law_word.nd rfl (by first | exact .inl rfl | exact .inr rfl))
  (bss_one (bs_ret (be_join0S (be_n (bn_lc (own := [("value", 4)]) rfl sc__law_word.nd (bi_seq (be_slV (pv 3) (bo_some be_int) (bo_some (BE.p (be_op (md := true) dAdd op_addA op2_add be_int (be_op (md := false) dMod op_mod op2_mod (BE.p (be_ixV (pv 3) be_int (fun _ _ => rfl))) (BE.p (be_op (md := true) dAdd op_addA op2_add (be_var 2 (pv 2)) be_int)))))))) (blkOk_by (N := ["cell", "g", "most", "values", "value"]) (sc := defScope s__law_word) (by decide +kernel)) (by decide) (fun _ _ _ _ _ => ⟨_, (bg_name 4 (pg_name (i := 4) sc__law_word.nd rfl (by first | exact .inl rfl | exact .inr rfl)))⟩) (fun _ _ _ _ _ => ⟨_, bts_nil⟩) (fun _ _ _ _ _ => ⟨_, (be_ix be_str (BE.p (be_op (md := false) dMod op_mod op2_mod (be_varP 4 (pv 4)) (BE.p (be_op (md := true) dMul op_mulA op2_mul be_int (be_var 1 (pv 1)))))) (fun _ _ => rfl))⟩)))))))⟩
abbrev s__law_inverse : Stmt := topS 29
theorem sc__law_inverse : FnScope ["word", "letter"] ["word"] (defScope s__law_inverse) := ⟨rfl, rfl, rfl, by decide +kernel, rfl, by decide +kernel, by decide +kernel⟩
theorem ok__law_inverse {P : Program} {w : World} {K : PySem.W.Frag} {mg : Str → Option Value} {base : Heap} (F : FD K mg "_law_inverse" s__law_inverse) :
    Def P w K mg base "_law_inverse" ["word"] 1 m__law_inverse := by
  refine mk_def F sc__law_inverse (by decide) (fun _ _ _ _ _ _ us hl => match us, hl with | [_], _ => rfl) fun f cdv A outer s H E hr => ?_
  have tkD := takes_of (X := cxOf (L2.CX P w) P w K mg base ["word", "letter"] "_law_inverse" (defScope s__law_inverse) f cdv A outer s H E) (E := E) rfl rfl rfl rfl
  have howD : PassesOwn (model P w) (A.deeper (envOfC "_law_inverse" (defScope s__law_inverse) s.heap.objs.size f cdv)) (envOfC "_law_inverse" (defScope s__law_inverse) s.heap.objs.size f cdv) (cxOf (L2.CX P w) P w K mg base ["word", "letter"] "_law_inverse" (defScope s__law_inverse) f cdv A outer s H E).xe := PassesOwn.leaving
  exact ⟨_, (bss_one (bs_ret (be_join0S (be_n (bn_lc (own := [("letter", 1)]) rfl sc__law_inverse.nd (bi_seq (be_rev (be_var 0 (pv 0)))) (blkOk_by (N := ["word", "letter"]) (sc := defScope s__law_inverse) (by decide +kernel)) (by decide) (fun _ _ _ _ _ => ⟨_, (bg_name 1 (pg_name (i := 1) sc__law_inverse.nd rfl (by first | exact .inl rfl | exact .inr rfl)))⟩) (fun _ _ _ _ _ => ⟨_, bts_nil⟩) (fun _ _ _ _ _ => ⟨_, (be_ix be_str (BE.p (be_m1 dIndexS PySem.F.slot_str_index PySem.F.type_str_index mt_sindex mt1_index be_str (be_varP 1 (pv 1)))) (fun _ _ => rfl))⟩))))))⟩
abbrev s__law_moved : Stmt := topS 31
theorem sc__law_moved : FnScope ["word", "presentation", "g", "cell", "values", "k", "kind", "at", "letter", "piece"] ["word", "presentation", "g", "cell"] (defScope s__law_moved) := ⟨rfl, rfl, rfl, by decide +kernel, rfl, by decide +kernel, by decide +kernel⟩
theorem ok__law_moved {P : Program} {w : World} {K : PySem.W.Frag} {mg : Str → Option Value} {base : Heap} (F : FD K mg "_law_moved" s__law_moved)
    (d__law_values : Def P w K mg base "_law_values" ["cell", "count", "size"] 1 m__law_values)
    (n_range : mg "range" = none)
    (n_len : mg "len" = none)
    (d__law_inverse : Def P w K mg base "_law_inverse" ["word"] 1 m__law_inverse) :
    Def P w K mg base "_law_moved" ["word", "presentation", "g", "cell"] 2 m__law_moved := by
  refine mk_def F sc__law_moved (by decide) (fun _ _ _ _ _ _ us hl => match us, hl with | [_, _, _, _], _ => rfl) fun f cdv A outer s H E hr => ?_
  have tkD := takes_of (X := cxOf (L2.CX P w) P w K mg base ["word", "presentation", "g", "cell", "values", "k", "kind", "at", "letter", "piece"] "_law_moved" (defScope s__law_moved) f cdv A outer s H E) (E := E) rfl rfl rfl rfl
  have howD : PassesOwn (model P w) (A.deeper (envOfC "_law_moved" (defScope s__law_moved) s.heap.objs.size f cdv)) (envOfC "_law_moved" (defScope s__law_moved) s.heap.objs.size f cdv) (cxOf (L2.CX P w) P w K mg base ["word", "presentation", "g", "cell", "values", "k", "kind", "at", "letter", "piece"] "_law_moved" (defScope s__law_moved) f cdv A outer s H E).xe := PassesOwn.leaving
  exact ⟨_, (bss_cons (bs_set 4 (be_call d__law_values hr (by decide) (by rfl) tkD (ba_cons (be_var 3 (pv 3)) (ba_cons be_int (ba_cons be_int ba_nil)))) sc__law_moved.nd rfl (by first | exact .inl rfl | exact .inr rfl))
  (bss_cons (bs_for howD rfl (bi_range1 (by rfl) n_range (ba_cons (BE.p (be_op (md := false) dMod op_mod op2_mod (BE.p (be_ixV (pv 4) be_int (fun _ _ => rfl))) be_int)) ba_nil)) (bg_name 5 (pg_name (i := 5) sc__law_moved.nd rfl (by first | exact .inl rfl | exact .inr rfl))) (bss_cons (bs_set 6 (be_op (md := false) dMod op_mod op2_mod (BE.p (be_ixV (pv 4) (BE.p (be_op (md := true) dAdd op_addA op2_add (be_op (md := true) dMul op_mulA op2_mul be_int (be_var 5 (pv 5))) be_int)) (fun _ _ => rfl))) be_int) sc__law_moved.nd rfl (by first | exact .inl rfl | exact .inr rfl))
  (bss_cons (bs_set 7 (be_op (md := false) dMod op_mod op2_mod (BE.p (be_ixV (pv 4) (BE.p (be_op (md := true) dAdd op_addA op2_add (be_op (md := true) dMul op_mulA op2_mul be_int (be_var 5 (pv 5))) be_int)) (fun _ _ => rfl))) (BE.p (be_op (md := true) dAdd op_addA op2_add (be_callB (md := false) dLen call_lenA fn_len (by rfl) n_len (by decide +kernel) (ba_cons (be_varP 0 (pv 0)) ba_nil)) be_int))) sc__law_moved.nd rfl (by first | exact .inl rfl | exact .inr rfl))
  (bss_cons (bs_set 8 (be_ix be_str (BE.p (be_op (md := false) dMod op_mod op2_mod (BE.p (be_ixV (pv 4) (BE.p (be_op (md := true) dAdd op_addA op2_add (be_op (md := true) dMul op_mulA op2_mul be_int (be_var 5 (pv 5))) be_int)) (fun _ _ => rfl))) (BE.p (be_op (md := true) dMul op_mulA op2_mul be_int (be_var 2 (pv 2)))))) (fun _ _ => rfl)) sc__law_moved.nd rfl (by first | exact .inl rfl | exact .inr rfl))
  (bss_cons (bs_set 9 (be_op (md := true) dAdd op_addA op2_add (be_var 8 (pv 8)) (be_call d__law_inverse hr (by decide) (by rfl) tkD (ba_cons (be_var 8 (pv 8)) ba_nil))) sc__law_moved.nd rfl (by first | exact .inl rfl | exact .inr rfl))
  (bss_cons (bs_if (bt_w (bw_and (bt_cmp (md := false) dGt (op_gtA hr.units) op2_gt (be_varP 6 (pv 6)) be_int (nomark _)) (bw_and1 (bt_cmp (md := false) dGt (op_gtA hr.units) op2_gt (BE.p (be_callB (md := false) dLen call_lenA fn_len (by rfl) n_len (by decide +kernel) (ba_cons (BE.p (be_ixV (pv 1) be_int (fun _ _ => rfl))) ba_nil))) be_int (nomark _))))) (bss_cons (bs_set 9 (be_ix (be_ixV (pv 1) be_int (fun _ _ => rfl)) (BE.p (be_op (md := false) dMod op_mod op2_mod (BE.p (be_ixV (pv 4) (BE.p (be_op (md := true) dAdd op_addA op2_add (be_op (md := true) dMul op_mulA op2_mul be_int (be_var 5 (pv 5))) be_int)) (fun _ _ => rfl))) (BE.p (be_callB (md := false) dLen call_lenA fn_len (by rfl) n_len (by decide +kernel) (ba_cons (BE.p (be_ixV (pv 1) be_int (fun _ _ => rfl))) ba_nil))))) (fun _ _ => rfl)) sc__law_moved.nd rfl (by first | exact .inl rfl | exact .inr rfl))
  (bss_one (bs_if (bt_cmp (md := false) dEq (op_eqA hr.units) op2_eq (be_varP 6 (pv 6)) be_int (nomark _)) (bss_one (bs_set 9 (be_call d__law_inverse hr (by decide) (by rfl) tkD (ba_cons (be_var 9 (pv 9)) ba_nil)) sc__law_moved.nd rfl (by first | exact .inl rfl | exact .inr rfl))) bss_nil))) bss_nil)
  (bss_one (bs_if (bt_cmp (md := false) dLe (op_leA hr.units) op2_le (BE.p (be_op (md := true) dAdd op_addA op2_add (be_callB (md := false) dLen call_lenA fn_len (by rfl) n_len (by decide +kernel) (ba_cons (be_varP 0 (pv 0)) ba_nil)) (be_callB (md := false) dLen call_lenA fn_len (by rfl) n_len (by decide +kernel) (ba_cons (be_varP 9 (pv 9)) ba_nil)))) be_int (nomark _)) (bss_one (bs_set 0 (be_op (md := true) dAdd op_addA op2_add (be_op (md := true) dAdd op_addA op2_add (be_slV (pv 0) bo_none (bo_some (be_varP 7 (pv 7)))) (be_var 9 (pv 9))) (be_slV (pv 0) (bo_some (be_varP 7 (pv 7))) bo_none)) sc__law_moved.nd rfl (by first | exact .inl rfl | exact .inr rfl))) bss_nil))))))))
  (bss_one (bs_ret (be_var 0 (pv 0))))))⟩
abbrev s__law_cell : Stmt := topS 26
theorem sc__law_cell : FnScope ["script", "k"] ["script", "k"] (defScope s__law_cell) := ⟨rfl, rfl, rfl, by decide +kernel, rfl, by decide +kernel, by decide +kernel⟩
theorem ok__law_cell {P : Program} {w : World} {K : PySem.W.Frag} {mg : Str → Option Value} {base : Heap} (F : FD K mg "_law_cell" s__law_cell)
    (n_len : mg "len" = none) :
    Def P w K mg base "_law_cell" ["script", "k"] 1 m__law_cell := by
  refine mk_def F sc__law_cell (by decide) (fun _ _ _ _ _ _ us hl => match us, hl with | [_, _], _ => rfl) fun f cdv A outer s H E hr => ?_
  have tkD := takes_of (X := cxOf (L2.CX P w) P w K mg base ["script", "k"] "_law_cell" (defScope s__law_cell) f cdv A outer s H E) (E := E) rfl rfl rfl rfl
  have howD : PassesOwn (model P w) (A.deeper (envOfC "_law_cell" (defScope s__law_cell) s.heap.objs.size f cdv)) (envOfC "_law_cell" (defScope s__law_cell) s.heap.objs.size f cdv) (cxOf (L2.CX P w) P w K mg base ["script", "k"] "_law_cell" (defScope s__law_cell) f cdv A outer s H E).xe := PassesOwn.leaving
  exact ⟨_, (bss_cons (bs_if (bt_cmp (md := false) dLt (op_ltA hr.units) op2_lt (be_varP 1 (pv 1)) (BE.p (be_callB (md := false) dLen call_lenA fn_len (by rfl) n_len (by decide +kernel) (ba_cons (be_varP 0 (pv 0)) ba_nil))) (nomark _)) (bss_one (bs_ret (be_ixV (pv 0) (be_varP 1 (pv 1)) (fun _ _ => rfl)))) bss_nil)
  (bss_one (bs_ret be_int)))⟩
abbrev s_letters_of : Stmt := topS 10
theorem sc_letters_of : FnScope ["g"] ["g"] (defScope s_letters_of) := ⟨rfl, rfl, rfl, by decide +kernel, rfl, by decide +kernel, by decide +kernel⟩
theorem ok_letters_of {P : Program} {w : World} {K : PySem.W.Frag} {mg : Str → Option Value} {base : Heap} (F : FD K mg "letters_of" s_letters_of)
    {tk_MOST_GENERATORS : Tok} (c_MOST_GENERATORS : mg "MOST_GENERATORS" = some (.int 3 tk_MOST_GENERATORS))
    {a_BadNumber : Addr} (x_BadNumber : ExcF K mg "BadNumber" a_BadNumber)
    {tk_LETTERS : Tok} (c_LETTERS : mg "LETTERS" = some (.str "aAbBcC" tk_LETTERS)) :
    Def P w K mg base "letters_of" ["g"] 1 m_letters_of := by
  refine mk_def F sc_letters_of (by decide) (fun _ _ _ _ _ _ us hl => match us, hl with | [_], _ => rfl) fun f cdv A outer s H E hr => ?_
  have tkD := takes_of (X := cxOf (L2.CX P w) P w K mg base ["g"] "letters_of" (defScope s_letters_of) f cdv A outer s H E) (E := E) rfl rfl rfl rfl
  have howD : PassesOwn (model P w) (A.deeper (envOfC "letters_of" (defScope s_letters_of) s.heap.objs.size f cdv)) (envOfC "letters_of" (defScope s_letters_of) s.heap.objs.size f cdv) (cxOf (L2.CX P w) P w K mg base ["g"] "letters_of" (defScope s_letters_of) f cdv A outer s H E).xe := PassesOwn.leaving
  exact ⟨_, (bss_cons (bs_if (bt_w (bw_or (bt_cmp (md := false) dLt (op_ltA hr.units) op2_lt (be_varP 0 (pv 0)) be_int (nomark _)) (bw_or1 (bt_cmp (md := false) dGt (op_gtA hr.units) op2_gt (be_varP 0 (pv 0)) (be_globI (by rfl) c_MOST_GENERATORS) (nomark _))))) (bss_one (bs_raiseS x_BadNumber (by rfl) tkD (by rfl))) bss_nil)
  (bss_one (bs_ret (be_sl (be_globS (by rfl) c_LETTERS) bo_none (bo_some (BE.p (be_op (md := true) dMul op_mulA op2_mul be_int (be_var 0 (pv 0)))))))))⟩
abbrev s_is_word : Stmt := topS 11
theorem sc_is_word : FnScope ["g", "text", "letters", "letter"] ["g", "text"] (defScope s_is_word) := ⟨rfl, rfl, rfl, by decide +kernel, rfl, by decide +kernel, by decide +kernel⟩
theorem ok_is_word {P : Program} {w : World} {K : PySem.W.Frag} {mg : Str → Option Value} {base : Heap} (F : FD K mg "is_word" s_is_word)
    (d_letters_of : Def P w K mg base "letters_of" ["g"] 1 m_letters_of)
    (n_all : mg "all" = none) :
    Def P w K mg base "is_word" ["g", "text"] 2 m_is_word := by
  refine mk_def F sc_is_word (by decide) (fun _ _ _ _ _ _ us hl => match us, hl with | [_, _], _ => rfl) fun f cdv A outer s H E hr => ?_
  have tkD := takes_of (X := cxOf (L2.CX P w) P w K mg base ["g", "text", "letters", "letter"] "is_word" (defScope s_is_word) f cdv A outer s H E) (E := E) rfl rfl rfl rfl
  have howD : PassesOwn (model P w) (A.deeper (envOfC "is_word" (defScope s_is_word) s.heap.objs.size f cdv)) (envOfC "is_word" (defScope s_is_word) s.heap.objs.size f cdv) (cxOf (L2.CX P w) P w K mg base ["g", "text", "letters", "letter"] "is_word" (defScope s_is_word) f cdv A outer s H E).xe := PassesOwn.leaving
  exact ⟨_, (bss_cons (bs_set 2 (be_call d_letters_of hr (by decide) (by rfl) tkD (ba_cons (be_var 0 (pv 0)) ba_nil)) sc_is_word.nd rfl (by first | exact .inl rfl | exact .inr rfl))
  (bss_one (bs_ret (be_callB (md := false) dAll (cr_all rfl) fn_all (by rfl) n_all (by decide +kernel) (ba_cons (BE.p (be_n (bn_lc (own := [("letter", 3)]) rfl sc_is_word.nd (bi_seq (be_var 1 (pv 1))) (blkOk_by (N := ["g", "text", "letters", "letter"]) (sc := defScope s_is_word) (by decide +kernel)) (by decide) (fun _ _ _ _ _ => ⟨_, (bg_name 3 (pg_name (i := 3) sc_is_word.nd rfl (by first | exact .inl rfl | exact .inr rfl)))⟩) (fun _ _ _ _ _ => ⟨_, bts_nil⟩) (fun _ _ _ _ _ => ⟨_, (be_cmp (md := false) dInX op_inX op2_inX (be_varP 3 (pv 3)) (be_varP 2 (pv 2)) (by rfl))⟩)))) ba_nil)))))⟩
abbrev s__is_relator : Stmt := topS 17
theorem sc__is_relator : FnScope ["gens", "text"] ["gens", "text"] (defScope s__is_relator) := ⟨rfl, rfl, rfl, by decide +kernel, rfl, by decide +kernel, by decide +kernel⟩
theorem ok__is_relator {P : Program} {w : World} {K : PySem.W.Frag} {mg : Str → Option Value} {base : Heap} (F : FD K mg "_is_relator" s__is_relator)
    (n_len : mg "len" = none)
    {tk_LONGEST_RELATOR : Tok} (c_LONGEST_RELATOR : mg "LONGEST_RELATOR" = some (.int 20 tk_LONGEST_RELATOR))
    (d_is_word : Def P w K mg base "is_word" ["g", "text"] 2 m_is_word) :
    Def P w K mg base "_is_relator" ["gens", "text"] 3 m__is_relator := by
  refine mk_def F sc__is_relator (by decide) (fun _ _ _ _ _ _ us hl => match us, hl with | [_, _], _ => rfl) fun f cdv A outer s H E hr => ?_
  have tkD := takes_of (X := cxOf (L2.CX P w) P w K mg base ["gens", "text"] "_is_relator" (defScope s__is_relator) f cdv A outer s H E) (E := E) rfl rfl rfl rfl
  have howD : PassesOwn (model P w) (A.deeper (envOfC "_is_relator" (defScope s__is_relator) s.heap.objs.size f cdv)) (envOfC "_is_relator" (defScope s__is_relator) s.heap.objs.size f cdv) (cxOf (L2.CX P w) P w K mg base ["gens", "text"] "_is_relator" (defScope s__is_relator) f cdv A outer s H E).xe := PassesOwn.leaving
  exact ⟨_, (bss_one (bs_ret (be_and (be_chain dLe dLe (op_leA hr.units) (op_leA hr.units) op2_le op2_le be_int (BE.p (be_callB (md := false) dLen call_lenA fn_len (by rfl) n_len (by decide +kernel) (ba_cons (be_varP 1 (pv 1)) ba_nil))) (be_globI (by rfl) c_LONGEST_RELATOR) (by rfl)) (be_one (be_call d_is_word hr (by decide) (by rfl) tkD (ba_cons (be_var 0 (pv 0)) (ba_cons (be_var 1 (pv 1)) ba_nil)))))))⟩
abbrev s_is_presentation : Stmt := topS 16
theorem sc_is_presentation : FnScope ["value", "gens", "relators", "text"] ["value"] (defScope s_is_presentation) := ⟨rfl, rfl, rfl, by decide +kernel, rfl, by decide +kernel, by decide +kernel⟩
theorem ok_is_presentation {P : Program} {w : World} {K : PySem.W.Frag} {mg : Str → Option Value} {base : Heap} (F : FD K mg "is_presentation" s_is_presentation)
    {tk_MOST_GENERATORS : Tok} (c_MOST_GENERATORS : mg "MOST_GENERATORS" = some (.int 3 tk_MOST_GENERATORS))
    (n_len : mg "len" = none)
    {tk_MOST_RELATORS : Tok} (c_MOST_RELATORS : mg "MOST_RELATORS" = some (.int 8 tk_MOST_RELATORS))
    (d__is_relator : Def P w K mg base "_is_relator" ["gens", "text"] 3 m__is_relator)
    (n_all : mg "all" = none) :
    Def P w K mg base "is_presentation" ["value"] 4 m_is_presentation := by
  refine mk_def F sc_is_presentation (by decide) (fun _ _ _ _ _ _ us hl => match us, hl with | [_], _ => rfl) fun f cdv A outer s H E hr => ?_
  have tkD := takes_of (X := cxOf (L2.CX P w) P w K mg base ["value", "gens", "relators", "text"] "is_presentation" (defScope s_is_presentation) f cdv A outer s H E) (E := E) rfl rfl rfl rfl
  have howD : PassesOwn (model P w) (A.deeper (envOfC "is_presentation" (defScope s_is_presentation) s.heap.objs.size f cdv)) (envOfC "is_presentation" (defScope s_is_presentation) s.heap.objs.size f cdv) (cxOf (L2.CX P w) P w K mg base ["value", "gens", "relators", "text"] "is_presentation" (defScope s_is_presentation) f cdv A outer s H E).xe := PassesOwn.leaving
  exact ⟨_, (bss_cons (bs_setT (be_var 0 (pv 0)) (bg_tup (bgs_cons (bg_name 1 (pg_name (i := 1) sc_is_presentation.nd rfl (by first | exact .inl rfl | exact .inr rfl))) (bgs_cons (bg_name 2 (pg_name (i := 2) sc_is_presentation.nd rfl (by first | exact .inl rfl | exact .inr rfl))) bgs_nil (pgs_cons (BG.pe (bg_name 2 (pg_name (i := 2) sc_is_presentation.nd rfl (by first | exact .inl rfl | exact .inr rfl)))) pgs_nil)) (pgs_cons (BG.pe (bg_name 1 (pg_name (i := 1) sc_is_presentation.nd rfl (by first | exact .inl rfl | exact .inr rfl)))) (pgs_cons (BG.pe (bg_name 2 (pg_name (i := 2) sc_is_presentation.nd rfl (by first | exact .inl rfl | exact .inr rfl)))) pgs_nil))) rfl (pgs_cons (BG.pe (bg_name 1 (pg_name (i := 1) sc_is_presentation.nd rfl (by first | exact .inl rfl | exact .inr rfl)))) (pgs_cons (BG.pe (bg_name 2 (pg_name (i := 2) sc_is_presentation.nd rfl (by first | exact .inl rfl | exact .inr rfl)))) pgs_nil))))
  (bss_cons (bs_if (bt_w (bw_or (bt_cmp (md := false) dLt (op_ltA hr.units) op2_lt (be_varP 1 (pv 1)) be_int (nomark _)) (bw_or (bt_cmp (md := false) dGt (op_gtA hr.units) op2_gt (be_varP 1 (pv 1)) (be_globI (by rfl) c_MOST_GENERATORS) (nomark _)) (bw_or1 (bt_cmp (md := false) dGt (op_gtA hr.units) op2_gt (BE.p (be_callB (md := false) dLen call_lenA fn_len (by rfl) n_len (by decide +kernel) (ba_cons (be_varP 2 (pv 2)) ba_nil))) (be_globI (by rfl) c_MOST_RELATORS) (nomark _)))))) (bss_one (bs_ret be_bool)) bss_nil)
  (bss_one (bs_ret (be_callB (md := false) dAll (cr_all rfl) fn_all (by rfl) n_all (by decide +kernel) (ba_cons (BE.p (be_n (bn_lc (own := [("text", 3)]) rfl sc_is_presentation.nd (bi_seq (be_var 2 (pv 2))) (blkOk_by (N := ["value", "gens", "relators", "text"]) (sc := defScope s_is_presentation) (by decide +kernel)) (by decide) (fun _ _ _ _ _ => ⟨_, (bg_name 3 (pg_name (i := 3) sc_is_presentation.nd rfl (by first | exact .inl rfl | exact .inr rfl)))⟩) (fun _ _ _ _ _ => ⟨_, bts_nil⟩) (fun _ _ _ _ _ => ⟨_, (be_call d__is_relator hr (by decide) (by rfl) takes0 (ba_cons (be_var 1 (pv 1)) (ba_cons (be_var 3 (pv 3)) ba_nil)))⟩)))) ba_nil))))))⟩
abbrev s_check_presentation : Stmt := topS 18
theorem sc_check_presentation : FnScope ["presentation"] ["presentation"] (defScope s_check_presentation) := ⟨rfl, rfl, rfl, by decide +kernel, rfl, by decide +kernel, by decide +kernel⟩
theorem ok_check_presentation {P : Program} {w : World} {K : PySem.W.Frag} {mg : Str → Option Value} {base : Heap} (F : FD K mg "check_presentation" s_check_presentation)
    (d_is_presentation : Def P w K mg base "is_presentation" ["value"] 4 m_is_presentation)
    {a_NotPresentation : Addr} (x_NotPresentation : ExcF K mg "NotPresentation" a_NotPresentation) :
    Def P w K mg base "check_presentation" ["presentation"] 5 m_check_presentation := by
  refine mk_def F sc_check_presentation (by decide) (fun _ _ _ _ _ _ us hl => match us, hl with | [_], _ => rfl) fun f cdv A outer s H E hr => ?_
  have tkD := takes_of (X := cxOf (L2.CX P w) P w K mg base ["presentation"] "check_presentation" (defScope s_check_presentation) f cdv A outer s H E) (E := E) rfl rfl rfl rfl
  have howD : PassesOwn (model P w) (A.deeper (envOfC "check_presentation" (defScope s_check_presentation) s.heap.objs.size f cdv)) (envOfC "check_presentation" (defScope s_check_presentation) s.heap.objs.size f cdv) (cxOf (L2.CX P w) P w K mg base ["presentation"] "check_presentation" (defScope s_check_presentation) f cdv A outer s H E).xe := PassesOwn.leaving
  exact ⟨_, (bss_one (bs_if (bt_not (bt_truth (BE.p (be_call d_is_presentation hr (by decide) (by rfl) tkD (ba_cons (be_var 0 (pv 0)) ba_nil))))) (bss_one (bs_raiseS x_NotPresentation (by rfl) tkD (by rfl))) bss_nil))⟩
abbrev s__check_weights : Stmt := topS 21
theorem sc__check_weights : FnScope ["weights", "modulus", "numbers"] ["weights"] (defScope s__check_weights) := ⟨rfl, rfl, rfl, by decide +kernel, rfl, by decide +kernel, by decide +kernel⟩
theorem ok__check_weights {P : Program} {w : World} {K : PySem.W.Frag} {mg : Str → Option Value} {base : Heap} (F : FD K mg "_check_weights" s__check_weights)
    {a_NotWeights : Addr} (x_NotWeights : ExcF K mg "NotWeights" a_NotWeights)
    (n_len : mg "len" = none)
    {tk_MOST_GENERATORS : Tok} (c_MOST_GENERATORS : mg "MOST_GENERATORS" = some (.int 3 tk_MOST_GENERATORS)) :
    Def P w K mg base "_check_weights" ["weights"] 1 m__check_weights := by
  refine mk_def F sc__check_weights (by decide) (fun _ _ _ _ _ _ us hl => match us, hl with | [_], _ => rfl) fun f cdv A outer s H E hr => ?_
  have tkD := takes_of (X := cxOf (L2.CX P w) P w K mg base ["weights", "modulus", "numbers"] "_check_weights" (defScope s__check_weights) f cdv A outer s H E) (E := E) rfl rfl rfl rfl
  have howD : PassesOwn (model P w) (A.deeper (envOfC "_check_weights" (defScope s__check_weights) s.heap.objs.size f cdv)) (envOfC "_check_weights" (defScope s__check_weights) s.heap.objs.size f cdv) (cxOf (L2.CX P w) P w K mg base ["weights", "modulus", "numbers"] "_check_weights" (defScope s__check_weights) f cdv A outer s H E).xe := PassesOwn.leaving
  exact ⟨_, (bss_cons (bs_setT (be_var 0 (pv 0)) (bg_tup (bgs_cons (bg_name 1 (pg_name (i := 1) sc__check_weights.nd rfl (by first | exact .inl rfl | exact .inr rfl))) (bgs_cons (bg_name 2 (pg_name (i := 2) sc__check_weights.nd rfl (by first | exact .inl rfl | exact .inr rfl))) bgs_nil (pgs_cons (BG.pe (bg_name 2 (pg_name (i := 2) sc__check_weights.nd rfl (by first | exact .inl rfl | exact .inr rfl)))) pgs_nil)) (pgs_cons (BG.pe (bg_name 1 (pg_name (i := 1) sc__check_weights.nd rfl (by first | exact .inl rfl | exact .inr rfl)))) (pgs_cons (BG.pe (bg_name 2 (pg_name (i := 2) sc__check_weights.nd rfl (by first | exact .inl rfl | exact .inr rfl)))) pgs_nil))) rfl (pgs_cons (BG.pe (bg_name 1 (pg_name (i := 1) sc__check_weights.nd rfl (by first | exact .inl rfl | exact .inr rfl)))) (pgs_cons (BG.pe (bg_name 2 (pg_name (i := 2) sc__check_weights.nd rfl (by first | exact .inl rfl | exact .inr rfl)))) pgs_nil))))
  (bss_cons (bs_if (bt_w (bw_or (bt_cmp (md := false) dLt (op_ltA hr.units) op2_lt (be_varP 1 (pv 1)) be_int (nomark _)) (bw_or1 (bt_cmp (md := false) dEq (op_eqA hr.units) op2_eq (be_varP 1 (pv 1)) be_int (nomark _))))) (bss_one (bs_raiseS x_NotWeights (by rfl) tkD (by rfl))) bss_nil)
  (bss_one (bs_if (bt_w (bw_or (bt_cmp (md := false) dLt (op_ltA hr.units) op2_lt (BE.p (be_callB (md := false) dLen call_lenA fn_len (by rfl) n_len (by decide +kernel) (ba_cons (be_varP 2 (pv 2)) ba_nil))) be_int (nomark _)) (bw_or1 (bt_cmp (md := false) dGt (op_gtA hr.units) op2_gt (BE.p (be_callB (md := false) dLen call_lenA fn_len (by rfl) n_len (by decide +kernel) (ba_cons (be_varP 2 (pv 2)) ba_nil))) (be_globI (by rfl) c_MOST_GENERATORS) (nomark _))))) (bss_one (bs_raiseS x_NotWeights (by rfl) tkD (by rfl))) bss_nil))))⟩
abbrev s__letter_sums : Stmt := topS 20
theorem sc__letter_sums : FnScope ["g", "text", "letters", "k"] ["g", "text"] (defScope s__letter_sums) := ⟨rfl, rfl, rfl, by decide +kernel, rfl, by decide +kernel, by decide +kernel⟩
theorem ok__letter_sums {P : Program} {w : World} {K : PySem.W.Frag} {mg : Str → Option Value} {base : Heap} (F : FD K mg "_letter_sums" s__letter_sums)
    (d_letters_of : Def P w K mg base "letters_of" ["g"] 1 m_letters_of)
    (n_range : mg "range" = none) :
    Def P w K mg base "_letter_sums" ["g", "text"] 2 m__letter_sums := by
  refine mk_def F sc__letter_sums (by decide) (fun _ _ _ _ _ _ us hl => match us, hl with | [_, _], _ => rfl) fun f cdv A outer s H E hr => ?_
  have tkD := takes_of (X := cxOf (L2.CX P w) P w K mg base ["g", "text", "letters", "k"] "_letter_sums" (defScope s__letter_sums) f cdv A outer s H E) (E := E) rfl rfl rfl rfl
  have howD : PassesOwn (model P w) (A.deeper (envOfC "_letter_sums" (defScope s__letter_sums) s.heap.objs.size f cdv)) (envOfC "_letter_sums" (defScope s__letter_sums) s.heap.objs.size f cdv) (cxOf (L2.CX P w) P w K mg base ["g", "text", "letters", "k"] "_letter_sums" (defScope s__letter_sums) f cdv A outer s H E).xe := PassesOwn.leaving
  exact ⟨_, (bss_cons (bs_set 2 (be_call d_letters_of hr (by decide) (by rfl) tkD (ba_cons (be_var 0 (pv 0)) ba_nil)) sc__letter_sums.nd rfl (by first | exact .inl rfl | exact .inr rfl))
  (bss_one (bs_ret (be_n (bn_lc (own := [("k", 3)]) rfl sc__letter_sums.nd (bi_range1 (by rfl) n_range (ba_cons (be_varP 0 (pv 0)) ba_nil)) (blkOk_by (N := ["g", "text", "letters", "k"]) (sc := defScope s__letter_sums) (by decide +kernel)) (by decide) (fun _ _ _ _ _ => ⟨_, (bg_name 3 (pg_name (i := 3) sc__letter_sums.nd rfl (by first | exact .inl rfl | exact .inr rfl)))⟩) (fun _ _ _ _ _ => ⟨_, bts_nil⟩) (fun _ _ _ _ _ => ⟨_, (be_op (md := false) dSub op_sub op2_sub (BE.p (be_m1 dCountS PySem.F.slot_str_count PySem.F.type_str_count mt_count mt1_count (be_varP 1 (pv 1)) (BE.p (be_ixV (pv 2) (BE.p (be_op (md := true) dMul op_mulA op2_mul be_int (be_var 3 (pv 3)))) (fun _ _ => rfl))))) (BE.p (be_m1 dCountS PySem.F.slot_str_count PySem.F.type_str_count mt_count mt1_count (be_varP 1 (pv 1)) (BE.p (be_ixV (pv 2) (BE.p (be_op (md := true) dAdd op_addA op2_add (be_op (md := true) dMul op_mulA op2_mul be_int (be_var 3 (pv 3))) be_int)) (fun _ _ => rfl))))))⟩))))))⟩
abbrev s__weight_of_text : Stmt := topS 23
theorem sc__weight_of_text : FnScope ["weights", "text", "modulus", "numbers", "sums", "total", "number", "times"] ["weights", "text"] (defScope s__weight_of_text) := ⟨rfl, rfl, rfl, by decide +kernel, rfl, by decide +kernel, by decide +kernel⟩
theorem ok__weight_of_text {P : Program} {w : World} {K : PySem.W.Frag} {mg : Str → Option Value} {base : Heap} (F : FD K mg "_weight_of_text" s__weight_of_text)
    (d__letter_sums : Def P w K mg base "_letter_sums" ["g", "text"] 2 m__letter_sums)
    (n_len : mg "len" = none)
    (n_zip : mg "zip" = none)
    (n_sum : mg "sum" = none) :
    Def P w K mg base "_weight_of_text" ["weights", "text"] 3 m__weight_of_text := by
  refine mk_def F sc__weight_of_text (by decide) (fun _ _ _ _ _ _ us hl => match us, hl with | [_, _], _ => rfl) fun f cdv A outer s H E hr => ?_
  have tkD := takes_of (X := cxOf (L2.CX P w) P w K mg base ["weights", "text", "modulus", "numbers", "sums", "total", "number", "times"] "_weight_of_text" (defScope s__weight_of_text) f cdv A outer s H E) (E := E) rfl rfl rfl rfl
  have howD : PassesOwn (model P w) (A.deeper (envOfC "_weight_of_text" (defScope s__weight_of_text) s.heap.objs.size f cdv)) (envOfC "_weight_of_text" (defScope s__weight_of_text) s.heap.objs.size f cdv) (cxOf (L2.CX P w) P w K mg base ["weights", "text", "modulus", "numbers", "sums", "total", "number", "times"] "_weight_of_text" (defScope s__weight_of_text) f cdv A outer s H E).xe := PassesOwn.leaving
  exact ⟨_, (bss_cons (bs_setT (be_var 0 (pv 0)) (bg_tup (bgs_cons (bg_name 2 (pg_name (i := 2) sc__weight_of_text.nd rfl (by first | exact .inl rfl | exact .inr rfl))) (bgs_cons (bg_name 3 (pg_name (i := 3) sc__weight_of_text.nd rfl (by first | exact .inl rfl | exact .inr rfl))) bgs_nil (pgs_cons (BG.pe (bg_name 3 (pg_name (i := 3) sc__weight_of_text.nd rfl (by first | exact .inl rfl | exact .inr rfl)))) pgs_nil)) (pgs_cons (BG.pe (bg_name 2 (pg_name (i := 2) sc__weight_of_text.nd rfl (by first | exact .inl rfl | exact .inr rfl)))) (pgs_cons (BG.pe (bg_name 3 (pg_name (i := 3) sc__weight_of_text.nd rfl (by first | exact .inl rfl | exact .inr rfl)))) pgs_nil))) rfl (pgs_cons (BG.pe (bg_name 2 (pg_name (i := 2) sc__weight_of_text.nd rfl (by first | exact .inl rfl | exact .inr rfl)))) (pgs_cons (BG.pe (bg_name 3 (pg_name (i := 3) sc__weight_of_text.nd rfl (by first | exact .inl rfl | exact .inr rfl)))) pgs_nil))))
  (bss_cons (bs_set 4 (be_call d__letter_sums hr (by decide) (by rfl) tkD (ba_cons (be_callB (md := false) dLen call_lenA fn_len (by rfl) n_len (by decide +kernel) (ba_cons (be_varP 3 (pv 3)) ba_nil)) (ba_cons (be_var 1 (pv 1)) ba_nil))) sc__weight_of_text.nd rfl (by first | exact .inl rfl | exact .inr rfl))
  (bss_cons (bs_set 5 (be_callB (md := false) dSum (cr_sum rfl) fn_sum (by rfl) n_sum (by decide +kernel) (ba_cons (BE.p (be_n (bn_lc (own := [("number", 6), ("times", 7)]) rfl sc__weight_of_text.nd (bi_zipM (by rfl) n_zip (ba_cons (be_var 3 (pv 3)) (ba_cons (be_var 4 (pv 4)) ba_nil))) (blkOk_by (N := ["weights", "text", "modulus", "numbers", "sums", "total", "number", "times"]) (sc := defScope s__weight_of_text) (by decide +kernel)) (by decide) (fun _ _ _ _ _ => ⟨_, (bg_tup (bgs_cons (bg_name 6 (pg_name (i := 6) sc__weight_of_text.nd rfl (by first | exact .inl rfl | exact .inr rfl))) (bgs_cons (bg_name 7 (pg_name (i := 7) sc__weight_of_text.nd rfl (by first | exact .inl rfl | exact .inr rfl))) bgs_nil (pgs_cons (BG.pe (bg_name 7 (pg_name (i := 7) sc__weight_of_text.nd rfl (by first | exact .inl rfl | exact .inr rfl)))) pgs_nil)) (pgs_cons (BG.pe (bg_name 6 (pg_name (i := 6) sc__weight_of_text.nd rfl (by first | exact .inl rfl | exact .inr rfl)))) (pgs_cons (BG.pe (bg_name 7 (pg_name (i := 7) sc__weight_of_text.nd rfl (by first | exact .inl rfl | exact .inr rfl)))) pgs_nil))) rfl (pgs_cons (BG.pe (bg_name 6 (pg_name (i := 6) sc__weight_of_text.nd rfl (by first | exact .inl rfl | exact .inr rfl)))) (pgs_cons (BG.pe (bg_name 7 (pg_name (i := 7) sc__weight_of_text.nd rfl (by first | exact .inl rfl | exact .inr rfl)))) pgs_nil)))⟩) (fun _ _ _ _ _ => ⟨_, bts_nil⟩) (fun _ _ _ _ _ => ⟨_, (be_op (md := true) dMul op_mulA op2_mul (be_var 6 (pv 6)) (be_var 7 (pv 7)))⟩)))) ba_nil)) sc__weight_of_text.nd rfl (by first | exact .inl rfl | exact .inr rfl))
  (bss_cons (bs_if (bt_cmp (md := false) dEq (op_eqA hr.units) op2_eq (be_varP 2 (pv 2)) be_int (nomark _)) (bss_one (bs_ret (be_var 5 (pv 5)))) bss_nil)
  (bss_one (bs_ret (be_op (md := false) dMod op_mod op2_mod (be_varP 5 (pv 5)) (be_varP 2 (pv 2)))))))))⟩
abbrev s_fits : Stmt := topS 24
theorem sc_fits : FnScope ["presentation", "weights", "text"] ["presentation", "weights"] (defScope s_fits) := ⟨rfl, rfl, rfl, by decide +kernel, rfl, by decide +kernel, by decide +kernel⟩
theorem ok_fits {P : Program} {w : World} {K : PySem.W.Frag} {mg : Str → Option Value} {base : Heap} (F : FD K mg "fits" s_fits)
    (d_check_presentation : Def P w K mg base "check_presentation" ["presentation"] 5 m_check_presentation)
    (d__check_weights : Def P w K mg base "_check_weights" ["weights"] 1 m__check_weights)
    (n_len : mg "len" = none)
    {a_NotWeights : Addr} (x_NotWeights : ExcF K mg "NotWeights" a_NotWeights)
    (d__weight_of_text : Def P w K mg base "_weight_of_text" ["weights", "text"] 3 m__weight_of_text)
    (n_all : mg "all" = none) :
    Def P w K mg base "fits" ["presentation", "weights"] 6 m_fits := by
  refine mk_def F sc_fits (by decide) (fun _ _ _ _ _ _ us hl => match us, hl with | [_, _], _ => rfl) fun f cdv A outer s H E hr => ?_
  have tkD := takes_of (X := cxOf (L2.CX P w) P w K mg base ["presentation", "weights", "text"] "fits" (defScope s_fits) f cdv A outer s H E) (E := E) rfl rfl rfl rfl
  have howD : PassesOwn (model P w) (A.deeper (envOfC "fits" (defScope s_fits) s.heap.objs.size f cdv)) (envOfC "fits" (defScope s_fits) s.heap.objs.size f cdv) (cxOf (L2.CX P w) P w K mg base ["presentation", "weights", "text"] "fits" (defScope s_fits) f cdv A outer s H E).xe := PassesOwn.leaving
  exact ⟨_, (bss_cons (bs_expr (be_call d_check_presentation hr (by decide) (by rfl) tkD (ba_cons (be_var 0 (pv 0)) ba_nil)))
  (bss_cons (bs_expr (be_call d__check_weights hr (by decide) (by rfl) tkD (ba_cons (be_var 1 (pv 1)) ba_nil)))
  (bss_cons (bs_if (bt_cmp (md := false) dNe (op_neA hr.units) op2_ne (BE.p (be_callB (md := false) dLen call_lenA fn_len (by rfl) n_len (by decide +kernel) (ba_cons (BE.p (be_ixV (pv 1) be_int (fun _ _ => rfl))) ba_nil))) (BE.p (be_ixV (pv 0) be_int (fun _ _ => rfl))) (nomark _)) (bss_one (bs_raiseS x_NotWeights (by rfl) tkD (by rfl))) bss_nil)
  (bss_one (bs_ret (be_callB (md := false) dAll (cr_all rfl) fn_all (by rfl) n_all (by decide +kernel) (ba_cons (BE.p (be_n (bn_lc (own := [("text", 2)]) rfl sc_fits.nd (bi_seq (be_ixV (pv 0) be_int (fun _ _ => rfl))) (blkOk_by (N := ["presentation", "weights", "text"]) (sc := defScope s_fits) (by decide +kernel)) (by decide) (fun _ _ _ _ _ => ⟨_, (bg_name 2 (pg_name (i := 2) sc_fits.nd rfl (by first | exact .inl rfl | exact .inr rfl)))⟩) (fun _ _ _ _ _ => ⟨_, bts_nil⟩) (fun _ _ _ _ _ => ⟨_, (be_cmp (md := false) dEq (op_eqA hr.units) op2_eq (BE.p (be_call d__weight_of_text hr (by decide) (by rfl) takes0 (ba_cons (be_var 1 (pv 1)) (ba_cons (be_var 2 (pv 2)) ba_nil)))) be_int (nomark _))⟩)))) ba_nil)))))))⟩
abbrev s__law_told : Stmt := topS 33
theorem sc__law_told : FnScope ["presentation", "weights"] ["presentation", "weights"] (defScope s__law_told) := ⟨rfl, rfl, rfl, by decide +kernel, rfl, by decide +kernel, by decide +kernel⟩
theorem ok__law_told {P : Program} {w : World} {K : PySem.W.Frag} {mg : Str → Option Value} {base : Heap} (F : FD K mg "_law_told" s__law_told)
    (d_fits : Def P w K mg base "fits" ["presentation", "weights"] 6 m_fits)
    {ka_NotWeights : Addr} (k_NotWeights : CatchF K mg "NotWeights" ka_NotWeights k_sub)
    {ka_NotPresentation : Addr} (k_NotPresentation : CatchF K mg "NotPresentation" ka_NotPresentation k_sub) :
    Def P w K mg base "_law_told" ["presentation", "weights"] 7 m__law_told := by
  refine mk_def F sc__law_told (by decide) (fun _ _ _ _ _ _ us hl => match us, hl with | [_, _], _ => rfl) fun f cdv A outer s H E hr => ?_
  have tkD := takes_of (X := cxOf (L2.CX P w) P w K mg base ["presentation", "weights"] "_law_told" (defScope s__law_told) f cdv A outer s H E) (E := E) rfl rfl rfl rfl
  have howD : PassesOwn (model P w) (A.deeper (envOfC "_law_told" (defScope s__law_told) s.heap.objs.size f cdv)) (envOfC "_law_told" (defScope s__law_told) s.heap.objs.size f cdv) (cxOf (L2.CX P w) P w K mg base ["presentation", "weights"] "_law_told" (defScope s__law_told) f cdv A outer s H E).xe := PassesOwn.leaving
  exact ⟨_, (bss_one (bs_tryN rfl rfl tkD (fun W pn xe tk ho => ⟨_, (bss_one (bs_ret (be_call d_fits hr (by decide) (by rfl) tk (ba_cons (be_var 0 (pv 0)) (ba_cons (be_var 1 (pv 1)) ba_nil)))))⟩)
  (HdsM.cons k_NotPresentation.c ⟨rfl, by decide, .inl k_NotPresentation.c.g⟩ (fun a oe pn hf => ⟨_, (bss_one (bs_ret be_str))⟩)
  (HdsM.cons k_NotWeights.c ⟨rfl, by decide, .inl k_NotWeights.c.g⟩ (fun a oe pn hf => ⟨_, (bss_one (bs_ret be_str))⟩)
  .nil))))⟩
abbrev s_check_word : Stmt := topS 12
theorem sc_check_word : FnScope ["g", "text"] ["g", "text"] (defScope s_check_word) := ⟨rfl, rfl, rfl, by decide +kernel, rfl, by decide +kernel, by decide +kernel⟩
theorem ok_check_word {P : Program} {w : World} {K : PySem.W.Frag} {mg : Str → Option Value} {base : Heap} (F : FD K mg "check_word" s_check_word)
    (d_is_word : Def P w K mg base "is_word" ["g", "text"] 2 m_is_word)
    {a_NotWord : Addr} (x_NotWord : ExcF K mg "NotWord" a_NotWord)
    (n_len : mg "len" = none)
    {tk_MOST_LETTERS : Tok} (c_MOST_LETTERS : mg "MOST_LETTERS" = some (.int 60 tk_MOST_LETTERS)) :
    Def P w K mg base "check_word" ["g", "text"] 3 m_check_word := by
  refine mk_def F sc_check_word (by decide) (fun _ _ _ _ _ _ us hl => match us, hl with | [_, _], _ => rfl) fun f cdv A outer s H E hr => ?_
  have tkD := takes_of (X := cxOf (L2.CX P w) P w K mg base ["g", "text"] "check_word" (defScope s_check_word) f cdv A outer s H E) (E := E) rfl rfl rfl rfl
  have howD : PassesOwn (model P w) (A.deeper (envOfC "check_word" (defScope s_check_word) s.heap.objs.size f cdv)) (envOfC "check_word" (defScope s_check_word) s.heap.objs.size f cdv) (cxOf (L2.CX P w) P w K mg base ["g", "text"] "check_word" (defScope s_check_word) f cdv A outer s H E).xe := PassesOwn.leaving
  exact ⟨_, (bss_cons (bs_if (bt_not (bt_truth (BE.p (be_call d_is_word hr (by decide) (by rfl) tkD (ba_cons (be_var 0 (pv 0)) (ba_cons (be_var 1 (pv 1)) ba_nil)))))) (bss_one (bs_raiseS x_NotWord (by rfl) tkD (by rfl))) bss_nil)
  (bss_one (bs_if (bt_cmp (md := false) dGt (op_gtA hr.units) op2_gt (BE.p (be_callB (md := false) dLen call_lenA fn_len (by rfl) n_len (by decide +kernel) (ba_cons (be_varP 1 (pv 1)) ba_nil))) (be_globI (by rfl) c_MOST_LETTERS) (nomark _)) (bss_one (bs_raiseS x_NotWord (by rfl) tkD (by rfl))) bss_nil)))⟩
abbrev s_weight_of : Stmt := topS 22
theorem sc_weight_of : FnScope ["weights", "word"] ["weights", "word"] (defScope s_weight_of) := ⟨rfl, rfl, rfl, by decide +kernel, rfl, by decide +kernel, by decide +kernel⟩
theorem ok_weight_of {P : Program} {w : World} {K : PySem.W.Frag} {mg : Str → Option Value} {base : Heap} (F : FD K mg "weight_of" s_weight_of)
    (d__check_weights : Def P w K mg base "_check_weights" ["weights"] 1 m__check_weights)
    (d_check_word : Def P w K mg base "check_word" ["g", "text"] 3 m_check_word)
    (n_len : mg "len" = none)
    (d__weight_of_text : Def P w K mg base "_weight_of_text" ["weights", "text"] 3 m__weight_of_text) :
    Def P w K mg base "weight_of" ["weights", "word"] 4 m_weight_of := by
  refine mk_def F sc_weight_of (by decide) (fun _ _ _ _ _ _ us hl => match us, hl with | [_, _], _ => rfl) fun f cdv A outer s H E hr => ?_
  have tkD := takes_of (X := cxOf (L2.CX P w) P w K mg base ["weights", "word"] "weight_of" (defScope s_weight_of) f cdv A outer s H E) (E := E) rfl rfl rfl rfl
  have howD : PassesOwn (model P w) (A.deeper (envOfC "weight_of" (defScope s_weight_of) s.heap.objs.size f cdv)) (envOfC "weight_of" (defScope s_weight_of) s.heap.objs.size f cdv) (cxOf (L2.CX P w) P w K mg base ["weights", "word"] "weight_of" (defScope s_weight_of) f cdv A outer s H E).xe := PassesOwn.leaving
  exact ⟨_, (bss_cons (bs_expr (be_call d__check_weights hr (by decide) (by rfl) tkD (ba_cons (be_var 0 (pv 0)) ba_nil)))
  (bss_cons (bs_expr (be_call d_check_word hr (by decide) (by rfl) tkD (ba_cons (be_callB (md := false) dLen call_lenA fn_len (by rfl) n_len (by decide +kernel) (ba_cons (BE.p (be_ixV (pv 0) be_int (fun _ _ => rfl))) ba_nil)) (ba_cons (be_var 1 (pv 1)) ba_nil))))
  (bss_one (bs_ret (be_call d__weight_of_text hr (by decide) (by rfl) tkD (ba_cons (be_var 0 (pv 0)) (ba_cons (be_var 1 (pv 1)) ba_nil)))))))⟩
abbrev s_law : Stmt := topS 35
theorem sc_law : FnScope ["script", "g", "presentation", "modulus", "numbers", "weights", "holds", "one", "other", "wrong", "value", "number"] ["script"] (defScope s_law) := ⟨rfl, rfl, rfl, by decide +kernel, rfl, by decide +kernel, by decide +kernel⟩
theorem ok_law {P : Program} {w : World} {K : PySem.W.Frag} {mg : Str → Option Value} {f : Addr} {fd : FuncData} (F : Fun K "law" "law" s_law f fd) (bi : ∀ (s : Shared) (u : Value), BindsTo s fd ⟨[u], []⟩ [("script", u)])
    (d__law_cell : ∀ base : Heap, Def P w K mg base "_law_cell" ["script", "k"] 1 m__law_cell)
    (d__law_presentation : ∀ base : Heap, Def P w K mg base "_law_presentation" ["cell", "second", "g"] 2 m__law_presentation)
    (d__law_values : ∀ base : Heap, Def P w K mg base "_law_values" ["cell", "count", "size"] 1 m__law_values)
    (n_tuple : mg "tuple" = none)
    (n_int : mg "int" = none)
    (d__law_holds : ∀ base : Heap, Def P w K mg base "_law_holds" ["presentation", "weights"] 2 m__law_holds)
    (d__law_told : ∀ base : Heap, Def P w K mg base "_law_told" ["presentation", "weights"] 7 m__law_told)
    (n_repr : mg "repr" = none)
    (d__law_word : ∀ base : Heap, Def P w K mg base "_law_word" ["cell", "g", "most"] 2 m__law_word)
    (d__law_moved : ∀ base : Heap, Def P w K mg base "_law_moved" ["word", "presentation", "g", "cell"] 2 m__law_moved)
    (d_weight_of : ∀ base : Heap, Def P w K mg base "weight_of" ["weights", "word"] 4 m_weight_of) :
    LawRun P w K mg f m_law := by
  refine law_run (k := 7) F sc_law (by decide) ⟨rfl, by decide, by decide⟩ bi fun base kb kn cdv A s H E hgd hr => ?_
  have d__law_cell := d__law_cell base
  have d__law_presentation := d__law_presentation base
  have d__law_values := d__law_values base
  have d__law_holds := d__law_holds base
  have d__law_told := d__law_told base
  have d__law_word := d__law_word base
  have d__law_moved := d__law_moved base
  have d_weight_of := d_weight_of base
  have tkD := takes_of (X := cxOf (L2.CX P w) P w K mg base ["script", "g", "presentation", "modulus", "numbers", "weights", "holds", "one", "other", "wrong", "value", "number"] "law" (defScope s_law) f cdv A [] s H E) (E := E) rfl rfl rfl rfl
  have hun : (A.deeper (envOfC "law" (defScope s_law) s.heap.objs.size f cdv)).units + 64 < cLine := by have := hr.un; omega
  have howD : PassesOwn (model P w) (A.deeper (envOfC "law" (defScope s_law) s.heap.objs.size f cdv)) (envOfC "law" (defScope s_law) s.heap.objs.size f cdv) (cxOf (L2.CX P w) P w K mg base ["script", "g", "presentation", "modulus", "numbers", "weights", "holds", "one", "other", "wrong", "value", "number"] "law" (defScope s_law) f cdv A [] s H E).xe := PassesOwn.leaving
  exact ⟨_, (bss_cons (bs_set 1 (be_op (md := true) dAdd op_addA op2_add be_int (be_op (md := false) dMod op_mod op2_mod (BE.p (be_call d__law_cell hr (by decide) (by rfl) tkD (ba_cons (be_var 0 (pv 0)) (ba_cons be_int ba_nil)))) be_int)) sc_law.nd rfl (by first | exact .inl rfl | exact .inr rfl))
  (bss_cons (bs_set 2 (be_call d__law_presentation hr (by decide) (by rfl) tkD (ba_cons (be_call d__law_cell hr (by decide) (by rfl) tkD (ba_cons (be_var 0 (pv 0)) (ba_cons be_int ba_nil))) (ba_cons (be_call d__law_cell hr (by decide) (by rfl) tkD (ba_cons (be_var 0 (pv 0)) (ba_cons be_int ba_nil))) (ba_cons (be_var 1 (pv 1)) ba_nil)))) sc_law.nd rfl (by first | exact .inl rfl | exact .inr rfl))
  (bss_cons (bs_set 3 (be_op (md := false) dMod op_mod op2_mod (BE.p (be_call d__law_cell hr (by decide) (by rfl) tkD (ba_cons (be_var 0 (pv 0)) (ba_cons be_int ba_nil)))) be_int) sc_law.nd rfl (by first | exact .inl rfl | exact .inr rfl))
  (bss_cons (bs_if (bt_cmp (md := false) dEq (op_eqA hr.units) op2_eq (be_varP 3 (pv 3)) be_int (nomark _)) (bss_one (bs_set 3 be_int sc_law.nd rfl (by first | exact .inl rfl | exact .inr rfl))) bss_nil)
  (bss_cons (bs_set 4 (be_tupleOf (by rfl) n_tuple (be_n (bn_lc (own := [("value", 10)]) rfl sc_law.nd (bi_seq (be_call d__law_values hr (by decide) (by rfl) tkD (ba_cons (be_call d__law_cell hr (by decide) (by rfl) tkD (ba_cons (be_var 0 (pv 0)) (ba_cons be_int ba_nil))) (ba_cons (be_var 1 (pv 1)) (ba_cons be_int ba_nil))))) (blkOk_by (N := ["script", "g", "presentation", "modulus", "numbers", "weights", "holds", "one", "other", "wrong", "value", "number"]) (sc := defScope s_law) (by decide +kernel)) (by decide) (fun _ _ _ _ _ => ⟨_, (bg_name 10 (pg_name (i := 10) sc_law.nd rfl (by first | exact .inl rfl | exact .inr rfl)))⟩) (fun _ _ _ _ _ => ⟨_, bts_nil⟩) (fun _ _ _ _ _ => ⟨_, (be_op (md := false) dSub op_sub op2_sub (be_varP 10 (pv 10)) be_int)⟩)))) sc_law.nd rfl (by first | exact .inl rfl | exact .inr rfl))
  (bss_cons (bs_if (bt_cmp (md := false) dEq (op_eqA hr.units) op2_eq (BE.p (be_op (md := false) dMod op_mod op2_mod (BE.p (be_op (md := false) dFdiv op_fdivW op2_fdiv (BE.p (be_call d__law_cell hr (by decide) (by rfl) tkD (ba_cons (be_var 0 (pv 0)) (ba_cons be_int ba_nil)))) be_int)) be_int)) be_int (nomark _)) (bss_one (bs_set 4 (be_tupleOf (by rfl) n_tuple (be_n (bn_lc (own := [("number", 11)]) rfl sc_law.nd (bi_seq (be_var 4 (pv 4))) (blkOk_by (N := ["script", "g", "presentation", "modulus", "numbers", "weights", "holds", "one", "other", "wrong", "value", "number"]) (sc := defScope s_law) (by decide +kernel)) (by decide) (fun _ _ _ _ _ => ⟨_, (bg_name 11 (pg_name (i := 11) sc_law.nd rfl (by first | exact .inl rfl | exact .inr rfl)))⟩) (fun _ _ _ _ _ => ⟨_, bts_nil⟩) (fun _ _ _ _ _ => ⟨_, (be_op (md := false) dSub op_sub op2_sub be_int (BE.p (be_op (md := true) dMul op_mulA op2_mul (be_var 11 (pv 11)) (be_callTy (md := false) dInt1 call_int1 fn_int1 (by rfl) n_int (by decide +kernel) (ba_cons (BE.p (be_cmp (md := false) dGt (op_gtA hr.units) op2_gt (be_varP 11 (pv 11)) be_int (nomark _))) ba_nil)))))⟩)))) sc_law.nd rfl (by first | exact .inl rfl | exact .inr rfl))) bss_nil)
  (bss_cons (bs_set 5 (be_tup (ba_cons (be_var 3 (pv 3)) (ba_cons (be_var 4 (pv 4)) ba_nil))) sc_law.nd rfl (by first | exact .inl rfl | exact .inr rfl))
  (bss_cons (bs_set 6 (be_call d__law_holds hr (by decide) (by rfl) tkD (ba_cons (be_var 2 (pv 2)) (ba_cons (be_var 5 (pv 5)) ba_nil))) sc_law.nd rfl (by first | exact .inl rfl | exact .inr rfl))
  (bss_cons (bs_if (bt_cmp (md := false) dNe (op_neA hr.units) op2_ne (BE.p (be_callB (md := false) dRepr call_reprS fn_reprS (by rfl) n_repr (by decide +kernel) (ba_cons (BE.p (be_call d__law_told hr (by decide) (by rfl) tkD (ba_cons (be_var 2 (pv 2)) (ba_cons (be_var 5 (pv 5)) ba_nil)))) ba_nil))) (BE.p (be_callB (md := false) dRepr call_reprS fn_reprS (by rfl) n_repr (by decide +kernel) (ba_cons (be_varP 6 (pv 6)) ba_nil))) (nomark _)) (bss_one (bs_ret be_bool)) bss_nil)
  (bss_cons (bs_set 7 (be_call d__law_word hr (by decide) (by rfl) tkD (ba_cons (be_call d__law_cell hr (by decide) (by rfl) tkD (ba_cons (be_var 0 (pv 0)) (ba_cons be_int ba_nil))) (ba_cons (be_var 1 (pv 1)) (ba_cons be_int ba_nil)))) sc_law.nd rfl (by first | exact .inl rfl | exact .inr rfl))
  (bss_cons (bs_set 8 (be_call d__law_moved hr (by decide) (by rfl) tkD (ba_cons (be_var 7 (pv 7)) (ba_cons (be_var 2 (pv 2)) (ba_cons (be_var 1 (pv 1)) (ba_cons (be_call d__law_cell hr (by decide) (by rfl) tkD (ba_cons (be_var 0 (pv 0)) (ba_cons be_int ba_nil))) ba_nil))))) sc_law.nd rfl (by first | exact .inl rfl | exact .inr rfl))
  (bss_cons (bs_if (bt_w (bw_and (bt_truth (be_varP 6 (pv 6))) (bw_and1 (bt_cmp (md := false) dNe (op_neA hr.units) op2_ne (BE.p (be_call d_weight_of hr (by decide) (by rfl) tkD (ba_cons (be_var 5 (pv 5)) (ba_cons (be_var 7 (pv 7)) ba_nil)))) (BE.p (be_call d_weight_of hr (by decide) (by rfl) tkD (ba_cons (be_var 5 (pv 5)) (ba_cons (be_var 8 (pv 8)) ba_nil)))) (nomark _))))) (bss_one (bs_ret be_bool)) bss_nil)
  (bss_cons (bs_set 9 (be_ix (be_lst (ba_cons (be_tup (ba_cons be_int (ba_cons (be_var 4 (pv 4)) ba_nil))) (ba_cons (be_tup (ba_cons be_int (ba_cons (be_op (md := true) dAdd op_addA op2_add (be_var 4 (pv 4)) (be_tup (ba_cons be_int ba_nil))) ba_nil))) (ba_cons (be_tup (ba_cons be_int (ba_cons (be_slV (pv 4) (bo_some be_int) bo_none) ba_nil))) (ba_cons (be_tup (ba_cons (be_neg be_int) (ba_cons (be_var 4 (pv 4)) ba_nil))) ba_nil))))) (BE.p (be_op (md := false) dMod op_mod op2_mod (BE.p (be_call d__law_cell hr (by decide) (by rfl) tkD (ba_cons (be_var 0 (pv 0)) (ba_cons be_int ba_nil)))) be_int)) (fun _ _ => rfl)) sc_law.nd rfl (by first | exact .inl rfl | exact .inr rfl))
  (bss_cons (bs_if (bt_w (bw_or (bt_cmp (md := false) dNe (op_neA hr.units) op2_ne (BE.p (be_call d__law_told hr (by decide) (by rfl) tkD (ba_cons (be_tup (ba_cons (be_var 1 (pv 1)) (ba_cons (be_tup (ba_cons be_str ba_nil)) ba_nil))) (ba_cons (be_var 9 (pv 9)) ba_nil)))) be_str (nomark _)) (bw_or1 (bt_cmp (md := false) dNe (op_neA hr.units) op2_ne (BE.p (be_call d__law_told hr (by decide) (by rfl) tkD (ba_cons (be_tup (ba_cons be_int (ba_cons (be_tup ba_nil) ba_nil))) (ba_cons (be_var 9 (pv 9)) ba_nil)))) be_str (nomark _))))) (bss_one (bs_ret be_bool)) bss_nil)
  (bss_one (bs_ret (be_cmp (md := false) dEq (op_eqA hr.units) op2_eq (BE.p (be_call d__law_told hr (by decide) (by rfl) tkD (ba_cons (be_var 2 (pv 2)) (ba_cons (be_var 9 (pv 9)) ba_nil)))) be_str (nomark _))))))))))))))))))⟩
theorem all_mk {P : Program} {w : World} {K : PySem.W.Frag} {h : Heap} {mg : Str → Option Value} {fa : Addr} (X : K.In h) (G : h.Ns mainGlobals mg) (hfa : mg "law" = some (.ref fa))
    {f__law_values : Addr}
    {oc__law_values kV__law_values dc__law_values pm__law_values cd__law_values ct__law_values : Value}
    {od__law_values an__law_values : Option Addr}
    {sl__law_values : Array (Option Value)}
    (a__law_values : PySem.W.nsIn K mainGlobals "_law_values" = some (some (.ref f__law_values)))
    (l__law_values : K.lookup f__law_values = some ⟨oc__law_values, od__law_values, .func (PySem.W.fnOf "_law_values" "_law_values" (defArgs s__law_values) (defBody s__law_values) (defScope s__law_values) .none kV__law_values dc__law_values pm__law_values an__law_values cd__law_values ct__law_values), sl__law_values⟩)
    (cc__law_values : PySem.W.codeIn K cd__law_values "_law_values" = true)
    (kk__law_values : PySem.W.keepIn K (.ref f__law_values) = true)
    {f__law_presentation : Addr}
    {oc__law_presentation kV__law_presentation dc__law_presentation pm__law_presentation cd__law_presentation ct__law_presentation : Value}
    {od__law_presentation an__law_presentation : Option Addr}
    {sl__law_presentation : Array (Option Value)}
    (a__law_presentation : PySem.W.nsIn K mainGlobals "_law_presentation" = some (some (.ref f__law_presentation)))
    (l__law_presentation : K.lookup f__law_presentation = some ⟨oc__law_presentation, od__law_presentation, .func (PySem.W.fnOf "_law_presentation" "_law_presentation" (defArgs s__law_presentation) (defBody s__law_presentation) (defScope s__law_presentation) .none kV__law_presentation dc__law_presentation pm__law_presentation an__law_presentation cd__law_presentation ct__law_presentation), sl__law_presentation⟩)
    (cc__law_presentation : PySem.W.codeIn K cd__law_presentation "_law_presentation" = true)
    (kk__law_presentation : PySem.W.keepIn K (.ref f__law_presentation) = true)
    {f__law_sums : Addr}
    {oc__law_sums kV__law_sums dc__law_sums pm__law_sums cd__law_sums ct__law_sums : Value}
    {od__law_sums an__law_sums : Option Addr}
    {sl__law_sums : Array (Option Value)}
    (a__law_sums : PySem.W.nsIn K mainGlobals "_law_sums" = some (some (.ref f__law_sums)))
    (l__law_sums : K.lookup f__law_sums = some ⟨oc__law_sums, od__law_sums, .func (PySem.W.fnOf "_law_sums" "_law_sums" (defArgs s__law_sums) (defBody s__law_sums) (defScope s__law_sums) .none kV__law_sums dc__law_sums pm__law_sums an__law_sums cd__law_sums ct__law_sums), sl__law_sums⟩)
    (cc__law_sums : PySem.W.codeIn K cd__law_sums "_law_sums" = true)
    (kk__law_sums : PySem.W.keepIn K (.ref f__law_sums) = true)
    {f__law_holds : Addr}
    {oc__law_holds kV__law_holds dc__law_holds pm__law_holds cd__law_holds ct__law_holds : Value}
    {od__law_holds an__law_holds : Option Addr}
    {sl__law_holds : Array (Option Value)}
    (a__law_holds : PySem.W.nsIn K mainGlobals "_law_holds" = some (some (.ref f__law_holds)))
    (l__law_holds : K.lookup f__law_holds = some ⟨oc__law_holds, od__law_holds, .func (PySem.W.fnOf "_law_holds" "_law_holds" (defArgs s__law_holds) (defBody s__law_holds) (defScope s__law_holds) .none kV__law_holds dc__law_holds pm__law_holds an__law_holds cd__law_holds ct__law_holds), sl__law_holds⟩)
    (cc__law_holds : PySem.W.codeIn K cd__law_holds "_law_holds" = true)
    (kk__law_holds : PySem.W.keepIn K (.ref f__law_holds) = true)
    {f__law_word : Addr}
    {oc__law_word kV__law_word dc__law_word pm__law_word cd__law_word ct__law_word : Value}
    {od__law_word an__law_word : Option Addr}
    {sl__law_word : Array (Option Value)}
    (a__law_word : PySem.W.nsIn K mainGlobals "_law_word" = some (some (.ref f__law_word)))
    (l__law_word : K.lookup f__law_word = some ⟨oc__law_word, od__law_word, .func (PySem.W.fnOf "_law_word" "_law_word" (defArgs s__law_word) (defBody s__law_word) (defScope s__law_word) .none kV__law_word dc__law_word pm__law_word an__law_word cd__law_word ct__law_word), sl__law_word⟩)
    (cc__law_word : PySem.W.codeIn K cd__law_word "_law_word" = true)
    (kk__law_word : PySem.W.keepIn K (.ref f__law_word) = true)
    {f__law_inverse : Addr}
    {oc__law_inverse kV__law_inverse dc__law_inverse pm__law_inverse cd__law_inverse ct__law_inverse : Value}
    {od__law_inverse an__law_inverse : Option Addr}
    {sl__law_inverse : Array (Option Value)}
    (a__law_inverse : PySem.W.nsIn K mainGlobals "_law_inverse" = some (some (.ref f__law_inverse)))
    (l__law_inverse : K.lookup f__law_inverse = some ⟨oc__law_inverse, od__law_inverse, .func (PySem.W.fnOf "_law_inverse" "_law_inverse" (defArgs s__law_inverse) (defBody s__law_inverse) (defScope s__law_inverse) .none kV__law_inverse dc__law_inverse pm__law_inverse an__law_inverse cd__law_inverse ct__law_inverse), sl__law_inverse⟩)
    (cc__law_inverse : PySem.W.codeIn K cd__law_inverse "_law_inverse" = true)
    (kk__law_inverse : PySem.W.keepIn K (.ref f__law_inverse) = true)
    {f__law_moved : Addr}
    {oc__law_moved kV__law_moved dc__law_moved pm__law_moved cd__law_moved ct__law_moved : Value}
    {od__law_moved an__law_moved : Option Addr}
    {sl__law_moved : Array (Option Value)}
    (a__law_moved : PySem.W.nsIn K mainGlobals "_law_moved" = some (some (.ref f__law_moved)))
    (l__law_moved : K.lookup f__law_moved = some ⟨oc__law_moved, od__law_moved, .func (PySem.W.fnOf "_law_moved" "_law_moved" (defArgs s__law_moved) (defBody s__law_moved) (defScope s__law_moved) .none kV__law_moved dc__law_moved pm__law_moved an__law_moved cd__law_moved ct__law_moved), sl__law_moved⟩)
    (cc__law_moved : PySem.W.codeIn K cd__law_moved "_law_moved" = true)
    (kk__law_moved : PySem.W.keepIn K (.ref f__law_moved) = true)
    {f__law_cell : Addr}
    {oc__law_cell kV__law_cell dc__law_cell pm__law_cell cd__law_cell ct__law_cell : Value}
    {od__law_cell an__law_cell : Option Addr}
    {sl__law_cell : Array (Option Value)}
    (a__law_cell : PySem.W.nsIn K mainGlobals "_law_cell" = some (some (.ref f__law_cell)))
    (l__law_cell : K.lookup f__law_cell = some ⟨oc__law_cell, od__law_cell, .func (PySem.W.fnOf "_law_cell" "_law_cell" (defArgs s__law_cell) (defBody s__law_cell) (defScope s__law_cell) .none kV__law_cell dc__law_cell pm__law_cell an__law_cell cd__law_cell ct__law_cell), sl__law_cell⟩)
    (cc__law_cell : PySem.W.codeIn K cd__law_cell "_law_cell" = true)
    (kk__law_cell : PySem.W.keepIn K (.ref f__law_cell) = true)
    {f_letters_of : Addr}
    {oc_letters_of kV_letters_of dc_letters_of pm_letters_of cd_letters_of ct_letters_of : Value}
    {od_letters_of an_letters_of : Option Addr}
    {sl_letters_of : Array (Option Value)}
    (a_letters_of : PySem.W.nsIn K mainGlobals "letters_of" = some (some (.ref f_letters_of)))
    (l_letters_of : K.lookup f_letters_of = some ⟨oc_letters_of, od_letters_of, .func (PySem.W.fnOf "letters_of" "letters_of" (defArgs s_letters_of) (defBody s_letters_of) (defScope s_letters_of) .none kV_letters_of dc_letters_of pm_letters_of an_letters_of cd_letters_of ct_letters_of), sl_letters_of⟩)
    (cc_letters_of : PySem.W.codeIn K cd_letters_of "letters_of" = true)
    (kk_letters_of : PySem.W.keepIn K (.ref f_letters_of) = true)
    {f_is_word : Addr}
    {oc_is_word kV_is_word dc_is_word pm_is_word cd_is_word ct_is_word : Value}
    {od_is_word an_is_word : Option Addr}
    {sl_is_word : Array (Option Value)}
    (a_is_word : PySem.W.nsIn K mainGlobals "is_word" = some (some (.ref f_is_word)))
    (l_is_word : K.lookup f_is_word = some ⟨oc_is_word, od_is_word, .func (PySem.W.fnOf "is_word" "is_word" (defArgs s_is_word) (defBody s_is_word) (defScope s_is_word) .none kV_is_word dc_is_word pm_is_word an_is_word cd_is_word ct_is_word), sl_is_word⟩)
    (cc_is_word : PySem.W.codeIn K cd_is_word "is_word" = true)
    (kk_is_word : PySem.W.keepIn K (.ref f_is_word) = true)
    {f__is_relator : Addr}
    {oc__is_relator kV__is_relator dc__is_relator pm__is_relator cd__is_relator ct__is_relator : Value}
    {od__is_relator an__is_relator : Option Addr}
    {sl__is_relator : Array (Option Value)}
    (a__is_relator : PySem.W.nsIn K mainGlobals "_is_relator" = some (some (.ref f__is_relator)))
    (l__is_relator : K.lookup f__is_relator = some ⟨oc__is_relator, od__is_relator, .func (PySem.W.fnOf "_is_relator" "_is_relator" (defArgs s__is_relator) (defBody s__is_relator) (defScope s__is_relator) .none kV__is_relator dc__is_relator pm__is_relator an__is_relator cd__is_relator ct__is_relator), sl__is_relator⟩)
    (cc__is_relator : PySem.W.codeIn K cd__is_relator "_is_relator" = true)
    (kk__is_relator : PySem.W.keepIn K (.ref f__is_relator) = true)
    {f_is_presentation : Addr}
    {oc_is_presentation kV_is_presentation dc_is_presentation pm_is_presentation cd_is_presentation ct_is_presentation : Value}
    {od_is_presentation an_is_presentation : Option Addr}
    {sl_is_presentation : Array (Option Value)}
    (a_is_presentation : PySem.W.nsIn K mainGlobals "is_presentation" = some (some (.ref f_is_presentation)))
    (l_is_presentation : K.lookup f_is_presentation = some ⟨oc_is_presentation, od_is_presentation, .func (PySem.W.fnOf "is_presentation" "is_presentation" (defArgs s_is_presentation) (defBody s_is_presentation) (defScope s_is_presentation) .none kV_is_presentation dc_is_presentation pm_is_presentation an_is_presentation cd_is_presentation ct_is_presentation), sl_is_presentation⟩)
    (cc_is_presentation : PySem.W.codeIn K cd_is_presentation "is_presentation" = true)
    (kk_is_presentation : PySem.W.keepIn K (.ref f_is_presentation) = true)
    {f_check_presentation : Addr}
    {oc_check_presentation kV_check_presentation dc_check_presentation pm_check_presentation cd_check_presentation ct_check_presentation : Value}
    {od_check_presentation an_check_presentation : Option Addr}
    {sl_check_presentation : Array (Option Value)}
    (a_check_presentation : PySem.W.nsIn K mainGlobals "check_presentation" = some (some (.ref f_check_presentation)))
    (l_check_presentation : K.lookup f_check_presentation = some ⟨oc_check_presentation, od_check_presentation, .func (PySem.W.fnOf "check_presentation" "check_presentation" (defArgs s_check_presentation) (defBody s_check_presentation) (defScope s_check_presentation) .none kV_check_presentation dc_check_presentation pm_check_presentation an_check_presentation cd_check_presentation ct_check_presentation), sl_check_presentation⟩)
    (cc_check_presentation : PySem.W.codeIn K cd_check_presentation "check_presentation" = true)
    (kk_check_presentation : PySem.W.keepIn K (.ref f_check_presentation) = true)
    {f__check_weights : Addr}
    {oc__check_weights kV__check_weights dc__check_weights pm__check_weights cd__check_weights ct__check_weights : Value}
    {od__check_weights an__check_weights : Option Addr}
    {sl__check_weights : Array (Option Value)}
    (a__check_weights : PySem.W.nsIn K mainGlobals "_check_weights" = some (some (.ref f__check_weights)))
    (l__check_weights : K.lookup f__check_weights = some ⟨oc__check_weights, od__check_weights, .func (PySem.W.fnOf "_check_weights" "_check_weights" (defArgs s__check_weights) (defBody s__check_weights) (defScope s__check_weights) .none kV__check_weights dc__check_weights pm__check_weights an__check_weights cd__check_weights ct__check_weights), sl__check_weights⟩)
    (cc__check_weights : PySem.W.codeIn K cd__check_weights "_check_weights" = true)
    (kk__check_weights : PySem.W.keepIn K (.ref f__check_weights) = true)
    {f__letter_sums : Addr}
    {oc__letter_sums kV__letter_sums dc__letter_sums pm__letter_sums cd__letter_sums ct__letter_sums : Value}
    {od__letter_sums an__letter_sums : Option Addr}
    {sl__letter_sums : Array (Option Value)}
    (a__letter_sums : PySem.W.nsIn K mainGlobals "_letter_sums" = some (some (.ref f__letter_sums)))
    (l__letter_sums : K.lookup f__letter_sums = some ⟨oc__letter_sums, od__letter_sums, .func (PySem.W.fnOf "_letter_sums" "_letter_sums" (defArgs s__letter_sums) (defBody s__letter_sums) (defScope s__letter_sums) .none kV__letter_sums dc__letter_sums pm__letter_sums an__letter_sums cd__letter_sums ct__letter_sums), sl__letter_sums⟩)
    (cc__letter_sums : PySem.W.codeIn K cd__letter_sums "_letter_sums" = true)
    (kk__letter_sums : PySem.W.keepIn K (.ref f__letter_sums) = true)
    {f__weight_of_text : Addr}
    {oc__weight_of_text kV__weight_of_text dc__weight_of_text pm__weight_of_text cd__weight_of_text ct__weight_of_text : Value}
    {od__weight_of_text an__weight_of_text : Option Addr}
    {sl__weight_of_text : Array (Option Value)}
    (a__weight_of_text : PySem.W.nsIn K mainGlobals "_weight_of_text" = some (some (.ref f__weight_of_text)))
    (l__weight_of_text : K.lookup f__weight_of_text = some ⟨oc__weight_of_text, od__weight_of_text, .func (PySem.W.fnOf "_weight_of_text" "_weight_of_text" (defArgs s__weight_of_text) (defBody s__weight_of_text) (defScope s__weight_of_text) .none kV__weight_of_text dc__weight_of_text pm__weight_of_text an__weight_of_text cd__weight_of_text ct__weight_of_text), sl__weight_of_text⟩)
    (cc__weight_of_text : PySem.W.codeIn K cd__weight_of_text "_weight_of_text" = true)
    (kk__weight_of_text : PySem.W.keepIn K (.ref f__weight_of_text) = true)
    {f_fits : Addr}
    {oc_fits kV_fits dc_fits pm_fits cd_fits ct_fits : Value}
    {od_fits an_fits : Option Addr}
    {sl_fits : Array (Option Value)}
    (a_fits : PySem.W.nsIn K mainGlobals "fits" = some (some (.ref f_fits)))
    (l_fits : K.lookup f_fits = some ⟨oc_fits, od_fits, .func (PySem.W.fnOf "fits" "fits" (defArgs s_fits) (defBody s_fits) (defScope s_fits) .none kV_fits dc_fits pm_fits an_fits cd_fits ct_fits), sl_fits⟩)
    (cc_fits : PySem.W.codeIn K cd_fits "fits" = true)
    (kk_fits : PySem.W.keepIn K (.ref f_fits) = true)
    {f__law_told : Addr}
    {oc__law_told kV__law_told dc__law_told pm__law_told cd__law_told ct__law_told : Value}
    {od__law_told an__law_told : Option Addr}
    {sl__law_told : Array (Option Value)}
    (a__law_told : PySem.W.nsIn K mainGlobals "_law_told" = some (some (.ref f__law_told)))
    (l__law_told : K.lookup f__law_told = some ⟨oc__law_told, od__law_told, .func (PySem.W.fnOf "_law_told" "_law_told" (defArgs s__law_told) (defBody s__law_told) (defScope s__law_told) .none kV__law_told dc__law_told pm__law_told an__law_told cd__law_told ct__law_told), sl__law_told⟩)
    (cc__law_told : PySem.W.codeIn K cd__law_told "_law_told" = true)
    (kk__law_told : PySem.W.keepIn K (.ref f__law_told) = true)
    {f_check_word : Addr}
    {oc_check_word kV_check_word dc_check_word pm_check_word cd_check_word ct_check_word : Value}
    {od_check_word an_check_word : Option Addr}
    {sl_check_word : Array (Option Value)}
    (a_check_word : PySem.W.nsIn K mainGlobals "check_word" = some (some (.ref f_check_word)))
    (l_check_word : K.lookup f_check_word = some ⟨oc_check_word, od_check_word, .func (PySem.W.fnOf "check_word" "check_word" (defArgs s_check_word) (defBody s_check_word) (defScope s_check_word) .none kV_check_word dc_check_word pm_check_word an_check_word cd_check_word ct_check_word), sl_check_word⟩)
    (cc_check_word : PySem.W.codeIn K cd_check_word "check_word" = true)
    (kk_check_word : PySem.W.keepIn K (.ref f_check_word) = true)
    {f_weight_of : Addr}
    {oc_weight_of kV_weight_of dc_weight_of pm_weight_of cd_weight_of ct_weight_of : Value}
    {od_weight_of an_weight_of : Option Addr}
    {sl_weight_of : Array (Option Value)}
    (a_weight_of : PySem.W.nsIn K mainGlobals "weight_of" = some (some (.ref f_weight_of)))
    (l_weight_of : K.lookup f_weight_of = some ⟨oc_weight_of, od_weight_of, .func (PySem.W.fnOf "weight_of" "weight_of" (defArgs s_weight_of) (defBody s_weight_of) (defScope s_weight_of) .none kV_weight_of dc_weight_of pm_weight_of an_weight_of cd_weight_of ct_weight_of), sl_weight_of⟩)
    (cc_weight_of : PySem.W.codeIn K cd_weight_of "weight_of" = true)
    (kk_weight_of : PySem.W.keepIn K (.ref f_weight_of) = true)
    {f_law : Addr}
    {oc_law kV_law dc_law pm_law cd_law ct_law : Value}
    {od_law an_law : Option Addr}
    {sl_law : Array (Option Value)}
    (a_law : PySem.W.nsIn K mainGlobals "law" = some (some (.ref f_law)))
    (l_law : K.lookup f_law = some ⟨oc_law, od_law, .func (PySem.W.fnOf "law" "law" (defArgs s_law) (defBody s_law) (defScope s_law) .none kV_law dc_law pm_law an_law cd_law ct_law), sl_law⟩)
    (cc_law : PySem.W.codeIn K cd_law "law" = true)
    (kk_law : PySem.W.keepIn K (.ref f_law) = true)
    (z_range : PySem.W.nsIn K mainGlobals "range" = some none)
    (z_int : PySem.W.nsIn K mainGlobals "int" = some none)
    (z_tuple : PySem.W.nsIn K mainGlobals "tuple" = some none)
    (z_sum : PySem.W.nsIn K mainGlobals "sum" = some none)
    (z_len : PySem.W.nsIn K mainGlobals "len" = some none)
    {t_MOST_GENERATORS : Tok}
    (v_MOST_GENERATORS : PySem.W.nsIn K mainGlobals "MOST_GENERATORS" = some (some (.int 3 t_MOST_GENERATORS)))
    {C_BadNumber : Addr}
    (e_BadNumber : PySem.W.nsIn K mainGlobals "BadNumber" = some (some (.ref C_BadNumber)))
    (ex_BadNumber : PySem.W.excIn K C_BadNumber [.type "ValueError", .type "Exception", .type "BaseException", .type "object"] "ValueError.__new__" = true)
    (ek_BadNumber : PySem.W.keepIn K (.ref C_BadNumber) = true)
    (eb_BadNumber : PySem.W.subIn K (.ref C_BadNumber) (.type "BaseException") = some true)
    (et_BadNumber : PySem.W.typeIn K (.ref C_BadNumber) = some (.type "type"))
    {t_LETTERS : Tok}
    (v_LETTERS : PySem.W.nsIn K mainGlobals "LETTERS" = some (some (.str "aAbBcC" t_LETTERS)))
    (z_all : PySem.W.nsIn K mainGlobals "all" = some none)
    {t_LONGEST_RELATOR : Tok}
    (v_LONGEST_RELATOR : PySem.W.nsIn K mainGlobals "LONGEST_RELATOR" = some (some (.int 20 t_LONGEST_RELATOR)))
    {t_MOST_RELATORS : Tok}
    (v_MOST_RELATORS : PySem.W.nsIn K mainGlobals "MOST_RELATORS" = some (some (.int 8 t_MOST_RELATORS)))
    {C_NotPresentation : Addr}
    (e_NotPresentation : PySem.W.nsIn K mainGlobals "NotPresentation" = some (some (.ref C_NotPresentation)))
    (ex_NotPresentation : PySem.W.excIn K C_NotPresentation [.type "ValueError", .type "Exception", .type "BaseException", .type "object"] "ValueError.__new__" = true)
    (ek_NotPresentation : PySem.W.keepIn K (.ref C_NotPresentation) = true)
    (eb_NotPresentation : PySem.W.subIn K (.ref C_NotPresentation) (.type "BaseException") = some true)
    (et_NotPresentation : PySem.W.typeIn K (.ref C_NotPresentation) = some (.type "type"))
    {C_NotWeights : Addr}
    (e_NotWeights : PySem.W.nsIn K mainGlobals "NotWeights" = some (some (.ref C_NotWeights)))
    (ex_NotWeights : PySem.W.excIn K C_NotWeights [.type "ValueError", .type "Exception", .type "BaseException", .type "object"] "ValueError.__new__" = true)
    (ek_NotWeights : PySem.W.keepIn K (.ref C_NotWeights) = true)
    (eb_NotWeights : PySem.W.subIn K (.ref C_NotWeights) (.type "BaseException") = some true)
    (et_NotWeights : PySem.W.typeIn K (.ref C_NotWeights) = some (.type "type"))
    (z_zip : PySem.W.nsIn K mainGlobals "zip" = some none)
    {C_NotWord : Addr}
    (e_NotWord : PySem.W.nsIn K mainGlobals "NotWord" = some (some (.ref C_NotWord)))
    (ex_NotWord : PySem.W.excIn K C_NotWord [.type "ValueError", .type "Exception", .type "BaseException", .type "object"] "ValueError.__new__" = true)
    (ek_NotWord : PySem.W.keepIn K (.ref C_NotWord) = true)
    (eb_NotWord : PySem.W.subIn K (.ref C_NotWord) (.type "BaseException") = some true)
    (et_NotWord : PySem.W.typeIn K (.ref C_NotWord) = some (.type "type"))
    {t_MOST_LETTERS : Tok}
    (v_MOST_LETTERS : PySem.W.nsIn K mainGlobals "MOST_LETTERS" = some (some (.int 60 t_MOST_LETTERS)))
    (z_repr : PySem.W.nsIn K mainGlobals "repr" = some none)
    (eh_NotWeights : PySem.W.hasDictIn K C_NotWeights = true)
    (es_BadNumber_NotWeights : PySem.W.subIn K (.ref C_BadNumber) (.ref C_NotWeights) = some false)
    (es_NotPresentation_NotWeights : PySem.W.subIn K (.ref C_NotPresentation) (.ref C_NotWeights) = some false)
    (es_NotWeights_NotWeights : PySem.W.subIn K (.ref C_NotWeights) (.ref C_NotWeights) = some true)
    (es_NotWord_NotWeights : PySem.W.subIn K (.ref C_NotWord) (.ref C_NotWeights) = some false)
    (eh_NotPresentation : PySem.W.hasDictIn K C_NotPresentation = true)
    (es_BadNumber_NotPresentation : PySem.W.subIn K (.ref C_BadNumber) (.ref C_NotPresentation) = some false)
    (es_NotPresentation_NotPresentation : PySem.W.subIn K (.ref C_NotPresentation) (.ref C_NotPresentation) = some true)
    (es_NotWeights_NotPresentation : PySem.W.subIn K (.ref C_NotWeights) (.ref C_NotPresentation) = some false)
    (es_NotWord_NotPresentation : PySem.W.subIn K (.ref C_NotWord) (.ref C_NotPresentation) = some false) :
    LawRun P w K mg fa m_law := by
  have e := hfa.symm.trans (PySem.W.mg_of X G a_law)
  cases e
  have X_BadNumber : ExcF K mg "BadNumber" C_BadNumber := ⟨PySem.W.mg_of X G e_BadNumber, ex_BadNumber, ek_BadNumber, eb_BadNumber, et_BadNumber⟩
  have X_NotPresentation : ExcF K mg "NotPresentation" C_NotPresentation := ⟨PySem.W.mg_of X G e_NotPresentation, ex_NotPresentation, ek_NotPresentation, eb_NotPresentation, et_NotPresentation⟩
  have X_NotWeights : ExcF K mg "NotWeights" C_NotWeights := ⟨PySem.W.mg_of X G e_NotWeights, ex_NotWeights, ek_NotWeights, eb_NotWeights, et_NotWeights⟩
  have X_NotWord : ExcF K mg "NotWord" C_NotWord := ⟨PySem.W.mg_of X G e_NotWord, ex_NotWord, ek_NotWord, eb_NotWord, et_NotWord⟩
  have K_NotWeights : CatchF K mg "NotWeights" C_NotWeights k_sub := ⟨catch_of (l := [("BadNumber", false), ("NotPresentation", false), ("NotWeights", true), ("NotWord", false)]) X_NotWeights.g (fun _ => rfl) (look_cons ⟨_, X_BadNumber.g, PySem.W.exm_ref eb_NotWeights eh_NotWeights et_NotWeights es_BadNumber_NotWeights⟩ (look_cons ⟨_, X_NotPresentation.g, PySem.W.exm_ref eb_NotWeights eh_NotWeights et_NotWeights es_NotPresentation_NotWeights⟩ (look_cons ⟨_, X_NotWeights.g, PySem.W.exm_ref eb_NotWeights eh_NotWeights et_NotWeights es_NotWeights_NotWeights⟩ (look_cons ⟨_, X_NotWord.g, PySem.W.exm_ref eb_NotWeights eh_NotWeights et_NotWeights es_NotWord_NotWeights⟩ look_nil))))⟩
  have K_NotPresentation : CatchF K mg "NotPresentation" C_NotPresentation k_sub := ⟨catch_of (l := [("BadNumber", false), ("NotPresentation", true), ("NotWeights", false), ("NotWord", false)]) X_NotPresentation.g (fun _ => rfl) (look_cons ⟨_, X_BadNumber.g, PySem.W.exm_ref eb_NotPresentation eh_NotPresentation et_NotPresentation es_BadNumber_NotPresentation⟩ (look_cons ⟨_, X_NotPresentation.g, PySem.W.exm_ref eb_NotPresentation eh_NotPresentation et_NotPresentation es_NotPresentation_NotPresentation⟩ (look_cons ⟨_, X_NotWeights.g, PySem.W.exm_ref eb_NotPresentation eh_NotPresentation et_NotPresentation es_NotWeights_NotPresentation⟩ (look_cons ⟨_, X_NotWord.g, PySem.W.exm_ref eb_NotPresentation eh_NotPresentation et_NotPresentation es_NotWord_NotPresentation⟩ look_nil))))⟩
  have D__law_values : ∀ base : Heap, Def P w K mg base "_law_values" ["cell", "count", "size"] 1 m__law_values := fun base => ok__law_values (P := P) (w := w) (base := base) ⟨_, _, fun_mk (st := s__law_values) l__law_values cc__law_values kk__law_values, PySem.W.mg_of X G a__law_values⟩ (PySem.W.mg_none_of X G z_range) (PySem.W.mg_none_of X G z_int)
  have D__law_presentation : ∀ base : Heap, Def P w K mg base "_law_presentation" ["cell", "second", "g"] 2 m__law_presentation := fun base => ok__law_presentation (P := P) (w := w) (base := base) ⟨_, _, fun_mk (st := s__law_presentation) l__law_presentation cc__law_presentation kk__law_presentation, PySem.W.mg_of X G a__law_presentation⟩ (D__law_values base) (PySem.W.mg_none_of X G z_range) (PySem.W.mg_none_of X G z_tuple)
  have D__law_sums : ∀ base : Heap, Def P w K mg base "_law_sums" ["g", "word"] 1 m__law_sums := fun base => ok__law_sums (P := P) (w := w) (base := base) ⟨_, _, fun_mk (st := s__law_sums) l__law_sums cc__law_sums kk__law_sums, PySem.W.mg_of X G a__law_sums⟩ (PySem.W.mg_none_of X G z_range)
  have D__law_holds : ∀ base : Heap, Def P w K mg base "_law_holds" ["presentation", "weights"] 2 m__law_holds := fun base => ok__law_holds (P := P) (w := w) (base := base) ⟨_, _, fun_mk (st := s__law_holds) l__law_holds cc__law_holds kk__law_holds, PySem.W.mg_of X G a__law_holds⟩ (D__law_sums base) (PySem.W.mg_none_of X G z_range) (PySem.W.mg_none_of X G z_sum) (PySem.W.mg_none_of X G z_int)
  have D__law_word : ∀ base : Heap, Def P w K mg base "_law_word" ["cell", "g", "most"] 2 m__law_word := fun base => ok__law_word (P := P) (w := w) (base := base) ⟨_, _, fun_mk (st := s__law_word) l__law_word cc__law_word kk__law_word, PySem.W.mg_of X G a__law_word⟩ (D__law_values base)
  have D__law_inverse : ∀ base : Heap, Def P w K mg base "_law_inverse" ["word"] 1 m__law_inverse := fun base => ok__law_inverse (P := P) (w := w) (base := base) ⟨_, _, fun_mk (st := s__law_inverse) l__law_inverse cc__law_inverse kk__law_inverse, PySem.W.mg_of X G a__law_inverse⟩ 
  have D__law_moved : ∀ base : Heap, Def P w K mg base "_law_moved" ["word", "presentation", "g", "cell"] 2 m__law_moved := fun base => ok__law_moved (P := P) (w := w) (base := base) ⟨_, _, fun_mk (st := s__law_moved) l__law_moved cc__law_moved kk__law_moved, PySem.W.mg_of X G a__law_moved⟩ (D__law_values base) (PySem.W.mg_none_of X G z_range) (PySem.W.mg_none_of X G z_len) (D__law_inverse base)
  have D__law_cell : ∀ base : Heap, Def P w K mg base "_law_cell" ["script", "k"] 1 m__law_cell := fun base => ok__law_cell (P := P) (w := w) (base := base) ⟨_, _, fun_mk (st := s__law_cell) l__law_cell cc__law_cell kk__law_cell, PySem.W.mg_of X G a__law_cell⟩ (PySem.W.mg_none_of X G z_len)
  have D_letters_of : ∀ base : Heap, Def P w K mg base "letters_of" ["g"] 1 m_letters_of := fun base => ok_letters_of (P := P) (w := w) (base := base) ⟨_, _, fun_mk (st := s_letters_of) l_letters_of cc_letters_of kk_letters_of, PySem.W.mg_of X G a_letters_of⟩ (PySem.W.mg_of X G v_MOST_GENERATORS) X_BadNumber (PySem.W.mg_of X G v_LETTERS)
  have D_is_word : ∀ base : Heap, Def P w K mg base "is_word" ["g", "text"] 2 m_is_word := fun base => ok_is_word (P := P) (w := w) (base := base) ⟨_, _, fun_mk (st := s_is_word) l_is_word cc_is_word kk_is_word, PySem.W.mg_of X G a_is_word⟩ (D_letters_of base) (PySem.W.mg_none_of X G z_all)
  have D__is_relator : ∀ base : Heap, Def P w K mg base "_is_relator" ["gens", "text"] 3 m__is_relator := fun base => ok__is_relator (P := P) (w := w) (base := base) ⟨_, _, fun_mk (st := s__is_relator) l__is_relator cc__is_relator kk__is_relator, PySem.W.mg_of X G a__is_relator⟩ (PySem.W.mg_none_of X G z_len) (PySem.W.mg_of X G v_LONGEST_RELATOR) (D_is_word base)
  have D_is_presentation : ∀ base : Heap, Def P w K mg base "is_presentation" ["value"] 4 m_is_presentation := fun base => ok_is_presentation (P := P) (w := w) (base := base) ⟨_, _, fun_mk (st := s_is_presentation) l_is_presentation cc_is_presentation kk_is_presentation, PySem.W.mg_of X G a_is_presentation⟩ (PySem.W.mg_of X G v_MOST_GENERATORS) (PySem.W.mg_none_of X G z_len) (PySem.W.mg_of X G v_MOST_RELATORS) (D__is_relator base) (PySem.W.mg_none_of X G z_all)
  have D_check_presentation : ∀ base : Heap, Def P w K mg base "check_presentation" ["presentation"] 5 m_check_presentation := fun base => ok_check_presentation (P := P) (w := w) (base := base) ⟨_, _, fun_mk (st := s_check_presentation) l_check_presentation cc_check_presentation kk_check_presentation, PySem.W.mg_of X G a_check_presentation⟩ (D_is_presentation base) X_NotPresentation
  have D__check_weights : ∀ base : Heap, Def P w K mg base "_check_weights" ["weights"] 1 m__check_weights := fun base => ok__check_weights (P := P) (w := w) (base := base) ⟨_, _, fun_mk (st := s__check_weights) l__check_weights cc__check_weights kk__check_weights, PySem.W.mg_of X G a__check_weights⟩ X_NotWeights (PySem.W.mg_none_of X G z_len) (PySem.W.mg_of X G v_MOST_GENERATORS)
  have D__letter_sums : ∀ base : Heap, Def P w K mg base "_letter_sums" ["g", "text"] 2 m__letter_sums := fun base => ok__letter_sums (P := P) (w := w) (base := base) ⟨_, _, fun_mk (st := s__letter_sums) l__letter_sums cc__letter_sums kk__letter_sums, PySem.W.mg_of X G a__letter_sums⟩ (D_letters_of base) (PySem.W.mg_none_of X G z_range)
  have D__weight_of_text : ∀ base : Heap, Def P w K mg base "_weight_of_text" ["weights", "text"] 3 m__weight_of_text := fun base => ok__weight_of_text (P := P) (w := w) (base := base) ⟨_, _, fun_mk (st := s__weight_of_text) l__weight_of_text cc__weight_of_text kk__weight_of_text, PySem.W.mg_of X G a__weight_of_text⟩ (D__letter_sums base) (PySem.W.mg_none_of X G z_len) (PySem.W.mg_none_of X G z_zip) (PySem.W.mg_none_of X G z_sum)
  have D_fits : ∀ base : Heap, Def P w K mg base "fits" ["presentation", "weights"] 6 m_fits := fun base => ok_fits (P := P) (w := w) (base := base) ⟨_, _, fun_mk (st := s_fits) l_fits cc_fits kk_fits, PySem.W.mg_of X G a_fits⟩ (D_check_presentation base) (D__check_weights base) (PySem.W.mg_none_of X G z_len) X_NotWeights (D__weight_of_text base) (PySem.W.mg_none_of X G z_all)
  have D__law_told : ∀ base : Heap, Def P w K mg base "_law_told" ["presentation", "weights"] 7 m__law_told := fun base => ok__law_told (P := P) (w := w) (base := base) ⟨_, _, fun_mk (st := s__law_told) l__law_told cc__law_told kk__law_told, PySem.W.mg_of X G a__law_told⟩ (D_fits base) K_NotWeights K_NotPresentation
  have D_check_word : ∀ base : Heap, Def P w K mg base "check_word" ["g", "text"] 3 m_check_word := fun base => ok_check_word (P := P) (w := w) (base := base) ⟨_, _, fun_mk (st := s_check_word) l_check_word cc_check_word kk_check_word, PySem.W.mg_of X G a_check_word⟩ (D_is_word base) X_NotWord (PySem.W.mg_none_of X G z_len) (PySem.W.mg_of X G v_MOST_LETTERS)
  have D_weight_of : ∀ base : Heap, Def P w K mg base "weight_of" ["weights", "word"] 4 m_weight_of := fun base => ok_weight_of (P := P) (w := w) (base := base) ⟨_, _, fun_mk (st := s_weight_of) l_weight_of cc_weight_of kk_weight_of, PySem.W.mg_of X G a_weight_of⟩ (D__check_weights base) (D_check_word base) (PySem.W.mg_none_of X G z_len) (D__weight_of_text base)
  exact ok_law (P := P) (w := w) (fun_mk (st := s_law) l_law cc_law kk_law) (fun s v => .of_eq rfl) (D__law_cell) (D__law_presentation) (D__law_values) (PySem.W.mg_none_of X G z_tuple) (PySem.W.mg_none_of X G z_int) (D__law_holds) (D__law_told) (PySem.W.mg_none_of X G z_repr) (D__law_word) (D__law_moved) (D_weight_of)
end Law
end
end
open PySem PySem.W PyProof.Rows
set_option maxHeartbeats 0 in
theorem PySem.Challenge.cw_cayleywalk_k25_weights_that_fit_holds : PySem.Challenge.rw_cayleywalk_k25_weights_that_fit.Holds := by
  w_on; o_law; k_head; (case hw => w_witness2)
  k_fill
  refine DW.walk_law (l := PySem.Challenge.rw_cayleywalk_k25_weights_that_fit) (n := 63) (g := Law.m_law) rfl (by decide) rfl (fun w h Y => PySem.W.kIn_of Y) ?F (fun ns hl hb => Law.law_yes ns hl hb)
  case F =>
    intro w mg fa h KX G hmg
    refine' Law.all_mk KX G hmg ?a__law_values ?l__law_values ?cc__law_values ?kk__law_values ?a__law_presentation ?l__law_presentation ?cc__law_presentation ?kk__law_presentation ?a__law_sums ?l__law_sums ?cc__law_sums ?kk__law_sums ?a__law_holds ?l__law_holds ?cc__law_holds ?kk__law_holds ?a__law_word ?l__law_word ?cc__law_word ?kk__law_word ?a__law_inverse ?l__law_inverse ?cc__law_inverse ?kk__law_inverse ?a__law_moved ?l__law_moved ?cc__law_moved ?kk__law_moved ?a__law_cell ?l__law_cell ?cc__law_cell ?kk__law_cell ?a_letters_of ?l_letters_of ?cc_letters_of ?kk_letters_of ?a_is_word ?l_is_word ?cc_is_word ?kk_is_word ?a__is_relator ?l__is_relator ?cc__is_relator ?kk__is_relator ?a_is_presentation ?l_is_presentation ?cc_is_presentation ?kk_is_presentation ?a_check_presentation ?l_check_presentation ?cc_check_presentation ?kk_check_presentation ?a__check_weights ?l__check_weights ?cc__check_weights ?kk__check_weights ?a__letter_sums ?l__letter_sums ?cc__letter_sums ?kk__letter_sums ?a__weight_of_text ?l__weight_of_text ?cc__weight_of_text ?kk__weight_of_text ?a_fits ?l_fits ?cc_fits ?kk_fits ?a__law_told ?l__law_told ?cc__law_told ?kk__law_told ?a_check_word ?l_check_word ?cc_check_word ?kk_check_word ?a_weight_of ?l_weight_of ?cc_weight_of ?kk_weight_of ?a_law ?l_law ?cc_law ?kk_law ?z_range ?z_int ?z_tuple ?z_sum ?z_len ?v_MOST_GENERATORS ?e_BadNumber ?ex_BadNumber ?ek_BadNumber ?eb_BadNumber ?et_BadNumber ?v_LETTERS ?z_all ?v_LONGEST_RELATOR ?v_MOST_RELATORS ?e_NotPresentation ?ex_NotPresentation ?ek_NotPresentation ?eb_NotPresentation ?et_NotPresentation ?e_NotWeights ?ex_NotWeights ?ek_NotWeights ?eb_NotWeights ?et_NotWeights ?z_zip ?e_NotWord ?ex_NotWord ?ek_NotWord ?eb_NotWord ?et_NotWord ?v_MOST_LETTERS ?z_repr ?eh_NotWeights ?es_BadNumber_NotWeights ?es_NotPresentation_NotWeights ?es_NotWeights_NotWeights ?es_NotWord_NotWeights ?eh_NotPresentation ?es_BadNumber_NotPresentation ?es_NotPresentation_NotPresentation ?es_NotWeights_NotPresentation ?es_NotWord_NotPresentation
    (case a__law_values => k_is); (case l__law_values => k_is); (case cc__law_values => k_is); (case kk__law_values => k_is); (case a__law_presentation => k_is); (case l__law_presentation => k_is); (case cc__law_presentation => k_is); (case kk__law_presentation => k_is); (case a__law_sums => k_is); (case l__law_sums => k_is); (case cc__law_sums => k_is); (case kk__law_sums => k_is); (case a__law_holds => k_is); (case l__law_holds => k_is); (case cc__law_holds => k_is); (case kk__law_holds => k_is); (case a__law_word => k_is); (case l__law_word => k_is); (case cc__law_word => k_is); (case kk__law_word => k_is); (case a__law_inverse => k_is); (case l__law_inverse => k_is); (case cc__law_inverse => k_is); (case kk__law_inverse => k_is); (case a__law_moved => k_is); (case l__law_moved => k_is); (case cc__law_moved => k_is); (case kk__law_moved => k_is); (case a__law_cell => k_is); (case l__law_cell => k_is); (case cc__law_cell => k_is); (case kk__law_cell => k_is); (case a_letters_of => k_is); (case l_letters_of => k_is); (case cc_letters_of => k_is); (case kk_letters_of => k_is); (case a_is_word => k_is); (case l_is_word => k_is); (case cc_is_word => k_is); (case kk_is_word => k_is); (case a__is_relator => k_is); (case l__is_relator => k_is); (case cc__is_relator => k_is); (case kk__is_relator => k_is); (case a_is_presentation => k_is); (case l_is_presentation => k_is); (case cc_is_presentation => k_is); (case kk_is_presentation => k_is); (case a_check_presentation => k_is); (case l_check_presentation => k_is); (case cc_check_presentation => k_is); (case kk_check_presentation => k_is); (case a__check_weights => k_is); (case l__check_weights => k_is); (case cc__check_weights => k_is); (case kk__check_weights => k_is); (case a__letter_sums => k_is); (case l__letter_sums => k_is); (case cc__letter_sums => k_is); (case kk__letter_sums => k_is); (case a__weight_of_text => k_is); (case l__weight_of_text => k_is); (case cc__weight_of_text => k_is); (case kk__weight_of_text => k_is); (case a_fits => k_is); (case l_fits => k_is); (case cc_fits => k_is); (case kk_fits => k_is); (case a__law_told => k_is); (case l__law_told => k_is); (case cc__law_told => k_is); (case kk__law_told => k_is); (case a_check_word => k_is); (case l_check_word => k_is); (case cc_check_word => k_is); (case kk_check_word => k_is); (case a_weight_of => k_is); (case l_weight_of => k_is); (case cc_weight_of => k_is); (case kk_weight_of => k_is); (case a_law => k_is); (case l_law => k_is); (case cc_law => k_is); (case kk_law => k_is); (case z_range => k_is); (case z_int => k_is); (case z_tuple => k_is); (case z_sum => k_is); (case z_len => k_is); (case v_MOST_GENERATORS => k_is); (case e_BadNumber => k_is); (case ex_BadNumber => k_exc); (case ek_BadNumber => k_is); (case eb_BadNumber => k_is); (case et_BadNumber => k_is); (case v_LETTERS => k_is); (case z_all => k_is); (case v_LONGEST_RELATOR => k_is); (case v_MOST_RELATORS => k_is); (case e_NotPresentation => k_is); (case ex_NotPresentation => k_exc); (case ek_NotPresentation => k_is); (case eb_NotPresentation => k_is); (case et_NotPresentation => k_is); (case e_NotWeights => k_is); (case ex_NotWeights => k_exc); (case ek_NotWeights => k_is); (case eb_NotWeights => k_is); (case et_NotWeights => k_is); (case z_zip => k_is); (case e_NotWord => k_is); (case ex_NotWord => k_exc); (case ek_NotWord => k_is); (case eb_NotWord => k_is); (case et_NotWord => k_is); (case v_MOST_LETTERS => k_is); (case z_repr => k_is); (case eh_NotWeights => k_is); (case es_BadNumber_NotWeights => first | rfl | k_is); (case es_NotPresentation_NotWeights => first | rfl | k_is); (case es_NotWeights_NotWeights => first | rfl | k_is); (case es_NotWord_NotWeights => first | rfl | k_is); (case eh_NotPresentation => k_is); (case es_BadNumber_NotPresentation => first | rfl | k_is); (case es_NotPresentation_NotPresentation => first | rfl | k_is); (case es_NotWeights_NotPresentation => first | rfl | k_is); (case es_NotWord_NotPresentation => first | rfl | k_is)
