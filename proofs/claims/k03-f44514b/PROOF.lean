import PyProof.Rows.All
import Wide.All
import OpenK.AllK
import Wide.FinOn
import HandS.ForMost
import HandS.ForExc
import HandS.IsInst
import HandS.Deep
import HandS.TupMul
import HandS.Wide
import HandS.Style
import HandS.Zip
import HandS.Walk
import HandS.Conv
import HandS.More
import HandS.Records
import HandS.TupAny
import KE.GoesEnum
import KE.GoesMore
import HandS.ExcIs
import KE.KDictZip
import HandS.ListItems
import PySem.Challenge.RW_staybounds_k03_judging
set_option Elab.async false
set_option linter.all false
set_option maxRecDepth 100000
set_option maxHeartbeats 4000000
/-! A layer over the hand layer: a def is told by a plain function over data trees (a mirror); one rule a construct, from mirror to reading. -/
namespace Mir
open PySem PySem.Spec PyProof.Rows L2

/-! ### data -/
inductive D where
  | non | bl (b : Bool) | int (i : Int) | str (s : Str) | lst (ds : List D) | tup (ds : List D) | rol (ds : List D) | dic (ks : List Key) (ds : List D) | fn (a : Addr) | ty (n : String)

mutual
/-- the value v is the data d, by the frozen part F (and the written part K) alone -/
inductive Dv (K : PySem.W.Frag) (F : Hp) : V → D → Prop
  | non : Dv K F .non .non
  | bl (b : Bool) : Dv K F (.bl b) (.bl b)
  | int (i : Int) : Dv K F (.int i) (.int i)
  | str (s : Str) : Dv K F (.str s) (.str s)
  | lst {a : Addr} {xs : List V} {ds : List D} : F a = some (.lst xs) → DvAll K F xs ds → Dv K F (.ref a) (.lst ds)
  | tup {a : Addr} {xs : List V} {ds : List D} : SqT K F a xs → DvAll K F xs ds → Dv K F (.ref a) (.tup ds)
  | rol {a : Addr} {xs : List V} {ds : List D} : SqL K F a xs → DvAll K F xs ds → Dv K F (.ref a) (.rol ds)
  | dic {a : Addr} {o : Obj} {kvs : List (Key × V)} {ks : List Key} {ds : List D} : F a = some (.frz o (.dK kvs)) → kvs.map (·.1) = ks → DvAll K F (kvs.map (·.2)) ds → Dv K F (.ref a) (.dic ks ds)
  | fn (a : Addr) : Dv K F (.ref a) (.fn a)
  | ty (n : String) : Dv K F (.ty n) (.ty n)
inductive DvAll (K : PySem.W.Frag) (F : Hp) : List V → List D → Prop
  | nil : DvAll K F [] []
  | cons {v : V} {vs : List V} {d : D} {ds : List D} : Dv K F v d → DvAll K F vs ds → DvAll K F (v :: vs) (d :: ds)
end
theorem _root_.L2.Same.tup {K : PySem.W.Frag} {H H' : Hp} {a : Addr} {xs : List V} (e : Same H H') (h : SqT K H a xs) : SqT K H' a xs := by
  rcases h with (h | ⟨o, h⟩) | h
  · exact .inl (.inl (e _ _ h))
  · exact .inl (.inr ⟨o, e _ _ h⟩)
  · exact .inr h
mutual
theorem Dv.mono {K : PySem.W.Frag} {F F' : Hp} (e : Same F F') : ∀ {v : V} {d : D}, Dv K F v d → Dv K F' v d
  | _, _, .non => .non
  | _, _, .bl b => .bl b
  | _, _, .int i => .int i
  | _, _, .str s => .str s
  | _, _, .lst h r => .lst (e _ _ h) (DvAll.mono e r)
  | _, _, .tup h r => .tup (Same.tup e h) (DvAll.mono e r)
  | _, _, .rol h r => .rol (e.seq h) (DvAll.mono e r)
  | _, _, .dic h k r => .dic (e _ _ h) k (DvAll.mono e r)
  | _, _, .fn a => .fn a
  | _, _, .ty a => .ty a
theorem DvAll.mono {K : PySem.W.Frag} {F F' : Hp} (e : Same F F') : ∀ {vs : List V} {ds : List D}, DvAll K F vs ds → DvAll K F' vs ds
  | _, _, .nil => .nil
  | _, _, .cons h r => .cons (Dv.mono e h) (DvAll.mono e r)
end
section
variable {K : PySem.W.Frag} {F : Hp}
theorem DvAll.length : ∀ {vs : List V} {ds : List D}, DvAll K F vs ds → vs.length = ds.length
  | _, _, .nil => rfl
  | _, _, .cons _ r => congrArg (· + 1) r.length
theorem DvAll.get : ∀ {vs : List V} {ds : List D} {i : Nat} {v : V}, DvAll K F vs ds → vs[i]? = some v → ∃ d, ds[i]? = some d ∧ Dv K F v d
  | _, _, _, _, .nil, e => by simp at e
  | _, _, 0, _, .cons h _, e => by simp at e; subst e; exact ⟨_, rfl, h⟩
  | _, _, i + 1, v, .cons _ r, e => by
    obtain ⟨d, h1, h2⟩ := DvAll.get (i := i) (v := v) r (by simpa using e)
    exact ⟨d, by simpa using h1, h2⟩
theorem DvAll.get' : ∀ {vs : List V} {ds : List D} {i : Nat} {d : D}, DvAll K F vs ds → ds[i]? = some d → ∃ v, vs[i]? = some v ∧ Dv K F v d
  | _, _, _, _, .nil, e => by simp at e
  | _, _, 0, _, .cons h _, e => by simp at e; subst e; exact ⟨_, rfl, h⟩
  | _, _, i + 1, v, .cons _ r, e => by
    obtain ⟨d, h1, h2⟩ := DvAll.get' (i := i) (d := v) r (by simpa using e)
    exact ⟨d, by simpa using h1, h2⟩
theorem DvAll.append : ∀ {vs ws : List V} {ds es : List D}, DvAll K F vs ds → DvAll K F ws es → DvAll K F (vs ++ ws) (ds ++ es)
  | _, _, _, _, .nil, s => s
  | _, _, _, _, .cons r t, s => .cons r (DvAll.append t s)
theorem DvAll.take : ∀ {vs : List V} {ds : List D} (n : Nat), DvAll K F vs ds → DvAll K F (vs.take n) (ds.take n)
  | _, _, 0, _ => .nil
  | _, _, _ + 1, .nil => .nil
  | _, _, n + 1, .cons r t => .cons r (DvAll.take n t)
theorem DvAll.drop : ∀ {vs : List V} {ds : List D} (n : Nat), DvAll K F vs ds → DvAll K F (vs.drop n) (ds.drop n)
  | _, _, 0, r => r
  | _, _, _ + 1, .nil => .nil
  | _, _, n + 1, .cons _ t => DvAll.drop n t
theorem DvAll.set {v : V} {d : D} (r : Dv K F v d) : ∀ {vs : List V} {ds : List D} (i : Nat), DvAll K F vs ds → DvAll K F (vs.set i v) (ds.set i d)
  | _, _, _, .nil => .nil
  | _, _, 0, .cons _ t => .cons r t
  | _, _, i + 1, .cons q t => .cons q (DvAll.set r i t)
end

/-! ### results -/
inductive R (α : Type) where
  | ok (a : α) | exc (c : Str) | bad
def R.bind {α β : Type} (r : R α) (f : α → R β) : R β := match r with
  | .ok a => f a
  | .exc c => .exc c
  | .bad => .bad

/-! ### heaps: F is frozen in H -/
structure Grow (F H F' H' : Hp) : Prop where
  h : Same H H'
  f : Same F F'
  s : Same F' H'
  o : ∀ a u, H a = some u → F' a = F a
theorem Grow.refl {F H : Hp} (s : Same F H) : Grow F H F H := ⟨Same.refl H, Same.refl F, s, fun _ _ _ => rfl⟩
theorem Grow.trans {F H F1 H1 F2 H2 : Hp} (a : Grow F H F1 H1) (b : Grow F1 H1 F2 H2) : Grow F H F2 H2 :=
  ⟨a.h.trans b.h, a.f.trans b.f, b.s, fun x u e => (b.o x u (a.h x u e)).trans (a.o x u e)⟩
theorem free_sub {F H : Hp} (s : Same F H) {p : Addr} (hp : H p = none) : F p = none := s.free hp
theorem _root_.L2.Same.upd_new {H : Hp} {p : Addr} {o : HO} (hp : H p = none) : Same H (upd H p o) := fun b x e => by
  rw [upd_ne (ne_of_none e hp)]; exact e
theorem _root_.L2.Same.upd_both {F H : Hp} (s : Same F H) {p : Addr} {o : HO} : Same (upd F p o) (upd H p o) := fun b x e => by
  by_cases hb : b = p
  · subst hb; rw [upd_same] at e ⊢; exact e
  · rw [upd_ne hb] at e ⊢; exact s b x e
theorem _root_.L2.Same.upd_out {F H : Hp} (s : Same F H) {p : Addr} {o : HO} (hp : F p = none) : Same F (upd H p o) := fun b x e => by
  rw [upd_ne (ne_of_none e hp)]; exact s b x e
theorem Grow.new {F H : Hp} (s : Same F H) {p : Addr} {o : HO} (hp : H p = none) : Grow F H (upd F p o) (upd H p o) :=
  ⟨Same.upd_new hp, Same.upd_new (s.free hp), s.upd_both, fun a u e => upd_ne (ne_of_none e hp)⟩
theorem Grow.own {F H : Hp} (s : Same F H) {p : Addr} {o : HO} (hp : H p = none) : Grow F H F (upd H p o) :=
  ⟨Same.upd_new hp, Same.refl F, s.upd_out (s.free hp), fun a u e => rfl⟩

/-! ### slots -/
/-- a deque of these -/
def DqO (a : Addr) (xs : List V) : HO := .ext fun h => ∃ (vs : List Value) (n : Int), xs.length ≤ sizeLine ∧ Vals xs vs ∧ h.get? a = some (recObj "collections.deque" (#[Value.none, rawInt n] ++ vs.toArray))
inductive Slot where
  | un | fz (d : D) | ol (ds : List D) | od (es : List (Key × D)) | oq (ds : List D)
abbrev Env := List Slot
def Slot.own : Slot → Bool
  | .ol _ => true
  | .od _ => true
  | .oq _ => true
  | _ => false
def Slot.peek : Slot → Slot
  | .ol ds => .fz (.lst ds)
  | s => s
def SlotOk (K : PySem.W.Frag) (F H : Hp) : Option V → Slot → Prop
  | _, .un => True
  | some v, .fz d => Dv K F v d
  | some v, .ol ds => ∃ a xs, v = .ref a ∧ H a = some (.lst xs) ∧ F a = none ∧ DvAll K F xs ds
  | some v, .od es => ∃ a kvs, v = .ref a ∧ H a = some (.dK kvs) ∧ F a = none ∧ kvs.map (·.1) = es.map (·.1) ∧ DvAll K F (kvs.map (·.2)) (es.map (·.2))
  | some v, .oq ds => ∃ a xs, v = .ref a ∧ H a = some (DqO a xs) ∧ F a = none ∧ DvAll K F xs ds
  | none, _ => False
structure Sl (K : PySem.W.Frag) (ρ : Env) (σ : L2.St) (F H : Hp) : Prop where
  sub : Same F H
  len : σ.length = ρ.length
  ok : ∀ (i : Nat) (s : Slot) (x : Option V), ρ[i]? = some s → σ[i]? = some x → SlotOk K F H x s
  apart : ∀ (i j : Nat) (s t : Slot) (a : Addr), ρ[i]? = some s → ρ[j]? = some t → s.own = true → t.own = true → σ[i]? = some (some (.ref a)) → σ[j]? = some (some (.ref a)) → i = j
section
variable {K : PySem.W.Frag} {ρ : Env} {σ : L2.St} {F H F' H' : Hp}
theorem SlotOk.grow {x : Option V} {s : Slot} (h : SlotOk K F H x s) (g : Grow F H F' H') : SlotOk K F' H' x s := by
  cases s with
  | un => cases x <;> trivial
  | fz d =>
    cases x with
    | none => exact h.elim
    | some v => exact Dv.mono g.f h
  | ol ds =>
    cases x with
    | none => exact h.elim
    | some v =>
      obtain ⟨a, xs, rfl, h1, h2, h3⟩ := h
      exact ⟨a, xs, rfl, g.h _ _ h1, (g.o _ _ h1).trans h2, h3.mono g.f⟩
  | od es =>
    cases x with
    | none => exact h.elim
    | some v =>
      obtain ⟨a, xs, rfl, h1, h2, h3, h4⟩ := h
      exact ⟨a, xs, rfl, g.h _ _ h1, (g.o _ _ h1).trans h2, h3, h4.mono g.f⟩
  | oq ds =>
    cases x with
    | none => exact h.elim
    | some v =>
      obtain ⟨a, xs, rfl, h1, h2, h3⟩ := h
      exact ⟨a, xs, rfl, g.h _ _ h1, (g.o _ _ h1).trans h2, h3.mono g.f⟩
theorem Sl.grow (S : Sl K ρ σ F H) (g : Grow F H F' H') : Sl K ρ σ F' H' := ⟨g.s, S.len, fun i s x h1 h2 => (S.ok i s x h1 h2).grow g, S.apart⟩
theorem Sl.get (S : Sl K ρ σ F H) {i : Nat} {d : D} (h : ρ[i]? = some (.fz d)) : ∃ v, σ[i]? = some (some v) ∧ Dv K F v d := by
  have hi : i < σ.length := by
    have := (List.getElem?_eq_some_iff.mp h).1
    rw [S.len]; exact this
  have e := List.getElem?_eq_getElem hi
  have q := S.ok i _ _ h e
  cases z : σ[i] with
  | none => rw [z] at q; exact q.elim
  | some v => rw [z] at q e; exact ⟨v, e, q⟩
theorem Sl.getOl (S : Sl K ρ σ F H) {i : Nat} {ds : List D} (h : ρ[i]? = some (.ol ds)) : ∃ a xs, σ[i]? = some (some (.ref a)) ∧ H a = some (.lst xs) ∧ F a = none ∧ DvAll K F xs ds := by
  have hi : i < σ.length := by
    have := (List.getElem?_eq_some_iff.mp h).1
    rw [S.len]; exact this
  have e := List.getElem?_eq_getElem hi
  have q := S.ok i _ _ h e
  cases z : σ[i] with
  | none => rw [z] at q; exact q.elim
  | some v =>
    rw [z] at q e
    obtain ⟨a, xs, rfl, h1, h2, h3⟩ := q
    exact ⟨a, xs, e, h1, h2, h3⟩
theorem Sl.getOd (S : Sl K ρ σ F H) {i : Nat} {es : List (Key × D)} (h : ρ[i]? = some (.od es)) : ∃ a kvs, σ[i]? = some (some (.ref a)) ∧ H a = some (.dK kvs) ∧ F a = none ∧ kvs.map (·.1) = es.map (·.1) ∧ DvAll K F (kvs.map (·.2)) (es.map (·.2)) := by
  have hi : i < σ.length := by
    have := (List.getElem?_eq_some_iff.mp h).1
    rw [S.len]; exact this
  have e := List.getElem?_eq_getElem hi
  have q := S.ok i _ _ h e
  cases z : σ[i] with
  | none => rw [z] at q; exact q.elim
  | some v =>
    rw [z] at q e
    obtain ⟨a, xs, rfl, h1, h2, h3⟩ := q
    exact ⟨a, xs, e, h1, h2, h3⟩
theorem Sl.getOq (S : Sl K ρ σ F H) {i : Nat} {ds : List D} (h : ρ[i]? = some (.oq ds)) : ∃ a xs, σ[i]? = some (some (.ref a)) ∧ H a = some (DqO a xs) ∧ F a = none ∧ DvAll K F xs ds := by
  have hi : i < σ.length := by
    have := (List.getElem?_eq_some_iff.mp h).1
    rw [S.len]; exact this
  have e := List.getElem?_eq_getElem hi
  have q := S.ok i _ _ h e
  cases z : σ[i] with
  | none => rw [z] at q; exact q.elim
  | some v =>
    rw [z] at q e
    obtain ⟨a, xs, rfl, h1, h2, h3⟩ := q
    exact ⟨a, xs, e, h1, h2, h3⟩
theorem get_set {α : Type} {l : List α} {i j : Nat} {x y : α} (h : (l.set i x)[j]? = some y) : (j = i ∧ y = x) ∨ (j ≠ i ∧ l[j]? = some y) := by
  by_cases hj : j = i
  · subst hj
    have hl : j < (l.set j x).length := (List.getElem?_eq_some_iff.mp h).1
    rw [List.length_set] at hl
    rw [List.getElem?_set_self hl] at h
    exact .inl ⟨rfl, (Option.some.inj h).symm⟩
  · rw [List.getElem?_set_ne (Ne.symm hj)] at h
    exact .inr ⟨hj, h⟩
/-- a slot is given data -/
theorem Sl.setFz (S : Sl K ρ σ F H) {v : V} {d : D} (h : Dv K F v d) (i : Nat) : Sl K (ρ.set i (.fz d)) (σ.set i (some v)) F H := by
  refine ⟨S.sub, by rw [List.length_set, List.length_set]; exact S.len, fun j s x h1 h2 => ?_, fun j k s t a h1 h2 h3 h4 h5 h6 => ?_⟩
  · rcases get_set h1 with ⟨e, rfl⟩ | ⟨n, e⟩
    · rcases get_set h2 with ⟨_, rfl⟩ | ⟨n, _⟩
      · exact h
      · exact absurd e n
    · rcases get_set h2 with ⟨z, _⟩ | ⟨_, e2⟩
      · exact absurd z n
      · exact S.ok j s x e e2
  · rcases get_set h1 with ⟨_, rfl⟩ | ⟨n, e⟩
    · cases h3
    · rcases get_set h2 with ⟨_, rfl⟩ | ⟨n2, e2⟩
      · cases h4
      · rcases get_set h5 with ⟨z, _⟩ | ⟨_, e5⟩
        · exact absurd z n
        · rcases get_set h6 with ⟨z, _⟩ | ⟨_, e6⟩
          · exact absurd z n2
          · exact S.apart j k s t a e e2 h3 h4 e5 e6
/-- a slot is forgotten -/
theorem Sl.setUn (S : Sl K ρ σ F H) (x : Option V) (i : Nat) : Sl K (ρ.set i .un) (σ.set i x) F H := by
  refine ⟨S.sub, by rw [List.length_set, List.length_set]; exact S.len, fun j s y h1 h2 => ?_, fun j k s t a h1 h2 h3 h4 h5 h6 => ?_⟩
  · rcases get_set h1 with ⟨e, rfl⟩ | ⟨n, e⟩
    · cases y <;> trivial
    · rcases get_set h2 with ⟨z, _⟩ | ⟨_, e2⟩
      · exact absurd z n
      · exact S.ok j s y e e2
  · rcases get_set h1 with ⟨_, rfl⟩ | ⟨n, e⟩
    · cases h3
    · rcases get_set h2 with ⟨_, rfl⟩ | ⟨n2, e2⟩
      · cases h4
      · rcases get_set h5 with ⟨z, _⟩ | ⟨_, e5⟩
        · exact absurd z n
        · rcases get_set h6 with ⟨z, _⟩ | ⟨_, e6⟩
          · exact absurd z n2
          · exact S.apart j k s t a e e2 h3 h4 e5 e6
/-- a slot is given a thing of its own, new or its own already -/
theorem Sl.setOwn (S : Sl K ρ σ F H) {a : Addr} {s : Slot} {o : HO} (i : Nat) (hF : F a = none) (ho : s.own = true) (hok : SlotOk K F (upd H a o) (some (.ref a)) s)
    (hn : ∀ (j : Nat) (t : Slot), j ≠ i → ρ[j]? = some t → t.own = true → σ[j]? ≠ some (some (.ref a))) : Sl K (ρ.set i s) (σ.set i (some (.ref a))) F (upd H a o) := by
  refine ⟨S.sub.upd_out hF, by rw [List.length_set, List.length_set]; exact S.len, fun j t y h1 h2 => ?_, fun j k s t b h1 h2 h3 h4 h5 h6 => ?_⟩
  · rcases get_set h1 with ⟨e, rfl⟩ | ⟨n, e⟩
    · rcases get_set h2 with ⟨_, rfl⟩ | ⟨n, _⟩
      · exact hok
      · exact absurd e n
    · rcases get_set h2 with ⟨z, _⟩ | ⟨_, e2⟩
      · exact absurd z n
      · have q := S.ok j t y e e2
        cases t with
        | un => cases y <;> trivial
        | fz d =>
          cases y with
          | none => exact q.elim
          | some v => exact q
        | ol ds =>
          cases y with
          | none => exact q.elim
          | some v =>
            obtain ⟨b, xs, rfl, q1, q2, q3⟩ := q
            have hb : b ≠ a := fun z => by subst z; exact hn j _ n e rfl e2
            exact ⟨b, xs, rfl, by rw [upd_ne hb]; exact q1, q2, q3⟩
        | od es =>
          cases y with
          | none => exact q.elim
          | some v =>
            obtain ⟨b, xs, rfl, q1, q2, q3⟩ := q
            have hb : b ≠ a := fun z => by subst z; exact hn j _ n e rfl e2
            exact ⟨b, xs, rfl, by rw [upd_ne hb]; exact q1, q2, q3⟩
        | oq ds =>
          cases y with
          | none => exact q.elim
          | some v =>
            obtain ⟨b, xs, rfl, q1, q2, q3⟩ := q
            have hb : b ≠ a := fun z => by subst z; exact hn j _ n e rfl e2
            exact ⟨b, xs, rfl, by rw [upd_ne hb]; exact q1, q2, q3⟩
  · rcases get_set h1 with ⟨e1, _⟩ | ⟨n1, e1⟩
    · rcases get_set h2 with ⟨e2, _⟩ | ⟨n2, e2⟩
      · rw [e1, e2]
      · rcases get_set h5 with ⟨_, z5⟩ | ⟨z5, _⟩
        · rcases get_set h6 with ⟨z6, _⟩ | ⟨_, z6⟩
          · exact absurd z6 n2
          · cases z5
            exact absurd z6 (hn k t n2 e2 h4)
        · exact absurd e1 z5
    · rcases get_set h2 with ⟨e2, _⟩ | ⟨n2, e2⟩
      · rcases get_set h6 with ⟨_, z6⟩ | ⟨z6, _⟩
        · rcases get_set h5 with ⟨z5, _⟩ | ⟨_, z5⟩
          · exact absurd z5 n1
          · cases z6
            exact absurd z5 (hn j s n1 e1 h3)
        · exact absurd e2 z6
      · rcases get_set h5 with ⟨z, _⟩ | ⟨_, e5⟩
        · exact absurd z n1
        · rcases get_set h6 with ⟨z, _⟩ | ⟨_, e6⟩
          · exact absurd z n2
          · exact S.apart j k s t b e1 e2 h3 h4 e5 e6
/-- the lists are frozen for a look -/
def peekF (F H : Hp) : Hp := fun a => match F a with
  | some u => some u
  | none => match H a with
    | some (.lst xs) => some (.lst xs)
    | _ => none
theorem peekF_some {F H : Hp} {a : Addr} {u : HO} (h : F a = some u) : peekF F H a = some u := by unfold peekF; rw [h]
theorem peekF_lst {F H : Hp} {a : Addr} {xs : List V} (h : F a = none) (h2 : H a = some (.lst xs)) : peekF F H a = some (.lst xs) := by unfold peekF; rw [h, h2]
theorem peekF_none {F H : Hp} {a : Addr} {u : HO} (h : F a = none) (h2 : H a = some u) (hu : ∀ xs, u ≠ .lst xs) : peekF F H a = none := by
  unfold peekF
  rw [h, h2]
  cases u with
  | lst xs => exact absurd rfl (hu xs)
  | _ => rfl
theorem peekF_same (F H : Hp) : Same F (peekF F H) := fun a u h => peekF_some h
theorem peekF_sub {F H : Hp} (s : Same F H) : Same (peekF F H) H := fun a u h => by
  cases e : F a with
  | some y =>
    rw [peekF_some e] at h
    rw [h] at e
    exact s a u e
  | none =>
    unfold peekF at h
    rw [e] at h
    cases z : H a with
    | none => rw [z] at h; cases h
    | some y =>
      rw [z] at h
      cases y with
      | lst xs => exact h
      | _ => cases h
theorem Sl.peek (S : Sl K ρ σ F H) : Sl K (ρ.map Slot.peek) σ (peekF F H) H := by
  have sm := peekF_same F H
  have ga : ∀ {i : Nat} {s : Slot}, (ρ.map Slot.peek)[i]? = some s → s.own = true → ρ[i]? = some s := fun {i s} h1 h3 => by
    rw [List.getElem?_map] at h1
    cases e : ρ[i]? with
    | none => rw [e] at h1; cases h1
    | some t =>
      rw [e] at h1
      cases h1
      cases t <;> first | rfl | cases h3
  refine ⟨peekF_sub S.sub, by rw [List.length_map]; exact S.len, fun i s x h1 h2 => ?_, fun i j s t a h1 h2 h3 h4 h5 h6 => S.apart i j s t a (ga h1 h3) (ga h2 h4) h3 h4 h5 h6⟩
  rw [List.getElem?_map] at h1
  cases e : ρ[i]? with
  | none => rw [e] at h1; cases h1
  | some t =>
    rw [e] at h1
    have q := S.ok i t x e h2
    cases h1
    cases t with
    | un => cases x <;> trivial
    | fz d =>
      cases x with
      | none => exact q.elim
      | some v => exact Dv.mono sm q
    | ol ds =>
      cases x with
      | none => exact q.elim
      | some v =>
        obtain ⟨a, xs, rfl, q1, q2, q3⟩ := q
        exact Dv.lst (peekF_lst q2 q1) (q3.mono sm)
    | od es =>
      cases x with
      | none => exact q.elim
      | some v =>
        obtain ⟨a, xs, rfl, q1, q2, q3, q4⟩ := q
        exact ⟨a, xs, rfl, q1, peekF_none q2 q1 (fun _ z => nomatch z), q3, q4.mono sm⟩
    | oq ds =>
      cases x with
      | none => exact q.elim
      | some v =>
        obtain ⟨a, xs, rfl, q1, q2, q3⟩ := q
        exact ⟨a, xs, rfl, q1, peekF_none q2 q1 (fun _ z => nomatch z), q3.mono sm⟩
/-- what was grown while lists were frozen -/
theorem Grow.unpeek (s : Same F H) (g : Grow (peekF F H) H F' H') : ∃ F'', Grow F H F'' H' := by
  refine ⟨fun a => if (H a).isSome = true ∧ F a = none then none else F' a, g.h, fun a u e => ?_, fun a u e => ?_, fun a u e => ?_⟩
  · show (if (H a).isSome = true ∧ F a = none then none else F' a) = some u
    rw [if_neg (fun z => by rw [e] at z; exact absurd z.2 (by simp))]
    exact g.f a u (peekF_some e)
  · have e' : (if (H a).isSome = true ∧ F a = none then none else F' a) = some u := e
    split at e'
    · cases e'
    · exact g.s a u e'
  · show (if (H a).isSome = true ∧ F a = none then none else F' a) = F a
    cases q : F a with
    | none => rw [if_pos ⟨by rw [e]; rfl, rfl⟩]
    | some y => rw [if_neg (fun z => by cases z.2), g.o a u e, peekF_some q]
end
end Mir
namespace Mir
open PySem PySem.Spec PyProof.Rows L2

/-! ### judgements -/
structure Gm where
  K : PySem.W.Frag
  mg : Str → Option Value
  E : XK
def PostR {α β : Type} (G : Gm) (rel : Hp → β → α → Prop) (F H : Hp) (r : R α) (Q : β → Hp → Prop) : Prop := match r with
  | .ok a => ∀ b F' H', Grow F H F' H' → rel F' b a → Q b H'
  | .exc c => ∀ C F' H', G.mg c = some (.ref C) → Grow F H F' H' → G.E (.ref C) none H'
  | .bad => False
section
variable {G : Gm} {α β α' β' : Type} {rel : Hp → β → α → Prop} {rel' : Hp → β' → α' → Prop} {F H F1 H1 : Hp} {r : R α}
theorem PostR.grow {Q : β → Hp → Prop} (h : PostR G rel F H r Q) (g : Grow F H F1 H1) : PostR G rel F1 H1 r Q := by
  cases r with
  | ok a => exact fun b F' H' g' q => h b F' H' (g.trans g') q
  | exc c => exact fun C F' H' m g' => h C F' H' m (g.trans g')
  | bad => exact h
theorem PostR.imp {Q Q' : β → Hp → Prop} (h : PostR G rel F H r Q) (k : ∀ a b F' H', r = .ok a → Grow F H F' H' → rel F' b a → Q b H' → Q' b H') : PostR G rel F H r Q' := by
  cases r with
  | ok a => exact fun b F' H' g' q => k a b F' H' rfl g' q (h b F' H' g' q)
  | exc c => exact h
  | bad => exact h
theorem PostR.bind {f : α → R α'} {Q : β' → Hp → Prop} (h : PostR G rel' F H (r.bind f) Q) : PostR G rel F H r (fun b H1 => ∃ F1 a, r = .ok a ∧ Grow F H F1 H1 ∧ rel F1 b a ∧ PostR G rel' F1 H1 (f a) Q) := by
  cases r with
  | ok a => exact fun b F' H' g' q => ⟨F', a, rfl, g', q, PostR.grow (show PostR G rel' F H (f a) Q from h) g'⟩
  | exc c => exact h
  | bad => exact h
theorem PostR.go {a : α} {Q : β → Hp → Prop} (h : PostR G rel F H (.ok a) Q) (s : Same F H) {b : β} (q : rel F b a) : Q b H := h b F H (Grow.refl s) q
end
abbrev DvR (G : Gm) : Hp → V → D → Prop := fun F v d => Dv G.K F v d
abbrev DvsR (G : Gm) : Hp → List V → List D → Prop := fun F v d => DvAll G.K F v d
abbrev EqR {α : Type} : Hp → α → α → Prop := fun _ b a => b = a
def tOf (G : Gm) (m : Env → R D) : TE := fun σ H Q => ∃ ρ F, Sl G.K ρ σ F H ∧ PostR G (DvR G) F H (m ρ) Q
def ttOf (G : Gm) (m : Env → R Bool) : TT := fun σ H Q => ∃ ρ F, Sl G.K ρ σ F H ∧ PostR G EqR F H (m ρ) Q
def taOf (G : Gm) (m : Env → R (List D)) : TA := fun σ H Q => ∃ ρ F, Sl G.K ρ σ F H ∧ PostR G (DvsR G) F H (m ρ) Q
def toOf (G : Gm) (m : Env → R (Option Int)) : TO := fun σ H Q => ∃ ρ F, Sl G.K ρ σ F H ∧ PostR G EqR F H (m ρ) Q
/-- a fresh list -/
def PostF (G : Gm) (F H : Hp) (r : R (List D)) (Q : VK) : Prop := match r with
  | .ok ds => ∀ p xs F' H', Grow F H F' H' → H p = none → F' p = none → H' p = some (.lst xs) → DvAll G.K F' xs ds → Q (.ref p) H'
  | .exc c => ∀ C F' H', G.mg c = some (.ref C) → Grow F H F' H' → G.E (.ref C) none H'
  | .bad => False
def tfOf (G : Gm) (m : Env → R (List D)) : TE := fun σ H Q => ∃ ρ F, Sl G.K ρ σ F H ∧ PostF G F H (m ρ) Q
theorem PostF.grow {G : Gm} {F H F1 H1 : Hp} {r : R (List D)} {Q : VK} (h : PostF G F H r Q) (g : Grow F H F1 H1) : PostF G F1 H1 r Q := by
  cases r with
  | ok a => exact fun p xs F' H' g' n f o q => h p xs F' H' (g.trans g') (g.h.free n) f o q
  | exc c => exact fun C F' H' m g' => h C F' H' m (g.trans g')
  | bad => exact h
theorem PostF.bind {G : Gm} {α β : Type} {rel : Hp → β → α → Prop} {F H : Hp} {r : R α} {f : α → R (List D)} {Q : VK} (h : PostF G F H (r.bind f) Q) :
    PostR G rel F H r (fun b H1 => ∃ F1 a, r = .ok a ∧ Grow F H F1 H1 ∧ rel F1 b a ∧ PostF G F1 H1 (f a) Q) := by
  cases r with
  | ok a => exact fun b F' H' g' q => ⟨F', a, rfl, g', q, PostF.grow (show PostF G F H (f a) Q from h) g'⟩
  | exc c => exact h
  | bad => exact h

abbrev ME (X : Cx) (G : Gm) (e : Expr) (m : Env → R D) : Prop := PE X e (tOf G m)
abbrev MF (X : Cx) (G : Gm) (e : Expr) (m : Env → R (List D)) : Prop := PE X e (tfOf G m)
abbrev MT (X : Cx) (G : Gm) (e : Expr) (m : Env → R Bool) : Prop := PT X e (ttOf G m)
abbrev MW (X : Cx) (G : Gm) (e : Expr) (m : Env → R Bool) : Prop := PW X e (ttOf G m)
abbrev MA (X : Cx) (G : Gm) (es : List Expr) (m : Env → R (List D)) : Prop := PA X es (taOf G m)
abbrev MO (X : Cx) (G : Gm) (e : Option Expr) (m : Env → R (Option Int)) : Prop := PO X e (toOf G m)

theorem weakE {X : Cx} {e : Expr} {t t' : TE} (h : PE X e t) (k : ∀ σ H Q, t' σ H Q → t σ H Q) : PE X e t' := ⟨fun pins s σ H Q I q => h.run pins s σ H Q I (k σ H Q q)⟩
theorem weakT {X : Cx} {e : Expr} {t t' : TT} (h : PT X e t) (k : ∀ σ H Q, t' σ H Q → t σ H Q) : PT X e t' := ⟨fun pins s σ H Q I q => h.run pins s σ H Q I (k σ H Q q)⟩
theorem weakW {X : Cx} {e : Expr} {t t' : TT} (h : PW X e t) (k : ∀ σ H Q, t' σ H Q → t σ H Q) : PW X e t' := ⟨fun wh pins s σ H Q I q => h.run wh pins s σ H Q I (k σ H Q q)⟩
theorem weakA {X : Cx} {e : List Expr} {t t' : TA} (h : PA X e t) (k : ∀ σ H Q, t' σ H Q → t σ H Q) : PA X e t' := ⟨fun pos pins s σ H Q I q => h.run pos pins s σ H Q I (k σ H Q q)⟩
theorem weakO {X : Cx} {e : Option Expr} {t t' : TO} (h : PO X e t) (k : ∀ σ H Q, t' σ H Q → t σ H Q) : PO X e t' := ⟨fun pins s σ H Q I q => h.run pins s σ H Q I (k σ H Q q)⟩

/-! ### mirrors -/
def mVar (i : Nat) : Env → R D := fun ρ => match ρ[i]? with
  | some (.fz d) => .ok d
  | _ => .bad
def mC (d : D) : Env → R D := fun _ => .ok d
def mB (f : D → D → R D) (a b : Env → R D) : Env → R D := fun ρ => (a ρ).bind fun x => (b ρ).bind fun y => f x y
def mU (f : D → R D) (a : Env → R D) : Env → R D := fun ρ => (a ρ).bind f
def mBT (f : D → D → R Bool) (a b : Env → R D) : Env → R Bool := fun ρ => (a ρ).bind fun x => (b ρ).bind fun y => f x y
def mUT (f : D → R Bool) (a : Env → R D) : Env → R Bool := fun ρ => (a ρ).bind f
def blOf (d : D) : R Bool := match d with
  | .bl b => .ok b
  | _ => .bad
def mNil : Env → R (List D) := fun _ => .ok []
def mCons (a : Env → R D) (r : Env → R (List D)) : Env → R (List D) := fun ρ => (a ρ).bind fun x => (r ρ).bind fun xs => .ok (x :: xs)
def mTest (a : Env → R D) : Env → R Bool := fun ρ => (a ρ).bind blOf
def mVal (a : Env → R Bool) : Env → R D := fun ρ => (a ρ).bind fun b => .ok (.bl b)
def mAnd (a b : Env → R Bool) : Env → R Bool := fun ρ => (a ρ).bind fun x => if x = true then b ρ else .ok false
def mOr (a b : Env → R Bool) : Env → R Bool := fun ρ => (a ρ).bind fun x => if x = true then .ok true else b ρ
def mNot (a : Env → R Bool) : Env → R Bool := fun ρ => (a ρ).bind fun x => .ok (!x)
def mIf (c : Env → R Bool) (a b : Env → R D) : Env → R D := fun ρ => (c ρ).bind fun x => if x = true then a ρ else b ρ
def mPeekT (a : Env → R Bool) : Env → R Bool := fun ρ => a (ρ.map Slot.peek)
def flat : D → Bool
  | .non => true
  | .bl _ => true
  | .int _ => true
  | .str _ => true
  | _ => false
def mPeek (a : Env → R D) : Env → R D := fun ρ => (a (ρ.map Slot.peek)).bind fun d => if flat d = true then .ok d else .bad

section
variable {X : Cx} {G : Gm} {a b c e : Expr} {es : List Expr} {ma mb : Env → R D} {pos : Pos} {F H : Hp}
/-- an operator by data: how its reading follows from f -/
def OpM (G : Gm) (r : R2) (f : D → D → R D) : Prop := ∀ (F H : Hp) (x y : V) (d e : D) (Q : VK), Same F H → Dv G.K F x d → Dv G.K F y e → PostR G (DvR G) F H (f d e) Q → r x y H Q
def OpMF (G : Gm) (r : R2) (f : D → D → R (List D)) : Prop := ∀ (F H : Hp) (x y : V) (d e : D) (Q : VK), Same F H → Dv G.K F x d → Dv G.K F y e → PostF G F H (f d e) Q → r x y H Q
theorem op2 {ta tb : TE} {f : D → D → R D} {r : R2} (hm : OpM G r f) : ∀ σ H Q, tOf G (mB f ma mb) σ H Q → tOp r (tOf G ma) (tOf G mb) σ H Q := by
  intro σ H Q ⟨ρ, F, S, P⟩
  refine ⟨ρ, F, S, (PostR.bind (rel := DvR G) P).imp fun d x F1 H1 e1 g1 q1 ⟨F1', d', e1', g1', q1', P1⟩ => ?_⟩
  refine ⟨ρ, F1', S.grow g1', (PostR.bind (rel := DvR G) P1).imp fun d2 y F2 H2 e2 g2 q2 ⟨F2', d2', e2', g2', q2', P2⟩ => ?_⟩
  exact hm F2' H2 x y d' d2' Q g2'.s (q1'.mono g2'.f) q2' P2
theorem op2F {ta tb : TE} {f : D → D → R (List D)} {r : R2} (hm : OpMF G r f) : ∀ σ H Q, tfOf G (fun ρ => (ma ρ).bind fun x => (mb ρ).bind fun y => f x y) σ H Q → tOp r (tOf G ma) (tOf G mb) σ H Q := by
  intro σ H Q ⟨ρ, F, S, P⟩
  refine ⟨ρ, F, S, (PostF.bind (rel := DvR G) P).imp fun d x F1 H1 e1 g1 q1 ⟨F1', d', e1', g1', q1', P1⟩ => ?_⟩
  refine ⟨ρ, F1', S.grow g1', (PostF.bind (rel := DvR G) P1).imp fun d2 y F2 H2 e2 g2 q2 ⟨F2', d2', e2', g2', q2', P2⟩ => ?_⟩
  exact hm F2' H2 x y d' d2' Q g2'.s (q1'.mono g2'.f) q2' P2

theorem me_var (i : Nat) {x : Str} (hN : X.N[i]? = some x := by rfl) (hv : Vis X.env.scope x := by first | exact Or.inl rfl | exact Or.inr (Or.inl rfl) | exact Or.inr (Or.inr rfl)) (hd : (x == ("__debug__" : Str)) = false := by decide)
    (hcd : (x == ("__classdict__" : Str)) = false := by decide) : ME X G (.Name x pos) (mVar i) := weakE (pe_var hN hv hd hcd) fun σ H Q ⟨ρ, F, S, P⟩ => by
  unfold mVar at P
  split at P
  · rename_i d hd
    obtain ⟨v, e, q⟩ := S.get hd
    exact ⟨v, e, P.go S.sub q⟩
  · exact P.elim
theorem me_c {t : TE} {v : V} {d : D} (h : PE X e (tC v)) (hd : ∀ F, Dv G.K F v d) : ME X G e (mC d) := weakE h fun σ H Q ⟨ρ, F, S, P⟩ => PostR.go P S.sub (hd F)
theorem me_int {i j} : ME X G (.Constant (.int i) j pos) (mC (.int i)) := me_c (t := tC .non) pe_int fun _ => .int _
theorem me_bl {i j} : ME X G (.Constant (.bool i) j pos) (mC (.bl i)) := me_c (t := tC .non) pe_bl fun _ => .bl _
theorem me_non {j} : ME X G (.Constant .none j pos) (mC .non) := me_c (t := tC .non) pe_non fun _ => .non
theorem me_str {i j} : ME X G (.Constant (.str i) j pos) (mC (.str i)) := me_c (t := tC .non) pe_str fun _ => .str _
theorem me_gInt {x : Str} {i : Int} (hm : ∃ t, X.mg x = some (.int i t)) (hg : Gl X x := by rfl) (hd : (x == ("__debug__" : Str)) = false := by decide) : ME X G (.Name x pos) (mC (.int i)) := by
  obtain ⟨t, hm⟩ := hm
  exact me_c (t := tC .non) (pe_glob (v := .int i) hg hm ⟨_, rfl⟩ hd) fun _ => .int _
theorem me_gStr {x : Str} {i : Str} (hm : ∃ t, X.mg x = some (.str i t)) (hg : Gl X x := by rfl) (hd : (x == ("__debug__" : Str)) = false := by decide) : ME X G (.Name x pos) (mC (.str i)) := by
  obtain ⟨t, hm⟩ := hm
  exact me_c (t := tC .non) (pe_glob (v := .str i) hg hm ⟨_, rfl⟩ hd) fun _ => .str _
theorem me_ty {x : Str} {n : String} (hm : X.mg x = none) (hv : bootBuiltins x = some (.type n)) (hg : Gl X x := by rfl) (hn : x ≠ "__name__" := by decide) (hd : (x == ("__debug__" : Str)) = false := by decide) : ME X G (.Name x pos) (mC (.ty n)) := me_c (t := tC .non) (pe_bltn (v := .ty n) hg hm hv rfl hn hd) fun _ => .ty _
theorem me_gFn {x : Str} {f : Addr} (hm : X.mg x = some (.ref f)) (hg : Gl X x := by rfl) (hd : (x == ("__debug__" : Str)) = false := by decide) : ME X G (.Name x pos) (mC (.fn f)) := me_c (t := tC .non) (pe_glob (v := .ref f) hg hm rfl hd) fun _ => .fn _

theorem me_bin {op : Operator} {r : R2} {f : D → D → R D} (ho : OpR X (binaryOp op) r) (hm : OpM G r f) (ha : ME X G a ma) (hb : ME X G b mb) : ME X G (.BinOp a op b pos) (mB f ma mb) :=
  weakE (pe_op ho ha hb) (op2 (ta := tC .non) (tb := tC .non) hm)
theorem mf_bin {op : Operator} {r : R2} {f : D → D → R (List D)} (ho : OpR X (binaryOp op) r) (hm : OpMF G r f) (ha : ME X G a ma) (hb : ME X G b mb) : MF X G (.BinOp a op b pos) (fun ρ => (ma ρ).bind fun x => (mb ρ).bind fun y => f x y) :=
  weakE (pe_op ho ha hb) (op2F (ta := tC .non) (tb := tC .non) hm)
theorem me_cmp {op : CmpOp} {r : R2} {f : D → D → R D} (ho : OpR X (compareOp op) r) (hm : OpM G r f) (ha : ME X G a ma) (hb : ME X G b mb) (hk : behindInMarks op b = false) : ME X G (.Compare a [op] [b] pos) (mB f ma mb) :=
  weakE (pe_cmpR ho ha hb hk) (op2 (ta := tC .non) (tb := tC .non) hm)
/-- a value that is a bool, as a test -/
theorem tt_of {te : TE} {m : Env → R D} (h : ∀ σ H Q, tOf G m σ H Q → te σ H Q) : ∀ σ H Q, ttOf G (mTest m) σ H Q → tTest te σ H Q := fun σ H Q ⟨ρ, F, S, P⟩ => by
  refine h σ H _ ⟨ρ, F, S, (PostR.bind (rel := DvR G) P).imp fun d x F1 H1 e1 g1 q1 ⟨F1', d', e1', g1', q1', P1⟩ => ?_⟩
  unfold blOf at P1
  split at P1
  · cases q1'
    exact ⟨_, rfl, P1.go g1'.s rfl⟩
  · exact P1.elim
theorem mt_cmp {op : CmpOp} {r : R2} {f : D → D → R D} (ho : OpR X (compareOp op) r) (hm : OpM G r f) (ha : ME X G a ma) (hb : ME X G b mb) (hk : behindInMarks op b = false) : MT X G (.Compare a [op] [b] pos) (mTest (mB f ma mb)) :=
  weakT (pt_cmpR ho ha hb hk) (tt_of (op2 (ta := tC .non) (tb := tC .non) hm))
/-- a call or the like whose value is a bool, as a test -/
theorem mt_val (ha : ME X G a ma) (he : ∀ whole, isTrue a X.env whole = (do let v ← whole; standAt a.pos; holding [v] (truthy v)) := by intro _; rfl) : MT X G a (mTest ma) :=
  weakT (pt_val ha he) (tt_of (te := tOf G ma) fun _ _ _ q => q)
/-- truth of any data -/
def truth : D → R Bool
  | .non => .ok false
  | .bl b => .ok b
  | .int i => .ok (i != 0)
  | .str y => if y.length ≤ sizeLine then .ok ((y.length : Int) != 0) else .bad
  | .lst ds => .ok (!ds.isEmpty)
  | .rol ds => .ok (!ds.isEmpty)
  | .tup ds => .ok (!ds.isEmpty)
  | _ => .bad
theorem isEmpty_of {K : PySem.W.Frag} {xs : List V} {ds : List D} (h : DvAll K F xs ds) : xs.isEmpty = ds.isEmpty := by cases h <;> rfl
theorem mt_truth (ha : ME X G a ma) (hK : X.K = G.K := by rfl) (he : ∀ whole, isTrue a X.env whole = (do let v ← whole; standAt a.pos; holding [v] (truthy v)) := by intro _; rfl) : MT X G a (mUT truth ma) :=
  weakT (pt_truth ha he) fun σ H Q ⟨ρ, F, S, P⟩ => by
    refine ⟨ρ, F, S, (PostR.bind (rel := DvR G) P).imp fun d x F1 H1 e1 g1 q1 ⟨F1', d', e1', g1', q1', P1⟩ => ?_⟩
    rw [hK]
    cases q1' with
    | non => exact ⟨_, rfl, P1.go g1'.s rfl⟩
    | bl b => exact ⟨_, rfl, P1.go g1'.s rfl⟩
    | int i => exact ⟨_, rfl, P1.go g1'.s rfl⟩
    | str y =>
      unfold truth at P1
      dsimp only at P1
      split at P1
      · exact ⟨_, ⟨by assumption, rfl⟩, P1.go g1'.s rfl⟩
      · exact P1.elim
    | lst h r => exact ⟨_, .inl ⟨_, SqL.of (g1'.s _ _ h), rfl⟩, P1.go g1'.s (by rw [isEmpty_of r])⟩
    | rol h r => exact ⟨_, .inl ⟨_, g1'.s.seq h, rfl⟩, P1.go g1'.s (by rw [isEmpty_of r])⟩
    | tup h r => exact ⟨_, .inr (.inl ⟨_, Same.tup g1'.s h, rfl⟩), P1.go g1'.s (by rw [isEmpty_of r])⟩
    | dic h k r => exact P1.elim
    | fn => exact P1.elim
    | ty => exact P1.elim
theorem mt_peek {m : Env → R Bool} (h : MT X G a m) : MT X G a (mPeekT m) := weakT h fun σ H Q ⟨ρ, F, S, P⟩ => by
  refine ⟨_, peekF F H, S.peek, ?_⟩
  unfold mPeekT at P
  cases e : m (ρ.map Slot.peek) with
  | ok b =>
    rw [e] at P
    intro b' F' H' g q
    obtain ⟨F'', g'⟩ := g.unpeek S.sub
    exact P b' F'' H' g' q
  | exc c =>
    rw [e] at P
    intro C F' H' hm g
    obtain ⟨F'', g'⟩ := g.unpeek S.sub
    exact P C F'' H' hm g'
  | bad => rw [e] at P; exact P.elim
theorem me_peek (h : ME X G a ma) : ME X G a (mPeek ma) := weakE h fun σ H Q ⟨ρ, F, S, P⟩ => by
  refine ⟨_, peekF F H, S.peek, ?_⟩
  unfold mPeek at P
  cases e : ma (ρ.map Slot.peek) with
  | ok d =>
    rw [e] at P
    intro b' F' H' g q
    obtain ⟨F'', g'⟩ := g.unpeek S.sub
    have P' : PostR G (DvR G) F H (if flat d = true then .ok d else .bad) Q := P
    by_cases hf : flat d = true
    · rw [if_pos hf] at P'
      refine P' b' F'' H' g' ?_
      cases q with
      | non => exact .non
      | bl b => exact .bl b
      | int b => exact .int b
      | str b => exact .str b
      | lst => cases hf
      | tup => cases hf
      | rol => cases hf
      | dic => cases hf
      | fn => cases hf
      | ty => cases hf
    · rw [if_neg hf] at P'
      exact P'.elim
  | exc c =>
    rw [e] at P
    intro C F' H' hm g
    obtain ⟨F'', g'⟩ := g.unpeek S.sub
    exact P C F'' H' hm g'
  | bad => rw [e] at P; exact P.elim

/-! and, or, not, if -/
variable {m m' : Env → R Bool} {rest : List Expr}
theorem mw_and1 (h : MT X G a m) : MW X G (.BoolOp .And [a] pos) m := pw_and1 h
theorem mw_or1 (h : MT X G a m) : MW X G (.BoolOp .Or [a] pos) m := pw_or1 h
theorem mw_and (ha : MT X G a m) (hb : MW X G (.BoolOp .And (b :: rest) pos) m') : MW X G (.BoolOp .And (a :: b :: rest) pos) (mAnd m m') :=
  weakW (pw_and ha hb) fun σ H Q ⟨ρ, F, S, P⟩ => by
    refine ⟨ρ, F, S, (PostR.bind (rel := EqR) P).imp fun d x F1 H1 e1 g1 q1 ⟨F1', d', e1', g1', q1', P1⟩ => ?_⟩
    have q : x = d' := q1'
    subst q
    cases x with
    | true => rw [if_pos rfl] at P1 ⊢; exact ⟨ρ, F1', S.grow g1', P1⟩
    | false => rw [if_neg Bool.false_ne_true] at P1 ⊢; exact P1.go g1'.s rfl
theorem mw_or (ha : MT X G a m) (hb : MW X G (.BoolOp .Or (b :: rest) pos) m') : MW X G (.BoolOp .Or (a :: b :: rest) pos) (mOr m m') :=
  weakW (pw_or ha hb) fun σ H Q ⟨ρ, F, S, P⟩ => by
    refine ⟨ρ, F, S, (PostR.bind (rel := EqR) P).imp fun d x F1 H1 e1 g1 q1 ⟨F1', d', e1', g1', q1', P1⟩ => ?_⟩
    have q : x = d' := q1'
    subst q
    cases x with
    | true => rw [if_pos rfl] at P1 ⊢; exact P1.go g1'.s rfl
    | false => rw [if_neg Bool.false_ne_true] at P1 ⊢; exact ⟨ρ, F1', S.grow g1', P1⟩
theorem mt_not (h : MT X G a m) : MT X G (.UnaryOp .Not a pos) (mNot m) := weakT (pt_not h) fun σ H Q ⟨ρ, F, S, P⟩ => by
  refine ⟨ρ, F, S, (PostR.bind (rel := EqR) P).imp fun d x F1 H1 e1 g1 q1 ⟨F1', d', e1', g1', q1', P1⟩ => ?_⟩
  have q : x = d' := q1'
  subst q
  exact P1.go g1'.s rfl
theorem me_if (hc : MT X G c m) (ha : ME X G a ma) (hb : ME X G b mb) : ME X G (.IfExp c a b pos) (mIf m ma mb) := weakE (pe_ifExp hc ha hb) fun σ H Q ⟨ρ, F, S, P⟩ => by
  refine ⟨ρ, F, S, (PostR.bind (rel := EqR) P).imp fun d x F1 H1 e1 g1 q1 ⟨F1', d', e1', g1', q1', P1⟩ => ?_⟩
  have q : x = d' := q1'
  subst q
  cases x with
  | true => rw [if_pos rfl] at P1 ⊢; exact ⟨ρ, F1', S.grow g1', P1⟩
  | false => rw [if_neg Bool.false_ne_true] at P1 ⊢; exact ⟨ρ, F1', S.grow g1', P1⟩
/-- and, or, not as values of bools -/
def mAndV (a b : Env → R D) : Env → R D := fun ρ => (a ρ).bind fun x => (blOf x).bind fun k => if k = true then b ρ else .ok (.bl false)
def mOrV (a b : Env → R D) : Env → R D := fun ρ => (a ρ).bind fun x => (blOf x).bind fun k => if k = true then .ok (.bl true) else b ρ
def mNotV (a : Env → R D) : Env → R D := fun ρ => (a ρ).bind fun x => (blOf x).bind fun k => .ok (.bl (!k))
theorem me_one {op} (h : ME X G a ma) : ME X G (.BoolOp op [a] pos) ma := pe_one h
theorem me_and (ha : ME X G a ma) (hb : ME X G (.BoolOp .And (b :: rest) pos) mb) : ME X G (.BoolOp .And (a :: b :: rest) pos) (mAndV ma mb) := weakE (pe_and ha hb) fun σ H Q ⟨ρ, F, S, P⟩ => by
  refine ⟨ρ, F, S, (PostR.bind (rel := DvR G) P).imp fun d x F1 H1 e1 g1 q1 ⟨F1', d', e1', g1', q1', P1⟩ => ?_⟩
  cases q1' with
  | bl k =>
    refine ⟨k, rfl, ?_⟩
    have P1 : PostR G (DvR G) F1' H1 (if k = true then mb ρ else .ok (.bl false)) Q := P1
    cases k with
    | true => rw [if_pos rfl] at P1 ⊢; exact ⟨ρ, F1', S.grow g1', P1⟩
    | false => rw [if_neg Bool.false_ne_true] at P1 ⊢; exact P1.go g1'.s (.bl _)
  | _ => exact P1.elim
theorem me_or (ha : ME X G a ma) (hb : ME X G (.BoolOp .Or (b :: rest) pos) mb) : ME X G (.BoolOp .Or (a :: b :: rest) pos) (mOrV ma mb) := weakE (pe_or ha hb) fun σ H Q ⟨ρ, F, S, P⟩ => by
  refine ⟨ρ, F, S, (PostR.bind (rel := DvR G) P).imp fun d x F1 H1 e1 g1 q1 ⟨F1', d', e1', g1', q1', P1⟩ => ?_⟩
  cases q1' with
  | bl k =>
    refine ⟨k, rfl, ?_⟩
    have P1 : PostR G (DvR G) F1' H1 (if k = true then .ok (.bl true) else mb ρ) Q := P1
    cases k with
    | true => rw [if_pos rfl] at P1 ⊢; exact P1.go g1'.s (.bl _)
    | false => rw [if_neg Bool.false_ne_true] at P1 ⊢; exact ⟨ρ, F1', S.grow g1', P1⟩
  | _ => exact P1.elim
theorem me_not (ha : ME X G a ma) : ME X G (.UnaryOp .Not a pos) (mNotV ma) := weakE (pe_not ha) fun σ H Q ⟨ρ, F, S, P⟩ => by
  refine ⟨ρ, F, S, (PostR.bind (rel := DvR G) P).imp fun d x F1 H1 e1 g1 q1 ⟨F1', d', e1', g1', q1', P1⟩ => ?_⟩
  cases q1' with
  | bl k =>
    exact ⟨k, rfl, PostR.go (G := G) (rel := DvR G) P1 g1'.s (Dv.bl _)⟩
  | _ => exact P1.elim

/-! arguments, displays -/
theorem ma_nil : MA X G [] mNil := weakA pa_nil fun σ H Q ⟨ρ, F, S, P⟩ => PostR.go P S.sub .nil
theorem ma_cons {mr : Env → R (List D)} (ha : ME X G e ma) (hr : MA X G es mr) (hs : starEach (e :: es) X.env = (false, eval e X.env) :: starEach es X.env := by rfl) : MA X G (e :: es) (mCons ma mr) :=
  weakA (pa_cons ha hr hs) fun σ H Q ⟨ρ, F, S, P⟩ => by
    refine ⟨ρ, F, S, (PostR.bind (rel := DvR G) P).imp fun d x F1 H1 e1 g1 q1 ⟨F1', d', e1', g1', q1', P1⟩ => ?_⟩
    refine ⟨ρ, F1', S.grow g1', (PostR.bind (rel := DvsR G) P1).imp fun d2 y F2 H2 e2 g2 q2 ⟨F2', d2', e2', g2', q2', P2⟩ => ?_⟩
    exact P2.go g2'.s (.cons (q1'.mono g2'.f) q2')
def mTup (m : Env → R (List D)) : Env → R D := fun ρ => (m ρ).bind fun ds => if ds.length ≤ sizeLine then .ok (.tup ds) else .bad
def mLst (m : Env → R (List D)) : Env → R (List D) := fun ρ => (m ρ).bind fun ds => if ds.length ≤ sizeLine then .ok ds else .bad
theorem me_tup {mr : Env → R (List D)} {x1} (h : MA X G es mr) : ME X G (.Tuple es x1 pos) (mTup mr) := weakE (pe_tup h) fun σ H Q ⟨ρ, F, S, P⟩ => by
  refine ⟨ρ, F, S, (PostR.bind (rel := DvsR G) P).imp fun d x F1 H1 e1 g1 q1 ⟨F1', d', e1', g1', q1', P1⟩ => ?_⟩
  split at P1
  · rename_i hl
    refine ⟨by rw [q1'.length]; exact hl, fun p hp => ?_⟩
    have g2 : Grow F1' H1 (upd F1' p (.tup x)) (upd H1 p (.tup x)) := Grow.new g1'.s hp
    exact P1 _ _ _ g2 (.tup (SqT.of upd_same) (q1'.mono g2.f))
  · exact P1.elim
theorem mf_lst {mr : Env → R (List D)} (h : MA X G es mr) : MF X G (.List es pos) (mLst mr) := weakE (pe_lst h) fun σ H Q ⟨ρ, F, S, P⟩ => by
  refine ⟨ρ, F, S, (PostF.bind (rel := DvsR G) P).imp fun d x F1 H1 e1 g1 q1 ⟨F1', d', e1', g1', q1', P1⟩ => ?_⟩
  split at P1
  · rename_i hl
    refine ⟨by rw [q1'.length]; exact hl, fun p hp => ?_⟩
    have g2 : Grow F1' H1 F1' (upd H1 p (.lst x)) := Grow.own g1'.s hp
    exact P1 p x _ _ g2 hp (g1'.s.free hp) upd_same q1'
  · exact P1.elim
/-- a fresh list, frozen at once -/
def mFz (m : Env → R (List D)) : Env → R D := fun ρ => (m ρ).bind fun ds => .ok (.lst ds)
theorem post_fz {F H : Hp} {r : R (List D)} {Q : VK} (P : PostR G (DvR G) F H (r.bind fun ds => .ok (.lst ds)) Q) : PostF G F H r Q := by
  cases r with
  | ok ds =>
    intro p xs F' H' g n f o q
    have s2 : Same F' (upd F' p (.lst xs)) := Same.upd_new f
    have g2 : Grow F H (upd F' p (.lst xs)) H' := ⟨g.h, g.f.trans s2, fun b u e => by
      by_cases hb : b = p
      · subst hb; rw [upd_same] at e; cases e; exact o
      · rw [upd_ne hb] at e; exact g.s b u e, fun b u e => by rw [upd_ne (ne_of_none e n)]; exact g.o b u e⟩
    exact P _ _ _ g2 (.lst upd_same (q.mono s2))
  | exc c => exact P
  | bad => exact P
theorem me_fz {m : Env → R (List D)} (h : MF X G e m) : ME X G e (mFz m) := weakE h fun σ H Q ⟨ρ, F, S, P⟩ => ⟨ρ, F, S, post_fz P⟩
end
end Mir
namespace Mir
open PySem PySem.Spec PyProof.Rows L2

/-! ### data of the library -/
mutual
def toPy : D → PyData
  | .non => .none
  | .bl b => .bool b
  | .int i => .int i
  | .str s => .str s
  | .lst ds => .list (toPyAll ds)
  | .rol ds => .list (toPyAll ds)
  | .tup ds => .tuple (toPyAll ds)
  | _ => .dict []
def toPyAll : List D → List PyData
  | [] => []
  | d :: ds => toPy d :: toPyAll ds
end
theorem toPyAll_map : ∀ ds : List D, toPyAll ds = ds.map toPy
  | [] => by rw [toPyAll]; rfl
  | d :: ds => by rw [toPyAll, toPyAll_map ds]; rfl
section
variable {K : PySem.W.Frag} {F H : Hp}
mutual
theorem dp_of (s : Same F H) : ∀ (d : D) (v : V), Dv K F v d → (toPy d).canLay0 = true → Dp K H v (toPy d)
  | .non, _, h, _ => by cases h; rw [toPy]; exact .non
  | .bl b, _, h, _ => by cases h; rw [toPy]; exact .bl b
  | .int b, _, h, _ => by cases h; rw [toPy]; exact .int b
  | .str b, _, h, _ => by cases h; rw [toPy]; exact .str b
  | .lst ds, _, h, c => by
    cases h with
    | lst e r =>
      rw [toPy] at c ⊢
      exact .lst (SqL.of (s _ _ e)) (dp_all s ds _ r (by rw [PyData.canLay0] at c; exact c))
  | .rol ds, _, h, c => by
    cases h with
    | rol e r =>
      rw [toPy] at c ⊢
      exact .lst (s.seq e) (dp_all s ds _ r (by rw [PyData.canLay0] at c; exact c))
  | .tup ds, _, h, c => by
    cases h with
    | tup e r =>
      rw [toPy] at c ⊢
      exact .tup (Same.tup s e) (dp_all s ds _ r (by rw [PyData.canLay0] at c; exact c))
  | .dic _ _, _, _, c => by simp [toPy, PyData.canLay0] at c
  | .fn _, _, _, c => by simp [toPy, PyData.canLay0] at c
  | .ty _, _, _, c => by simp [toPy, PyData.canLay0] at c
theorem dp_all (s : Same F H) : ∀ (ds : List D) (vs : List V), DvAll K F vs ds → PyData.canLayAll0 (toPyAll ds) = true → DpAll K H vs (toPyAll ds)
  | [], _, h, _ => by cases h; rw [toPyAll]; exact .nil
  | d :: ds, _, h, c => by
    cases h with
    | cons h1 h2 =>
      rw [toPyAll] at c ⊢
      rw [PyData.canLayAll0] at c
      have c2 := Bool.and_eq_true_iff.mp c
      exact .cons (dp_of s d _ h1 c2.1) (dp_all s ds _ h2 c2.2)
end
end
def shp (d : D) : Bool := SeqAt.shaped (toPy d)
theorem dp_shp {K : PySem.W.Frag} {F H : Hp} {d : D} {v : V} (s : Same F H) (h : Dv K F v d) (c : shp d = true) : Dp K H v (toPy d) := dp_of s d v h (SeqAt.canLay_of_shaped c)
/-- == of data -/
def eqv (x y : D) : Bool := PyData.eqv (toPy x) (toPy y)
def eqD (x y : D) : R D := if shp x = true ∧ shp y = true then .ok (.bl (eqv x y)) else .bad
def neD (x y : D) : R D := if shp x = true ∧ shp y = true then .ok (.bl (!eqv x y)) else .bad

def addD (x y : D) : R D := match x, y with
  | .int i, .int j => .ok (.int (i + j))
  | .str s, .str t => if s.length + t.length ≤ sizeLine then .ok (.str (s ++ t)) else .bad
  | .lst a, .lst b => if a.length + b.length ≤ sizeLine then .ok (.lst (a ++ b)) else .bad
  | .tup a, .tup b => if a.length + b.length ≤ sizeLine then .ok (.tup (a ++ b)) else .bad
  | _, _ => .bad
section
variable {X : Cx} {G : Gm}
theorem postD {F H : Hp} {d : D} {v : V} {Q : VK} (P : PostR G (DvR G) F H (.ok d) Q) (s : Same F H) (h : Dv G.K F v d) : Q v H := PostR.go (G := G) (rel := DvR G) P s h
theorem postNew {F H : Hp} {d : D} {o : HO} {Q : VK} (P : PostR G (DvR G) F H (.ok d) Q) (s : Same F H) {p : Addr} (hp : H p = none) (h : Dv G.K (upd F p o) (.ref p) d) : Q (.ref p) (upd H p o) := P _ _ _ (Grow.new s hp) h
theorem DvAll.nil_iff {K : PySem.W.Frag} {F : Hp} {xs : List V} {ds : List D} (h : DvAll K F xs ds) : xs = [] ↔ ds = [] := by cases h <;> simp

/-! + -/
def rAddA (K : PySem.W.Frag) : R2 := fun x y H Q => rI0 (fun i j => .int (i + j)) x y H Q ∨ (∃ i j, x = .str i ∧ y = .str j ∧ i.length + j.length ≤ sizeLine ∧ Q (.str (i ++ j)) H) ∨ rCat x y H Q ∨ rCatA K x y H Q
theorem op_addA : OpR X (binaryOp .Add) (rAddA X.K) := op_add.or (op_add_str.or (op_cat.or op_catA))
theorem om_add : OpM G (rAddA G.K) addD := by
  intro F H x y d e Q s hx hy P
  cases hx with
  | int i =>
    cases hy with
    | int j => exact .inl ⟨i, j, rfl, rfl, postD P s (.int _)⟩
    | _ => exact P.elim
  | str i =>
    cases hy with
    | str j =>
      have P : PostR G (DvR G) F H (if i.length + j.length ≤ sizeLine then .ok (.str (i ++ j)) else .bad) Q := P
      by_cases hl : i.length + j.length ≤ sizeLine
      · rw [if_pos hl] at P
        exact .inr (.inl ⟨i, j, rfl, rfl, hl, postD P s (.str _)⟩)
      · rw [if_neg hl] at P
        exact P.elim
    | _ => exact P.elim
  | @lst a xs ds e r =>
    cases hy with
    | @lst b ys es e2 r2 =>
      have P : PostR G (DvR G) F H (if ds.length + es.length ≤ sizeLine then .ok (.lst (ds ++ es)) else .bad) Q := P
      by_cases hl : ds.length + es.length ≤ sizeLine
      · rw [if_pos hl] at P
        refine .inr (.inr (.inl ⟨a, b, xs, ys, rfl, rfl, s _ _ e, s _ _ e2, by rw [r.length, r2.length]; exact hl, fun p hp => ?_⟩))
        exact postNew P s hp (.lst upd_same ((r.append r2).mono (Same.upd_new (s.free hp))))
      · rw [if_neg hl] at P
        exact P.elim
    | _ => exact P.elim
  | @tup a xs ds e r =>
    cases hy with
    | @tup b ys es e2 r2 =>
      have P : PostR G (DvR G) F H (if ds.length + es.length ≤ sizeLine then .ok (.tup (ds ++ es)) else .bad) Q := P
      by_cases hl : ds.length + es.length ≤ sizeLine
      · rw [if_pos hl] at P
        refine .inr (.inr (.inr ⟨a, b, xs, ys, rfl, rfl, Same.tup s e, Same.tup s e2, by rw [r.length, r2.length]; exact hl, fun z => ?_, fun _ z => ?_, fun _ _ p hp => ?_⟩))
        · have h3 : ds = [] := r.nil_iff.mp z
          rw [h3, List.nil_append] at P
          exact postD P s (.tup e2 r2)
        · have h3 : es = [] := r2.nil_iff.mp z
          rw [h3, List.append_nil] at P
          exact postD P s (.tup e r)
        · exact postNew P s hp (.tup (SqT.of upd_same) ((r.append r2).mono (Same.upd_new (s.free hp))))
      · rw [if_neg hl] at P
        exact P.elim
    | _ => exact P.elim
  | _ => exact P.elim

/-! -, *, //, %, ** -/
def subD (x y : D) : R D := match x, y with
  | .int i, .int j => .ok (.int (i - j))
  | _, _ => .bad
theorem om_sub : OpM G (rI0 fun i j => .int (i - j)) subD := by
  intro F H x y d e Q s hx hy P
  cases hx with
  | int i =>
    cases hy with
    | int j => exact ⟨i, j, rfl, rfl, postD P s (.int _)⟩
    | _ => exact P.elim
  | _ => exact P.elim
def mulD (x y : D) : R D := match x, y with
  | .int i, .int j => if (-(2 ^ 64) < i ∧ i < 2 ^ 64) ∨ (-(2 ^ 64) < j ∧ j < 2 ^ 64) then .ok (.int (i * j)) else .bad
  | .str z, .int k => if z.length ≤ 16 ∧ 0 ≤ k ∧ k ≤ 1000 then .ok (.str (Txt.mul z k)) else .bad
  | .lst a, .int k => if 0 ≤ k ∧ k ≤ 1000 ∧ a.length ≤ 1000 then .ok (.lst (List.replicate k.toNat a).flatten) else .bad
  | .tup a, .int k => if a ≠ [] ∧ 2 ≤ k ∧ k ≤ 1000 ∧ a.length ≤ 1000 then .ok (.tup (List.replicate k.toNat a).flatten) else .bad
  | _, _ => .bad
def rMulS : R2 := fun x y H Q => ∃ z k, x = .str z ∧ y = .int k ∧ (z.length ≤ 16 ∧ 0 ≤ k ∧ k ≤ 1000) ∧ Q (.str (Txt.mul z k)) H
theorem op_mulS : OpR X (binaryOp .Mult) rMulS := by
  intro pins s σ H x y v u Q I rx ry h
  obtain ⟨z, k, rfl, rfl, ⟨h1, h2, h3⟩, q⟩ := h
  obtain ⟨t, rfl⟩ := rx
  obtain ⟨t', rfl⟩ := ry
  exact SB.mul (mulOk_of 16 1000 h1 (by omega) (by omega) (by decide) (by decide)) fun t' tk => ⟨.str _, H, I.tok tk, ⟨_, rfl⟩, q⟩
def rMulA (K : PySem.W.Frag) : R2 := fun x y H Q => rI CMul (fun i j => .int (i * j)) x y H Q ∨ rMulS x y H Q ∨ rRep x y H Q ∨ rRepT K x y H Q
theorem op_mulA : OpR X (binaryOp .Mult) (rMulA X.K) := op_mul.or (op_mulS.or (op_rep.or op_repT))
theorem dv_rep {K : PySem.W.Frag} {F : Hp} {xs : List V} {ds : List D} (h : DvAll K F xs ds) : ∀ n : Nat, DvAll K F (List.replicate n xs).flatten (List.replicate n ds).flatten
  | 0 => .nil
  | n + 1 => by
    rw [List.replicate_succ, List.replicate_succ, List.flatten_cons, List.flatten_cons]
    exact h.append (dv_rep h n)
theorem om_mul : OpM G (rMulA G.K) mulD := by
  intro F H x y d e Q s hx hy P
  cases hx with
  | int i =>
    cases hy with
    | int j =>
      have P : PostR G (DvR G) F H (if (-(2 ^ 64) < i ∧ i < 2 ^ 64) ∨ (-(2 ^ 64) < j ∧ j < 2 ^ 64) then .ok (.int (i * j)) else .bad) Q := P
      split at P
      · rename_i c
        exact .inl ⟨i, j, rfl, rfl, c, postD P s (.int _)⟩
      · exact P.elim
    | _ => exact P.elim
  | str z =>
    cases hy with
    | int k =>
      have P : PostR G (DvR G) F H (if z.length ≤ 16 ∧ 0 ≤ k ∧ k ≤ 1000 then .ok (.str (Txt.mul z k)) else .bad) Q := P
      split at P
      · rename_i c
        exact .inr (.inl ⟨z, k, rfl, rfl, c, postD P s (.str _)⟩)
      · exact P.elim
    | _ => exact P.elim
  | @lst a xs ds e r =>
    cases hy with
    | int k =>
      have P : PostR G (DvR G) F H (if 0 ≤ k ∧ k ≤ 1000 ∧ ds.length ≤ 1000 then .ok (.lst (List.replicate k.toNat ds).flatten) else .bad) Q := P
      split at P
      · rename_i c
        refine .inr (.inr (.inl ⟨a, k, xs, rfl, rfl, s _ _ e, by omega, by omega, ?_, fun p hp => ?_⟩))
        · rw [r.length]
          have h1 : ds.length * k.toNat ≤ 1000 * 1000 := Nat.mul_le_mul c.2.2 (by omega)
          rw [sizeLine_eq]
          omega
        · exact postNew P s hp (.lst upd_same ((dv_rep r _).mono (Same.upd_new (s.free hp))))
      · exact P.elim
    | _ => exact P.elim
  | @tup a xs ds e r =>
    cases hy with
    | int k =>
      have P : PostR G (DvR G) F H (if ds ≠ [] ∧ 2 ≤ k ∧ k ≤ 1000 ∧ ds.length ≤ 1000 then .ok (.tup (List.replicate k.toNat ds).flatten) else .bad) Q := P
      split at P
      · rename_i c
        refine .inr (.inr (.inr ⟨a, k, xs, rfl, rfl, Same.tup s e, fun z => c.1 (r.nil_iff.mp z), c.2.1, c.2.2.1, by rw [r.length]; exact c.2.2.2, fun p hp => ?_⟩))
        exact postNew P s hp (.tup (SqT.of upd_same) ((dv_rep r _).mono (Same.upd_new (s.free hp))))
      · exact P.elim
    | _ => exact P.elim
  | _ => exact P.elim
def fdivD (x y : D) : R D := match x, y with
  | .int i, .int j => if 0 < j ∧ j < 2 ^ 64 then .ok (.int (i / j)) else .bad
  | _, _ => .bad
theorem om_fdiv : OpM G (rI CDivW fun i j => .int (i / j)) fdivD := by
  intro F H x y d e Q s hx hy P
  cases hx with
  | int i =>
    cases hy with
    | int j =>
      have P : PostR G (DvR G) F H (if 0 < j ∧ j < 2 ^ 64 then .ok (.int (i / j)) else .bad) Q := P
      split at P
      · rename_i c
        exact ⟨i, j, rfl, rfl, wide_div (b := 64) c.1 (by omega) (by decide) (by decide), postD P s (.int _)⟩
      · exact P.elim
    | _ => exact P.elim
  | _ => exact P.elim
def modD (x y : D) : R D := match x, y with
  | .int i, .int j => if 0 < j then .ok (.int (i % j)) else .bad
  | _, _ => .bad
theorem om_mod : OpM G (rI (fun _ j => 0 < j) fun i j => .int (i % j)) modD := by
  intro F H x y d e Q s hx hy P
  cases hx with
  | int i =>
    cases hy with
    | int j =>
      have P : PostR G (DvR G) F H (if 0 < j then .ok (.int (i % j)) else .bad) Q := P
      split at P
      · rename_i c
        exact ⟨i, j, rfl, rfl, c, postD P s (.int _)⟩
      · exact P.elim
    | _ => exact P.elim
  | _ => exact P.elim
def powD (x y : D) : R D := match x, y with
  | .int i, .int j => if 0 ≤ j ∧ j ≤ 64 ∧ -(2 ^ 63) ≤ i ∧ i ≤ 2 ^ 63 then .ok (.int (i ^ j.toNat)) else .bad
  | _, _ => .bad
theorem om_pow : OpM G (rI CPow fun i j => .int (i ^ j.toNat)) powD := by
  intro F H x y d e Q s hx hy P
  cases hx with
  | int i =>
    cases hy with
    | int j =>
      have P : PostR G (DvR G) F H (if 0 ≤ j ∧ j ≤ 64 ∧ -(2 ^ 63) ≤ i ∧ i ≤ 2 ^ 63 then .ok (.int (i ^ j.toNat)) else .bad) Q := P
      split at P
      · rename_i c
        exact ⟨i, j, rfl, rfl, ⟨c.1, by omega, by omega⟩, postD P s (.int _)⟩
      · exact P.elim
    | _ => exact P.elim
  | _ => exact P.elim
theorem me_add {a b : Expr} {ma mb : Env → R D} {pos : Pos} (ha : ME X G a ma) (hb : ME X G b mb) (hK : X.K = G.K := by rfl) : ME X G (.BinOp a .Add b pos) (mB addD ma mb) := me_bin op_addA (by rw [hK]; exact om_add) ha hb
theorem me_sub {a b : Expr} {ma mb : Env → R D} {pos : Pos} (ha : ME X G a ma) (hb : ME X G b mb) : ME X G (.BinOp a .Sub b pos) (mB subD ma mb) := me_bin op_sub om_sub ha hb
theorem me_mul {a b : Expr} {ma mb : Env → R D} {pos : Pos} (ha : ME X G a ma) (hb : ME X G b mb) (hK : X.K = G.K := by rfl) : ME X G (.BinOp a .Mult b pos) (mB mulD ma mb) := me_bin op_mulA (by rw [hK]; exact om_mul) ha hb
theorem me_fdiv {a b : Expr} {ma mb : Env → R D} {pos : Pos} (ha : ME X G a ma) (hb : ME X G b mb) : ME X G (.BinOp a .FloorDiv b pos) (mB fdivD ma mb) := me_bin op_fdivW om_fdiv ha hb
theorem me_mod {a b : Expr} {ma mb : Env → R D} {pos : Pos} (ha : ME X G a ma) (hb : ME X G b mb) : ME X G (.BinOp a .Mod b pos) (mB modD ma mb) := me_bin op_mod om_mod ha hb
theorem me_pow {a b : Expr} {ma mb : Env → R D} {pos : Pos} (ha : ME X G a ma) (hb : ME X G b mb) : ME X G (.BinOp a .Pow b pos) (mB powD ma mb) := me_bin op_pow om_pow ha hb
/-- -x -/
def negD : D → R D
  | .int i => .ok (.int (-i))
  | _ => .bad
theorem me_neg {a : Expr} {ma : Env → R D} {pos : Pos} (ha : ME X G a ma) : ME X G (.UnaryOp .USub a pos) (mU negD ma) := weakE (pe_un un_neg ha) fun σ H Q ⟨ρ, F, S, P⟩ => by
  refine ⟨ρ, F, S, (PostR.bind (rel := DvR G) P).imp fun d x F1 H1 e1 g1 q1 ⟨F1', d', e1', g1', q1', P1⟩ => ?_⟩
  cases q1' with
  | int i => exact ⟨i, rfl, postD P1 g1'.s (.int _)⟩
  | _ => exact P1.elim

/-! comparisons -/
theorem om_eq : OpM G (rEqD G.K) eqD := by
  intro F H x y d e Q s hx hy P
  unfold eqD at P
  split at P
  · rename_i c
    exact ⟨_, _, dp_shp s hx c.1, dp_shp s hy c.2, c.1, c.2, postD P s (.bl _)⟩
  · exact P.elim
theorem om_ne : OpM G (rNeD G.K) neD := by
  intro F H x y d e Q s hx hy P
  unfold neD at P
  split at P
  · rename_i c
    exact ⟨_, _, dp_shp s hx c.1, dp_shp s hy c.2, c.1, c.2, postD P s (.bl _)⟩
  · exact P.elim
def cmpI (p : Int → Int → Bool) (x y : D) : R D := match x, y with
  | .int i, .int j => .ok (.bl (p i j))
  | _, _ => .bad
theorem om_int {p : Int → Int → Bool} : OpM G (rI0 fun i j => .bl (p i j)) (cmpI p) := by
  intro F H x y d e Q s hx hy P
  cases hx with
  | int i =>
    cases hy with
    | int j => exact ⟨i, j, rfl, rfl, postD P s (.bl _)⟩
    | _ => exact P.elim
  | _ => exact P.elim
def ltD : D → D → R D := cmpI fun i j => decide (i < j)
def leD : D → D → R D := cmpI fun i j => decide (i ≤ j)
def gtD : D → D → R D := cmpI fun i j => decide (j < i)
def geD : D → D → R D := cmpI fun i j => decide (j ≤ i)
def isNon : D → Bool
  | .non => true
  | _ => false
theorem isNon_of {K : PySem.W.Frag} {F : Hp} {v : V} {d : D} (h : Dv K F v d) : decide (v = .non) = isNon d := by
  cases h <;> first | rfl | exact decide_eq_false (fun z => by cases z)
def isD (x y : D) : R D := match y with
  | .non => .ok (.bl (isNon x))
  | .bl b => match x with
    | .bl a => .ok (.bl (decide (a = b)))
    | _ => .bad
  | _ => .bad
def isnD (x y : D) : R D := match y with
  | .non => .ok (.bl (!isNon x))
  | .bl b => match x with
    | .bl a => .ok (.bl (!decide (a = b)))
    | _ => .bad
  | _ => .bad
theorem om_is : OpM G (fun x y H Q => (y = .non ∧ Q (.bl (decide (x = .non))) H) ∨ rIsB x y H Q) isD := by
  intro F H x y d e Q s hx hy P
  cases hy with
  | non => exact .inl ⟨rfl, by rw [isNon_of hx]; exact postD P s (.bl _)⟩
  | bl b =>
    cases hx with
    | bl a => exact .inr ⟨a, b, rfl, rfl, postD P s (.bl _)⟩
    | _ => exact P.elim
  | _ => exact P.elim
theorem om_isn : OpM G (fun x y H Q => (y = .non ∧ Q (.bl (!decide (x = .non))) H) ∨ rNotB x y H Q) isnD := by
  intro F H x y d e Q s hx hy P
  cases hy with
  | non => exact .inl ⟨rfl, by rw [isNon_of hx]; exact postD P s (.bl _)⟩
  | bl b =>
    cases hx with
    | bl a => exact .inr ⟨a, b, rfl, rfl, postD P s (.bl _)⟩
    | _ => exact P.elim
  | _ => exact P.elim
/-- in: a sign in a text, data in a list or a tuple -/
def inB (x y : D) : R Bool := match x, y with
  | .str c, .str z => match c.cps.toList with
    | [n] => .ok (decide (n ∈ z.cps.toList))
    | _ => .ok (!(Builtin.Str.occurrences z c 0 z.length 1).isEmpty)
  | x, .lst ds => if shp x = true ∧ shp (.lst ds) = true then .ok (ds.any fun z => eqv z x) else .bad
  | x, .rol ds => if shp x = true ∧ shp (.rol ds) = true then .ok (ds.any fun z => eqv z x) else .bad
  | x, .tup ds => if shp x = true ∧ shp (.tup ds) = true then .ok (ds.any fun z => eqv z x) else .bad
  | _, _ => .bad
def inD (x y : D) : R D := (inB x y).bind fun b => .ok (.bl b)
def ninD (x y : D) : R D := (inB x y).bind fun b => .ok (.bl (!b))
def rInT (K : PySem.W.Frag) (neg : Bool) : R2 := fun x y H Q => ∃ d ds, Dp K H x d ∧ Dp K H y (.tuple ds) ∧ SeqAt.shaped d = true ∧ SeqAt.shaped (.tuple ds) = true ∧ Q (.bl (if neg then !(ds.any fun z => PyData.eqv z d) else ds.any fun z => PyData.eqv z d)) H
theorem op_inT (hu : X.A.units + 65 < cLine) : OpR X (compareOp .In) (rInT X.K false) := by
  intro pins s σ H x y v u Q I rx ry h
  obtain ⟨d, ds, hd, he, sd, se, q⟩ := h
  obtain ⟨as, r1⟩ := Dp.reads I d x v hd rx
  obtain ⟨bs, r2⟩ := Dp.reads I (.tuple ds) y u he ry
  exact SeqAt.in_tuple_reads r2 r1 (SeqAt.canLay_of_shaped se) (SeqAt.canLay_of_shaped sd) (room_in_shaped sd hu) ⟨.bl _, H, I, rfl, q⟩
theorem op_ninT (hu : X.A.units + 65 < cLine) : OpR X (compareOp .NotIn) (rInT X.K true) := by
  intro pins s σ H x y v u Q I rx ry h
  obtain ⟨d, ds, hd, he, sd, se, q⟩ := h
  obtain ⟨as, r1⟩ := Dp.reads I d x v hd rx
  obtain ⟨bs, r2⟩ := Dp.reads I (.tuple ds) y u he ry
  exact SeqAt.notIn_tuple_reads r2 r1 (SeqAt.canLay_of_shaped se) (SeqAt.canLay_of_shaped sd) (room_in_shaped sd hu) ⟨.bl _, H, I, rfl, q⟩
def rInSt (neg : Bool) : R2 := fun x y H Q => ∃ i j, x = .str i ∧ y = .str j ∧ Q (.bl (if neg then !(!(Builtin.Str.occurrences j i 0 j.length 1).isEmpty) else !(Builtin.Str.occurrences j i 0 j.length 1).isEmpty)) H
def rInA (K : PySem.W.Frag) : R2 := fun x y H Q => (rInD K x y H Q ∨ rInT K false x y H Q) ∨ ((∃ (c : Nat) (z : Str), x = .str ⟨#[c]⟩ ∧ y = .str z ∧ Q (.bl (decide (c ∈ z.cps.toList))) H) ∨ (∃ i j, x = .str i ∧ y = .str j ∧ Q (.bl (!(Builtin.Str.occurrences j i 0 j.length 1).isEmpty)) H))
def rNinA (K : PySem.W.Frag) : R2 := fun x y H Q => (rNotInD K x y H Q ∨ rInT K true x y H Q) ∨ ((∃ (c : Nat) (z : Str), x = .str ⟨#[c]⟩ ∧ y = .str z ∧ Q (.bl (!decide (c ∈ z.cps.toList))) H) ∨ (∃ i j, x = .str i ∧ y = .str j ∧ Q (.bl (!(!(Builtin.Str.occurrences j i 0 j.length 1).isEmpty))) H))
theorem op_inA (hu : X.A.units + 65 < cLine) : OpR X (compareOp .In) (rInA X.K) := ((op_inD hu).or (op_inT hu)).or (op_in_sign.or op_in_str)
theorem op_ninA (hu : X.A.units + 65 < cLine) : OpR X (compareOp .NotIn) (rNinA X.K) := ((op_notInD hu).or (op_ninT hu)).or (op_notIn_sign.or L2.op_notin_str)
theorem any_py (x : D) : ∀ ds : List D, ((toPyAll ds).any fun z => PyData.eqv z (toPy x)) = ds.any fun z => eqv z x
  | [] => by rw [toPyAll]; rfl
  | d :: ds => by rw [toPyAll, List.any_cons, List.any_cons, any_py x ds]; rfl
theorem str_one {c : Str} {n : Nat} (h : c.cps.toList = [n]) : c = ⟨#[n]⟩ := by
  obtain ⟨⟨l⟩⟩ := c
  have e : l = [n] := h
  rw [e]
theorem om_in : OpM G (rInA G.K) inD := by
  intro F H x y d e Q s hx hy P
  unfold inD at P
  cases hy with
  | str z =>
    cases hx with
    | str c =>
      unfold inB at P
      dsimp only at P
      split at P
      · rename_i n hn
        rw [str_one hn]
        exact .inr (.inl ⟨n, z, rfl, rfl, postD P s (.bl _)⟩)
      · exact .inr (.inr ⟨c, z, rfl, rfl, postD P s (.bl _)⟩)
    | _ => exact P.elim
  | @lst a xs ds e2 r2 =>
    have P : PostR G (DvR G) F H (R.bind (if shp d = true ∧ shp (.lst ds) = true then .ok (ds.any fun z => eqv z d) else .bad) fun b => .ok (.bl b)) Q := by cases d <;> exact P
    split at P
    · rename_i c
      have c2 : SeqAt.shaped (.list (toPyAll ds)) = true := by have q := c.2; unfold shp at q; rw [toPy] at q; exact q
      refine .inl (.inl ⟨toPy d, toPyAll ds, dp_shp s hx c.1, ?_, c.1, c2, by rw [any_py]; exact postD P s (.bl _)⟩)
      have q := dp_shp s (.lst e2 r2) c.2
      rw [toPy] at q
      exact q
    · exact P.elim
  | @rol a xs ds e2 r2 =>
    have P : PostR G (DvR G) F H (R.bind (if shp d = true ∧ shp (.rol ds) = true then .ok (ds.any fun z => eqv z d) else .bad) fun b => .ok (.bl b)) Q := by cases d <;> exact P
    split at P
    · rename_i c
      have c2 : SeqAt.shaped (.list (toPyAll ds)) = true := by have q := c.2; unfold shp at q; rw [toPy] at q; exact q
      refine .inl (.inl ⟨toPy d, toPyAll ds, dp_shp s hx c.1, ?_, c.1, c2, by rw [any_py]; exact postD P s (.bl _)⟩)
      have q := dp_shp s (.rol e2 r2) c.2
      rw [toPy] at q
      exact q
    · exact P.elim
  | @tup a xs ds e2 r2 =>
    have P : PostR G (DvR G) F H (R.bind (if shp d = true ∧ shp (.tup ds) = true then .ok (ds.any fun z => eqv z d) else .bad) fun b => .ok (.bl b)) Q := by cases d <;> exact P
    split at P
    · rename_i c
      have c2 : SeqAt.shaped (.tuple (toPyAll ds)) = true := by have q := c.2; unfold shp at q; rw [toPy] at q; exact q
      refine .inl (.inr ⟨toPy d, toPyAll ds, dp_shp s hx c.1, ?_, c.1, c2, by rw [if_neg Bool.false_ne_true, any_py]; exact postD P s (.bl _)⟩)
      have q := dp_shp s (.tup e2 r2) c.2
      rw [toPy] at q
      exact q
    · exact P.elim
  | _ => cases d <;> exact P.elim
theorem om_nin : OpM G (rNinA G.K) ninD := by
  intro F H x y d e Q s hx hy P
  unfold ninD at P
  cases hy with
  | str z =>
    cases hx with
    | str c =>
      unfold inB at P
      dsimp only at P
      split at P
      · rename_i n hn
        rw [str_one hn]
        exact .inr (.inl ⟨n, z, rfl, rfl, postD P s (.bl _)⟩)
      · exact .inr (.inr ⟨c, z, rfl, rfl, postD P s (.bl _)⟩)
    | _ => exact P.elim
  | @lst a xs ds e2 r2 =>
    have P : PostR G (DvR G) F H (R.bind (if shp d = true ∧ shp (.lst ds) = true then .ok (ds.any fun z => eqv z d) else .bad) fun b => .ok (.bl (!b))) Q := by cases d <;> exact P
    split at P
    · rename_i c
      have c2 : SeqAt.shaped (.list (toPyAll ds)) = true := by have q := c.2; unfold shp at q; rw [toPy] at q; exact q
      refine .inl (.inl ⟨toPy d, toPyAll ds, dp_shp s hx c.1, ?_, c.1, c2, by rw [any_py]; exact postD P s (.bl _)⟩)
      have q := dp_shp s (.lst e2 r2) c.2
      rw [toPy] at q
      exact q
    · exact P.elim
  | @rol a xs ds e2 r2 =>
    have P : PostR G (DvR G) F H (R.bind (if shp d = true ∧ shp (.rol ds) = true then .ok (ds.any fun z => eqv z d) else .bad) fun b => .ok (.bl (!b))) Q := by cases d <;> exact P
    split at P
    · rename_i c
      have c2 : SeqAt.shaped (.list (toPyAll ds)) = true := by have q := c.2; unfold shp at q; rw [toPy] at q; exact q
      refine .inl (.inl ⟨toPy d, toPyAll ds, dp_shp s hx c.1, ?_, c.1, c2, by rw [any_py]; exact postD P s (.bl _)⟩)
      have q := dp_shp s (.rol e2 r2) c.2
      rw [toPy] at q
      exact q
    · exact P.elim
  | @tup a xs ds e2 r2 =>
    have P : PostR G (DvR G) F H (R.bind (if shp d = true ∧ shp (.tup ds) = true then .ok (ds.any fun z => eqv z d) else .bad) fun b => .ok (.bl (!b))) Q := by cases d <;> exact P
    split at P
    · rename_i c
      have c2 : SeqAt.shaped (.tuple (toPyAll ds)) = true := by have q := c.2; unfold shp at q; rw [toPy] at q; exact q
      refine .inl (.inr ⟨toPy d, toPyAll ds, dp_shp s hx c.1, ?_, c.1, c2, by rw [if_pos rfl, any_py]; exact postD P s (.bl _)⟩)
      have q := dp_shp s (.tup e2 r2) c.2
      rw [toPy] at q
      exact q
    · exact P.elim
  | _ => cases d <;> exact P.elim
/-- the function of a comparison sign -/
def cmpF : CmpOp → D → D → R D
  | .Eq => eqD
  | .NotEq => neD
  | .Lt => ltD
  | .LtE => leD
  | .Gt => gtD
  | .GtE => geD
  | .Is => isD
  | .IsNot => isnD
  | .In => inD
  | .NotIn => ninD
def cmpRd (K : PySem.W.Frag) : CmpOp → R2
  | .Eq => rEqD K
  | .NotEq => rNeD K
  | .Lt => rI0 fun i j => .bl (decide (i < j))
  | .LtE => rI0 fun i j => .bl (decide (i ≤ j))
  | .Gt => rI0 fun i j => .bl (decide (j < i))
  | .GtE => rI0 fun i j => .bl (decide (j ≤ i))
  | .Is => fun x y H Q => (y = .non ∧ Q (.bl (decide (x = .non))) H) ∨ rIsB x y H Q
  | .IsNot => fun x y H Q => (y = .non ∧ Q (.bl (!decide (x = .non))) H) ∨ rNotB x y H Q
  | .In => rInA K
  | .NotIn => rNinA K
theorem op_cmpA (hu : X.A.units + 65 < cLine) : ∀ op : CmpOp, OpR X (compareOp op) (cmpRd X.K op)
  | .Eq => op_eqD (by omega)
  | .NotEq => op_neD (by omega)
  | .Lt => op_lt
  | .LtE => op_le
  | .Gt => op_gt
  | .GtE => op_ge
  | .Is => op_isN.or op_isBl
  | .IsNot => op_notN.or op_notBl
  | .In => op_inA hu
  | .NotIn => op_ninA hu
theorem om_cmpA : ∀ op : CmpOp, OpM G (cmpRd G.K op) (cmpF op)
  | .Eq => om_eq
  | .NotEq => om_ne
  | .Lt => om_int
  | .LtE => om_int
  | .Gt => om_int
  | .GtE => om_int
  | .Is => om_is
  | .IsNot => om_isn
  | .In => om_in
  | .NotIn => om_nin
section
variable {a b c : Expr} {ma mb mc : Env → R D} {pos : Pos} {op op' : CmpOp} {k : Nat}
theorem room65 {A : Around} (hr : Room k A) : A.units + 65 < cLine := by have := hr.un; omega
theorem me_cm (hr : Room k X.A) (ha : ME X G a ma) (hb : ME X G b mb) (hK : X.K = G.K := by rfl) (hk : behindInMarks op b = false := by with_unfolding_all rfl) : ME X G (.Compare a [op] [b] pos) (mB (cmpF op) ma mb) :=
  me_cmp (op_cmpA (room65 hr) op) (by rw [hK]; exact om_cmpA op) ha hb hk
theorem mt_cm (hr : Room k X.A) (ha : ME X G a ma) (hb : ME X G b mb) (hK : X.K = G.K := by rfl) (hk : behindInMarks op b = false := by with_unfolding_all rfl) : MT X G (.Compare a [op] [b] pos) (mTest (mB (cmpF op) ma mb)) :=
  mt_cmp (op_cmpA (room65 hr) op) (by rw [hK]; exact om_cmpA op) ha hb hk
def mCh (f g : D → D → R D) (a b c : Env → R D) : Env → R D := fun ρ => (a ρ).bind fun x => (b ρ).bind fun y => (f x y).bind fun k => (blOf k).bind fun k => if k = true then (c ρ).bind fun z => g y z else .ok (.bl false)
theorem chA {r r' : R2} {f g : D → D → R D} (hm : OpM G r f) (hm' : OpM G r' g) : ∀ σ H Q, tOf G (mCh f g ma mb mc) σ H Q → tChain r r' (tOf G ma) (tOf G mb) (tOf G mc) σ H Q := by
  intro σ H Q ⟨ρ, F, S, P⟩
  refine ⟨ρ, F, S, (PostR.bind (rel := DvR G) P).imp fun d x F1 H1 e1 g1 q1 ⟨F1', d', e1', g1', q1', P1⟩ => ?_⟩
  refine ⟨ρ, F1', S.grow g1', (PostR.bind (rel := DvR G) P1).imp fun d2 y F2 H2 e2 g2 q2 ⟨F2', d2', e2', g2', q2', P2⟩ => ?_⟩
  have P2 : PostR G (DvR G) F2' H2 ((f d' d2').bind fun k => (blOf k).bind fun k => if k = true then (mc ρ).bind fun z => g d2' z else .ok (.bl false)) Q := P2
  refine hm F2' H2 x y d' d2' _ g2'.s (q1'.mono g2'.f) q2' ((PostR.bind (rel := DvR G) P2).imp fun d3 z F3 H3 e3 g3 q3 ⟨F3', d3', e3', g3', q3', P3⟩ => ?_)
  cases q3' with
  | bl k =>
    refine ⟨k, rfl, ?_⟩
    have P3 : PostR G (DvR G) F3' H3 (if k = true then (mc ρ).bind fun z => g d2' z else .ok (.bl false)) Q := P3
    cases k with
    | true =>
      rw [if_pos rfl] at P3 ⊢
      refine ⟨ρ, F3', ((S.grow g1').grow g2').grow g3', (PostR.bind (rel := DvR G) P3).imp fun d4 w F4 H4 e4 g4 q4 ⟨F4', d4', e4', g4', q4', P4⟩ => ?_⟩
      exact hm' F4' H4 y w d2' d4' Q g4'.s (q2'.mono (g3'.f.trans g4'.f)) q4' P4
    | false => rw [if_neg Bool.false_ne_true] at P3 ⊢; exact postD P3 g3'.s (.bl _)
  | _ => exact P3.elim
theorem me_ch (hr : Room k X.A) (ha : ME X G a ma) (hb : ME X G b mb) (hc : ME X G c mc) (hK : X.K = G.K := by rfl) (hm : lastMarks [op, op'] [b, c] = false := by with_unfolding_all rfl) : ME X G (.Compare a [op, op'] [b, c] pos) (mCh (cmpF op) (cmpF op') ma mb mc) :=
  weakE (pe_chain (op_cmpA (room65 hr) op) (op_cmpA (room65 hr) op') ha hb hc hm) (by rw [hK]; exact chA (om_cmpA op) (om_cmpA op'))
theorem mt_ch (hr : Room k X.A) (ha : ME X G a ma) (hb : ME X G b mb) (hc : ME X G c mc) (hK : X.K = G.K := by rfl) (hm : lastMarks [op, op'] [b, c] = false := by with_unfolding_all rfl) : MT X G (.Compare a [op, op'] [b, c] pos) (mTest (mCh (cmpF op) (cmpF op') ma mb mc)) :=
  weakT (pt_chain (op_cmpA (room65 hr) op) (op_cmpA (room65 hr) op') ha hb hc hm) (tt_of (by rw [hK]; exact chA (om_cmpA op) (om_cmpA op')))
end
end
end Mir
/-! enumerate of a text and of a tuple, as walks -/
namespace Mir
open PySem PySem.Spec PyProof.Rows L2

/-! ### a new pair at each turn -/
def EnS (z : Str) : It where
  go i _ := i < z.cps.size
  yld i H v H' := ∃ T c, v = .ref T ∧ H T = none ∧ z.cps[i]? = some c ∧ H' = upd H T (.tup [.int (i : Nat), .str ⟨#[c]⟩])
  stop i _ := i = z.cps.size
def EnT (K : PySem.W.Frag) (a : Addr) : It where
  go i H := ∃ xs : List V, SqT K H a xs ∧ i < xs.length
  yld i H v H' := ∃ T x, v = .ref T ∧ H T = none ∧ (∀ xs, SqT K H a xs → xs[i]? = some x) ∧ H' = upd H T (.tup [.int (i : Nat), x])
  stop i H := ∃ xs : List V, SqT K H a xs ∧ i = xs.length
section
variable {P : Program} {w : World} {K : PySem.W.Frag} {elts : List Expr} {kk : Nat} {tpos : Pos}
/-- what both have in common: one more pair -/
theorem en_pair {X : Cx} {pins : List (Addr × Obj)} {s : Shared} {σ : L2.St} {H : Hp} {E : Value → Shared → Prop} {e it : Addr} {i : Nat} {x : V} {u : Value} {h' : Heap} {tk : Nat} {St : Heap → Prop} (I : Inv X pins σ H s) (hf : ∀ b ∈ [e, it], FpOk X pins H b)
    (hne : e ≠ it) (hel : e < s.heap.objs.size) (hil : it < s.heap.objs.size) (ru : RelV x u) (ho : IsEnumOut h' e it ((i : Int) + 1) u s.heap.objs.size) (hst : ∀ h2, (∀ o, h'.get? it = some o → h2.get? it = some o) → St h2)
    (hT : h'.get? s.heap.objs.size = some { cls := .type "tuple", data := .seq #[.int i tk, u] }) (hk : ∀ b o, b ≠ e → b ≠ it → s.heap.get? b = some o → h'.get? b = some o) :
    wpAny (model X.prog X.w) X.A (letOwnedTupleGo (.Tuple elts kk tpos) (.ref e) (.ref s.heap.objs.size))
      (fun _ s2 => Inv X pins σ (upd H s.heap.objs.size (.tup [.int (i : Nat), x])) s2 ∧ H s.heap.objs.size = none ∧ (∃ old, IsEnum s2.heap e it ((i + 1 : Nat) : Int) old) ∧ St s2.heap ∧ ∀ b ∈ [e, it], upd H s.heap.objs.size (.tup [.int (i : Nat), x]) b = none) E { s with heap := h', toks := tk + 1 } := by
  refine wpAny_letOwnedTupleGo_enum (s := ⟨h', s.gens, s.drawn, tk + 1, s.os⟩) ho fun h2 he2 sb => ?_
  have g1 : h2.get? s.heap.objs.size = some { cls := .type "tuple", data := .seq #[.int i tk, u] } := by rw [sb.2 _ (Nat.ne_of_gt hel)]; exact hT
  have ok : ObjOk X.prog X.w (upd H s.heap.objs.size (.tup [.int (i : Nat), x])) h2 s.heap.objs.size (.tup [.int (i : Nat), x]) :=
    ⟨by rw [sizeLine_eq]; exact (by decide : 2 ≤ 16777216), [.int i tk, u], .cons ⟨tk, rfl⟩ (.cons ru .nil), _, g1, rfl, _, rfl⟩
  have old : ∀ b o, b ∉ [e, it] → s.heap.get? b = some o → h2.get? b = some o := fun b o hb q => by
    have n1 : b ≠ e := fun z => hb (by rw [z]; exact List.mem_cons_self)
    have n2 : b ≠ it := fun z => hb (by rw [z]; simp)
    rw [sb.2 b n1]
    exact hk b o n1 n2 q
  refine ⟨I.turnedNew (t' := tk + 1) (ch := [e, it]) old hf (Nat.le_refl _) ok, I.hok.fresh (Nat.le_refl _), ⟨u, ?_⟩, hst h2 (fun o q => by rw [sb.2 it (Ne.symm hne)]; exact q), fun b hb => ?_⟩
  · rw [show (((i + 1 : Nat) : Int)) = (i : Int) + 1 by omega]
    exact he2
  · have lt : b < s.heap.objs.size := by
      rcases List.mem_cons.mp hb with z | z
      · rw [z]; exact hel
      · rw [List.mem_singleton.mp z]; exact hil
    rw [upd_ne (Nat.ne_of_lt lt)]
    exact (hf b hb).1
theorem turn_ens (e it : Addr) (z : Str) (t : Tok) :
    Turn P w K (.Tuple elts kk tpos) (EnS z) [e, it] e (fun i h => (∃ old, IsEnum h e it ((i : Nat) : Int) old) ∧ h.IsStrIter it (strIterType z) z t i ∧ e ≠ it) where
  mem := List.mem_cons_self
  obj i h st b hb := by
    obtain ⟨⟨old, he⟩, ⟨o, ho, hc, hd⟩, _⟩ := st
    rcases List.mem_cons.mp hb with q | q
    · subst q
      exact ⟨_, he, fun v q => nomatch q⟩
    · cases List.mem_singleton.mp q
      exact ⟨o, ho, fun v q => by rw [hd] at q; cases q⟩
  keep i h h' st k := by
    obtain ⟨⟨old, he⟩, ⟨o, ho, r⟩, hne⟩ := st
    exact ⟨⟨old, k e List.mem_cons_self _ he⟩, ⟨o, k it (by simp) o ho, r⟩, hne⟩
  item := by
    intro X hP hw hK hc i pins s σ H E I hf st hg
    subst hP hw hK
    obtain ⟨⟨old, he⟩, hit, hne⟩ := st
    have hel : e < s.heap.objs.size := Heap.lt_size he
    have hil : it < s.heap.objs.size := by obtain ⟨o, q, _⟩ := hit; exact Heap.lt_size q
    have DD := Draws.text (prog := X.prog) (w := X.w) (A := X.A.in1) (I.ok.hd hc) it z t
    refine wpAny_pyNext_enum_itemD DD he hit hg hne (fun q => hne (List.mem_singleton.mp q)) fun u h' tk hP ho hs' hT hsz hk => ?_
    obtain ⟨c, tu, hcx, rfl⟩ := hP
    refine ⟨_, rfl, ?_⟩
    refine thn (en_pair (St := fun h2 => h2.IsStrIter it (strIterType z) z t (i + 1)) I hf hne hel hil (x := .str ⟨#[c]⟩) ⟨tu, rfl⟩ ho (fun h2 q => by obtain ⟨o, ho, r⟩ := hs'; exact ⟨o, q o ho, r⟩) hT hk) fun _ s2 ⟨I2, n2, e2, st2, f2⟩ => ?_
    exact ⟨.ref s.heap.objs.size, _, I2, rfl, ⟨_, c, rfl, n2, hcx, rfl⟩, ⟨e2, st2, hne⟩, f2⟩
  done := by
    intro X hP hw hK hc i pins s σ H E I hf st hg
    subst hP hw hK
    obtain ⟨⟨old, he⟩, hit, hne⟩ := st
    obtain ⟨f0, f1, f2, f3, f4, f5⟩ := hf it (by simp)
    cases hg
    exact wpAny_pyNext_enum_endD (Draws.text (prog := X.prog) (w := X.w) (A := X.A.in1) (I.ok.hd hc) it z t) he hit fun h' eb => ⟨rfl, I.turned (t' := s.toks) (fun b o hb q => eb b o hb q) f0 f1 f3 f4 f5⟩
  self A i s Q E st h := wpAny_pyIter_enum st.1.choose_spec h
theorem turn_ent (a e it : Addr) :
    Turn P w K (.Tuple elts kk tpos) (EnT K a) [e, it] e (fun i h => (∃ old, IsEnum h e it ((i : Nat) : Int) old) ∧ h.IsTupleIter it a i ∧ e ≠ it) where
  mem := List.mem_cons_self
  obj i h st b hb := by
    obtain ⟨⟨old, he⟩, ⟨o, ho, hc, hd⟩, _⟩ := st
    rcases List.mem_cons.mp hb with q | q
    · subst q
      exact ⟨_, he, fun v q => nomatch q⟩
    · cases List.mem_singleton.mp q
      exact ⟨o, ho, fun v q => by rw [hd] at q; cases q⟩
  keep i h h' st k := by
    obtain ⟨⟨old, he⟩, ⟨o, ho, r⟩, hne⟩ := st
    exact ⟨⟨old, k e List.mem_cons_self _ he⟩, ⟨o, k it (by simp) o ho, r⟩, hne⟩
  item := by
    intro X hP hw hK hc i pins s σ H E I hf st hg
    subst hP hw hK
    obtain ⟨⟨old, he⟩, hit, hne⟩ := st
    obtain ⟨xs, hq, hi⟩ := hg
    obtain ⟨its, rv, ht, hz⟩ := I.tuple hq
    have hlen := rv.length
    obtain ⟨fi0, fi1, fi2, fi3, fi4, fi5⟩ := hf it (by simp)
    obtain ⟨fe0, fe1, fe2, fe3, fe4, fe5⟩ := hf e (by simp)
    have hel : e < s.heap.objs.size := Heap.lt_size he
    have hil : it < s.heap.objs.size := by obtain ⟨o, q, _⟩ := hit; exact Heap.lt_size q
    obtain ⟨ot, hot, hotc, nt, hotd⟩ := id ht
    have nai : a ≠ it := fun z => by
      subst z
      obtain ⟨o2, q2, c2, d2⟩ := hit
      rw [hot] at q2; cases q2
      rw [hotd] at d2; cases d2
    have nae : a ≠ e := fun z => by
      subst z
      have q2 := hot.symm.trans he
      cases q2
      cases hotd
    have DD := Draws.tuple (prog := X.prog) (w := X.w) (A := X.A.in1) (I.ok.hd hc) it a nai its.toArray
    refine wpAny_pyNext_enum_itemD DD he (i := i) ⟨hit, ht⟩ (by rw [List.size_toArray]; omega) hne (fun q => ?_) fun u h' tk hP ho hs' hT hsz hk => ?_
    · rcases List.mem_cons.mp q with q | q
      · exact hne q
      · exact nae (List.mem_singleton.mp q).symm
    have hxi : xs[i]? = some xs[i] := List.getElem?_eq_getElem hi
    obtain ⟨u', hu', ru⟩ := rv.get hxi
    have eu : u' = u := by
      have q : its[i]? = some u := by simpa using hP
      rw [hu'] at q; exact Option.some.inj q
    subst eu
    refine ⟨_, rfl, ?_⟩
    refine thn (en_pair (St := fun h2 => h2.IsTupleIter it a (i + 1)) I hf hne hel hil (x := xs[i]) ru ho (fun h2 q => hs'.1.at q) hT hk) fun _ s2 ⟨I2, n2, e2, st2, f2⟩ => ?_
    exact ⟨.ref s.heap.objs.size, _, I2, rfl, ⟨_, xs[i], rfl, n2, fun ys hy => by rw [I.tuple_inj hy hq]; exact hxi, rfl⟩, ⟨e2, st2, hne⟩, f2⟩
  done := by
    intro X hP hw hK hc i pins s σ H E I hf st hg
    subst hP hw hK
    obtain ⟨⟨old, he⟩, hit, hne⟩ := st
    obtain ⟨xs, hq, hi⟩ := hg
    obtain ⟨its, rv, ht, hz⟩ := I.tuple hq
    obtain ⟨f0, f1, f2, f3, f4, f5⟩ := hf it (by simp)
    obtain ⟨ot, hot, hotc, nt, hotd⟩ := id ht
    have nai : a ≠ it := fun z => by
      subst z
      obtain ⟨o2, q2, c2, d2⟩ := hit
      rw [hot] at q2; cases q2
      rw [hotd] at d2; cases d2
    have hlen := rv.length
    have ei : i = its.toArray.size := by rw [List.size_toArray]; omega
    subst ei
    exact wpAny_pyNext_enum_endD (Draws.tuple (prog := X.prog) (w := X.w) (A := X.A.in1) (I.ok.hd hc) it a nai its.toArray) he ⟨hit, ht⟩ fun h' eb => ⟨rfl, I.turned (t' := s.toks) (fun b o hb q => eb b o hb q) f0 f1 f3 f4 f5⟩
  self A i s Q E st h := wpAny_pyIter_enum st.1.choose_spec h

/-! ### enumerate(v) begins, v a text or a tuple -/
set_option maxHeartbeats 4000000 in
theorem en_new {v : Value} {o : Obj} {HB : Heap → Prop} (B : Begins v o HB) :
    Meets (Builtin.«enumerate.__new__» ⟨[.type "enumerate", v], []⟩) (fun _ R s => HB s.heap ∧
      R (.ok (.ret (.ref (s.heap.push o).objs.size))) { s with heap := (s.heap.push o).push { cls := .type "enumerate", data := .fields #[.none, .bool false, .ref s.heap.objs.size, rawInt 0, .none, .none] } }) :=
  .of_wp fun pr wo A0 R0 s0 hh => by
    obtain ⟨hp, gn, dr, tk0, os0⟩ := s0
    obtain ⟨hB, hR⟩ := hh
    have subE := sub_enumerate
    have itB : ∀ {A1 : Around} {E1 : Value → Shared → Prop} {Q1 : Value → Shared → Prop}, Q1 (.ref hp.objs.size) ⟨hp.push o, gn, dr, tk0, os0⟩ → wpAny (model pr wo) A1 (pyIter v) Q1 E1 ⟨hp, gn, dr, tk0, os0⟩ :=
      fun qq => B.iter pr wo _ _ ⟨hp, gn, dr, tk0, os0⟩ _ hB qq
    wp_walk using itB
    refine wpAny_stack_any fun _ => wpAny_pure ?_
    split
    · rename_i cc _ _ _ _ _
      cases (cc == Value.type "enumerate") <;> (wp_walk using itB; exact ⟨_, rfl, hR⟩)
    · wp_walk using itB
      exact ⟨_, rfl, hR⟩
section
variable {prog : Program} {w : World} {A : Around} {E : Value → Shared → Prop} {s : Shared}
theorem en_call {v : Value} {o : Obj} {HB : Heap → Prop} {Q : Value → Shared → Prop} (B : Begins v o HB) (h1 : HB s.heap)
    (h : ∀ h', IsEnum h' (s.heap.objs.size + 1) s.heap.objs.size 0 .none → h'.get? s.heap.objs.size = some o → (∀ b u, s.heap.get? b = some u → h'.get? b = some u) → Q (.ref (s.heap.objs.size + 1)) { s with heap := h' }) :
    wpAny (model prog w) A (call (.type "enumerate") [v]) Q E s := by
  refine callType_new F.called_enumerate (by decide) (F.typeCall_enumerate_1 _) (F.newCall_enumerate_1 _) (fun obj => F.args_object_init_2 obj _) F.entry_enumerate_new (en_new B) ⟨h1, ?_⟩
  have z1 : (s.heap.push o).objs.size = s.heap.objs.size + 1 := Heap.size_push ..
  have he : IsEnum ((s.heap.push o).push { cls := .type "enumerate", data := .fields #[.none, .bool false, .ref s.heap.objs.size, rawInt 0, .none, .none] }) (s.heap.objs.size + 1) s.heap.objs.size 0 .none := by
    have q := Heap.get?_push_size (s.heap.push o) (o := { cls := .type "enumerate", data := .fields #[.none, .bool false, .ref s.heap.objs.size, rawInt 0, .none, .none] }) rfl
    rw [z1] at q
    exact q
  rw [z1]
  exact ⟨⟨_, he, rfl⟩, h _ he (Heap.get?_push_of_some _ (Heap.get?_push_size _ B.free)) fun b u q => Heap.get?_push_of_some _ (Heap.get?_push_of_some _ q)⟩
end
section
variable {X : Cx} {e : Expr} {ta : TA} {p pos : Pos}
def iEnA (K : PySem.W.Frag) (ta : TA) : TI := fun σ H R => ta σ H fun vs H1 => (∃ z : Str, vs = [.str z] ∧ R (EnS z) H1) ∨ (∃ a xs, vs = [.ref a] ∧ SqT K H1 a xs ∧ R (EnT K a) H1) ∨ (∃ a xs, vs = [.ref a] ∧ SqL K H1 a xs ∧ R (Ite K a) H1)
theorem pi_enumA (hg : Gl X "enumerate") (hm : X.mg "enumerate" = none) (ha : PA X [e] ta) (hs : starEach [e] X.env = [(false, eval e X.env)] := by rfl) :
    PI X (.Tuple elts kk tpos) (.Call (.Name "enumerate" p) [e] [] pos) (iEnA X.K ta) := by
  refine ⟨fun pins s σ H R0 I h => ?_⟩
  refine Call_ (ld_blt I hg hm boot_enumerate (PyProof.Rows.callWith_type1 (thn (ha.run pos pins s σ H _ I h) fun us s1 ⟨vs, H1, I1, r1, q1⟩ => ?_) hs rfl))
  have fp2 : ∀ b ∈ [s1.heap.objs.size + 1, s1.heap.objs.size], FpOk X pins H1 b := fun b hb => by
    have hle : s1.heap.objs.size ≤ b := by
      rcases List.mem_cons.mp hb with z | z
      · omega
      · have := List.mem_singleton.mp z
        omega
    exact I1.fpOk hle (I1.hok.fresh hle)
  rcases q1 with ⟨z, ev, q⟩ | ⟨a, xs, ev, hq, q⟩ | ⟨a, xs, ev, hq, q⟩
  · subst ev
    cases r1 with
    | cons r rr =>
      cases rr
      obtain ⟨t, rfl⟩ := r
      refine call_enumerate_str fun h' he hit hsz hk => wpAny_pyIter_enum he ?_
      exact ⟨s1.heap.objs.size + 1, [s1.heap.objs.size + 1, s1.heap.objs.size], _, EnS z, H1, rfl, I1.kept (t' := s1.toks) hk, turn_ens _ _ z t, ⟨⟨.none, he⟩, hit, Nat.succ_ne_self _⟩, fp2, q⟩
  · subst ev
    cases r1 with
    | cons r rr =>
      cases rr
      cases r
      obtain ⟨its, rv, ht, hz⟩ := I1.tuple hq
      refine en_call (begins_tuple a its.toArray) (show s1.heap.IsTuple a its.toArray from ht) fun h' he ho hk => wpAny_pyIter_enum he ?_
      exact ⟨s1.heap.objs.size + 1, [s1.heap.objs.size + 1, s1.heap.objs.size], _, EnT X.K a, H1, rfl, I1.kept (t' := s1.toks) hk, turn_ent a _ _, ⟨⟨.none, he⟩, ⟨_, ho, rfl, rfl⟩, Nat.succ_ne_self _⟩, fp2, q⟩
  · subst ev
    cases r1 with
    | cons r rr =>
      cases rr
      cases r
      obtain ⟨its, rv, pl, hz⟩ := I1.list hq
      refine call_enumerate_list pl.isList fun h' he hit hsz hk => wpAny_pyIter_enum he ?_
      exact ⟨s1.heap.objs.size + 1, [s1.heap.objs.size + 1, s1.heap.objs.size], _, Ite X.K a, H1, rfl, I1.kept (t' := s1.toks) hk, turn_enum a _ _, ⟨⟨.none, he⟩, hit, Nat.succ_ne_self _⟩, fp2, q⟩
end
end
end Mir
namespace Mir
open PySem PySem.Spec PyProof.Rows L2

/-! ### subscripts -/
def ofO {α β : Type} (o : Option α) (f : α → R β) : R β := match o with
  | some a => f a
  | none => .bad
def ixD (x y : D) : R D := match x, y with
  | .lst ds, .int k => ofO (atI ds k) .ok
  | .rol ds, .int k => ofO (atI ds k) .ok
  | .tup ds, .int k => ofO (atI ds k) .ok
  | .str z, .int k => if z.length ≤ sizeLine then ofO (atI z.cps.toList k) fun c => .ok (.str ⟨#[c]⟩) else .bad
  | _, _ => .bad
theorem dv_at {K : PySem.W.Frag} {F : Hp} {xs : List V} {ds : List D} {k : Int} {d : D} (h : DvAll K F xs ds) (e : atI ds k = some d) : ∃ v, atI xs k = some v ∧ Dv K F v d := by
  unfold atI at e ⊢
  rw [h.length]
  cases q : ixN ds.length k with
  | none => rw [q] at e; cases e
  | some j =>
    rw [q] at e
    exact h.get' (show ds[j]? = some d from e)
section
variable {X : Cx} {G : Gm} {a b e : Expr} {es : List Expr} {ma mb : Env → R D} {pos : Pos}
theorem om_ix : OpM G (rIx G.K) ixD := by
  intro F H x y d e Q s hx hy P
  have go : ∀ {xs : List V} {ds : List D} {k : Int}, DvAll G.K F xs ds → PostR G (DvR G) F H (ofO (atI ds k) .ok) Q → ∃ v, atI xs k = some v ∧ Q v H := by
    intro xs ds k r P
    cases q : atI ds k with
    | none => rw [q] at P; exact P.elim
    | some z =>
      rw [q] at P
      obtain ⟨v, e1, e2⟩ := dv_at r q
      exact ⟨v, e1, postD P s e2⟩
  cases hy with
  | int k =>
    cases hx with
    | lst e r =>
      obtain ⟨v, e1, q⟩ := go r P
      exact .inl ⟨_, _, k, v, rfl, rfl, SqL.of (s _ _ e), e1, q⟩
    | rol e r =>
      obtain ⟨v, e1, q⟩ := go r P
      exact .inl ⟨_, _, k, v, rfl, rfl, s.seq e, e1, q⟩
    | tup e r =>
      obtain ⟨v, e1, q⟩ := go r P
      exact .inr (.inl ⟨_, _, k, v, rfl, rfl, Same.tup s e, e1, q⟩)
    | str z =>
      have P : PostR G (DvR G) F H (if z.length ≤ sizeLine then ofO (atI z.cps.toList k) fun c => .ok (.str ⟨#[c]⟩) else .bad) Q := P
      split at P
      · rename_i hz
        cases q : atI z.cps.toList k with
        | none => rw [q] at P; exact P.elim
        | some c =>
          rw [q] at P
          exact .inr (.inr ⟨z, k, c, rfl, rfl, hz, q, postD P s (.str _)⟩)
      · exact P.elim
    | _ => exact P.elim
  | _ => cases hx <;> exact P.elim
theorem me_ix (ha : ME X G a ma) (hb : ME X G b mb) (hK : X.K = G.K := by rfl) (hs : PlainIx b := by exact fun _ _ => rfl) : ME X G (.Subscript a b pos) (mB ixD ma mb) :=
  weakE (pe_ix ix_seq ha hb hs) (by rw [hK]; exact op2 (ta := tC .non) (tb := tC .non) om_ix)
/-- an item of a list of the def's own -/
def mIxO (i : Nat) (mb : Env → R D) : Env → R D := fun ρ => match ρ[i]? with
  | some (.ol ds) => (mb ρ).bind fun y => match y with
    | .int k => ofO (atI ds k) .ok
    | _ => .bad
  | _ => .bad
theorem me_ixO (i : Nat) {x : Str} {p : Pos} (hb : ME X G b mb) (hN : X.N[i]? = some x := by rfl) (hv : Vis X.env.scope x := by first | exact Or.inl rfl | exact Or.inr (Or.inl rfl) | exact Or.inr (Or.inr rfl)) (hd : (x == ("__debug__" : Str)) = false := by decide)
    (hcd : (x == ("__classdict__" : Str)) = false := by decide) (hs : PlainIx b := by exact fun _ _ => rfl) : ME X G (.Subscript (.Name x p) b pos) (mIxO i mb) :=
  weakE (pe_ix ix_list (pe_var hN hv hd hcd) hb hs) fun σ H Q ⟨ρ, F, S, P⟩ => by
    unfold mIxO at P
    split at P
    · rename_i ds hρ
      obtain ⟨l, xs, e1, e2, e3, e4⟩ := S.getOl hρ
      refine ⟨.ref l, e1, ρ, F, S, (PostR.bind (rel := DvR G) P).imp fun d x F1 H1 _ g1 q1 ⟨F1', d', e1', g1', q1', P1⟩ => ?_⟩
      cases q1' with
      | int k =>
        have P1 : PostR G (DvR G) F1' H1 (ofO (atI ds k) .ok) Q := P1
        cases q : atI ds k with
        | none => rw [q] at P1; exact P1.elim
        | some z =>
          rw [q] at P1
          obtain ⟨v, e5, e6⟩ := dv_at (e4.mono g1'.f) q
          exact ⟨l, xs, k, v, rfl, rfl, SqL.of (g1'.h _ _ e2), e5, postD P1 g1'.s e6⟩
      | _ => exact P1.elim
    · exact P.elim

/-! slices -/
def cutD {α : Type} (xs : List α) (lo hi : Option Int) : List α := (xs.drop (HT.sIx xs.length 0 lo)).take (HT.sIx xs.length xs.length hi - HT.sIx xs.length 0 lo)
theorem dv_cut {K : PySem.W.Frag} {F : Hp} {xs : List V} {ds : List D} (h : DvAll K F xs ds) (lo hi : Option Int) : DvAll K F (cutV xs lo hi) (cutD ds lo hi) := by
  unfold cutV cutD
  rw [h.length]
  exact (h.drop _).take _
theorem cut_whole {α : Type} {xs : List α} {lo hi : Option Int} (h : HT.sIx xs.length 0 lo = 0 ∧ HT.sIx xs.length xs.length hi = xs.length) : cutD xs lo hi = xs := by
  unfold cutD
  rw [h.1, h.2, List.drop_zero, Nat.sub_zero, List.take_length]
def slD (x : D) (lo hi : Option Int) : R D := match x with
  | .lst ds => .ok (.lst (cutD ds lo hi))
  | .rol ds => .ok (.lst (cutD ds lo hi))
  | .tup ds => .ok (.tup (cutD ds lo hi))
  | .str z => if z.length ≤ sizeLine then .ok (.str (cutS z lo hi)) else .bad
  | _ => .bad
def mSl (a : Env → R D) (lo hi : Env → R (Option Int)) : Env → R D := fun ρ => (a ρ).bind fun x => (lo ρ).bind fun l => (hi ρ).bind fun h => slD x l h
def mNo : Env → R (Option Int) := fun _ => .ok none
def mSome (a : Env → R D) : Env → R (Option Int) := fun ρ => (a ρ).bind fun x => match x with
  | .int i => .ok (some i)
  | _ => .bad
theorem mo_none : MO X G none mNo := weakO po_none fun σ H Q ⟨ρ, F, S, P⟩ => P.go S.sub rfl
theorem mo_some (h : ME X G e ma) : MO X G (some e) (mSome ma) := weakO (po_some h) fun σ H Q ⟨ρ, F, S, P⟩ => by
  refine ⟨ρ, F, S, (PostR.bind (rel := DvR G) P).imp fun d x F1 H1 e1 g1 q1 ⟨F1', d', e1', g1', q1', P1⟩ => ?_⟩
  cases q1' with
  | int k => exact ⟨k, rfl, PostR.go (G := G) (rel := EqR) P1 g1'.s rfl⟩
  | _ => exact P1.elim
def rSlAll (K : PySem.W.Frag) : V → Option Int → Option Int → Hp → VK → Prop := fun x lo hi H Q => rSlL K x lo hi H Q ∨ rSlA K x lo hi H Q ∨ rSlS x lo hi H Q
theorem sl_all : SlR X (rSlAll X.K) := sl_list.or (sl_tupA.or sl_str)
theorem me_sl {lo hi : Option Expr} {ml mh : Env → R (Option Int)} {p2 : Pos} (he : ME X G e ma) (hl : MO X G lo ml) (hh : MO X G hi mh) (hK : X.K = G.K := by rfl) : ME X G (.Subscript e (.Slice lo hi none p2) pos) (mSl ma ml mh) :=
  weakE (pe_slice sl_all he hl hh) fun σ H Q ⟨ρ, F, S, P⟩ => by
    refine ⟨ρ, F, S, (PostR.bind (rel := DvR G) P).imp fun d x F1 H1 e1 g1 q1 ⟨F1', d', e1', g1', q1', P1⟩ => ?_⟩
    refine ⟨ρ, F1', S.grow g1', (PostR.bind (rel := EqR) P1).imp fun d2 l F2 H2 e2 g2 q2 ⟨F2', d2', e2', g2', q2', P2⟩ => ?_⟩
    refine ⟨ρ, F2', (S.grow g1').grow g2', (PostR.bind (rel := EqR) P2).imp fun d3 h F3 H3 e3 g3 q3 ⟨F3', d3', e3', g3', q3', P3⟩ => ?_⟩
    have e2 : l = d2' := q2'
    have e3 : h = d3' := q3'
    subst e2 e3
    have q := q1'.mono (g2'.f.trans g3'.f)
    rw [hK]
    cases q with
    | lst z r => exact .inl ⟨_, _, rfl, SqL.of (g3'.s _ _ z), fun p hp => postNew P3 g3'.s hp (.lst upd_same ((dv_cut r l h).mono (Same.upd_new (g3'.s.free hp))))⟩
    | rol z r => exact .inl ⟨_, _, rfl, g3'.s.seq z, fun p hp => postNew P3 g3'.s hp (.lst upd_same ((dv_cut r l h).mono (Same.upd_new (g3'.s.free hp))))⟩
    | @tup a xs ds z r =>
      refine .inr (.inl ⟨_, _, rfl, Same.tup g3'.s z, fun hw => ?_, fun _ p hp => postNew P3 g3'.s hp (.tup (SqT.of upd_same) ((dv_cut r l h).mono (Same.upd_new (g3'.s.free hp))))⟩)
      have P3 : PostR G (DvR G) F3' H3 (.ok (.tup (cutD ds l h))) Q := P3
      rw [r.length] at hw
      rw [cut_whole hw] at P3
      exact postD P3 g3'.s (.tup z r)
    | str z =>
      have P3 : PostR G (DvR G) F3' H3 (if z.length ≤ sizeLine then .ok (.str (cutS z l h)) else .bad) Q := P3
      split at P3
      · rename_i hz
        exact .inr (.inr ⟨z, rfl, hz, postD P3 g3'.s (.str _)⟩)
      · exact P3.elim
    | _ => exact P3.elim

/-! ### built-ins by name -/
def CallM (G : Gm) (r : List V → Hp → VK → Prop) (f : List D → R D) : Prop := ∀ (F H : Hp) (vs : List V) (ds : List D) (Q : VK), Same F H → DvAll G.K F vs ds → PostR G (DvR G) F H (f ds) Q → r vs H Q
def mCall (f : List D → R D) (m : Env → R (List D)) : Env → R D := fun ρ => (m ρ).bind f
theorem callB {r : List V → Hp → VK → Prop} {f : List D → R D} {m : Env → R (List D)} (hm : CallM G r f) : ∀ σ H Q, tOf G (mCall f m) σ H Q → tCB r (taOf G m) σ H Q := fun σ H Q ⟨ρ, F, S, P⟩ =>
  ⟨ρ, F, S, (PostR.bind (rel := DvsR G) P).imp fun d x F1 H1 e1 g1 q1 ⟨F1', d', e1', g1', q1', P1⟩ => hm F1' H1 x d' Q g1'.s q1' P1⟩
theorem me_callB {r : List V → Hp → VK → Prop} {f : List D → R D} {m : Env → R (List D)} {id : String} {x : Str} {p : Pos} (hc : CallR X (.builtin id) r) (hm : CallM G r f) (ha : MA X G (e :: es) m) (hx : X.mg x = none) (hv : bootBuiltins x = some (.builtin id)) (hg : Gl X x := by rfl) (hn : x ≠ "__name__" := by decide) (hdb : (x == ("__debug__" : Str)) = false := by decide)
    (he : starEach (e :: es) X.env = (false, eval e X.env) :: starEach es X.env := by rfl) (hpl : (backTo pos (starEach es X.env)).any (·.1) = false := by rfl) : ME X G (.Call (.Name x p) (e :: es) [] pos) (mCall f m) :=
  weakE (pe_callB hc hg hx hv ha hn hdb he hpl) (callB hm)
theorem me_callTy {r : List V → Hp → VK → Prop} {f : List D → R D} {m : Env → R (List D)} {T : String} {x : Str} {p : Pos} (hc : CallR X (.type T) r) (hm : CallM G r f) (ha : MA X G (e :: es) m) (hx : X.mg x = none) (hv : bootBuiltins x = some (.type T)) (hg : Gl X x := by rfl) (hn : x ≠ "__name__" := by decide) (hdb : (x == ("__debug__" : Str)) = false := by decide)
    (he : starEach (e :: es) X.env = (false, eval e X.env) :: starEach es X.env := by rfl) (hpl : (backTo pos (starEach es X.env)).any (·.1) = false := by rfl) : ME X G (.Call (.Name x p) (e :: es) [] pos) (mCall f m) :=
  weakE (pe_callTy hc hg hx hv ha hn hdb he hpl) (callB hm)

def lenF : List D → R D
  | [.str z] => if z.length ≤ sizeLine then .ok (.int z.length) else .bad
  | [.lst ds] => .ok (.int ds.length)
  | [.rol ds] => .ok (.int ds.length)
  | [.tup ds] => .ok (.int ds.length)
  | _ => .bad
def rLenA (K : PySem.W.Frag) : List V → Hp → VK → Prop := fun xs H Q => (∃ p ys, xs = [.ref p] ∧ (SqL K H p ys ∨ SqT K H p ys) ∧ Q (.int ys.length) H) ∨ (∃ z, xs = [.str z] ∧ z.length ≤ sizeLine ∧ Q (.int z.length) H)
theorem cr_lenA : CallR X (.builtin "len") (rLenA X.K) := call_len_seq.or call_len_str
theorem one_of {K : PySem.W.Frag} {F : Hp} {vs : List V} {d : D} (h : DvAll K F vs [d]) : ∃ v, vs = [v] ∧ Dv K F v d := by
  cases h with
  | cons h r => cases r; exact ⟨_, rfl, h⟩
theorem cm_len : CallM G (rLenA G.K) lenF := by
  intro F H vs ds Q s h P
  unfold lenF at P
  split at P
  · obtain ⟨v, rfl, q⟩ := one_of h
    cases q
    split at P
    · exact .inr ⟨_, rfl, by assumption, postD P s (.int _)⟩
    · exact P.elim
  · obtain ⟨v, rfl, q⟩ := one_of h
    cases q with
    | lst e r => exact .inl ⟨_, _, rfl, .inl (SqL.of (s _ _ e)), by rw [r.length]; exact postD P s (.int _)⟩
  · obtain ⟨v, rfl, q⟩ := one_of h
    cases q with
    | rol e r => exact .inl ⟨_, _, rfl, .inl (s.seq e), by rw [r.length]; exact postD P s (.int _)⟩
  · obtain ⟨v, rfl, q⟩ := one_of h
    cases q with
    | tup e r => exact .inl ⟨_, _, rfl, .inr (Same.tup s e), by rw [r.length]; exact postD P s (.int _)⟩
  · exact P.elim
theorem me_len {m : Env → R (List D)} {p : Pos} (ha : MA X G [e] m) (hx : X.mg "len" = none) (hK : X.K = G.K := by rfl) (hg : Gl X "len" := by rfl) (he : starEach [e] X.env = (false, eval e X.env) :: starEach [] X.env := by rfl) (hpl : (backTo pos (starEach [] X.env)).any (·.1) = false := by rfl) :
    ME X G (.Call (.Name "len" p) [e] [] pos) (mCall lenF m) := me_callB cr_lenA (by rw [hK]; exact cm_len) ha hx PySem.boot_len hg (by decide) (by decide) he hpl
/-- all, any over bools -/
def boolsOf : List D → Option (List Bool)
  | [] => some []
  | .bl b :: r => (boolsOf r).map (b :: ·)
  | _ => none
theorem bools_v {K : PySem.W.Frag} {F : Hp} : ∀ {ds : List D} {vs : List V} {bs : List Bool}, DvAll K F vs ds → boolsOf ds = some bs → vs = bs.map V.bl
  | [], _, _, h, e => by cases h; cases e; rfl
  | d :: ds, _, bs, h, e => by
    cases h with
    | cons h r =>
      cases h with
      | bl b =>
        unfold boolsOf at e
        cases q : boolsOf ds with
        | none => rw [q] at e; cases e
        | some bs2 =>
          rw [q] at e
          cases e
          rw [bools_v r q, List.map_cons]
      | _ => cases e
def allF : List D → R D
  | [.lst ds] => ofO (boolsOf ds) fun bs => .ok (.bl (bs.all id))
  | _ => .bad
def anyF : List D → R D
  | [.lst ds] => ofO (boolsOf ds) fun bs => .ok (.bl (bs.any id))
  | _ => .bad
theorem cm_all : CallM G (rAll G.K) allF := by
  intro F H vs ds Q s h P
  unfold allF at P
  split at P
  · rename_i es
    obtain ⟨v, rfl, q⟩ := one_of h
    cases q with
    | lst e r =>
      cases z : boolsOf es with
      | none => rw [z] at P; exact P.elim
      | some bs =>
        rw [z] at P
        have ev := bools_v r z
        subst ev
        exact ⟨_, bs, rfl, SqL.of (s _ _ e), postD P s (.bl _)⟩
  · exact P.elim
theorem cm_any : CallM G (rAny G.K) anyF := by
  intro F H vs ds Q s h P
  unfold anyF at P
  split at P
  · rename_i es
    obtain ⟨v, rfl, q⟩ := one_of h
    cases q with
    | lst e r =>
      cases z : boolsOf es with
      | none => rw [z] at P; exact P.elim
      | some bs =>
        rw [z] at P
        have ev := bools_v r z
        subst ev
        exact ⟨_, bs, rfl, SqL.of (s _ _ e), postD P s (.bl _)⟩
  · exact P.elim
theorem me_all {m : Env → R (List D)} {p : Pos} (ha : MA X G [e] m) (hx : X.mg "all" = none) (hK : X.K = G.K := by rfl) (hc : X.calm = true := by rfl) (hg : Gl X "all" := by rfl) (he : starEach [e] X.env = (false, eval e X.env) :: starEach [] X.env := by rfl) (hpl : (backTo pos (starEach [] X.env)).any (·.1) = false := by rfl) :
    ME X G (.Call (.Name "all" p) [e] [] pos) (mCall allF m) := me_callB (cr_all hc) (by rw [hK]; exact cm_all) ha hx (by decide +kernel) hg (by decide) (by decide) he hpl
theorem me_any {m : Env → R (List D)} {p : Pos} (ha : MA X G [e] m) (hx : X.mg "any" = none) (hK : X.K = G.K := by rfl) (hc : X.calm = true := by rfl) (hg : Gl X "any" := by rfl) (he : starEach [e] X.env = (false, eval e X.env) :: starEach [] X.env := by rfl) (hpl : (backTo pos (starEach [] X.env)).any (·.1) = false := by rfl) :
    ME X G (.Call (.Name "any" p) [e] [] pos) (mCall anyF m) := me_callB (cr_any hc) (by rw [hK]; exact cm_any) ha hx (by decide +kernel) hg (by decide) (by decide) he hpl
/-- isinstance(x, T), T a built-in class -/
def tyN : D → String
  | .non => "NoneType"
  | .bl _ => "bool"
  | .int _ => "int"
  | .str _ => "str"
  | .lst _ => "list"
  | .rol _ => "list"
  | .tup _ => "tuple"
  | .dic _ _ => "dict"
  | .fn _ => ""
  | .ty _ => ""
def isF : List D → R D
  | [x, .ty n] => ofO (kitB (tyN x) n) fun b => if tyN x = "" then .bad else .ok (.bl b)
  | _ => .bad
theorem tyx_of {K : PySem.W.Frag} {F H : Hp} {v : V} {d : D} (s : Same F H) (h : Dv K F v d) (hn : ¬ tyN d = "") : TyX K H v (.type (tyN d)) := by
  cases h with
  | non => exact .base .non
  | bl b => exact .base (.bl b)
  | int b => exact .base (.int b)
  | str b => exact .base (.str b)
  | lst e r => exact .base (.lst (s _ _ e))
  | rol e r =>
    rcases s.seq e with (e | ⟨o, e⟩) | ⟨o, its, n, e, c, _⟩
    · exact .base (.lst e)
    · exact .base (.frz e)
    · exact .kList e c
  | tup e r =>
    rcases Same.tup s e with (e | ⟨o, e⟩) | ⟨o, its, n, e, c, _⟩
    · exact .base (.tup e)
    · exact .fTuple e
    · exact .kTuple e c
  | dic e k r => exact .fDict (s _ _ e)
  | fn => exact absurd rfl hn
  | ty => exact absurd rfl hn
theorem cm_isi : CallM G (rIsi G.K) isF := by
  intro F H vs ds Q s h P
  unfold isF at P
  split at P
  · rename_i x n
    cases h with
    | cons h1 r =>
      obtain ⟨v2, rfl, q2⟩ := one_of r
      cases q2
      cases z : kitB (tyN x) n with
      | none => rw [z] at P; exact P.elim
      | some b =>
        rw [z] at P
        have P : PostR G (DvR G) F H (if tyN x = "" then .bad else .ok (.bl b)) Q := P
        split at P
        · exact P.elim
        · rename_i hn
          exact ⟨_, _, _, _, b, rfl, .ty n, tyx_of s h1 hn, kit_ty z, postD P s (.bl _)⟩
  · exact P.elim
theorem me_isi {e2 : Expr} {m : Env → R (List D)} {p : Pos} (ha : MA X G [e, e2] m) (hx : X.mg "isinstance" = none) (hK : X.K = G.K := by rfl) (hg : Gl X "isinstance" := by rfl) (he : starEach [e, e2] X.env = (false, eval e X.env) :: starEach [e2] X.env := by rfl) (hpl : (backTo pos (starEach [e2] X.env)).any (·.1) = false := by rfl) :
    ME X G (.Call (.Name "isinstance" p) [e, e2] [] pos) (mCall isF m) := me_callB call_isi (by rw [hK]; exact cm_isi) ha hx (by decide +kernel) hg (by decide) (by decide) he hpl
/-- int(n), int(flag) -/
def intF : List D → R D
  | [.int i] => .ok (.int i)
  | [.bl k] => .ok (.int (if k then 1 else 0))
  | _ => .bad
theorem cm_int : CallM G (fun xs H Q => (∃ i, xs = [.int i] ∧ Q (.int i) H) ∨ ∃ k, xs = [.bl k] ∧ Q (.int (if k then 1 else 0)) H) intF := by
  intro F H vs ds Q s h P
  unfold intF at P
  split at P
  · obtain ⟨v, rfl, q⟩ := one_of h
    cases q
    exact .inl ⟨_, rfl, postD P s (.int _)⟩
  · obtain ⟨v, rfl, q⟩ := one_of h
    cases q
    exact .inr ⟨_, rfl, postD P s (.int _)⟩
  · exact P.elim
theorem me_int1 {m : Env → R (List D)} {p : Pos} (ha : MA X G [e] m) (hx : X.mg "int" = none) (hg : Gl X "int" := by rfl) (he : starEach [e] X.env = (false, eval e X.env) :: starEach [] X.env := by rfl) (hpl : (backTo pos (starEach [] X.env)).any (·.1) = false := by rfl) :
    ME X G (.Call (.Name "int" p) [e] [] pos) (mCall intF m) := me_callTy call_int1 cm_int ha hx (by decide +kernel) hg (by decide) (by decide) he hpl
/-- tuple(xs) -/
def tupF : List D → R D
  | [.lst ds] => .ok (.tup ds)
  | [.rol ds] => .ok (.tup ds)
  | [.tup ds] => .ok (.tup ds)
  | _ => .bad
theorem cm_tup : CallM G (fun xs H Q => ∃ p ys, xs = [.ref p] ∧ ((SqL G.K H p ys ∧ ∀ l, H l = none → Q (.ref l) (upd H l (.tup ys))) ∨ (SqT G.K H p ys ∧ Q (.ref p) H))) tupF := by
  intro F H vs ds Q s h P
  unfold tupF at P
  split at P
  · obtain ⟨v, rfl, q⟩ := one_of h
    cases q with
    | lst e r => exact ⟨_, _, rfl, .inl ⟨SqL.of (s _ _ e), fun p hp => postNew P s hp (.tup (SqT.of upd_same) (r.mono (Same.upd_new (s.free hp))))⟩⟩
  · obtain ⟨v, rfl, q⟩ := one_of h
    cases q with
    | rol e r => exact ⟨_, _, rfl, .inl ⟨s.seq e, fun p hp => postNew P s hp (.tup (SqT.of upd_same) (r.mono (Same.upd_new (s.free hp))))⟩⟩
  · obtain ⟨v, rfl, q⟩ := one_of h
    cases q with
    | tup e r => exact ⟨_, _, rfl, .inr ⟨Same.tup s e, postD P s (.tup e r)⟩⟩
  · exact P.elim
theorem me_tuple {m : Env → R (List D)} {p : Pos} (ha : MA X G [e] m) (hx : X.mg "tuple" = none) (hK : X.K = G.K := by rfl) (hg : Gl X "tuple" := by rfl) (he : starEach [e] X.env = (false, eval e X.env) :: starEach [] X.env := by rfl) (hpl : (backTo pos (starEach [] X.env)).any (·.1) = false := by rfl) :
    ME X G (.Call (.Name "tuple" p) [e] [] pos) (mCall tupF m) := me_callTy call_tuple_of (by rw [hK]; exact cm_tup) ha hx (by decide +kernel) hg (by decide) (by decide) he hpl
/-- list(xs) -/
def lstF : List D → R D
  | [.lst ds] => .ok (.lst ds)
  | [.rol ds] => .ok (.lst ds)
  | [.tup ds] => .ok (.lst ds)
  | _ => .bad
theorem cm_list : CallM G (fun xs H Q => ∃ p ys, xs = [.ref p] ∧ (SqL G.K H p ys ∨ SqT G.K H p ys) ∧ ∀ l, H l = none → Q (.ref l) (upd H l (.lst ys))) lstF := by
  intro F H vs ds Q s h P
  unfold lstF at P
  split at P
  · obtain ⟨v, rfl, q⟩ := one_of h
    cases q with
    | lst e r => exact ⟨_, _, rfl, .inl (SqL.of (s _ _ e)), fun p hp => postNew P s hp (.lst upd_same (r.mono (Same.upd_new (s.free hp))))⟩
  · obtain ⟨v, rfl, q⟩ := one_of h
    cases q with
    | rol e r => exact ⟨_, _, rfl, .inl (s.seq e), fun p hp => postNew P s hp (.lst upd_same (r.mono (Same.upd_new (s.free hp))))⟩
  · obtain ⟨v, rfl, q⟩ := one_of h
    cases q with
    | tup e r => exact ⟨_, _, rfl, .inr (Same.tup s e), fun p hp => postNew P s hp (.lst upd_same (r.mono (Same.upd_new (s.free hp))))⟩
  · exact P.elim
theorem me_list {m : Env → R (List D)} {p : Pos} (ha : MA X G [e] m) (hx : X.mg "list" = none) (hK : X.K = G.K := by rfl) (hg : Gl X "list" := by rfl) (he : starEach [e] X.env = (false, eval e X.env) :: starEach [] X.env := by rfl) (hpl : (backTo pos (starEach [] X.env)).any (·.1) = false := by rfl) :
    ME X G (.Call (.Name "list" p) [e] [] pos) (mCall lstF m) := me_callTy call_list_of (by rw [hK]; exact cm_list) ha hx (by decide +kernel) hg (by decide) (by decide) he hpl
/-- sep.join(texts) -/
def strsOf : List D → Option (List Str)
  | [] => some []
  | .str b :: r => (strsOf r).map (b :: ·)
  | _ => none
theorem strs_v {K : PySem.W.Frag} {F : Hp} : ∀ {ds : List D} {vs : List V} {bs : List Str}, DvAll K F vs ds → strsOf ds = some bs → vs = bs.map V.str
  | [], _, _, h, e => by cases h; cases e; rfl
  | d :: ds, _, bs, h, e => by
    cases h with
    | cons h r =>
      cases h with
      | str b =>
        unfold strsOf at e
        cases q : strsOf ds with
        | none => rw [q] at e; cases e
        | some bs2 =>
          rw [q] at e
          cases e
          rw [strs_v r q, List.map_cons]
      | _ => cases e
def joinD (x y : D) : R D := match x, y with
  | .str a, .lst ds => ofO (strsOf ds) fun ys => if (ys.map (·.length)).sum + ys.length * a.length ≤ 16777216 then .ok (.str (Txt.join a ys)) else .bad
  | .str a, .tup ds => ofO (strsOf ds) fun ys => if (ys.map (·.length)).sum + ys.length * a.length ≤ 16777216 then .ok (.str (Txt.join a ys)) else .bad
  | _, _ => .bad
def mJoin (o a : Env → R D) : Env → R D := fun ρ => (o ρ).bind fun x => match x with
  | .str z => (a ρ).bind fun y => joinD (.str z) y
  | _ => .bad
theorem me_join {o : Expr} {mo : Env → R D} {apos : Pos} (ho : ME X G o mo) (he : ME X G e ma) (hK : X.K = G.K := by rfl) (hs : starEach [e] X.env = [(false, eval e X.env)] := by rfl) (hbase : attributeBase o "join" X.env (eval o X.env) = eval o X.env := by rfl) (hline : (apos.endLine == pos.line) = true := by rfl) :
    ME X G (.Call (.Attribute o "join" apos) [e] [] pos) (mJoin mo ma) := weakE (pe_join ho he hs hbase hline) fun σ H Q ⟨ρ, F, S, P⟩ => by
  refine ⟨ρ, F, S, (PostR.bind (rel := DvR G) P).imp fun d x F1 H1 e1 g1 q1 ⟨F1', d', e1', g1', q1', P1⟩ => ?_⟩
  cases q1' with
  | str a =>
    refine ⟨⟨a, rfl⟩, ρ, F1', S.grow g1', (PostR.bind (rel := DvR G) P1).imp fun d2 y F2 H2 e2 g2 q2 ⟨F2', d2', e2', g2', q2', P2⟩ => ?_⟩
    rw [hK]
    cases q2' with
    | @lst p xs ds z r =>
      have P2 : PostR G (DvR G) F2' H2 (ofO (strsOf ds) fun ys => if (ys.map (·.length)).sum + ys.length * a.length ≤ 16777216 then .ok (.str (Txt.join a ys)) else .bad) Q := P2
      cases w : strsOf ds with
      | none => rw [w] at P2; exact P2.elim
      | some ys =>
        rw [w] at P2
        have P2 : PostR G (DvR G) F2' H2 (if (ys.map (·.length)).sum + ys.length * a.length ≤ 16777216 then .ok (.str (Txt.join a ys)) else .bad) Q := P2
        have ev := strs_v r w
        subst ev
        split at P2
        · exact ⟨a, p, ys, rfl, rfl, .inl (SqL.of (g2'.s _ _ z)), by assumption, postD P2 g2'.s (.str _)⟩
        · exact P2.elim
    | @tup p xs ds z r =>
      have P2 : PostR G (DvR G) F2' H2 (ofO (strsOf ds) fun ys => if (ys.map (·.length)).sum + ys.length * a.length ≤ 16777216 then .ok (.str (Txt.join a ys)) else .bad) Q := P2
      cases w : strsOf ds with
      | none => rw [w] at P2; exact P2.elim
      | some ys =>
        rw [w] at P2
        have P2 : PostR G (DvR G) F2' H2 (if (ys.map (·.length)).sum + ys.length * a.length ≤ 16777216 then .ok (.str (Txt.join a ys)) else .bad) Q := P2
        have ev := strs_v r w
        subst ev
        split at P2
        · exact ⟨a, p, ys, rfl, rfl, .inr (Same.tup g2'.s z), by assumption, postD P2 g2'.s (.str _)⟩
        · exact P2.elim
    | _ => exact P2.elim
  | _ => exact P1.elim
end
end Mir
namespace Mir
open PySem PySem.Spec PyProof.Rows L2 RZ

/-! ### a def by its mirror -/
def spM (K : PySem.W.Frag) (mg : Str → Option Value) (n : Nat) (f : List D → R D) : Sp := fun vs H Q E =>
  ∃ F ds, Same F H ∧ DvAll K F vs ds ∧ ds.length = n ∧ PostR ⟨K, mg, E⟩ (DvR ⟨K, mg, E⟩) F H (f ds) Q
abbrev FnM (P : Program) (w : World) (K : PySem.W.Frag) (mg : Str → Option Value) (base : Heap) (k : Nat) (f : Addr) (fd : FuncData) (ps : List Str) (m : List D → R D) : Prop :=
  FnOk P w K mg base (L2.CX P w) k f fd ps (spM K mg ps.length m)
section
variable {X : Cx} {G : Gm} {a b e : Expr} {es : List Expr} {ma mb : Env → R D} {pos : Pos} {k : Nat} {f : Addr} {fd : FuncData} {ps : List Str} {m : List D → R D} {mr : Env → R (List D)} {x : Str} {p : Pos}
def mFn (n : Nat) (f : List D → R D) (m : Env → R (List D)) : Env → R D := fun ρ => (m ρ).bind fun ds => if ds.length = n then f ds else .bad
theorem me_fn (F : FnOk X.prog X.w X.K X.mg X.base (L2.CX X.prog X.w) k f fd ps (spM X.K X.mg ps.length m)) (hr : Room k X.A) (hm : X.mg x = some (.ref f)) (hk : PySem.W.keepIn X.K (.ref f) = true) (hb : Binds X.K fd ps []) (hx : Passes (L2.CX X.prog X.w) X G.E) (ha : MA X G (e :: es) mr)
    (hK : X.K = G.K := by rfl) (hmg : X.mg = G.mg := by rfl) (hg : Gl X x := by rfl) (hdb : (x == ("__debug__" : Str)) = false := by decide) (he : starEach (e :: es) X.env = (false, eval e X.env) :: starEach es X.env := by rfl) (hpl : (backTo pos (starEach es X.env)).any (·.1) = false := by rfl) :
    ME X G (.Call (.Name x p) (e :: es) [] pos) (mFn ps.length m mr) := weakE (pe_call F hr hg hm hk hb .nil hx ha hdb he hpl) fun σ H Q ⟨ρ, F', S, P⟩ => by
  refine ⟨ρ, F', S, (PostR.bind (rel := DvsR G) P).imp fun d x F1 H1 e1 g1 q1 ⟨F1', d', e1', g1', q1', P1⟩ => ?_⟩
  rw [List.append_nil]
  split at P1
  · rename_i hl
    rw [hK, hmg]
    exact ⟨F1', d', g1'.s, q1', hl, P1⟩
  · exact P1.elim
theorem me_fn0 (F : FnOk X.prog X.w X.K X.mg X.base (L2.CX X.prog X.w) k f fd [] (spM X.K X.mg 0 m)) (hr : Room k X.A) (hm : X.mg x = some (.ref f)) (hk : PySem.W.keepIn X.K (.ref f) = true) (hb : Binds X.K fd [] []) (hx : Passes (L2.CX X.prog X.w) X G.E)
    (hK : X.K = G.K := by rfl) (hmg : X.mg = G.mg := by rfl) (hg : Gl X x := by rfl) (hdb : (x == ("__debug__" : Str)) = false := by decide) :
    ME X G (.Call (.Name x p) [] [] pos) (fun _ => m []) := weakE (pe_call0 F hr hg hm hk hb .nil hx hdb) fun σ H Q ⟨ρ, F', S, P⟩ => by
  show spM X.K X.mg 0 m ([] ++ []) H Q G.E
  rw [hK, hmg]
  exact ⟨F', [], S.sub, .nil, rfl, P⟩
end

/-! ### what is walked -/
structure WalkD (K : PySem.W.Frag) (J : It) (ds : List D) (F1 : Hp) : Prop where
  go : ∀ i F H, Same F1 F → Same F H → i < ds.length → J.go i H
  stop : ∀ F H, Same F1 F → Same F H → J.stop ds.length H
  yld : ∀ i F H x H', Same F1 F → Same F H → i < ds.length → J.yld i H x H' → ∃ F' d, ds[i]? = some d ∧ Grow F H F' H' ∧ Dv K F' x d
def PostI (G : Gm) (F H : Hp) (r : R (List D)) (Q : It → Hp → Prop) : Prop := match r with
  | .ok ds => ∀ J F' H', Grow F H F' H' → WalkD G.K J ds F' → Q J H'
  | .exc c => ∀ C F' H', G.mg c = some (.ref C) → Grow F H F' H' → G.E (.ref C) none H'
  | .bad => False
def tiOf (G : Gm) (m : Env → R (List D)) : TI := fun σ H Q => ∃ ρ F, Sl G.K ρ σ F H ∧ PostI G F H (m ρ) Q
abbrev MI (X : Cx) (G : Gm) (tg e : Expr) (m : Env → R (List D)) : Prop := PI X tg e (tiOf G m)
theorem weakI {X : Cx} {tg e : Expr} {t t' : TI} (h : PI X tg e t) (k : ∀ σ H Q, t' σ H Q → t σ H Q) : PI X tg e t' := ⟨fun pins s σ H Q I q => h.run pins s σ H Q I (k σ H Q q)⟩
theorem PostI.grow {G : Gm} {F H F1 H1 : Hp} {r : R (List D)} {Q : It → Hp → Prop} (h : PostI G F H r Q) (g : Grow F H F1 H1) : PostI G F1 H1 r Q := by
  cases r with
  | ok a => exact fun J F' H' g' q => h J F' H' (g.trans g') q
  | exc c => exact fun C F' H' m g' => h C F' H' m (g.trans g')
  | bad => exact h
theorem PostI.bind {G : Gm} {α β : Type} {rel : Hp → β → α → Prop} {F H : Hp} {r : R α} {f : α → R (List D)} {Q : It → Hp → Prop} (h : PostI G F H (r.bind f) Q) :
    PostR G rel F H r (fun b H1 => ∃ F1 a, r = .ok a ∧ Grow F H F1 H1 ∧ rel F1 b a ∧ PostI G F1 H1 (f a) Q) := by
  cases r with
  | ok a => exact fun b F' H' g' q => ⟨F', a, rfl, g', q, PostI.grow (show PostI G F H (f a) Q from h) g'⟩
  | exc c => exact h
  | bad => exact h
section
variable {K : PySem.W.Frag} {F : Hp} {a b : Addr} {xs ys : List V} {ds es : List D}
theorem wd_list (h : SqL K F a xs) (r : DvAll K F xs ds) : WalkD K (Itl K a) ds F := by
  refine ⟨fun i F1 H s1 s2 hi => ?_, fun F1 H s1 s2 => ⟨xs, (s1.trans s2).seq h, by rw [r.length]; exact Nat.le_refl _⟩, fun i F1 H x H' s1 s2 hi y => ?_⟩
  · rw [← r.length] at hi
    exact ⟨xs, xs[i], (s1.trans s2).seq h, List.getElem?_eq_getElem hi⟩
  · obtain ⟨rfl, q⟩ := y
    obtain ⟨d, e1, e2⟩ := r.get (q xs ((s1.trans s2).seq h))
    exact ⟨F1, d, e1, Grow.refl s2, e2.mono s1⟩
theorem wd_tup (h : SqT K F a xs) (r : DvAll K F xs ds) : WalkD K (Itt K a) ds F := by
  refine ⟨fun i F1 H s1 s2 hi => ?_, fun F1 H s1 s2 => ⟨xs, Same.tup (s1.trans s2) h, by rw [r.length]; exact Nat.le_refl _⟩, fun i F1 H x H' s1 s2 hi y => ?_⟩
  · rw [← r.length] at hi
    exact ⟨xs, xs[i], Same.tup (s1.trans s2) h, List.getElem?_eq_getElem hi⟩
  · obtain ⟨rfl, q⟩ := y
    obtain ⟨d, e1, e2⟩ := r.get (q xs (Same.tup (s1.trans s2) h))
    exact ⟨F1, d, e1, Grow.refl s2, e2.mono s1⟩
def rangeD (lo : Int) (n : Nat) : List D := (List.range n).map fun i => .int (lo + (i : Nat))
theorem rangeD_len (lo : Int) (n : Nat) : (rangeD lo n).length = n := by unfold rangeD; rw [List.length_map, List.length_range]
theorem wd_range {lo : Int} {n : Nat} : WalkD K (Itr lo n) (rangeD lo n) F := by
  refine ⟨fun i F1 H s1 s2 hi => ?_, fun F1 H s1 s2 => ?_, fun i F1 H x H' s1 s2 hi y => ?_⟩
  · rw [rangeD_len] at hi; exact hi
  · show n ≤ (rangeD lo n).length
    rw [rangeD_len]; exact Nat.le_refl _
  · rw [rangeD_len] at hi
    obtain ⟨rfl, rfl⟩ := y
    refine ⟨F1, .int (lo + (i : Nat)), ?_, Grow.refl s2, .int _⟩
    unfold rangeD
    rw [List.getElem?_map, List.getElem?_range hi]
    rfl
def signsD (z : Str) : List D := z.cps.toList.map fun c => .str ⟨#[c]⟩
theorem signsD_len (z : Str) : (signsD z).length = z.cps.size := by unfold signsD; rw [List.length_map, Array.length_toList]
theorem signsD_at {z : Str} {i c : Nat} (h : z.cps[i]? = some c) : (signsD z)[i]? = some (.str ⟨#[c]⟩) := by
  unfold signsD
  rw [List.getElem?_map, Array.getElem?_toList, h]
  rfl
theorem wd_str {z : Str} : WalkD K (Its z) (signsD z) F := by
  refine ⟨fun i F1 H s1 s2 hi => ?_, fun F1 H s1 s2 => ?_, fun i F1 H x H' s1 s2 hi y => ?_⟩
  · rw [signsD_len] at hi; exact hi
  · show z.cps.size ≤ (signsD z).length
    rw [signsD_len]; exact Nat.le_refl _
  · obtain ⟨rfl, c, e, rfl⟩ := y
    exact ⟨F1, _, signsD_at e, Grow.refl s2, .str _⟩
def enumD (ds : List D) : List D := (List.range ds.length).zipWith (fun i d => .tup [.int (i : Nat), d]) ds
theorem enumD_len (ds : List D) : (enumD ds).length = ds.length := by unfold enumD; rw [List.length_zipWith, List.length_range, Nat.min_self]
theorem enumD_at {ds : List D} {i : Nat} {d : D} (h : ds[i]? = some d) : (enumD ds)[i]? = some (.tup [.int (i : Nat), d]) := by
  have hi := (List.getElem?_eq_some_iff.mp h).1
  unfold enumD
  rw [List.getElem?_zipWith, List.getElem?_range hi, h]
theorem pair_new {F1 H : Hp} {T : Addr} {x y : V} {d e : D} (s : Same F1 H) (hT : H T = none) (h1 : Dv K F1 x d) (h2 : Dv K F1 y e) : ∃ F', Grow F1 H F' (upd H T (.tup [x, y])) ∧ Dv K F' (.ref T) (.tup [d, e]) :=
  ⟨_, Grow.new s hT, .tup (SqT.of upd_same) (.cons (h1.mono (Same.upd_new (s.free hT))) (.cons (h2.mono (Same.upd_new (s.free hT))) .nil))⟩
theorem wd_enumS {z : Str} : WalkD K (EnS z) (enumD (signsD z)) F := by
  refine ⟨fun i F1 H s1 s2 hi => ?_, fun F1 H s1 s2 => ?_, fun i F1 H x H' s1 s2 hi y => ?_⟩
  · rw [enumD_len, signsD_len] at hi; exact hi
  · show (enumD (signsD z)).length = z.cps.size
    rw [enumD_len, signsD_len]
  · obtain ⟨T, c, rfl, hT, e, rfl⟩ := y
    obtain ⟨F', g, q⟩ := pair_new (K := K) s2 hT (.int (i : Nat)) (.str ⟨#[c]⟩)
    exact ⟨F', _, enumD_at (signsD_at e), g, q⟩
theorem wd_enumT (h : SqT K F a xs) (r : DvAll K F xs ds) : WalkD K (EnT K a) (enumD ds) F := by
  refine ⟨fun i F1 H s1 s2 hi => ?_, fun F1 H s1 s2 => ?_, fun i F1 H x H' s1 s2 hi y => ?_⟩
  · rw [enumD_len, ← r.length] at hi
    exact ⟨xs, Same.tup (s1.trans s2) h, hi⟩
  · exact ⟨xs, Same.tup (s1.trans s2) h, by rw [enumD_len, r.length]⟩
  · obtain ⟨T, v, rfl, hT, e, rfl⟩ := y
    obtain ⟨d, e1, e2⟩ := r.get (e xs (Same.tup (s1.trans s2) h))
    obtain ⟨F', g, q⟩ := pair_new (K := K) s2 hT (.int (i : Nat)) (e2.mono s1)
    exact ⟨F', _, enumD_at e1, g, q⟩
theorem wd_enumL (h : SqL K F a xs) (r : DvAll K F xs ds) : WalkD K (Ite K a) (enumD ds) F := by
  refine ⟨fun i F1 H s1 s2 hi => ?_, fun F1 H s1 s2 => ?_, fun i F1 H x H' s1 s2 hi y => ?_⟩
  · rw [enumD_len, ← r.length] at hi
    exact ⟨xs, xs[i], (s1.trans s2).seq h, List.getElem?_eq_getElem hi⟩
  · exact ⟨xs, (s1.trans s2).seq h, by rw [enumD_len, r.length]; exact Nat.le_refl _⟩
  · obtain ⟨T, v, rfl, hT, rfl, e⟩ := y
    obtain ⟨d, e1, e2⟩ := r.get (e xs ((s1.trans s2).seq h))
    obtain ⟨F', g, q⟩ := pair_new (K := K) s2 hT (.int (i : Nat)) (e2.mono s1)
    exact ⟨F', _, enumD_at e1, g, q⟩
def zipD (ds es : List D) : List D := ds.zipWith (fun d e => .tup [d, e]) es
theorem zipD_len (ds es : List D) : (zipD ds es).length = min ds.length es.length := by unfold zipD; rw [List.length_zipWith]
theorem zipD_at {ds es : List D} {i : Nat} {d e : D} (h : ds[i]? = some d) (h2 : es[i]? = some e) : (zipD ds es)[i]? = some (.tup [d, e]) := by
  unfold zipD
  rw [List.getElem?_zipWith, h, h2]
theorem wd_zipL (h : SqL K F a xs) (r : DvAll K F xs ds) (h2 : SqL K F b ys) (r2 : DvAll K F ys es) : WalkD K (Itz K a b) (zipD ds es) F := by
  refine ⟨fun i F1 H s1 s2 hi => ?_, fun F1 H s1 s2 => ?_, fun i F1 H x H' s1 s2 hi y => ?_⟩
  · rw [zipD_len, ← r.length, ← r2.length] at hi
    have i1 : i < xs.length := by omega
    have i2 : i < ys.length := by omega
    exact ⟨xs, ys, xs[i], ys[i], (s1.trans s2).seq h, (s1.trans s2).seq h2, List.getElem?_eq_getElem i1, List.getElem?_eq_getElem i2⟩
  · refine ⟨xs, ys, (s1.trans s2).seq h, (s1.trans s2).seq h2, ?_⟩
    rw [zipD_len, ← r.length, ← r2.length]
    omega
  · obtain ⟨T, u, v, rfl, hT, rfl, e1, e2⟩ := y
    obtain ⟨d, q1, q2⟩ := r.get (e1 xs ((s1.trans s2).seq h))
    obtain ⟨d', q3, q4⟩ := r2.get (e2 ys ((s1.trans s2).seq h2))
    obtain ⟨F', g, q⟩ := pair_new (K := K) s2 hT (q2.mono s1) (q4.mono s1)
    exact ⟨F', _, zipD_at q1 q3, g, q⟩
theorem wd_zipT (h : SqT K F a xs) (r : DvAll K F xs ds) (h2 : SqT K F b ys) (r2 : DvAll K F ys es) : WalkD K (ItzT K a b) (zipD ds es) F := by
  refine ⟨fun i F1 H s1 s2 hi => ?_, fun F1 H s1 s2 => ?_, fun i F1 H x H' s1 s2 hi y => ?_⟩
  · rw [zipD_len, ← r.length, ← r2.length] at hi
    have i1 : i < xs.length := by omega
    have i2 : i < ys.length := by omega
    exact ⟨xs, ys, xs[i], ys[i], Same.tup (s1.trans s2) h, Same.tup (s1.trans s2) h2, List.getElem?_eq_getElem i1, List.getElem?_eq_getElem i2⟩
  · refine ⟨xs, ys, Same.tup (s1.trans s2) h, Same.tup (s1.trans s2) h2, ?_⟩
    rw [zipD_len, ← r.length, ← r2.length]
    omega
  · obtain ⟨T, u, v, rfl, hT, rfl, e1, e2⟩ := y
    obtain ⟨d, q1, q2⟩ := r.get (e1 xs (Same.tup (s1.trans s2) h))
    obtain ⟨d', q3, q4⟩ := r2.get (e2 ys (Same.tup (s1.trans s2) h2))
    obtain ⟨F', g, q⟩ := pair_new (K := K) s2 hT (q2.mono s1) (q4.mono s1)
    exact ⟨F', _, zipD_at q1 q3, g, q⟩
end
section
variable {X : Cx} {G : Gm} {tg a b e : Expr} {es : List Expr} {ma mb : Env → R D} {pos p : Pos} {mr : Env → R (List D)}
/-- a list, a tuple, a text as what is walked: which of them, one must say -/
def seqOf : D → R (List D)
  | .lst ds => .ok ds
  | .rol ds => .ok ds
  | _ => .bad
def mSeq (f : D → R (List D)) (m : Env → R D) : Env → R (List D) := fun ρ => (m ρ).bind f
theorem mi_list (h : ME X G e ma) (hK : X.K = G.K := by rfl) : MI X G tg e (mSeq seqOf ma) := weakI (pi_list h) fun σ H Q ⟨ρ, F, S, P⟩ => by
  refine ⟨ρ, F, S, (PostI.bind (rel := DvR G) P).imp fun d x F1 H1 e1 g1 q1 ⟨F1', d', e1', g1', q1', P1⟩ => ?_⟩
  rw [hK]
  cases q1' with
  | lst z r => exact ⟨_, rfl, ⟨_, SqL.of (g1'.s _ _ z)⟩, P1 _ _ _ (Grow.refl g1'.s) (wd_list (SqL.of z) r)⟩
  | rol z r => exact ⟨_, rfl, ⟨_, g1'.s.seq z⟩, P1 _ _ _ (Grow.refl g1'.s) (wd_list z r)⟩
  | _ => exact P1.elim
def tupOf : D → R (List D)
  | .tup ds => .ok ds
  | _ => .bad
theorem mi_tup (h : ME X G e ma) (hK : X.K = G.K := by rfl) : MI X G tg e (mSeq tupOf ma) := weakI (pi_tup h) fun σ H Q ⟨ρ, F, S, P⟩ => by
  refine ⟨ρ, F, S, (PostI.bind (rel := DvR G) P).imp fun d x F1 H1 e1 g1 q1 ⟨F1', d', e1', g1', q1', P1⟩ => ?_⟩
  rw [hK]
  cases q1' with
  | tup z r => exact ⟨_, rfl, ⟨_, Same.tup g1'.s z⟩, P1 _ _ _ (Grow.refl g1'.s) (wd_tup z r)⟩
  | _ => exact P1.elim
def strOf : D → R (List D)
  | .str z => .ok (signsD z)
  | _ => .bad
theorem mi_str (h : ME X G e ma) : MI X G tg e (mSeq strOf ma) := weakI (pi_str h) fun σ H Q ⟨ρ, F, S, P⟩ => by
  refine ⟨ρ, F, S, (PostI.bind (rel := DvR G) P).imp fun d x F1 H1 e1 g1 q1 ⟨F1', d', e1', g1', q1', P1⟩ => ?_⟩
  cases q1' with
  | str z => exact ⟨_, rfl, P1 _ _ _ (Grow.refl g1'.s) wd_str⟩
  | _ => exact P1.elim
def rng1 : List D → R (List D)
  | [.int n] => if -(2 ^ 62) ≤ n ∧ n < 2 ^ 62 then .ok (rangeD 0 n.toNat) else .bad
  | _ => .bad
def rng2 : List D → R (List D)
  | [.int i, .int j] => if -(2 ^ 62) ≤ i ∧ i < 2 ^ 62 ∧ -(2 ^ 62) ≤ j ∧ j < 2 ^ 62 then .ok (rangeD i (j - i).toNat) else .bad
  | _ => .bad
def mSeqs (f : List D → R (List D)) (m : Env → R (List D)) : Env → R (List D) := fun ρ => (m ρ).bind f
theorem mi_range1 (ha : MA X G [a] mr) (hx : X.mg "range" = none) (hg : Gl X "range" := by rfl) (hs : starEach [a] X.env = [(false, eval a X.env)] := by rfl) : MI X G tg (.Call (.Name "range" p) [a] [] pos) (mSeqs rng1 mr) := weakI (pi_range1 hg hx ha hs) fun σ H Q ⟨ρ, F, S, P⟩ => by
  refine ⟨ρ, F, S, (PostI.bind (rel := DvsR G) P).imp fun d x F1 H1 e1 g1 q1 ⟨F1', d', e1', g1', q1', P1⟩ => ?_⟩
  unfold rng1 at P1
  split at P1
  · obtain ⟨v, rfl, q⟩ := one_of q1'
    cases q
    split at P1
    · rename_i c
      exact ⟨_, rfl, c.1, c.2, P1 _ _ _ (Grow.refl g1'.s) wd_range⟩
    · exact P1.elim
  · exact P1.elim
theorem mi_range2 (ha : MA X G [a, b] mr) (hx : X.mg "range" = none) (hg : Gl X "range" := by rfl) (hs : starEach [a, b] X.env = [(false, eval a X.env), (false, eval b X.env)] := by rfl) (hs2 : starEach [b] X.env = [(false, eval b X.env)] := by rfl) :
    MI X G tg (.Call (.Name "range" p) [a, b] [] pos) (mSeqs rng2 mr) := weakI (pi_range2 hg hx ha hs hs2) fun σ H Q ⟨ρ, F, S, P⟩ => by
  refine ⟨ρ, F, S, (PostI.bind (rel := DvsR G) P).imp fun d x F1 H1 e1 g1 q1 ⟨F1', d', e1', g1', q1', P1⟩ => ?_⟩
  unfold rng2 at P1
  split at P1
  · cases q1' with
    | cons h r =>
      obtain ⟨v, rfl, q⟩ := one_of r
      cases q
      cases h
      split at P1
      · rename_i c
        exact ⟨_, _, rfl, ⟨c.1, c.2.1, c.2.2.1, c.2.2.2⟩, P1 _ _ _ (Grow.refl g1'.s) wd_range⟩
      · exact P1.elim
  · exact P1.elim
variable {elts : List Expr} {kk : Nat} {tpos : Pos}
def enF : List D → R (List D)
  | [.str z] => .ok (enumD (signsD z))
  | [.tup ds] => .ok (enumD ds)
  | [.lst ds] => .ok (enumD ds)
  | [.rol ds] => .ok (enumD ds)
  | _ => .bad
theorem mi_enum (ha : MA X G [e] mr) (hx : X.mg "enumerate" = none) (hK : X.K = G.K := by rfl) (hg : Gl X "enumerate" := by rfl) (hs : starEach [e] X.env = [(false, eval e X.env)] := by rfl) :
    MI X G (.Tuple elts kk tpos) (.Call (.Name "enumerate" p) [e] [] pos) (mSeqs enF mr) := weakI (pi_enumA hg hx ha hs) fun σ H Q ⟨ρ, F, S, P⟩ => by
  refine ⟨ρ, F, S, (PostI.bind (rel := DvsR G) P).imp fun d x F1 H1 e1 g1 q1 ⟨F1', d', e1', g1', q1', P1⟩ => ?_⟩
  rw [hK]
  unfold enF at P1
  split at P1
  · obtain ⟨v, rfl, q⟩ := one_of q1'
    cases q
    exact .inl ⟨_, rfl, P1 _ _ _ (Grow.refl g1'.s) wd_enumS⟩
  · obtain ⟨v, rfl, q⟩ := one_of q1'
    cases q with
    | tup z r => exact .inr (.inl ⟨_, _, rfl, Same.tup g1'.s z, P1 _ _ _ (Grow.refl g1'.s) (wd_enumT z r)⟩)
  · obtain ⟨v, rfl, q⟩ := one_of q1'
    cases q with
    | lst z r => exact .inr (.inr ⟨_, _, rfl, SqL.of (g1'.s _ _ z), P1 _ _ _ (Grow.refl g1'.s) (wd_enumL (SqL.of z) r)⟩)
  · obtain ⟨v, rfl, q⟩ := one_of q1'
    cases q with
    | rol z r => exact .inr (.inr ⟨_, _, rfl, g1'.s.seq z, P1 _ _ _ (Grow.refl g1'.s) (wd_enumL z r)⟩)
  · exact P1.elim
def zipF : List D → R (List D)
  | [.lst ds, .lst es] => .ok (zipD ds es)
  | [.tup ds, .tup es] => .ok (zipD ds es)
  | _ => .bad
theorem mi_zip (ha : MA X G [a, b] mr) (hx : X.mg "zip" = none) (hK : X.K = G.K := by rfl) (hg : Gl X "zip" := by rfl) (hs : starEach [a, b] X.env = (false, eval a X.env) :: starEach [b] X.env := by rfl) (hpl : (backTo pos (starEach [b] X.env)).any (·.1) = false := by rfl) :
    MI X G (.Tuple elts kk tpos) (.Call (.Name "zip" p) [a, b] [] pos) (mSeqs zipF mr) := weakI (pi_zipA hg hx ha hs hpl) fun σ H Q ⟨ρ, F, S, P⟩ => by
  refine ⟨ρ, F, S, (PostI.bind (rel := DvsR G) P).imp fun d x F1 H1 e1 g1 q1 ⟨F1', d', e1', g1', q1', P1⟩ => ?_⟩
  rw [hK]
  unfold zipF at P1
  split at P1
  · cases q1' with
    | cons h r =>
      obtain ⟨v, rfl, q⟩ := one_of r
      cases q with
      | lst z2 r2 =>
        cases h with
        | lst z r => exact ⟨_, _, _, _, rfl, .inl ⟨SqL.of (g1'.s _ _ z), SqL.of (g1'.s _ _ z2), P1 _ _ _ (Grow.refl g1'.s) (wd_zipL (SqL.of z) r (SqL.of z2) r2)⟩⟩
  · cases q1' with
    | cons h r =>
      obtain ⟨v, rfl, q⟩ := one_of r
      cases q with
      | tup z2 r2 =>
        cases h with
        | tup z r => exact ⟨_, _, _, _, rfl, .inr ⟨Same.tup g1'.s z, Same.tup g1'.s z2, P1 _ _ _ (Grow.refl g1'.s) (wd_zipT z r z2 r2)⟩⟩
  · exact P1.elim
end
end Mir
namespace Mir
open PySem PySem.Spec PyProof.Rows L2

/-! ### targets -/
/-- what is the def's own ahead and behind is the same -/
def Own (ρ ρ' : Env) (σ σ' : L2.St) : Prop := ∀ (i : Nat) (s : Slot), ρ'[i]? = some s → s.own = true → ρ[i]? = some s ∧ σ'[i]? = σ[i]?
theorem Own.refl (ρ : Env) (σ : L2.St) : Own ρ ρ σ σ := fun _ _ h _ => ⟨h, rfl⟩
theorem Own.trans {ρ ρ1 ρ2 : Env} {σ σ1 σ2 : L2.St} (a : Own ρ ρ1 σ σ1) (b : Own ρ1 ρ2 σ1 σ2) : Own ρ ρ2 σ σ2 := fun i s h o => by
  obtain ⟨h1, e1⟩ := b i s h o
  obtain ⟨h2, e2⟩ := a i s h1 o
  exact ⟨h2, e1.trans e2⟩
theorem Own.setFz (ρ : Env) (σ : L2.St) (i : Nat) (d : D) (x : Option V) : Own ρ (ρ.set i (.fz d)) σ (σ.set i x) := fun j s h o => by
  rcases get_set h with ⟨_, rfl⟩ | ⟨n, e⟩
  · cases o
  · exact ⟨e, List.getElem?_set_ne (Ne.symm n)⟩
/-- a target's mirror: data and slots to slots -/
abbrev TgF := D → Env → R Env
def TgOk (K : PySem.W.Frag) (vs : List Nat) (g : TG) (mt : TgF) : Prop := ∀ (ρ ρ' : Env) (σ : L2.St) (F H : Hp) (v : V) (d : D) (Q : L2.St → Hp → Prop), Sl K ρ σ F H → Dv K F v d → mt d ρ = .ok ρ' →
  (∀ σ', Sl K ρ' σ' F H → σ'.length = σ.length → Own ρ ρ' σ σ' → (∀ j, j ∉ vs → σ'[j]? = σ[j]?) → Q σ' H) → g v σ H Q
abbrev TgsF := List D → Env → R Env
def TgsOk (K : PySem.W.Frag) (vs : List Nat) (g : TGs) (mt : TgsF) : Prop := ∀ (ρ ρ' : Env) (σ : L2.St) (F H : Hp) (xs : List V) (ds : List D) (Q : L2.St → Hp → Prop), Sl K ρ σ F H → DvAll K F xs ds → mt ds ρ = .ok ρ' →
  (∀ σ', Sl K ρ' σ' F H → σ'.length = σ.length → Own ρ ρ' σ σ' → (∀ j, j ∉ vs → σ'[j]? = σ[j]?) → Q σ' H) → g xs σ H Q
def tgName (i : Nat) : TgF := fun d ρ => .ok (ρ.set i (.fz d))
def tgTup (n : Nat) (m : TgsF) : TgF := fun d ρ => match d with
  | .tup ds => if ds.length = n then m ds ρ else .bad
  | _ => .bad
def tgNil : TgsF := fun ds ρ => match ds with
  | [] => .ok ρ
  | _ => .bad
def tgCons (m : TgF) (r : TgsF) : TgsF := fun ds ρ => match ds with
  | [] => .bad
  | d :: ds => (m d ρ).bind fun ρ1 => r ds ρ1
section
variable {K : PySem.W.Frag} {vs : List Nat}
theorem tg_name {i : Nat} (h : i ∈ vs) : TgOk K vs (gName i) (tgName i) := fun ρ ρ' σ F H v d Q S r e q => by
  cases e
  refine q _ (S.setFz r i) (List.length_set ..) (Own.setFz ρ σ i d _) fun j hj => ?_
  rw [List.getElem?_set_ne (fun z => hj (by rw [← z]; exact h))]
theorem tg_tup {n : Nat} {t : TGs} {m : TgsF} (h : TgsOk K vs t m) : TgOk K vs (gTup K n t) (tgTup n m) := fun ρ ρ' σ F H v d Q S r e q => by
  unfold tgTup at e
  split at e
  · cases r with
    | tup z r =>
      split at e
      · rename_i hl
        exact ⟨_, _, rfl, Same.tup S.sub z, by rw [r.length]; exact hl, h _ _ _ _ _ _ _ _ S r e q⟩
      · cases e
  · cases e
theorem tg_nil : TgsOk K vs gNil tgNil := fun ρ ρ' σ F H v d Q S r e q => by
  unfold tgNil at e
  split at e
  · cases r
    cases e
    exact ⟨rfl, q _ S rfl (Own.refl _ _) fun _ _ => rfl⟩
  · cases e
theorem tg_cons {t : TG} {u : TGs} {m : TgF} {r : TgsF} (h1 : TgOk K vs t m) (h2 : TgsOk K vs u r) : TgsOk K vs (gCons t u) (tgCons m r) := fun ρ ρ' σ F H v d Q S rr e q => by
  unfold tgCons at e
  split at e
  · cases e
  · rename_i d ds
    cases rr with
    | cons z rr =>
      cases e1 : m d ρ with
      | ok ρ1 =>
        rw [e1] at e
        refine ⟨_, _, rfl, h1 _ _ _ _ _ _ _ _ S z e1 fun σ1 S1 l1 o1 a1 => h2 _ _ _ _ _ _ _ _ S1 rr e fun σ2 S2 l2 o2 a2 => q σ2 S2 (l2.trans l1) (o1.trans o2) fun j hj => (a2 j hj).trans (a1 j hj)⟩
      | exc c => rw [e1] at e; cases e
      | bad => rw [e1] at e; cases e
end

/-! ### comprehensions -/
def wipeE (ρ : Env) : List Nat → Env
  | [] => ρ
  | v :: vs => (wipeE ρ vs).set v .un
theorem Sl.wipe {K : PySem.W.Frag} {ρ : Env} {σ : L2.St} {F H : Hp} (S : Sl K ρ σ F H) : ∀ vs : List Nat, Sl K (wipeE ρ vs) (L2.wipe σ vs) F H
  | [] => S
  | v :: vs => (Sl.wipe S vs).setUn none v
theorem wipe_get {σ : L2.St} : ∀ {vs : List Nat} (j : Nat), (L2.wipe σ vs)[j]? = if j ∈ vs then (if j < σ.length then some none else none) else σ[j]?
  | [], j => by simp [L2.wipe]
  | v :: vs, j => by
    unfold L2.wipe
    by_cases hj : j = v
    · subst hj
      rw [if_pos List.mem_cons_self]
      by_cases hl : j < σ.length
      · rw [if_pos hl, List.getElem?_set_self (by rw [wipe_length]; exact hl)]
      · rw [if_neg hl, List.getElem?_eq_none (by rw [List.length_set, wipe_length]; omega)]
    · rw [List.getElem?_set_ne (Ne.symm hj), wipe_get j]
      by_cases hm : j ∈ vs
      · rw [if_pos hm, if_pos (List.mem_cons_of_mem _ hm)]
      · rw [if_neg hm, if_neg (fun z => (List.mem_cons.mp z).elim hj hm)]
theorem wipe_eq {σ σ2 : L2.St} {vs : List Nat} (hl : σ2.length = σ.length) (h : ∀ j, j ∉ vs → σ2[j]? = (L2.wipe σ vs)[j]?) : L2.wipe σ2 vs = L2.wipe σ vs := by
  refine List.ext_getElem? fun j => ?_
  rw [wipe_get, wipe_get]
  by_cases hm : j ∈ vs
  · rw [if_pos hm, if_pos hm, hl]
  · rw [if_neg hm, if_neg hm, h j hm, wipe_get, if_neg hm]
/-- what raises nothing -/
def nx {α : Type} : R α → R α
  | .ok a => .ok a
  | _ => .bad
def lcGo (mt : TgF) (tt : Env → R Bool) (me : Env → R D) (ρ : Env) : List D → R (List D)
  | [] => .ok []
  | d :: ds => (nx (mt d ρ)).bind fun ρ1 => (nx (tt ρ1)).bind fun b => if b = true then (nx (me ρ1)).bind fun y => (lcGo mt tt me ρ ds).bind fun ys => .ok (y :: ys) else lcGo mt tt me ρ ds
def mLc (vs : List Nat) (mi : Env → R (List D)) (mt : TgF) (tt : Env → R Bool) (me : Env → R D) : Env → R (List D) := fun ρ => (mi ρ).bind fun ds => if ds.length ≤ 1000000 then nx (lcGo mt tt me (wipeE ρ vs) ds) else .bad
abbrev Gm.e0 (G : Gm) : Gm := { G with E := E0 }
theorem nx_ok {α : Type} {r : R α} {a : α} (h : nx r = .ok a) : r = .ok a := by
  cases r with
  | ok b => exact h
  | exc c => cases h
  | bad => cases h
theorem bind_ok {α β : Type} {r : R α} {f : α → R β} {b : β} (h : r.bind f = .ok b) : ∃ a, r = .ok a ∧ f a = .ok b := by
  cases r with
  | ok a => exact ⟨a, rfl, h⟩
  | exc c => cases h
  | bad => cases h
section
variable {X : Cx} {G : Gm} {mi : Env → R (List D)} {mt : TgF} {tt : Env → R Bool} {me : Env → R D} {wi : TI} {g : TG} {vs : List Nat}
/-- a comprehension's reading by its mirror -/
theorem lc_read (hg : TgOk G.K vs g mt) : ∀ σ H Q, tfOf G (mLc vs mi mt tt me) σ H Q → tLc (tiOf G mi) g (ttOf G.e0 tt) (tOf G.e0 me) vs σ H Q := by
  intro σ H Q ⟨ρ, F, S, P⟩
  refine ⟨ρ, F, S, ?_⟩
  unfold mLc at P
  cases e : mi ρ with
  | exc c => rw [e] at P; exact P
  | bad => rw [e] at P; exact P.elim
  | ok ds =>
    rw [e] at P
    have P : PostF G F H (if ds.length ≤ 1000000 then nx (lcGo mt tt me (wipeE ρ vs) ds) else .bad) Q := P
    intro J F1 H1 g1 W Dl hD
    have hl : ds.length ≤ 1000000 := Decidable.byContradiction fun z => by rw [if_neg z] at P; exact P.elim
    rw [if_pos hl] at P
    cases e2 : nx (lcGo mt tt me (wipeE ρ vs) ds) with
    | exc c => cases z : lcGo mt tt me (wipeE ρ vs) ds <;> (rw [z] at e2; cases e2)
    | bad => rw [e2] at P; exact P.elim
    | ok ys =>
      rw [e2] at P
      have e3 := nx_ok e2
      have fD : F1 Dl = none := g1.s.free hD
      refine ⟨fun i m Hc => m = ds.length - i ∧ i ≤ ds.length ∧ ∃ Fc acc dacc rest, Grow F1 H1 Fc Hc ∧ Fc Dl = none ∧ Hc Dl = some (.lst acc) ∧ DvAll G.K Fc acc dacc ∧ acc.length ≤ i ∧ lcGo mt tt me (wipeE ρ vs) (ds.drop i) = .ok rest ∧ dacc ++ rest = ys,
        ⟨ds.length, by rw [Nat.sub_zero], Nat.zero_le _, F1, [], [], ys, Grow.own g1.s hD, fD, upd_same, .nil, Nat.le_refl _, e3, rfl⟩, ?_⟩
      rintro i m Hc ⟨rfl, hi, Fc, acc, dacc, rest, gc, fc, hc, rc, lc, ec, er⟩
      by_cases hlt : i < ds.length
      · refine .inr ⟨W.go i Fc Hc gc.f gc.s hlt, fun H' => ∃ Fc acc dacc rest, Grow F1 H1 Fc H' ∧ Fc Dl = none ∧ H' Dl = some (.lst acc) ∧ DvAll G.K Fc acc dacc ∧ acc.length ≤ i + 1 ∧ lcGo mt tt me (wipeE ρ vs) (ds.drop (i + 1)) = .ok rest ∧ dacc ++ rest = ys,
          fun H' ⟨Fc, acc, dacc, rest, q⟩ => ⟨ds.length - (i + 1), by omega, rfl, hlt, Fc, acc, dacc, rest, q⟩, fun x H' y => ?_⟩
        obtain ⟨Fy, d, ed, gy, rd⟩ := W.yld i Fc Hc x H' gc.f gc.s hlt y
        have edrop : ds.drop i = d :: ds.drop (i + 1) := by
          rw [List.drop_eq_getElem_cons hlt]
          rw [List.getElem?_eq_getElem hlt] at ed
          rw [Option.some.inj ed]
        rw [edrop] at ec
        obtain ⟨ρ1, n1, ec⟩ := bind_ok (show (nx (mt d (wipeE ρ vs))).bind _ = _ from ec)
        obtain ⟨b, n2, ec⟩ := bind_ok ec
        have Sw := (((S.grow g1).grow ⟨gc.h, gc.f, gc.s, gc.o⟩).grow gy).wipe vs
        refine hg _ ρ1 _ Fy H' x d _ Sw rd (nx_ok n1) fun σ2 S2 len2 _ agree => ?_
        refine ⟨wipe_eq (len2.trans (wipe_length _ _)) agree, ρ1, Fy, S2, ?_⟩
        rw [nx_ok n2]
        intro b' F3 H3 g3 eb
        have eb : b' = b := eb
        subst eb
        have gy3 := gy.trans g3
        have h3 : H3 Dl = some (.lst acc) := gy3.h _ _ hc
        have f3 : F3 Dl = none := (gy3.o _ _ hc).trans fc
        cases b' with
        | false =>
          rw [if_neg Bool.false_ne_true] at ec ⊢
          exact ⟨F3, acc, dacc, rest, gc.trans gy3, f3, h3, rc.mono gy3.f, by omega, ec, er⟩
        | true =>
          rw [if_pos rfl] at ec ⊢
          obtain ⟨yd, n3, ec⟩ := bind_ok ec
          obtain ⟨ys2, n4, ec⟩ := bind_ok ec
          cases ec
          refine ⟨ρ1, F3, S2.grow g3, ?_⟩
          rw [nx_ok n3]
          intro yv F4 H4 g4 ry
          have g34 := gy3.trans g4
          have h4 : H4 Dl = some (.lst acc) := g34.h _ _ hc
          have f4 : F4 Dl = none := (g34.o _ _ hc).trans fc
          refine ⟨acc, h4, ?_, F4, acc ++ [yv], dacc ++ [yd], ys2, ?_, f4, upd_same, (rc.mono g34.f).append (.cons ry .nil), ?_, n4, ?_⟩
          · rw [sizeLine_eq]; omega
          · have gt := gc.trans g34
            exact ⟨fun b u q => by rw [upd_ne (ne_of_none q hD)]; exact gt.h b u q, gt.f, gt.s.upd_out f4, gt.o⟩
          · rw [List.length_append, List.length_singleton]; omega
          · rw [List.append_assoc]; exact er
      · have ei : i = ds.length := by omega
        subst ei
        refine .inl ⟨W.stop Fc Hc gc.f gc.s, ?_⟩
        rw [List.drop_length] at ec
        cases ec
        rw [List.append_nil] at er
        subst er
        exact P Dl acc Fc Hc (g1.trans gc) (g1.h.free hD) fc hc rc
variable {elt tg iter : Expr} {ifs : List Expr} {scope : Scope} {own : List (Str × Nat)} {pos : Pos}
theorem mf_lc (hN : X.N.Nodup) (hi : MI X G tg iter mi) (ok : BlkOk X.N X.env.scope scope own)
    (hp : ∀ (s : Shared) (H : Hp) (C : Addr) (cl : List (Str × Addr)) (fp : List Addr), PG (X.blk s H scope (compEnvC scope cl C X.env) fp) tg g) (hg : TgOk G.K (own.map (·.2)) g mt)
    (ht : ∀ (s : Shared) (H : Hp) (C : Addr) (cl : List (Str × Addr)) (fp : List Addr), PTs (X.blk s H scope (compEnvC scope cl C X.env) fp) ifs (ttOf G.e0 tt))
    (he : ∀ (s : Shared) (H : Hp) (C : Addr) (cl : List (Str × Addr)) (fp : List Addr), ME (X.blk s H scope (compEnvC scope cl C X.env) fp) G.e0 elt me) (hc : X.calm = true := by rfl) (hs : ∀ x, foldedSetIterable iter X.env x = pure x := by intro _; rfl) :
    MF X G (.ListComp elt [⟨tg, iter, ifs, 0⟩] scope pos) (mLc (own.map (·.2)) mi mt tt me) :=
  weakE (pe_lc hc hN hi ok hp ht he hs) (lc_read hg)
def mYes : Env → R Bool := fun _ => .ok true
theorem mts_nil : PTs X [] (ttOf G mYes) := ⟨fun pins s σ H Q I ⟨ρ, F, S, P⟩ => pts_nil.run pins s σ H Q I (PostR.go (G := G) (rel := EqR) P S.sub rfl)⟩
theorem mts_one {c : Expr} (h : MT X G c tt) : PTs X [c] (ttOf G tt) := pts_one h
end
end Mir
namespace Mir
open PySem PySem.Spec PyProof.Rows L2

/-! ### statements -/
structure SRel (K : PySem.W.Frag) (F0 H0 : Hp) (ρ : Env) (σ : L2.St) (F H : Hp) : Prop where
  sl : Sl K ρ σ F H
  gr : Grow F0 H0 F H
  nw : ∀ (i : Nat) (s : Slot) (a : Addr), ρ[i]? = some s → s.own = true → σ[i]? = some (some (.ref a)) → H0 a = none
inductive RS where
  | nx (ρ : Env) | ret (d : D) | brk (ρ : Env) | ct (ρ : Env) | exc (c : Str) | bad
def R.to {α : Type} (r : R α) (f : α → RS) : RS := match r with
  | .ok a => f a
  | .exc c => .exc c
  | .bad => .bad
def PostS (G : Gm) (F0 H0 F : Hp) (D : Ends) : RS → Prop
  | .nx ρ => ∀ σ' F' H', SRel G.K F0 H0 ρ σ' F' H' → Same F F' → D.nx σ' H'
  | .brk ρ => ∀ σ' F' H', SRel G.K F0 H0 ρ σ' F' H' → Same F F' → D.bk σ' H'
  | .ct ρ => ∀ σ' F' H', SRel G.K F0 H0 ρ σ' F' H' → Same F F' → D.ct σ' H'
  | .ret d => ∀ v F' H', Grow F0 H0 F' H' → Dv G.K F' v d → D.rt v H'
  | .exc c => ∀ C F' H', G.mg c = some (.ref C) → Grow F0 H0 F' H' → G.E (.ref C) none H'
  | .bad => False
def tsOf (G : Gm) (m : Env → RS) : TS := fun D σ H => ∃ ρ F F0 H0, SRel G.K F0 H0 ρ σ F H ∧ PostS G F0 H0 F D (m ρ)
abbrev MS (X : Cx) (G : Gm) (s : Stmt) (m : Env → RS) : Prop := PS X s (tsOf G m)
abbrev MSs (X : Cx) (G : Gm) (s : List Stmt) (m : Env → RS) : Prop := PSs X s (tsOf G m)
theorem weakS {X : Cx} {s : Stmt} {t t' : TS} (h : PS X s t) (k : ∀ D σ H, t' D σ H → t D σ H) : PS X s t' := ⟨fun pins s σ H D I q => h.run pins s σ H D I (k D σ H q)⟩
theorem weakSs {X : Cx} {s : List Stmt} {t t' : TS} (h : PSs X s t) (k : ∀ D σ H, t' D σ H → t D σ H) : PSs X s t' := ⟨fun pins s σ H D I q => h.run pins s σ H D I (k D σ H q)⟩
section
variable {G : Gm} {F0 H0 F H F' H' : Hp} {ρ ρ' : Env} {σ σ' : L2.St}
theorem SRel.grow (S : SRel G.K F0 H0 ρ σ F H) (g : Grow F H F' H') : SRel G.K F0 H0 ρ σ F' H' := ⟨S.sl.grow g, S.gr.trans g, S.nw⟩
theorem SRel.own (S : SRel G.K F0 H0 ρ σ F H) (S2 : Sl G.K ρ' σ' F H) (o : Own ρ ρ' σ σ') : SRel G.K F0 H0 ρ' σ' F H := ⟨S2, S.gr, fun i s a h1 h2 h3 => by
  obtain ⟨e1, e2⟩ := o i s h1 h2
  exact S.nw i s a e1 h2 (e2.symm.trans h3)⟩
theorem SRel.setFz (S : SRel G.K F0 H0 ρ σ F H) {v : V} {d : D} (h : Dv G.K F v d) (i : Nat) : SRel G.K F0 H0 (ρ.set i (.fz d)) (σ.set i (some v)) F H := S.own (S.sl.setFz h i) (Own.setFz ρ σ i d _)
theorem PostS.same {D : Ends} {r : RS} (h : PostS G F0 H0 F D r) (e : Same F F') : PostS G F0 H0 F' D r := by
  cases r with
  | nx ρ => exact fun σ' F2 H2 S q => h σ' F2 H2 S (e.trans q)
  | brk ρ => exact fun σ' F2 H2 S q => h σ' F2 H2 S (e.trans q)
  | ct ρ => exact fun σ' F2 H2 S q => h σ' F2 H2 S (e.trans q)
  | ret d => exact h
  | exc c => exact h
  | bad => exact h
/-- an expression's end, then the rest -/
theorem PostS.to {α β : Type} {rel : Hp → β → α → Prop} {r : R α} {f : α → RS} {D : Ends} (S : SRel G.K F0 H0 ρ σ F H) (h : PostS G F0 H0 F D (r.to f)) : PostR G rel F H r (fun b H1 => ∃ F1 a, r = .ok a ∧ Grow F H F1 H1 ∧ rel F1 b a ∧ PostS G F0 H0 F1 D (f a)) := by
  cases r with
  | ok a => exact fun b F' H' g q => ⟨F', a, rfl, g, q, PostS.same (show PostS G F0 H0 F D (f a) from h) g.f⟩
  | exc c => exact fun C F' H' m g => h C F' H' m (S.gr.trans g)
  | bad => exact h
theorem PostS.toF {r : R (List D)} {f : List D → RS} {D : Ends} (S : SRel G.K F0 H0 ρ σ F H) (h : PostS G F0 H0 F D (r.to f)) {Q : VK} (k : ∀ ds p xs F' H', Grow F H F' H' → H p = none → F' p = none → H' p = some (.lst xs) → DvAll G.K F' xs ds → PostS G F0 H0 F' D (f ds) → Q (.ref p) H') : PostF G F H r Q := by
  cases r with
  | ok a => exact fun p xs F' H' g n f o q => k a p xs F' H' g n f o q (PostS.same (show PostS G F0 H0 F D _ from h) g.f)
  | exc c => exact fun C F' H' m g => h C F' H' m (S.gr.trans g)
  | bad => exact h
end
/-! mirrors of statements -/
def sSkip : Env → RS := fun ρ => .nx ρ
def sSeq (a b : Env → RS) : Env → RS := fun ρ => match a ρ with
  | .nx ρ1 => b ρ1
  | r => r
def sSet (i : Nat) (m : Env → R D) : Env → RS := fun ρ => (m ρ).to fun d => .nx (ρ.set i (.fz d))
def sSetO (i : Nat) (m : Env → R (List D)) : Env → RS := fun ρ => (m ρ).to fun ds => .nx (ρ.set i (.ol ds))
def sRet (m : Env → R D) : Env → RS := fun ρ => (m ρ).to .ret
def sDrop (m : Env → R D) : Env → RS := fun ρ => (m ρ).to fun _ => .nx ρ
def sIf (c : Env → R Bool) (a b : Env → RS) : Env → RS := fun ρ => (c ρ).to fun k => if k = true then a ρ else b ρ
def sUnp (mt : TgF) (m : Env → R D) : Env → RS := fun ρ => (m ρ).to fun d => (nx (mt d ρ)).to .nx
def sPar (i j : Nat) (m : Env → R (List D)) : Env → RS := fun ρ => (m ρ).to fun ds => match ds with
  | [d, e] => .nx ((ρ.set i (.fz d)).set j (.fz e))
  | _ => .bad
def sApp (i : Nat) (m : Env → R D) : Env → RS := fun ρ => match ρ[i]? with
  | some (.ol ds) => (m ρ).to fun d => if ds.length < 16000000 then .nx (ρ.set i (.ol (ds ++ [d]))) else .bad
  | _ => .bad
def sSetI (i : Nat) (m k : Env → R D) : Env → RS := fun ρ => match ρ[i]? with
  | some (.ol ds) => (m ρ).to fun d => (k ρ).to fun x => match x with
    | .int z => match ixN ds.length z with
      | some j => .nx (ρ.set i (.ol (ds.set j d)))
      | none => .bad
    | _ => .bad
  | _ => .bad
section
variable {X : Cx} {G : Gm} {a b e c : Expr} {es : List Expr} {ma mb : Env → R D} {ms mu : Env → RS} {pos : Pos} {st : Stmt} {sts : List Stmt}
theorem ss_nil : MSs X G [] sSkip := weakSs pss_nil fun D σ H ⟨ρ, F, F0, H0, S, P⟩ => P σ F H S (Same.refl F)
theorem ss_cons (h1 : MS X G st ms) (h2 : MSs X G sts mu) : MSs X G (st :: sts) (sSeq ms mu) := weakSs (pss_cons h1 h2) fun D σ H ⟨ρ, F, F0, H0, S, P⟩ => by
  refine ⟨ρ, F, F0, H0, S, ?_⟩
  unfold sSeq at P
  cases e : ms ρ with
  | nx ρ1 =>
    rw [e] at P
    exact fun σ' F' H' S' q => ⟨ρ1, F', F0, H0, S', P.same q⟩
  | brk ρ1 => rw [e] at P; exact P
  | ct ρ1 => rw [e] at P; exact P
  | ret d => rw [e] at P; exact P
  | exc c => rw [e] at P; exact P
  | bad => rw [e] at P; exact P
theorem ss_one (h1 : MS X G st ms) : MSs X G [st] ms := pss_one h1
theorem ms_set {i : Nat} {x : Str} {pos' : Pos} (hN : X.N.Nodup) (he : ME X G e ma) (hi : X.N[i]? = some x := by rfl) (hx : Loc X.env.scope x := by first | exact Or.inl rfl | exact Or.inr rfl) (hs : swapsWith e (some (.Name x pos')) pos.line X.env = pure false := by rfl) (hf : X.fn x = true ∨ X.env.scope.names.lookup x = some .local := by first | exact .inl rfl | exact .inr rfl | assumption) :
    MS X G (.Assign [.Name x pos'] e pos) (sSet i ma) := weakS (ps_set hN hi hx he hs hf) fun D σ H ⟨ρ, F, F0, H0, S, P⟩ =>
  ⟨ρ, F, S.sl, (P.to (rel := DvR G) S).imp fun d x F1 H1 e1 g1 q1 ⟨F1', d', e1', g1', q1', P1⟩ => P1 _ F1' H1 ((S.grow g1').setFz q1' i) (Same.refl _)⟩
theorem SRel.newOwn {F0 H0 F H F' H' : Hp} {ρ : Env} {σ : L2.St} {p : Addr} {s : Slot} (S : SRel G.K F0 H0 ρ σ F H) (g : Grow F H F' H') (n : H p = none) (f : F' p = none) (i : Nat) (ho : s.own = true) (hok : SlotOk G.K F' H' (some (.ref p)) s) (o : HO) (hp : H' p = some o) :
    SRel G.K F0 H0 (ρ.set i s) (σ.set i (some (.ref p))) F' H' := by
  have S1 := S.grow g
  have e : upd H' p o = H' := by
    funext b
    by_cases hb : b = p
    · rw [hb, upd_same, hp]
    · rw [upd_ne hb]
  have hne : ∀ (j : Nat) (t : Slot), j ≠ i → ρ[j]? = some t → t.own = true → σ[j]? ≠ some (some (.ref p)) := fun j t _ h1 h2 h3 => by
    have q := S.sl.ok j t _ h1 h3
    cases t with
    | un => cases h2
    | fz d => cases h2
    | ol ds =>
      obtain ⟨a, xs, ea, q1, _⟩ := q
      cases ea
      rw [n] at q1; cases q1
    | od es =>
      obtain ⟨a, xs, ea, q1, _⟩ := q
      cases ea
      rw [n] at q1; cases q1
    | oq ds =>
      obtain ⟨a, xs, ea, q1, _⟩ := q
      cases ea
      rw [n] at q1; cases q1
  refine ⟨?_, S1.gr, fun j t a h1 h2 h3 => ?_⟩
  · have q := S1.sl.setOwn (o := o) i f ho (by rw [e]; exact hok) hne
    rw [e] at q
    exact q
  · rcases get_set h1 with ⟨rfl, rfl⟩ | ⟨nj, e1⟩
    · rcases get_set h3 with ⟨_, z⟩ | ⟨z, _⟩
      · cases z
        exact S.gr.h.free n
      · exact absurd rfl z
    · rcases get_set h3 with ⟨z, _⟩ | ⟨_, e3⟩
      · exact absurd z nj
      · exact S.nw j t a e1 h2 e3
theorem ms_setO {i : Nat} {x : Str} {pos' : Pos} {m : Env → R (List D)} (hN : X.N.Nodup) (he : MF X G e m) (hi : X.N[i]? = some x := by rfl) (hx : Loc X.env.scope x := by first | exact Or.inl rfl | exact Or.inr rfl) (hs : swapsWith e (some (.Name x pos')) pos.line X.env = pure false := by rfl) (hf : X.fn x = true ∨ X.env.scope.names.lookup x = some .local := by first | exact .inl rfl | exact .inr rfl | assumption) :
    MS X G (.Assign [.Name x pos'] e pos) (sSetO i m) := weakS (ps_set hN hi hx he hs hf) fun D σ H ⟨ρ, F, F0, H0, S, P⟩ =>
  ⟨ρ, F, S.sl, P.toF S fun ds p xs F' H' g n f o q P1 => P1 _ F' H' (S.newOwn g n f i rfl ⟨p, xs, rfl, o, f, q⟩ _ o) (Same.refl _)⟩
theorem ms_ret (he : ME X G e ma) : MS X G (.Return (some e) pos) (sRet ma) := weakS (ps_ret he) fun D σ H ⟨ρ, F, F0, H0, S, P⟩ =>
  ⟨ρ, F, S.sl, (P.to (rel := DvR G) S).imp fun d x F1 H1 e1 g1 q1 ⟨F1', d', e1', g1', q1', P1⟩ => P1 x F1' H1 (S.gr.trans g1') q1'⟩
theorem ms_retN : MS X G (.Return none pos) (fun _ => .ret .non) := weakS ps_retN fun D σ H ⟨ρ, F, F0, H0, S, P⟩ => P .non F H S.gr .non
/-- the def's own list is handed back -/
def sRetO (i : Nat) : Env → RS := fun ρ => match ρ[i]? with
  | some (.ol ds) => .ret (.lst ds)
  | _ => .bad
theorem ms_retO (i : Nat) {x : Str} {p : Pos} (hN : X.N[i]? = some x := by rfl) (hv : Vis X.env.scope x := by first | exact Or.inl rfl | exact Or.inr (Or.inl rfl) | exact Or.inr (Or.inr rfl)) (hd : (x == ("__debug__" : Str)) = false := by decide)
    (hcd : (x == ("__classdict__" : Str)) = false := by decide) : MS X G (.Return (some (.Name x p)) pos) (sRetO i) := weakS (ps_ret (pe_var hN hv hd hcd)) fun D σ H ⟨ρ, F, F0, H0, S, P⟩ => by
  unfold sRetO at P
  split at P
  · rename_i ds hρ
    obtain ⟨l, xs, e1, e2, e3, e4⟩ := S.sl.getOl hρ
    have hn : H0 l = none := S.nw i _ l hρ rfl e1
    have s2 : Same F (upd F l (.lst xs)) := Same.upd_new e3
    have g : Grow F0 H0 (upd F l (.lst xs)) H := ⟨S.gr.h, S.gr.f.trans s2, fun b u q => by
      by_cases hb : b = l
      · subst hb; rw [upd_same] at q; cases q; exact e2
      · rw [upd_ne hb] at q; exact S.gr.s b u q, fun b u q => by rw [upd_ne (ne_of_none q hn)]; exact S.gr.o b u q⟩
    exact ⟨.ref l, e1, P (.ref l) _ H g (.lst upd_same (e4.mono s2))⟩
  · exact P.elim
theorem ms_expr (he : ME X G e ma) (hs : swapsWith e none pos.line X.env = pure false := by rfl) : MS X G (.Expr e pos) (sDrop ma) := weakS (ps_expr he hs) fun D σ H ⟨ρ, F, F0, H0, S, P⟩ =>
  ⟨ρ, F, S.sl, (P.to (rel := DvR G) S).imp fun d x F1 H1 e1 g1 q1 ⟨F1', d', e1', g1', q1', P1⟩ => P1 σ F1' H1 (S.grow g1') (Same.refl _)⟩
theorem ms_pass : MS X G (.Pass pos) sSkip := weakS ps_pass fun D σ H ⟨ρ, F, F0, H0, S, P⟩ => P σ F H S (Same.refl F)
theorem ms_break : MS X G (.Break pos) (fun ρ => .brk ρ) := weakS ps_break fun D σ H ⟨ρ, F, F0, H0, S, P⟩ => P σ F H S (Same.refl F)
theorem ms_continue : MS X G (.Continue pos) (fun ρ => .ct ρ) := weakS ps_continue fun D σ H ⟨ρ, F, F0, H0, S, P⟩ => P σ F H S (Same.refl F)
theorem ms_if {mc : Env → R Bool} {sa sb : List Stmt} (hc : MT X G c mc) (ha : MSs X G sa ms) (hb : MSs X G sb mu) : MS X G (.If c sa sb pos) (sIf mc ms mu) := weakS (ps_if hc ha hb) fun D σ H ⟨ρ, F, F0, H0, S, P⟩ =>
  ⟨ρ, F, S.sl, (P.to (rel := EqR) S).imp fun d x F1 H1 e1 g1 q1 ⟨F1', d', e1', g1', q1', P1⟩ => by
    have q : x = d' := q1'
    subst q
    cases x with
    | true => rw [if_pos rfl] at P1 ⊢; exact ⟨ρ, F1', F0, H0, S.grow g1', P1⟩
    | false => rw [if_neg Bool.false_ne_true] at P1 ⊢; exact ⟨ρ, F1', F0, H0, S.grow g1', P1⟩⟩
theorem ms_unp {tg : Expr} {g : TG} {mt : TgF} {vs : List Nat} (he : ME X G e ma) (hg : PG X tg g) (ht : TgOk G.K vs g mt) (hs : swapsWithSole [tg] e pos.line X.env = pure false := by rfl) (hw : swappedStores [tg] e X.env = pure none := by rfl) (h1 : (assignEach [tg] X.env).map (·.2) = [assign tg X.env] := by rfl) : MS X G (.Assign [tg] e pos) (sUnp mt ma) :=
  weakS (ps_asg he hg hs hw h1) fun D σ H ⟨ρ, F, F0, H0, S, P⟩ => ⟨ρ, F, S.sl, (P.to (rel := DvR G) S).imp fun d x F1 H1 e1 g1 q1 ⟨F1', d', e1', g1', q1', P1⟩ => by
    have S1 := S.grow g1'
    cases e2 : nx (mt d' ρ) with
    | ok ρ' =>
      rw [e2] at P1
      exact ht ρ ρ' σ F1' H1 x d' _ S1.sl q1' (nx_ok e2) fun σ' S2 _ o _ => P1 σ' F1' H1 (S1.own S2 o) (Same.refl _)
    | exc c => cases z : mt d' ρ <;> (rw [z] at e2; cases e2)
    | bad => rw [e2] at P1; exact P1.elim⟩
/-! lists of the def's own, changed -/
theorem SRel.putOwn {F0 H0 F H : Hp} {ρ : Env} {σ : L2.St} {l : Addr} {s t : Slot} {o : HO} (S : SRel G.K F0 H0 ρ σ F H) {i : Nat} (h1 : ρ[i]? = some s) (h2 : s.own = true) (h3 : σ[i]? = some (some (.ref l))) (f : F l = none) (ht : t.own = true) (hok : SlotOk G.K F (upd H l o) (some (.ref l)) t) :
    SRel G.K F0 H0 (ρ.set i t) σ F (upd H l o) := by
  have e : σ.set i (some (.ref l)) = σ := by
    refine List.ext_getElem? fun j => ?_
    by_cases hj : j = i
    · subst hj
      rw [List.getElem?_set_self (List.getElem?_eq_some_iff.mp h3).1, h3]
    · rw [List.getElem?_set_ne (Ne.symm hj)]
  have hn := S.nw i s l h1 h2 h3
  have q := S.sl.setOwn (o := o) i f ht hok fun j u nj k1 k2 k3 => nj (S.sl.apart j i u s l k1 h1 k2 h2 k3 h3)
  rw [e] at q
  refine ⟨q, ⟨fun b u z => by rw [upd_ne (ne_of_none z hn)]; exact S.gr.h b u z, S.gr.f, S.gr.s.upd_out f, S.gr.o⟩, fun j u a k1 k2 k3 => ?_⟩
  rcases get_set k1 with ⟨rfl, rfl⟩ | ⟨nj, e1⟩
  · rw [h3] at k3
    cases k3
    exact hn
  · exact S.nw j u a e1 k2 k3
theorem ms_app (i : Nat) {x : Str} {p apos cpos : Pos} (he : ME X G e ma) (hK : X.K = G.K := by rfl) (hN : X.N[i]? = some x := by rfl) (hv : Vis X.env.scope x := by first | exact Or.inl rfl | exact Or.inr (Or.inl rfl) | exact Or.inr (Or.inr rfl)) (hd : (x == ("__debug__" : Str)) = false := by decide)
    (hcd : (x == ("__classdict__" : Str)) = false := by decide)
    (hbase : attributeBase (.Name x p) "append" X.env (eval (.Name x p) X.env) = eval (.Name x p) X.env := by rfl)
    (hfew : ((backTo cpos (starEach [e] X.env)).all (fun x => !x.1) && (backToKw cpos (keywordEach [] X.env)).all (fun x => x.1.isSome)
      && decide ([e].length + ([] : List Keyword).length + (if ([] : List Keyword).isEmpty then 0 else 1) < 30)) = true := by rfl)
    (hline : (apos.endLine == cpos.line) = true := by rfl) (hst : starEach [e] X.env = (false, eval e X.env) :: starEach [] X.env := by rfl) (hplain : (backTo cpos (starEach [] X.env)).any (·.1) = false := by rfl)
    (hs : swapsWith (.Call (.Attribute (.Name x p) "append" apos) [e] [] cpos) none pos.line X.env = pure false := by rfl) :
    MS X G (.Expr (.Call (.Attribute (.Name x p) "append" apos) [e] [] cpos) pos) (sApp i ma) :=
  weakS (ps_expr (pe_bm PySem.F.plainAttrs_list PySem.F.slot_list_append PySem.F.type_list_append mt_append (pe_var hN hv hd hcd) (pa_cons he pa_nil hst) hbase hfew hline hst hplain) hs) fun D σ H ⟨ρ, F, F0, H0, S, P⟩ => by
    unfold sApp at P
    split at P
    · rename_i ds hρ
      obtain ⟨l, xs, k1, k2, k3, k4⟩ := S.sl.getOl hρ
      refine ⟨.ref l, k1, by rw [hK]; exact .inl ⟨rfl, xs, SqL.of k2⟩, ρ, F, S.sl, (P.to (rel := DvR G) S).imp fun d x F1 H1 e1 g1 q1 ⟨F1', d', e1', g1', q1', P1⟩ => ?_⟩
      split at P1
      · rename_i hl
        have S1 := S.grow g1'
        have k4' := k4.mono g1'.f
        have k3' : F1' l = none := (g1'.o _ _ k2).trans k3
        refine ⟨l, xs, x, rfl, rfl, g1'.h _ _ k2, by rw [k4.length, sizeLine_eq]; omega, ?_⟩
        exact P1 σ F1' _ (S1.putOwn hρ rfl k1 k3' rfl ⟨l, _, rfl, upd_same, k3', k4'.append (.cons q1' .nil)⟩) (Same.refl _)
      · exact P1.elim
    · exact P.elim
theorem dv_seti {xs : List V} {ds : List D} {K : PySem.W.Frag} {F : Hp} (h : DvAll K F xs ds) {z : Int} {j : Nat} (e : ixN ds.length z = some j) : ixN xs.length z = some j := by rw [h.length]; exact e
theorem ms_setI (i : Nat) {x : Str} {p tp : Pos} (he : ME X G e ma) (hb : ME X G b mb) (hN : X.N[i]? = some x := by rfl) (hv : Vis X.env.scope x := by first | exact Or.inl rfl | exact Or.inr (Or.inl rfl) | exact Or.inr (Or.inr rfl)) (hd : (x == ("__debug__" : Str)) = false := by decide)
    (hcd : (x == ("__classdict__" : Str)) = false := by decide) (hg : PG X (.Subscript (.Name x p) b tp) (gSub (tVar i) (tOf G mb) rSetL)) (hs : swapsWithSole [.Subscript (.Name x p) b tp] e pos.line X.env = pure false := by rfl) (hw : swappedStores [.Subscript (.Name x p) b tp] e X.env = pure none := by rfl)
    (h1 : (assignEach [.Subscript (.Name x p) b tp] X.env).map (·.2) = [assign (.Subscript (.Name x p) b tp) X.env] := by rfl) :
    MS X G (.Assign [.Subscript (.Name x p) b tp] e pos) (sSetI i ma mb) := weakS (ps_asg he hg hs hw h1) fun D σ H ⟨ρ, F, F0, H0, S, P⟩ => by
  unfold sSetI at P
  split at P
  · rename_i ds hρ
    obtain ⟨l, xs, k1, k2, k3, k4⟩ := S.sl.getOl hρ
    refine ⟨ρ, F, S.sl, (P.to (rel := DvR G) S).imp fun d x F1 H1 e1 g1 q1 ⟨F1', d', e1', g1', q1', P1⟩ => ?_⟩
    have S1 := S.grow g1'
    refine ⟨.ref l, k1, ρ, F1', S1.sl, (P1.to (rel := DvR G) S1).imp fun d2 y F2 H2 e2 g2 q2 ⟨F2', d2', e2', g2', q2', P2⟩ => ?_⟩
    cases q2' with
    | int z =>
      have g12 := g1'.trans g2'
      have S2 := S1.grow g2'
      have k4' := k4.mono g12.f
      have k3' : F2' l = none := (g12.o _ _ k2).trans k3
      dsimp only at P2
      split at P2
      · rename_i j hj
        refine ⟨l, xs, z, j, rfl, rfl, g12.h _ _ k2, dv_seti k4 hj, ?_⟩
        exact P2 σ F2' _ (S2.putOwn hρ rfl k1 k3' rfl ⟨l, _, rfl, upd_same, k3', k4'.set (q1'.mono g2'.f) j⟩) (Same.refl _)
      · exact P2.elim
    | _ => exact P2.elim
  · exact P.elim
end
end Mir
namespace Mir
open PySem PySem.Spec PyProof.Rows L2
section
variable {X : Cx} {G : Gm} {a b e c : Expr} {es : List Expr} {ma mb : Env → R D} {ms mu : Env → RS} {pos : Pos} {st : Stmt} {sts : List Stmt}
/-! ### a comprehension given to a name -/
section
variable {mi : Env → R (List D)} {mt : TgF} {tt : Env → R Bool} {me : Env → R D} {g : TG} {elt tg iter : Expr} {ifs : List Expr} {scope : Scope} {own : List (Str × Nat)} {i : Nat} {y : Str} {py spos : Pos}
theorem ms_setLcO (hN : X.N.Nodup) (hi : MI X G tg iter mi) (ok : BlkOk X.N X.env.scope scope own)
    (hp : ∀ (s : Shared) (H : Hp) (C : Addr) (cl : List (Str × Addr)) (fp : List Addr), PG (X.blk s H scope (compEnvC scope cl C X.env) fp) tg g) (hg : TgOk G.K (own.map (·.2)) g mt)
    (ht : ∀ (s : Shared) (H : Hp) (C : Addr) (cl : List (Str × Addr)) (fp : List Addr), PTs (X.blk s H scope (compEnvC scope cl C X.env) fp) ifs (ttOf G.e0 tt))
    (he : ∀ (s : Shared) (H : Hp) (C : Addr) (cl : List (Str × Addr)) (fp : List Addr), ME (X.blk s H scope (compEnvC scope cl C X.env) fp) G.e0 elt me)
    (hsw : swapsWith (.ListComp elt [⟨tg, iter, ifs, 0⟩] scope pos) (some (.Name y py)) spos.line X.env = pure true) (hy : X.N[i]? = some y := by rfl) (hyl : X.env.scope.names.lookup y = some .local := by rfl) (hc : X.calm = true := by rfl) (hs : ∀ x, foldedSetIterable iter X.env x = pure x := by intro _; rfl) :
    MS X G (.Assign [.Name y py] (.ListComp elt [⟨tg, iter, ifs, 0⟩] scope pos) spos) (sSetO i (mLc (own.map (·.2)) mi mt tt me)) :=
  weakS (ps_setLc hc hN hy hyl hsw hi ok hp ht he hs) fun D σ H ⟨ρ, F, F0, H0, S, P⟩ =>
    lc_read hg σ H _ ⟨ρ, F, S.sl, P.toF S fun ds p xs F' H' g n f o q P1 => P1 _ F' H' (S.newOwn g n f i rfl ⟨p, xs, rfl, o, f, q⟩ _ o) (Same.refl _)⟩
theorem ms_setLc (hN : X.N.Nodup) (hi : MI X G tg iter mi) (ok : BlkOk X.N X.env.scope scope own)
    (hp : ∀ (s : Shared) (H : Hp) (C : Addr) (cl : List (Str × Addr)) (fp : List Addr), PG (X.blk s H scope (compEnvC scope cl C X.env) fp) tg g) (hg : TgOk G.K (own.map (·.2)) g mt)
    (ht : ∀ (s : Shared) (H : Hp) (C : Addr) (cl : List (Str × Addr)) (fp : List Addr), PTs (X.blk s H scope (compEnvC scope cl C X.env) fp) ifs (ttOf G.e0 tt))
    (he : ∀ (s : Shared) (H : Hp) (C : Addr) (cl : List (Str × Addr)) (fp : List Addr), ME (X.blk s H scope (compEnvC scope cl C X.env) fp) G.e0 elt me)
    (hsw : swapsWith (.ListComp elt [⟨tg, iter, ifs, 0⟩] scope pos) (some (.Name y py)) spos.line X.env = pure true) (hy : X.N[i]? = some y := by rfl) (hyl : X.env.scope.names.lookup y = some .local := by rfl) (hc : X.calm = true := by rfl) (hs : ∀ x, foldedSetIterable iter X.env x = pure x := by intro _; rfl) :
    MS X G (.Assign [.Name y py] (.ListComp elt [⟨tg, iter, ifs, 0⟩] scope pos) spos) (sSet i (mFz (mLc (own.map (·.2)) mi mt tt me))) :=
  weakS (ps_setLc hc hN hy hyl hsw hi ok hp ht he hs) fun D σ H ⟨ρ, F, F0, H0, S, P⟩ =>
    lc_read hg σ H _ ⟨ρ, F, S.sl, post_fz ((P.to (rel := DvR G) S).imp fun d x F1 H1 e1 g1 q1 ⟨F1', d', e1', g1', q1', P1⟩ => P1 _ F1' H1 ((S.grow g1').setFz q1' i) (Same.refl _))⟩
end
/-! ### a, b = x, y -/
theorem ms_par {i j : Nat} {x y : Str} {m : Env → R (List D)} {px py pt : Pos} {kt k2 : Nat} {pt2 : Pos} (hN : X.N.Nodup) (ha : MA X G [a, b] m)
    (hw : swappedStores [.Tuple [.Name x px, .Name y py] kt pt] (.Tuple [a, b] k2 pt2) X.env = pure (some [x, y])) (hij : i ≠ j) (hi : X.N[i]? = some x := by rfl) (hj : X.N[j]? = some y := by rfl) (hx : X.env.scope.names.lookup x = some .local := by rfl) (hy : X.env.scope.names.lookup y = some .local := by rfl) (hc : X.calm = true := by rfl)
    (hs : swapsWithSole [.Tuple [.Name x px, .Name y py] kt pt] (.Tuple [a, b] k2 pt2) pos.line X.env = pure false := by rfl) :
    MS X G (.Assign [.Tuple [.Name x px, .Name y py] kt pt] (.Tuple [a, b] k2 pt2) pos) (sPar i j m) := weakS (ps_par hc hN hi hj hij hx hy ha hw hs) fun D σ H ⟨ρ, F, F0, H0, S, P⟩ => by
  refine ⟨ρ, F, S.sl, (P.to (rel := DvsR G) S).imp fun d x F1 H1 e1 g1 q1 ⟨F1', d', e1', g1', q1', P1⟩ => ?_⟩
  split at P1
  · cases q1' with
    | cons h r =>
      obtain ⟨w, rfl, h2⟩ := one_of r
      exact ⟨_, _, rfl, P1 _ F1' H1 (((S.grow g1').setFz h i).setFz h2 j) (Same.refl _)⟩
  · exact P1.elim

/-! ### loops -/
def forGo (mt : TgF) (mb : Env → RS) : List D → Env → RS
  | [], ρ => .nx ρ
  | d :: ds, ρ => (nx (mt d ρ)).to fun ρ1 => match mb ρ1 with
    | .nx ρ2 => forGo mt mb ds ρ2
    | .ct ρ2 => forGo mt mb ds ρ2
    | .brk ρ2 => .nx ρ2
    | r => r
def sFor (mi : Env → R (List D)) (mt : TgF) (mb : Env → RS) : Env → RS := fun ρ => (mi ρ).to fun ds => forGo mt mb ds ρ
theorem nx_cases {α : Type} (r : R α) : (∃ a, r = .ok a ∧ nx r = .ok a) ∨ nx r = .bad := by
  cases r with
  | ok a => exact .inl ⟨a, rfl, rfl⟩
  | exc c => exact .inr rfl
  | bad => exact .inr rfl
theorem ms_for {mi : Env → R (List D)} {mt : TgF} {tg iter : Expr} {g : TG} {vs : List Nat} {body : List Stmt} (hpo : PassesOwn (model X.prog X.w) X.A X.env X.xe) (hi : MI X G tg iter mi) (hp : PG X tg g) (ht : TgOk G.K vs g mt) (hb : MSs X G body ms) (hc : X.calm = true := by rfl)
    (hs : ∀ x, foldedSetIterable iter X.env x = pure x := by intro _; rfl) : MS X G (.For tg iter body [] pos) (sFor mi mt ms) := weakS (ps_for hpo hc hi hp hb hs) fun D σ H ⟨ρ, F, F0, H0, S, P⟩ => by
  refine ⟨ρ, F, S.sl, ?_⟩
  unfold sFor at P
  cases e : mi ρ with
  | exc c => rw [e] at P; exact fun C F' H' m g => P C F' H' m (S.gr.trans g)
  | bad => rw [e] at P; exact P.elim
  | ok ds =>
    rw [e] at P
    have P : PostS G F0 H0 F D (forGo mt ms ds ρ) := P
    intro J F1 H1 g1 W
    refine ⟨fun i m σ H => m = ds.length - i ∧ i ≤ ds.length ∧ ∃ ρi Fi, SRel G.K F0 H0 ρi σ Fi H ∧ Same F1 Fi ∧ PostS G F0 H0 Fi D (forGo mt ms (ds.drop i) ρi), ⟨ds.length, by rw [Nat.sub_zero], Nat.zero_le _, ρ, F1, S.grow g1, Same.refl _, P.same g1.f⟩, ?_⟩
    rintro i m σi Hi ⟨rfl, hi, ρi, Fi, Si, si, Pi⟩
    by_cases hlt : i < ds.length
    · refine .inr ⟨W.go i Fi Hi si Si.sl.sub hlt, fun σ' H' => ∃ ρi Fi, SRel G.K F0 H0 ρi σ' Fi H' ∧ Same F1 Fi ∧ PostS G F0 H0 Fi D (forGo mt ms (ds.drop (i + 1)) ρi), fun σ' H' q => ⟨ds.length - (i + 1), by omega, rfl, hlt, q⟩, fun x H' y => ?_⟩
      obtain ⟨Fy, d, ed, gy, rd⟩ := W.yld i Fi Hi x H' si Si.sl.sub hlt y
      have edrop : ds.drop i = d :: ds.drop (i + 1) := by
        rw [List.drop_eq_getElem_cons hlt]
        rw [List.getElem?_eq_getElem hlt] at ed
        rw [Option.some.inj ed]
      rw [edrop] at Pi
      have Pi : PostS G F0 H0 Fi D ((nx (mt d ρi)).to fun ρ1 => match ms ρ1 with
        | .nx ρ2 => forGo mt ms (ds.drop (i + 1)) ρ2
        | .ct ρ2 => forGo mt ms (ds.drop (i + 1)) ρ2
        | .brk ρ2 => .nx ρ2
        | r => r) := Pi
      rcases nx_cases (mt d ρi) with ⟨ρ1, e1, e2⟩ | e2
      · rw [e2] at Pi
        have Sy := Si.grow gy
        refine ht ρi ρ1 σi Fy H' x d _ Sy.sl rd e1 fun σ2 S2 _ o _ => ?_
        have S3 := Sy.own S2 o
        refine ⟨ρ1, Fy, F0, H0, S3, ?_⟩
        have Pi : PostS G F0 H0 Fi D (match ms ρ1 with
          | .nx ρ2 => forGo mt ms (ds.drop (i + 1)) ρ2
          | .ct ρ2 => forGo mt ms (ds.drop (i + 1)) ρ2
          | .brk ρ2 => .nx ρ2
          | r => r) := Pi
        have sy := si.trans gy.f
        cases em : ms ρ1 with
        | nx ρ2 =>
          rw [em] at Pi
          exact fun σ' F' H' S' q => ⟨ρ2, F', S', sy.trans q, Pi.same (gy.f.trans q)⟩
        | ct ρ2 =>
          rw [em] at Pi
          exact fun σ' F' H' S' q => ⟨ρ2, F', S', sy.trans q, Pi.same (gy.f.trans q)⟩
        | brk ρ2 =>
          rw [em] at Pi
          exact fun σ' F' H' S' q => Pi σ' F' H' S' (gy.f.trans q)
        | ret d => rw [em] at Pi; exact Pi
        | exc c => rw [em] at Pi; exact Pi
        | bad => rw [em] at Pi; exact Pi
      · rw [e2] at Pi
        exact Pi.elim
    · have ei : i = ds.length := by omega
      subst ei
      refine .inl ⟨W.stop Fi Hi si Si.sl.sub, ?_⟩
      rw [List.drop_length] at Pi
      exact Pi σi Fi Hi Si (Same.refl _)
def whGo (c : Env → R Bool) (mb : Env → RS) : Nat → Env → RS
  | 0, _ => .bad
  | n + 1, ρ => (c ρ).to fun k => if k = true then (match mb ρ with
    | .nx ρ2 => whGo c mb n ρ2
    | .ct ρ2 => whGo c mb n ρ2
    | .brk ρ2 => .nx ρ2
    | r => r) else .nx ρ
def sWhile (n : Env → Nat) (c : Env → R Bool) (mb : Env → RS) : Env → RS := fun ρ => whGo c mb (n ρ) ρ
theorem ms_while (n : Env → Nat) {mc : Env → R Bool} {body : List Stmt} (hpo : PassesOwn (model X.prog X.w) X.A X.env X.xe) (hc : MT X G c mc) (hb : MSs X G body ms) : MS X G (.While c body [] pos) (sWhile n mc ms) := weakS (ps_while hpo hc hb) fun D σ H ⟨ρ, F, F0, H0, S, P⟩ => by
  refine ⟨fun m σ H => ∃ ρi Fi, SRel G.K F0 H0 ρi σ Fi H ∧ PostS G F0 H0 Fi D (whGo mc ms m ρi), ⟨n ρ, ρ, F, S, P⟩, ?_⟩
  rintro m σi Hi ⟨ρi, Fi, Si, Pi⟩
  cases m with
  | zero => exact Pi.elim
  | succ m =>
    have Pi : PostS G F0 H0 Fi D ((mc ρi).to fun k => if k = true then (match ms ρi with
      | .nx ρ2 => whGo mc ms m ρ2
      | .ct ρ2 => whGo mc ms m ρ2
      | .brk ρ2 => .nx ρ2
      | r => r) else .nx ρi) := Pi
    refine ⟨ρi, Fi, Si.sl, (Pi.to (rel := EqR) Si).imp fun d x F1 H1 e1 g1 q1 ⟨F1', d', e1', g1', q1', P1⟩ => ?_⟩
    have q : x = d' := q1'
    subst q
    have S1 := Si.grow g1'
    cases x with
    | false => rw [if_neg Bool.false_ne_true] at P1 ⊢; exact P1 σi F1' H1 S1 (Same.refl _)
    | true =>
      rw [if_pos rfl] at P1 ⊢
      refine ⟨fun σ' H' => ∃ ρi Fi, SRel G.K F0 H0 ρi σ' Fi H' ∧ PostS G F0 H0 Fi D (whGo mc ms m ρi), fun σ' H' q => ⟨m, Nat.lt_succ_self m, q⟩, ρi, F1', F0, H0, S1, ?_⟩
      cases em : ms ρi with
      | nx ρ2 => rw [em] at P1; exact fun σ' F' H' S' q => ⟨ρ2, F', S', P1.same q⟩
      | ct ρ2 => rw [em] at P1; exact fun σ' F' H' S' q => ⟨ρ2, F', S', P1.same q⟩
      | brk ρ2 => rw [em] at P1; exact P1
      | ret d => rw [em] at P1; exact P1
      | exc c => rw [em] at P1; exact P1
      | bad => rw [em] at P1; exact P1
/-! ### raise -/
structure ExcT (K : PySem.W.Frag) (mg : Str → Option Value) (x : Str) (C : Addr) : Prop where
  g : mg x = some (.ref C)
  ex : PySem.W.excIn K C [.type "ValueError", .type "Exception", .type "BaseException", .type "object"] "ValueError.__new__" = true
  kp : PySem.W.keepIn K (.ref C) = true
  sub : PySem.W.subIn K (.ref C) (.type "BaseException") = some true
  ty : PySem.W.typeIn K (.ref C) = some (.type "type")
theorem ms_raise {x m : Str} {C : Addr} {j : Nat} {p p2 pos2 : Pos} (T : ExcT X.K X.mg x C) (tk : Takes X (fun cls d _ H => G.E cls d H)) (hmg : X.mg = G.mg := by rfl) (hc : X.calm = true := by rfl) (hg : Gl X x := by rfl) (hdb : (x == ("__debug__" : Str)) = false := by decide) :
    MS X G (.Raise (some (.Call (.Name x p) [.Constant (.str m) j p2] [] pos)) none pos2) (fun _ => .exc x) :=
  weakS (ps_raise hc tk (pmk_own PySem.F.excBase_ValueError T.ex T.g T.kp (raises_own T.sub T.ty) hg hdb)) fun D σ H ⟨ρ, F, F0, H0, S, P⟩ => P C F H (by rw [← hmg]; exact T.g) S.gr
end

/-! ### a def -/
def envOf (n : Nat) (ds : List D) : Env := ds.map .fz ++ List.replicate (n - ds.length) .un
def runD (n : Nat) (m : Env → RS) : List D → R D := fun ds => match m (envOf n ds) with
  | .nx _ => .ok .non
  | .ret d => .ok d
  | .exc c => .exc c
  | _ => .bad
theorem sl_start {K : PySem.W.Frag} {F H : Hp} {vs : List V} {ds : List D} {N : List Str} (s : Same F H) (h : DvAll K F vs ds) : Sl K (envOf N.length ds) (L2.start N vs) F H := by
  refine ⟨s, ?_, fun i sl x h1 h2 => ?_, fun i j sl t a h1 h2 h3 _ _ _ => ?_⟩
  · unfold L2.start envOf
    rw [List.length_append, List.length_append, List.length_map, List.length_map, List.length_replicate, List.length_replicate, h.length]
  · unfold L2.start at h2
    unfold envOf at h1
    by_cases hi : i < ds.length
    · rw [List.getElem?_append_left (by rw [List.length_map]; exact hi), List.getElem?_map] at h1
      rw [List.getElem?_append_left (by rw [List.length_map, h.length]; exact hi), List.getElem?_map] at h2
      cases e1 : ds[i]? with
      | none => rw [e1] at h1; cases h1
      | some d =>
        rw [e1] at h1
        cases h1
        obtain ⟨v, e2, q⟩ := h.get' e1
        rw [e2] at h2
        cases h2
        exact q
    · rw [List.getElem?_append_right (by rw [List.length_map]; omega), List.getElem?_replicate] at h1
      split at h1
      · cases h1
        cases x <;> trivial
      · cases h1
  · exfalso
    unfold envOf at h1
    by_cases hi : i < ds.length
    · rw [List.getElem?_append_left (by rw [List.length_map]; exact hi), List.getElem?_map] at h1
      cases e1 : ds[i]? with
      | none => rw [e1] at h1; cases h1
      | some d =>
        rw [e1] at h1
        cases h1
        cases h3
    · rw [List.getElem?_append_right (by rw [List.length_map]; omega), List.getElem?_replicate] at h1
      split at h1
      · cases h1
        cases h3
      · cases h1
section
variable {P : Program} {w : World} {K : PySem.W.Frag} {mg : Str → Option Value} {base : Heap}
theorem fn_mir {x qual : Str} {st : Stmt} {f : Addr} {fd : FuncData} {N ps : List Str} {k : Nat} {m : Env → RS} (F : Fun K x qual st f fd) (S : FnScope N ps (defScope st))
    (hbody : ∀ (cdv : Value) (A : Around) (outer : List PySem.Env) (s : Shared) (H : Hp) (E : XK), Room k (A.deeper (envOfC qual (defScope st) s.heap.objs.size f cdv)) →
      MSs (cxOf (L2.CX P w) P w K mg base N qual (defScope st) f cdv A outer s H E) ⟨K, mg, E⟩ (defBody st) m) : FnM P w K mg base (k + 1) f fd ps (runD N.length m) := by
  refine F.okX S (fun vs H Q E h => ?_) (fun cdv A outer s H vs Q E hr h => ?_)
  · obtain ⟨F1, ds, _, r, l, _⟩ := h
    rw [r.length, l]
  · obtain ⟨F1, ds, sm, r, l, q⟩ := h
    refine ⟨_, hbody cdv A outer s H E hr, envOf N.length ds, F1, F1, H, ⟨sl_start sm r, Grow.refl sm, fun i sl a h1 h2 h3 => ?_⟩, ?_⟩
    · exfalso
      have S0 := sl_start (N := N) sm r
      have q1 := S0.apart
      unfold envOf at h1
      by_cases hi : i < ds.length
      · rw [List.getElem?_append_left (by rw [List.length_map]; exact hi), List.getElem?_map] at h1
        cases e1 : ds[i]? with
        | none => rw [e1] at h1; cases h1
        | some d => rw [e1] at h1; cases h1; cases h2
      · rw [List.getElem?_append_right (by rw [List.length_map]; omega), List.getElem?_replicate] at h1
        split at h1
        · cases h1; cases h2
        · cases h1
    · unfold runD at q
      cases e : m (envOf N.length ds) with
      | nx ρ' => rw [e] at q; exact fun σ' F' H' S' _ => q .non F' H' S'.gr .non
      | ret d => rw [e] at q; exact fun v F' H' g z => q v F' H' g z
      | exc c => rw [e] at q; exact fun C F' H' m g => q C F' H' m g
      | brk ρ' => rw [e] at q; exact q.elim
      | ct ρ' => rw [e] at q; exact q.elim
      | bad => rw [e] at q; exact q.elim
end
end Mir
namespace Mir
open PySem PySem.Spec PyProof.Rows L2

/-! ### any sequence walked: a list, a tuple, a text -/
def iSeqA (K : PySem.W.Frag) (te : TE) : TI := fun σ H R => te σ H fun x H1 => (∃ a xs, x = .ref a ∧ SqL K H1 a xs ∧ R (Itl K a) H1) ∨ (∃ a xs, x = .ref a ∧ SqT K H1 a xs ∧ R (Itt K a) H1) ∨ (∃ z, x = .str z ∧ R (Its z) H1)
section
variable {X : Cx} {G : Gm} {tg e : Expr} {te : TE} {ma : Env → R D}
theorem pi_seqA (he : PE X e te) : PI X tg e (iSeqA X.K te) := by
  refine ⟨fun pins s σ H R0 I h => thn (he.run pins s σ H _ I h) fun v s1 ⟨x, H1, I1, r1, q1⟩ => ?_⟩
  rcases q1 with ⟨a, xs, ex, hq, q⟩ | ⟨a, xs, ex, hq, q⟩ | ⟨z, ex, q⟩
  · subst ex
    cases r1
    obtain ⟨its, rv, pl, hz⟩ := I1.list hq
    exact wpAny_pyIter_list pl.isList (pi_one (tk := s1.toks) I1 _ (turn_list a _) ⟨_, Heap.get?_push_size _ rfl, rfl, rfl⟩ q)
  · subst ex
    cases r1
    obtain ⟨its, rv, ht, hz⟩ := I1.tuple hq
    exact wpAny_pyIter_tuple (show s1.heap.IsTuple a its.toArray from ht) (pi_one (tk := s1.toks) I1 _ (turn_tuple a _) ⟨_, Heap.get?_push_size _ rfl, rfl, rfl⟩ q)
  · subst ex
    obtain ⟨t, rfl⟩ := r1
    cases ha : z.cps.all (· < 128)
    · exact wpAny_pyIter_wide ha (pi_one (tk := s1.toks) I1 _ (turn_str _ z t "str_iterator" (.inr rfl)) ⟨_, Heap.get?_push_size _ rfl, rfl, rfl⟩ q)
    · exact wpAny_pyIter_ascii ha (pi_one (tk := s1.toks) I1 _ (turn_str _ z t "str_ascii_iterator" (.inl rfl)) ⟨_, Heap.get?_push_size _ rfl, rfl, rfl⟩ q)
def anyOf : D → R (List D)
  | .lst ds => .ok ds
  | .rol ds => .ok ds
  | .tup ds => .ok ds
  | .str z => .ok (signsD z)
  | _ => .bad
theorem mi_any (h : ME X G e ma) (hK : X.K = G.K := by rfl) : MI X G tg e (mSeq anyOf ma) := weakI (pi_seqA h) fun σ H Q ⟨ρ, F, S, P⟩ => by
  refine ⟨ρ, F, S, (PostI.bind (rel := DvR G) P).imp fun d x F1 H1 e1 g1 q1 ⟨F1', d', e1', g1', q1', P1⟩ => ?_⟩
  rw [hK]
  cases q1' with
  | lst z r => exact .inl ⟨_, _, rfl, SqL.of (g1'.s _ _ z), P1 _ _ _ (Grow.refl g1'.s) (wd_list (SqL.of z) r)⟩
  | rol z r => exact .inl ⟨_, _, rfl, g1'.s.seq z, P1 _ _ _ (Grow.refl g1'.s) (wd_list z r)⟩
  | tup z r => exact .inr (.inl ⟨_, _, rfl, Same.tup g1'.s z, P1 _ _ _ (Grow.refl g1'.s) (wd_tup z r)⟩)
  | str z => exact .inr (.inr ⟨_, rfl, P1 _ _ _ (Grow.refl g1'.s) wd_str⟩)
  | _ => exact P1.elim
end

/-! ### a def of the top -/
structure DefT (K : PySem.W.Frag) (mg : Str → Option Value) (x : Str) (st : Stmt) (ps : List Str) : Prop where
  ex : ∃ f fd, Fun K x x st f fd ∧ Binds K fd ps [] ∧ mg x = some (.ref f)
structure Df (P : Program) (w : World) (K : PySem.W.Frag) (mg : Str → Option Value) (base : Heap) (k : Nat) (x : Str) (ps : List Str) (m : List D → R D) : Prop where
  ex : ∃ f fd, FnM P w K mg base k f fd ps m ∧ Binds K fd ps [] ∧ mg x = some (.ref f) ∧ PySem.W.keepIn K (.ref f) = true
section
variable {P : Program} {w : World} {K : PySem.W.Frag} {mg : Str → Option Value} {base : Heap}
theorem fn_mk2 {x : Str} {st : Stmt} {N ps : List Str} {k : Nat} {m : Env → RS} {f : Addr} {fd : FuncData} (F : Fun K x x st f fd) (S : FnScope N ps (defScope st))
    (hbody : ∀ (f : Addr) (cdv : Value) (A : Around) (outer : List PySem.Env) (s : Shared) (H : Hp) (E : XK), Room k (A.deeper (envOfC x (defScope st) s.heap.objs.size f cdv)) →
      Takes (cxOf (L2.CX P w) P w K mg base N x (defScope st) f cdv A outer s H E) (fun cls d _ H => E cls d H) → Passes (L2.CX P w) (cxOf (L2.CX P w) P w K mg base N x (defScope st) f cdv A outer s H E) E →
      PassesOwn (model P w) (A.deeper (envOfC x (defScope st) s.heap.objs.size f cdv)) (envOfC x (defScope st) s.heap.objs.size f cdv) (cxOf (L2.CX P w) P w K mg base N x (defScope st) f cdv A outer s H E).xe →
      MSs (cxOf (L2.CX P w) P w K mg base N x (defScope st) f cdv A outer s H E) ⟨K, mg, E⟩ (defBody st) m) : FnM P w K mg base (k + 1) f fd ps (runD N.length m) := by
  refine fn_mir F S fun cdv A outer s H E hr => ?_
  have tk : Takes (cxOf (L2.CX P w) P w K mg base N x (defScope st) f cdv A outer s H E) (fun cls d _ H => E cls d H) := takes_of rfl rfl rfl rfl
  exact hbody f cdv A outer s H E hr tk (passes_call tk fun _ _ _ _ h => h) (passes_of (X := cxOf (L2.CX P w) P w K mg base N x (defScope st) f cdv A outer s H E) rfl)
theorem df_mk {x : Str} {st : Stmt} {N ps : List Str} {k : Nat} {m : Env → RS} (D : DefT K mg x st ps) (S : FnScope N ps (defScope st))
    (hbody : ∀ (f : Addr) (cdv : Value) (A : Around) (outer : List PySem.Env) (s : Shared) (H : Hp) (E : XK), Room k (A.deeper (envOfC x (defScope st) s.heap.objs.size f cdv)) →
      Takes (cxOf (L2.CX P w) P w K mg base N x (defScope st) f cdv A outer s H E) (fun cls d _ H => E cls d H) → Passes (L2.CX P w) (cxOf (L2.CX P w) P w K mg base N x (defScope st) f cdv A outer s H E) E →
      PassesOwn (model P w) (A.deeper (envOfC x (defScope st) s.heap.objs.size f cdv)) (envOfC x (defScope st) s.heap.objs.size f cdv) (cxOf (L2.CX P w) P w K mg base N x (defScope st) f cdv A outer s H E).xe →
      MSs (cxOf (L2.CX P w) P w K mg base N x (defScope st) f cdv A outer s H E) ⟨K, mg, E⟩ (defBody st) m) : Df P w K mg base (k + 1) x ps (runD N.length m) := by
  obtain ⟨f, fd, F, B, g⟩ := D.ex
  exact ⟨f, fd, fn_mk2 F S hbody, B, g, F.kp⟩
theorem Df.to {x : Str} {ps : List Str} {k : Nat} {m m' : List D → R D} (h : Df P w K mg base k x ps m) (e : ∀ ds, ds.length = ps.length → m' ds ≠ .bad → m ds = m' ds) : Df P w K mg base k x ps m' := by
  obtain ⟨f, fd, F, r⟩ := h.ex
  refine ⟨f, fd, F.imp fun vs H Q E ⟨F1, ds, s, q, l, p⟩ => ⟨F1, ds, s, q, l, ?_⟩, r⟩
  rw [e ds l (fun z => by rw [z] at p; exact p)]
  exact p
end
section
variable {X : Cx} {G : Gm} {e : Expr} {es : List Expr} {pos p : Pos} {k j : Nat} {ps : List Str} {m : List D → R D} {mr : Env → R (List D)} {x : Str}
theorem me_df (D : Df X.prog X.w X.K X.mg X.base k x ps m) (hr : Room j X.A) (hkj : k ≤ j) (hx : Passes (L2.CX X.prog X.w) X G.E) (ha : MA X G (e :: es) mr)
    (hK : X.K = G.K := by rfl) (hmg : X.mg = G.mg := by rfl) (hg : Gl X x := by rfl) (hdb : (x == ("__debug__" : Str)) = false := by decide) (he : starEach (e :: es) X.env = (false, eval e X.env) :: starEach es X.env := by rfl) (hpl : (backTo pos (starEach es X.env)).any (·.1) = false := by rfl) :
    ME X G (.Call (.Name x p) (e :: es) [] pos) (mFn ps.length m mr) := by
  obtain ⟨f, fd, F, B, g, kp⟩ := D.ex
  exact me_fn F (hr.mono hkj) g kp B hx ha hK hmg hg hdb he hpl
theorem me_df0 (D : Df X.prog X.w X.K X.mg X.base k x [] m) (hr : Room j X.A) (hkj : k ≤ j) (hx : Passes (L2.CX X.prog X.w) X G.E)
    (hK : X.K = G.K := by rfl) (hmg : X.mg = G.mg := by rfl) (hg : Gl X x := by rfl) (hdb : (x == ("__debug__" : Str)) = false := by decide) : ME X G (.Call (.Name x p) [] [] pos) (fun _ => m []) := by
  obtain ⟨f, fd, F, B, g, kp⟩ := D.ex
  exact me_fn0 F (hr.mono hkj) g kp B hx hK hmg hg hdb
end

/-- what the law's own def promises -/
def spLaw (K : PySem.W.Frag) : Sp := fun vs H Q _ => ∃ (a : Addr) (ns : List Int), vs = [.ref a] ∧ SqL K H a (ns.map V.int) ∧ ns.length ≤ 63 ∧ ∀ H', Q (.bl true) H'
theorem dv_ints {K : PySem.W.Frag} {F : Hp} : ∀ ns : List Int, DvAll K F (ns.map V.int) (ns.map D.int)
  | [] => .nil
  | n :: ns => .cons (.int n) (dv_ints ns)
theorem law_imp {P : Program} {w : World} {K : PySem.W.Frag} {mg : Str → Option Value} {base : Heap} {k : Nat} {f : Addr} {fd : FuncData} {x : Str} {m : List D → R D} (F : FnM P w K mg base k f fd [x] m) (ht : ∀ ns : List Int, ns.length ≤ 63 → m [.rol (ns.map D.int)] = .ok (.bl true)) :
    FnOk P w K mg base (L2.CX P w) k f fd [x] (spLaw K) := F.imp fun vs H Q E ⟨a, ns, e, hS, hl, q⟩ => ⟨H, [.rol (ns.map D.int)], Same.refl H, by rw [e]; exact .cons (.rol hS (dv_ints ns)) .nil, rfl, by
  rw [ht ns hl]
  exact fun v F' H' g r => by cases r; exact q H'⟩

/-! ### a dict of the top, its keys texts -/
structure KTab (K : PySem.W.Frag) (w : World) (mg : Str → Option Value) (x : Str) (tb : List (Str × Option D)) : Prop where
  ex : ∃ d es n, mg x = some (.ref d) ∧ KDict K w d es n ∧ ∀ z o, tb.lookup z = some o → (o = none ∧ PySem.W.nsIn K d z = some none) ∨ ∃ dd u v, o = some dd ∧ PySem.W.nsIn K d z = some (some u) ∧ RelV v u ∧ Dv K (fun _ => none) v dd
theorem Same.nothing (F : Hp) : Same (fun _ => none) F := fun _ _ h => nomatch h
section
variable {X : Cx} {G : Gm} {a : Expr} {ma : Env → R D} {pos p : Pos} {x : Str} {tb : List (Str × Option D)}
def kHas (tb : List (Str × Option D)) (neg : Bool) (d : D) : R D := match d with
  | .str z => ofO (tb.lookup z) fun o => .ok (.bl (if neg then !o.isSome else o.isSome))
  | _ => .bad
def kGet (tb : List (Str × Option D)) (d : D) : R D := match d with
  | .str z => ofO (tb.lookup z) fun o => ofO o .ok
  | _ => .bad
theorem ktab_some {K : PySem.W.Frag} {w : World} {d : Addr} {z : Str} {o : Option D} (h : (o = none ∧ PySem.W.nsIn K d z = some none) ∨ ∃ dd u v, o = some dd ∧ PySem.W.nsIn K d z = some (some u) ∧ RelV v u ∧ Dv K (fun _ => none) v dd) : ∃ r, PySem.W.nsIn K d z = some r ∧ r.isSome = o.isSome := by
  rcases h with ⟨e, q⟩ | ⟨dd, u, v, e, q, _⟩
  · exact ⟨_, q, by rw [e]; rfl⟩
  · exact ⟨_, q, by rw [e]; rfl⟩
theorem me_kin (T : KTab X.K X.w X.mg x tb) (ha : ME X G a ma) (hg : Gl X x := by rfl) (hd : (x == ("__debug__" : Str)) = false := by decide) (hm : behindInMarks .In (.Name x p) = false := by with_unfolding_all rfl) : ME X G (.Compare a [.In] [.Name x p] pos) (mU (kHas tb false) ma) := by
  obtain ⟨d, es, n, g, kd, hT⟩ := T.ex
  refine weakE (pe_cmpR (op_in_kd kd) ha (pe_glob (v := .ref d) hg g rfl hd) hm) fun σ H Q ⟨ρ, F, S, P⟩ => ?_
  refine ⟨ρ, F, S, (PostR.bind (rel := DvR G) P).imp fun dd x F1 H1 e1 g1 q1 ⟨F1', d', e1', g1', q1', P1⟩ => ?_⟩
  cases q1' with
  | str z =>
    have P1 : PostR G (DvR G) F1' H1 (ofO (tb.lookup z) fun o => .ok (.bl o.isSome)) Q := P1
    cases w : tb.lookup z with
    | none => rw [w] at P1; exact P1.elim
    | some o =>
      rw [w] at P1
      obtain ⟨r, e2, e3⟩ := ktab_some (w := X.w) (hT z o w)
      exact ⟨z, r, rfl, rfl, e2, by rw [e3]; exact postD P1 g1'.s (.bl _)⟩
  | _ => exact P1.elim
theorem me_knin (T : KTab X.K X.w X.mg x tb) (ha : ME X G a ma) (hg : Gl X x := by rfl) (hd : (x == ("__debug__" : Str)) = false := by decide) (hm : behindInMarks .NotIn (.Name x p) = false := by with_unfolding_all rfl) : ME X G (.Compare a [.NotIn] [.Name x p] pos) (mU (kHas tb true) ma) := by
  obtain ⟨d, es, n, g, kd, hT⟩ := T.ex
  refine weakE (pe_cmpR (op_notIn_kd kd) ha (pe_glob (v := .ref d) hg g rfl hd) hm) fun σ H Q ⟨ρ, F, S, P⟩ => ?_
  refine ⟨ρ, F, S, (PostR.bind (rel := DvR G) P).imp fun dd x F1 H1 e1 g1 q1 ⟨F1', d', e1', g1', q1', P1⟩ => ?_⟩
  cases q1' with
  | str z =>
    have P1 : PostR G (DvR G) F1' H1 (ofO (tb.lookup z) fun o => .ok (.bl (!o.isSome))) Q := P1
    cases w : tb.lookup z with
    | none => rw [w] at P1; exact P1.elim
    | some o =>
      rw [w] at P1
      obtain ⟨r, e2, e3⟩ := ktab_some (w := X.w) (hT z o w)
      exact ⟨z, r, rfl, rfl, e2, by rw [e3]; exact postD P1 g1'.s (.bl _)⟩
  | _ => exact P1.elim
/-- the same as a test: pt_val of the value -/
theorem mt_knin (T : KTab X.K X.w X.mg x tb) (ha : ME X G a ma) (hg : Gl X x := by rfl) (hd : (x == ("__debug__" : Str)) = false := by decide) (hm : behindInMarks .NotIn (.Name x p) = false := by with_unfolding_all rfl) : MT X G (.Compare a [.NotIn] [.Name x p] pos) (mTest (mU (kHas tb true) ma)) := by
  obtain ⟨d, es, n, g, kd, hT⟩ := T.ex
  refine weakT (pt_cmpR (op_notIn_kd kd) ha (pe_glob (v := .ref d) hg g rfl hd) hm) fun σ H Q ⟨ρ, F, S, P⟩ => ?_
  have P' := PostR.bind (rel := DvR G) (show PostR G EqR F H ((mU (kHas tb true) ma ρ).bind blOf) Q from P)
  unfold mU at P'
  refine ⟨ρ, F, S, (PostR.bind (rel := DvR G) P').imp fun dd x F1 H1 e1 g1 q1 ⟨F1', d', e1', g1', q1', P1⟩ => ?_⟩
  cases q1' with
  | str z =>
    have P1 : PostR G (DvR G) F1' H1 (ofO (tb.lookup z) fun o => .ok (.bl (!o.isSome))) _ := P1
    cases w : tb.lookup z with
    | none => rw [w] at P1; exact P1.elim
    | some o =>
      rw [w] at P1
      obtain ⟨r, e2, e3⟩ := ktab_some (w := X.w) (hT z o w)
      refine ⟨z, r, rfl, rfl, e2, ?_⟩
      rw [e3]
      obtain ⟨F2, d2, k1, k2, k3, k4⟩ := postD P1 g1'.s (.bl _)
      cases k3
      exact ⟨_, rfl, PostR.go (G := G) (rel := EqR) k4 k2.s rfl⟩
  | _ => exact P1.elim
theorem me_kget (T : KTab X.K X.w X.mg x tb) (ha : ME X G a ma) (hK : X.K = G.K := by rfl) (hg : Gl X x := by rfl) (hd : (x == ("__debug__" : Str)) = false := by decide) (hs : PlainIx a := by exact fun _ _ => rfl) : ME X G (.Subscript (.Name x p) a pos) (mU (kGet tb) ma) := by
  obtain ⟨d, es, n, g, kd, hT⟩ := T.ex
  refine weakE (pe_ix ix_kdict (pe_glob (v := .ref d) hg g rfl hd) ha hs) fun σ H Q ⟨ρ, F, S, P⟩ => ?_
  refine ⟨ρ, F, S, (PostR.bind (rel := DvR G) P).imp fun dd x F1 H1 e1 g1 q1 ⟨F1', d', e1', g1', q1', P1⟩ => ?_⟩
  cases q1' with
  | str z =>
    have P1 : PostR G (DvR G) F1' H1 (ofO (tb.lookup z) fun o => ofO o .ok) Q := P1
    cases w : tb.lookup z with
    | none => rw [w] at P1; exact P1.elim
    | some o =>
      rw [w] at P1
      rcases hT z o w with ⟨e, _⟩ | ⟨dd, u, v, e, q, rv, dvv⟩
      · rw [e] at P1
        exact P1.elim
      · rw [e] at P1
        have P1 : PostR G (DvR G) F1' H1 (.ok dd) Q := P1
        exact ⟨d, z, v, rfl, rfl, ⟨es, n, u, kd.at_, kd.lit, q, rv⟩, postD P1 g1'.s (by rw [← hK]; exact dvv.mono (Same.nothing _))⟩
  | _ => exact P1.elim
end
end Mir
namespace Mir
open PySem PySem.Spec PyProof.Rows L2

/-! ### [f, g, ..][k](..), defs of the top -/
structure FnAt (P : Program) (w : World) (K : PySem.W.Frag) (mg : Str → Option Value) (base : Heap) (k : Nat) (n : Nat) (f : Addr) (m : List D → R D) : Prop where
  ex : ∃ fd ps, FnM P w K mg base k f fd ps m ∧ ps.length = n ∧ Binds K fd ps [] ∧ PySem.W.keepIn K (.ref f) = true
inductive FnsAt (P : Program) (w : World) (K : PySem.W.Frag) (mg : Str → Option Value) (base : Heap) (k : Nat) (n : Nat) : List Addr → List (List D → R D) → Prop where
  | nil : FnsAt P w K mg base k n [] []
  | cons {f : Addr} {m : List D → R D} {fs : List Addr} {ms : List (List D → R D)} : FnAt P w K mg base k n f m → FnsAt P w K mg base k n fs ms → FnsAt P w K mg base k n (f :: fs) (m :: ms)
theorem FnsAt.len {P : Program} {w : World} {K : PySem.W.Frag} {mg : Str → Option Value} {base : Heap} {k n : Nat} : ∀ {fs : List Addr} {ms : List (List D → R D)}, FnsAt P w K mg base k n fs ms → fs.length = ms.length
  | _, _, .nil => rfl
  | _, _, .cons _ t => congrArg (· + 1) t.len
theorem FnsAt.get {P : Program} {w : World} {K : PySem.W.Frag} {mg : Str → Option Value} {base : Heap} {k n : Nat} : ∀ {fs : List Addr} {ms : List (List D → R D)} {j : Nat} {m : List D → R D}, FnsAt P w K mg base k n fs ms → ms[j]? = some m → ∃ f, fs[j]? = some f ∧ FnAt P w K mg base k n f m
  | _, _, _, _, .nil, e => by simp at e
  | _, _, 0, _, .cons h _, e => by
    have e : some _ = some _ := e
    cases e
    exact ⟨_, rfl, h⟩
  | _, _, j + 1, _, .cons _ t, e => FnsAt.get (j := j) t e
/-- the list's items: names of defs -/
structure PFs (X : Cx) (es : List Expr) (fs : List Addr) : Prop where
  pa : PA X es (fun σ H Q => Q (fs.map V.ref) H)
section
variable {X : Cx} {G : Gm} {e b : Expr} {es fes : List Expr} {mb : Env → R D} {mr : Env → R (List D)} {pos : Pos} {k j n : Nat}
theorem pfs_nil : PFs X [] [] := ⟨pa_nil⟩
theorem pfs_cons {x : Str} {p : Pos} {f : Addr} {fs : List Addr} (hm : X.mg x = some (.ref f)) (h : PFs X es fs) (hg : Gl X x := by rfl) (hd : (x == ("__debug__" : Str)) = false := by decide)
    (hs : starEach (.Name x p :: es) X.env = (false, eval (.Name x p) X.env) :: starEach es X.env := by rfl) : PFs X (.Name x p :: es) (f :: fs) :=
  ⟨weakA (pa_cons (pe_glob (v := .ref f) hg hm rfl hd) h.pa hs) fun σ H Q q => q⟩
def mFnIx (n : Nat) (ms : List (List D → R D)) (mb : Env → R D) (mr : Env → R (List D)) : Env → R D := fun ρ => (mb ρ).bind fun x => match x with
  | .int z => ofO (atI ms z) fun m => (mr ρ).bind fun ds => if ds.length = n then m ds else .bad
  | _ => .bad
theorem me_fnIx {fs : List Addr} {ms : List (List D → R D)} {p1 p2 : Pos} (hf : PFs X fes fs) (F : FnsAt X.prog X.w X.K X.mg X.base k n fs ms) (hr : Room j X.A) (hkj : k ≤ j) (hx : Passes (L2.CX X.prog X.w) X G.E) (hb : ME X G b mb) (ha : MA X G (e :: es) mr) (hz : fs.length ≤ 1000)
    (hK : X.K = G.K := by rfl) (hmg : X.mg = G.mg := by rfl) (hpx : PlainIx b := by exact fun _ _ => rfl) (he : starEach (e :: es) X.env = (false, eval e X.env) :: starEach es X.env := by rfl) (hpl : (backTo pos (starEach es X.env)).any (·.1) = false := by rfl)
    (hc : eval (.Call (.Subscript (.List fes p1) b p2) (e :: es) [] pos) X.env = (eval (.Subscript (.List fes p1) b p2) X.env >>= fun f => callWith pos f [] (backTo pos (starEach (e :: es) X.env)) (backToKw pos (keywordEach [] X.env))) := by rfl) :
    ME X G (.Call (.Subscript (.List fes p1) b p2) (e :: es) [] pos) (mFnIx n ms mb mr) := by
  refine ⟨fun pins s σ H Q I ⟨ρ, F0, S, P⟩ => ?_⟩
  rw [hc]
  refine wpAny_bind ?_
  refine thn ((pe_ix ix_list (pe_lst (pos := p1) hf.pa) hb hpx).run pins s σ H (fun v H1 => ∃ (z : Int) (i : Nat) (f : Addr) (m : List D → R D) (F1 : Hp), v = .ref f ∧ fs[i]? = some f ∧ ms[i]? = some m ∧ Sl G.K ρ σ F1 H1 ∧ PostR G (DvR G) F1 H1 ((mr ρ).bind fun ds => if ds.length = n then m ds else .bad) Q) I ?_) fun u s1 ⟨v, H1, I1, r1, z, i, f, m, F1, ev, h1, h2, S1, P1⟩ => ?_
  · refine ⟨by rw [List.length_map, sizeLine_eq]; omega, fun p hp => ?_⟩
    have g0 : Grow F0 H F0 (upd H p (.lst (fs.map V.ref))) := Grow.own S.sub hp
    have P0 : PostR G (DvR G) F0 H ((mb ρ).bind fun x => match x with
      | .int z => ofO (atI ms z) fun m => (mr ρ).bind fun ds => if ds.length = n then m ds else .bad
      | _ => .bad) Q := P
    refine ⟨ρ, F0, S.grow g0, (PostR.bind (rel := DvR G) (P0.grow g0)).imp fun d x F1 H1 e1 g1 q1 ⟨F1', d', e1', g1', q1', P1⟩ => ?_⟩
    cases q1' with
    | int z =>
      have P1 : PostR G (DvR G) F1' H1 (ofO (atI ms z) fun m => (mr ρ).bind fun ds => if ds.length = n then m ds else .bad) Q := P1
      cases q : atI ms z with
      | none => rw [q] at P1; exact P1.elim
      | some m =>
        rw [q] at P1
        unfold atI at q
        cases q2 : ixN ms.length z with
        | none => rw [q2] at q; cases q
        | some i =>
          rw [q2] at q
          have q : ms[i]? = some m := q
          obtain ⟨f, hf2, _⟩ := F.get q
          refine ⟨p, fs.map V.ref, z, .ref f, rfl, rfl, SqL.of (g1'.h _ _ upd_same), ?_, z, i, f, m, F1', rfl, hf2, q, (S.grow g0).grow g1', P1⟩
          unfold atI
          rw [List.length_map, F.len, q2]
          show (fs.map V.ref)[i]? = _
          rw [List.getElem?_map, hf2]
          rfl
    | _ => exact P1.elim
  · subst ev
    cases r1
    obtain ⟨f', e', hfa⟩ := F.get h2
    rw [h1] at e'
    cases e'
    obtain ⟨fd, ps, Fm, hl, hbi, hkp⟩ := hfa.ex
    refine PySem.W.callWith_K (h₀ := X.base) I1.ok.mod.kin hkp (thn (ha.run pos pins s1 σ H1 (fun vs H2 => spM X.K X.mg ps.length m vs H2 Q G.E) I1 ⟨ρ, F1, S1, (PostR.bind (rel := DvsR G) P1).imp fun d x F2 H2 e2 g2 q2 ⟨F2', d', e2', g2', q2', P2⟩ => ?_⟩) fun us s2 ⟨vs, H2, I2, r2, q2⟩ => ⟨I2.kIn, ?_⟩) he hpl
    · split at P2
      · rename_i hdl
        rw [hK, hmg]
        exact ⟨F2', d', g2'.s, q2', by rw [hl]; exact hdl, P2⟩
      · exact P2.elim
    · exact run_fn (dvs := []) (ds := []) Fm (hr.mono hkj) hbi .nil hx I2 r2 (by rw [List.append_nil]; exact q2)
end
theorem Df.fnAt {P : Program} {w : World} {K : PySem.W.Frag} {mg : Str → Option Value} {base : Heap} {k j : Nat} {x : Str} {ps : List Str} {m : List D → R D} (h : Df P w K mg base k x ps m) (hk : k ≤ j) : ∃ f, mg x = some (.ref f) ∧ FnAt P w K mg base j ps.length f m := by
  obtain ⟨f, fd, F, B, g, kp⟩ := h.ex
  exact ⟨f, g, fd, ps, F.mono hk, rfl, B, kp⟩

theorem kit_self {K : PySem.W.Frag} {a : Addr} : PySem.W.kitOne K (.ref a) (.ref a) = some true := by
  unfold PySem.W.kitOne
  rw [if_pos (by simp)]
theorem kit_other {K : PySem.W.Frag} {a b : Addr} (h0 : PySem.W.subIn K (.ref b) (.ref b) = some true) (h1 : PySem.W.subIn K (.ref a) (.ref b) = some false) (ht : PySem.W.typeIn K (.ref b) = some (.type "type")) (hd : PySem.W.hasDictIn K b = true) : PySem.W.kitOne K (.ref a) (.ref b) = some false := by
  have hne : a ≠ b := fun e => by rw [e, h0] at h1; cases h1
  unfold PySem.W.kitOne PySem.W.kitCls
  rw [if_neg (by simpa using hne)]
  have hc : (PySem.W.clsIn K b).isSome = true := by
    unfold PySem.W.hasDictIn at hd
    cases e : PySem.W.clsIn K b with
    | none => rw [e] at hd; cases hd
    | some c => rfl
  dsimp only
  rw [hc, ht, if_pos (by rfl)]
  exact h1
/-! ### try: .. except Base as e: return [isinstance(e, C1), ..].index(True) -/
structure TryT (K : PySem.W.Frag) (mg : Str → Option Value) (B : Str) (cs : List Str) : Prop where
  ex : ∃ CB, mg B = some (.ref CB) ∧ ∀ c, c ∈ cs → ∃ C, mg c = some (.ref C) ∧ ExcC K C ∧ PySem.W.exmOne K (.ref C) (.ref CB) = some true ∧ ∀ c', c' ∈ cs → ∃ C', mg c' = some (.ref C') ∧ PySem.W.kitOne K (.ref C) (.ref C') = some (decide (c' = c))
/-- what the tests are worth for the exception of the class c, held in the slot i -/
def taI (K : PySem.W.Frag) (mg : Str → Option Value) (D a : Addr) (i : Nat) (c : Str) (cs : List Str) : TA := fun σ H Q => σ[i]? = some (some (.ref a)) ∧ (∀ c', c' ∈ cs → ∃ C', mg c' = some (.ref C') ∧ PySem.W.kitOne K (.ref D) (.ref C') = some (decide (c' = c))) ∧ Q (cs.map fun c' => .bl (decide (c' = c))) H
section
variable {Y : Cx} {K : PySem.W.Frag} {mg : Str → Option Value} {D a : Addr} {i : Nat} {c : Str} {cs : List Str} {es : List Expr}
theorem pi_nil : PA Y [] (taI K mg D a i c []) := weakA pa_nil fun σ H Q ⟨_, _, q⟩ => q
theorem pi_cons {X : Cx} {oe : Obj} {pn : List (Addr × Obj)} {x c1 : Str} {p p2 p3 cpos : Pos} (C : ExcC X.K D) (hz : Zc (.ref D) none oe) (hf : ∃ vs, oe.data = .fields vs) (hi : X.mg "isinstance" = none) (h : PA (X.suite a ((a, oe) :: pn)) es (taI X.K X.mg D a i c cs)) (hcm : ∃ C1, X.mg c1 = some (.ref C1))
    (hN : X.N[i]? = some x := by rfl) (hv : Vis X.env.scope x := by first | exact Or.inl rfl | exact Or.inr (Or.inl rfl)) (hd : (x == ("__debug__" : Str)) = false := by decide) (hcd : (x == ("__classdict__" : Str)) = false := by decide) (hg : Gl X "isinstance" := by rfl) (hg1 : Gl X c1 := by rfl) (hd1 : (c1 == ("__debug__" : Str)) = false := by decide)
    (hs : starEach (.Call (.Name "isinstance" p) [.Name x p2, .Name c1 p3] [] cpos :: es) (X.suite a ((a, oe) :: pn)).env = (false, eval (.Call (.Name "isinstance" p) [.Name x p2, .Name c1 p3] [] cpos) (X.suite a ((a, oe) :: pn)).env) :: starEach es (X.suite a ((a, oe) :: pn)).env := by rfl) :
    PA (X.suite a ((a, oe) :: pn)) (.Call (.Name "isinstance" p) [.Name x p2, .Name c1 p3] [] cpos :: es) (taI X.K X.mg D a i c (c1 :: cs)) := by
  obtain ⟨C1, hC1⟩ := hcm
  refine weakA (pa_cons (pe_callB (call_isE C hz hf) hg hi (by decide +kernel) (pa_cons (pe_var (i := i) hN hv hd hcd) (pa_cons (pe_glob (v := .ref C1) hg1 hC1 rfl hd1) pa_nil))) h hs) fun σ H Q ⟨h1, h2, q⟩ => ?_
  obtain ⟨C1', e1, e2⟩ := h2 c1 List.mem_cons_self
  rw [hC1] at e1
  cases e1
  exact ⟨.ref a, h1, .ref C1, .ref C1, decide (c1 = c), rfl, fun u r => r, e2, h1, fun c' hc' => h2 c' (List.mem_cons_of_mem _ hc'), q⟩
end
theorem idx_of {cs : List Str} {c : Str} (h : c ∈ cs) : ∃ j, (cs.map fun c' => V.bl (decide (c' = c)))[j]? = some (.bl true) ∧ (∀ (m : Nat) (z : V), m < j → (cs.map fun c' => V.bl (decide (c' = c)))[m]? = some z → eqV z (.bl true) = false) ∧ cs.findIdx (fun c' => decide (c' = c)) = j := by
  induction cs with
  | nil => cases h
  | cons d cs ih =>
    by_cases hd : d = c
    · refine ⟨0, by simp [hd], fun m z hm => absurd hm (Nat.not_lt_zero m), by simp [List.findIdx_cons, hd]⟩
    · have hc : c ∈ cs := (List.mem_cons.mp h).elim (fun z => absurd z.symm hd) id
      obtain ⟨j, h1, h2, h3⟩ := ih hc
      refine ⟨j + 1, by simpa using h1, fun m z hm e => ?_, by simp [List.findIdx_cons, hd, h3]⟩
      cases m with
      | zero =>
        have e : some (V.bl (decide (d = c))) = some z := e
        cases e
        simp [hd, eqV]
      | succ m => exact h2 m z (by omega) (by simpa using e)
theorem all_bl (cs : List Str) (f : Str → Bool) : (cs.map fun c' => V.bl (f c')).all flatV = true := by
  induction cs with
  | nil => rfl
  | cons d cs ih => rw [List.map_cons, List.all_cons, ih]; rfl
def sTry (cs : List Str) (mb : Env → RS) : Env → RS := fun ρ => match mb ρ with
  | .exc c => if c ∈ cs then .ret (.int ((cs.findIdx fun c' => decide (c' = c)) : Nat)) else .bad
  | r => r
section
variable {X : Cx} {G : Gm} {B x : Str} {i : Nat} {cs : List Str} {body : List Stmt} {mb : Env → RS} {elts : List Expr} {lp ap kp cp rp np pos' pos : Pos} {j0 : Nat}
theorem ms_try (T : TryT X.K X.mg B cs) (hN : X.N.Nodup) (tk : Takes X fun _ _ _ _ => False)
    (hb : ∀ (W : WX) (pn : List (Addr × Obj)) (xe : Value → Shared → Prop), Passes (L2.CX X.prog X.w) (X.tr pn xe) (fun cls d H => ∀ σ, σ.length = X.N.length → W cls d σ H) → PassesOwn (model X.prog X.w) X.A X.env xe → MSs (X.tr pn xe) ⟨G.K, G.mg, fun cls d H => ∀ σ, σ.length = X.N.length → W cls d σ H⟩ body mb)
    (hel : ∀ (a : Addr) (oe : Obj) (pn : List (Addr × Obj)) (D : Addr) (c : Str), ExcC X.K D → Zc (.ref D) none oe → (∃ vs, oe.data = .fields vs) → PA (X.suite a ((a, oe) :: pn)) elts (taI X.K X.mg D a i c cs))
    (hi : X.N[i]? = some x := by rfl) (hil : i < X.N.length := by first | decide | exact Nat.le_of_ble_eq_true rfl) (hcl : cs.length ≤ 1000 := by first | decide | exact Nat.le_of_ble_eq_true rfl) (hln : X.env.kindOf x = some .local := by rfl) (hs : X.stack = X.env :: X.outer := by rfl) (hf : X.env.frame = some X.env.locals := by rfl) (hg : Gl X B := by rfl) (hdb : (B == ("__debug__" : Str)) = false := by decide)
    (hmg : X.mg = G.mg := by rfl)
    (hbase : attributeBase (.List elts lp) "index" X.env (eval (.List elts lp) X.env) = eval (.List elts lp) X.env := by rfl)
    (hfew : ((backTo cp (starEach [.Constant (.bool true) j0 kp] X.env)).all (fun x => !x.1) && (backToKw cp (keywordEach [] X.env)).all (fun x => x.1.isSome)
      && decide ([Expr.Constant (.bool true) j0 kp].length + ([] : List Keyword).length + (if ([] : List Keyword).isEmpty then 0 else 1) < 30)) = true := by rfl)
    (hline : (ap.endLine == cp.line) = true := by rfl) (hst : starEach [.Constant (.bool true) j0 kp] X.env = (false, eval (.Constant (.bool true) j0 kp) X.env) :: starEach [] X.env := by rfl) (hpl : (backTo cp (starEach [] X.env)).any (·.1) = false := by rfl) :
    MS X G (.Try body [.ExceptHandler (some (.Name B np)) (some x) [.Return (some (.Call (.Attribute (.List elts lp) "index" ap) [.Constant (.bool true) j0 kp] [] cp)) rp] pos'] [] [] pos) (sTry cs mb) := by
  obtain ⟨CB, gB, hT⟩ := T.ex
  refine weakS (ps_try_as (i := i) (ts := fun a cls d => fun Dd σ H => ∃ c, c ∈ cs ∧ ∃ C, cls = .ref C ∧ d = none ∧ ExcC X.K C ∧ tRet (tBM X.K "list" (rIndex X.K) (tLst (taI X.K X.mg C a i c cs)) (tCons (tC (.bl true)) tNil)) Dd σ H)
    (tb := fun W => tsOf ⟨G.K, G.mg, fun cls d H => ∀ σ, σ.length = X.N.length → W cls d σ H⟩ mb) hs hf hN hi hln ⟨hg, hdb, .inl gB⟩ tk (fun W pn xe tkW hpo => ?_) (fun a oe cls d pn hz hfl => ?_)) fun Dd σ H ⟨ρ, F, F0, H0, S, P⟩ => ?_
  · exact hb W pn xe (fun pins σ H s e s' I c => tkW e s' (XE.of_call I (fun cls d H' h => h σ I.len) c)) hpo
  · refine ⟨fun pins s σ H Dd I ⟨c, hc, C, ec, ed, exc, q⟩ => ?_⟩
    subst ec ed
    exact (pss_one (ps_ret (pe_bm PySem.F.plainAttrs_list PySem.F.slot_list_index PySem.F.type_list_index mt_index (pe_lst (hel a oe pn C c exc hz hfl)) (pa_cons pe_bl pa_nil hst) hbase hfew hline hst hpl))).run pins s σ H Dd I q
  · refine ⟨ρ, F, F0, H0, ⟨S.sl, S.gr, S.nw⟩, ?_⟩
    unfold sTry at P
    cases e : mb ρ with
    | nx ρ' => rw [e] at P; exact P
    | brk ρ' => rw [e] at P; exact P
    | ct ρ' => rw [e] at P; exact P
    | ret d => rw [e] at P; exact P
    | bad => rw [e] at P; exact P
    | exc c =>
      rw [e] at P
      have P : PostS G F0 H0 F Dd (if c ∈ cs then .ret (.int ((cs.findIdx fun c' => decide (c' = c)) : Nat)) else .bad) := P
      intro C F' H' gC g
      by_cases hc : c ∈ cs
      · rw [if_pos hc] at P
        intro σ' hl
        obtain ⟨C', gC', exc, ex1, hk⟩ := hT c hc
        have eC : C' = C := by
          have z : X.mg c = some (.ref C) := by rw [hmg]; exact gC
          rw [gC'] at z
          cases z
          rfl
        subst eC
        refine ⟨true, ex1, fun _ a na => ⟨c, hc, C', rfl, rfl, exc, ?_⟩, fun z => nomatch z⟩
        obtain ⟨j, h1, h2, h3⟩ := idx_of hc
        refine ⟨by rw [List.getElem?_set_self (by rw [hl]; exact hil)], hk, by rw [List.length_map, sizeLine_eq]; omega, fun p hp => ⟨.inl ⟨rfl, _, SqL.of upd_same⟩, p, _, .bl true, j, .bl true, rfl, rfl, SqL.of upd_same, rfl, all_bl cs _, h1, rfl, h2, ?_⟩⟩
        rw [h3] at P
        exact P _ F' _ (g.trans (Grow.own g.s hp)) (.int _)
      · rw [if_neg hc] at P
        exact P.elim
end
end Mir
namespace Mir
open PySem PySem.Spec PyProof.Rows L2

/-! ### sum of ints and bools -/
def numD : D → Option Int
  | .int i => some i
  | .bl b => some (if b = true then 1 else 0)
  | _ => none
def numsD : List D → Option (List Int)
  | [] => some []
  | d :: ds => match numD d, numsD ds with
    | some n, some ns => some (n :: ns)
    | _, _ => none
def NumV (x : V) (n : Int) : Prop := x = .int n ∨ ∃ b : Bool, x = .bl b ∧ n = if b = true then 1 else 0
theorem nums_v {K : PySem.W.Frag} {F : Hp} : ∀ {ds : List D} {vs : List V} {ns : List Int}, DvAll K F vs ds → numsD ds = some ns → Paired NumV vs ns
  | [], _, _, h, e => by cases h; cases e; exact .nil
  | d :: ds, _, ns, h, e => by
    cases h with
    | cons h r =>
      unfold numsD at e
      cases q : numD d with
      | none => rw [q] at e; cases e
      | some n =>
        cases q2 : numsD ds with
        | none => rw [q, q2] at e; cases e
        | some ns2 =>
          rw [q, q2] at e
          cases e
          refine .cons ?_ (nums_v r q2)
          cases h with
          | int i => cases q; exact .inl rfl
          | bl b => cases q; exact .inr ⟨b, rfl, rfl⟩
          | _ => cases q
theorem pre_sum (ns : List Int) : ∀ k, k ≤ ns.length → preSum (fun i => ns.getD i 0) k = (ns.take k).sum
  | 0, _ => by rw [List.take_zero]; rfl
  | k + 1, h => by
    have e : ns[k]? = some (ns.getD k 0) := by
      rw [List.getD_eq_getElem?_getD, List.getElem?_eq_getElem (by omega)]
      rfl
    rw [sum_take e, ← pre_sum ns k (by omega)]
    rfl
def rSumN (K : PySem.W.Frag) : List V → Hp → VK → Prop := fun vs H Q => ∃ (a : Addr) (xs : List V) (ns : List Int), vs = [V.ref a] ∧ SqL K H a xs ∧ Paired NumV xs ns ∧ Q (.int ns.sum) H
section
variable {X : Cx} {G : Gm} {e : Expr} {pos p : Pos}
theorem cr_sumN (hc : X.calm = true) : CallR X (.builtin "sum") (rSumN X.K) := by
  intro pins s σ H vs us Q I r h
  obtain ⟨a, xs, ns, rfl, hs, hn, q⟩ := h
  obtain ⟨its, rv, hl, _⟩ := I.list hs
  rw [Vals.ref1 r]
  have hlt : a < s.heap.objs.size := by obtain ⟨o, ho, _⟩ := hl.isList; exact Heap.lt_size ho
  have hlen := rv.length
  have hln := Paired.length hn
  refine call_sum_walkAnyB (wpAny_pyIter_list hl.isList ?_)
  refine ⟨s.heap.objs.size, _, _, _, its.toArray.size, _, _, fun i => ns.getD i 0, rfl, (Walks.list (A := X.A.in1) (I.ok.hd hc) s.heap.objs.size a (Nat.ne_of_lt hlt) its.toArray).toS, ⟨⟨_, Heap.get?_push_size _ rfl, rfl, rfl⟩, hl.isList.push _⟩, fun b hb => ?_, fun i v hv => ?_, fun s' t' hm => ?_⟩
  · show b < (s.heap.push _).objs.size
    rw [Heap.size_push]
    rcases List.mem_cons.mp hb with z | z
    · rw [z]; exact Nat.lt_succ_self _
    · rw [List.mem_singleton.mp z]; exact Nat.lt_succ_of_lt hlt
  · have hv : its[i]? = some v := by simpa using hv
    have hi : i < xs.length := by rw [hlen]; exact (List.getElem?_eq_some_iff.mp hv).1
    obtain ⟨u, hu, ru⟩ := rv.get (List.getElem?_eq_getElem hi)
    rw [hv] at hu
    cases hu
    obtain ⟨n, e1, e2⟩ := paired_get hn (List.getElem?_eq_getElem hi)
    have e3 : ns.getD i 0 = n := by rw [List.getD_eq_getElem?_getD, e1]; rfl
    show NumOf (ns.getD i 0) v
    rw [e3]
    rcases e2 with e2 | ⟨b, e2, e4⟩
    · rw [e2] at ru
      obtain ⟨t, rfl⟩ := ru
      exact .inl ⟨t, rfl⟩
    · rw [e2] at ru
      cases (show v = Value.bool b from ru)
      exact .inr ⟨b, rfl, e4⟩
  · rw [Moved.eq_with hm]
    rw [pre_sum ns _ (by rw [List.size_toArray]; omega), List.take_of_length_le (by rw [List.size_toArray]; omega)]
    refine ⟨.int ns.sum, H, I.kept (t' := s'.toks) fun b o e => hm.heap b o (fun z => ?_) (Heap.get?_push_of_some _ e), ⟨t', rfl⟩, q⟩
    have h1 := Heap.lt_size e
    rw [List.mem_singleton.mp z] at h1
    exact absurd h1 (Nat.lt_irrefl _)
def sumF : List D → R D
  | [.lst ds] => ofO (numsD ds) fun ns => .ok (.int ns.sum)
  | _ => .bad
theorem cm_sum : CallM G (rSumN G.K) sumF := by
  intro F H vs ds Q s h P
  unfold sumF at P
  split at P
  · rename_i es
    obtain ⟨v, rfl, q⟩ := one_of h
    cases q with
    | lst e r =>
      cases z : numsD es with
      | none => rw [z] at P; exact P.elim
      | some ns =>
        rw [z] at P
        exact ⟨_, _, ns, rfl, SqL.of (s _ _ e), nums_v r z, postD P s (.int _)⟩
  · exact P.elim
theorem me_sum {m : Env → R (List D)} (ha : MA X G [e] m) (hx : X.mg "sum" = none) (hK : X.K = G.K := by rfl) (hc : X.calm = true := by rfl) (hg : Gl X "sum" := by rfl) (he : starEach [e] X.env = (false, eval e X.env) :: starEach [] X.env := by rfl) (hpl : (backTo pos (starEach [] X.env)).any (·.1) = false := by rfl) :
    ME X G (.Call (.Name "sum" p) [e] [] pos) (mCall sumF m) := me_callB (cr_sumN hc) (by rw [hK]; exact cm_sum) ha hx (by decide +kernel) hg (by decide) (by decide) he hpl
end
end Mir
/-! reckoning with mirrors: equations for simp -/
namespace Mir
open PySem PySem.Spec PyProof.Rows L2
section
variable {α β : Type}
@[simp] theorem R_bind_ok (a : α) (f : α → R β) : (R.ok a).bind f = f a := rfl
@[simp] theorem R_bind_exc (c : Str) (f : α → R β) : (R.exc c : R α).bind f = .exc c := rfl
@[simp] theorem R_bind_bad (f : α → R β) : (R.bad : R α).bind f = .bad := rfl
@[simp] theorem R_bind_ite {c : Prop} [Decidable c] (x y : R α) (f : α → R β) : (if c then x else y).bind f = if c then x.bind f else y.bind f := by split <;> rfl
@[simp] theorem R_to_ok (a : α) (f : α → RS) : (R.ok a).to f = f a := rfl
@[simp] theorem R_to_exc (c : Str) (f : α → RS) : (R.exc c : R α).to f = .exc c := rfl
@[simp] theorem R_to_bad (f : α → RS) : (R.bad : R α).to f = .bad := rfl
@[simp] theorem R_to_ite {c : Prop} [Decidable c] (x y : R α) (f : α → RS) : (if c then x else y).to f = if c then x.to f else y.to f := by split <;> rfl
@[simp] theorem nx_ok' (a : α) : nx (R.ok a) = .ok a := rfl
@[simp] theorem ofO_some (a : α) (f : α → R β) : ofO (some a) f = f a := rfl
@[simp] theorem ofO_none (f : α → R β) : ofO (none : Option α) f = .bad := rfl
end
def slotD : Option Slot → R D
  | some (.fz d) => .ok d
  | _ => .bad
@[simp] theorem slotD_fz (d : D) : slotD (some (.fz d)) = .ok d := rfl
section
variable (ρ : Env) (a b c : Env → R D) (t u : Env → R Bool) (m r : Env → R (List D)) (s v : Env → RS)
@[simp] theorem mVar_eq (i : Nat) : mVar i ρ = slotD ρ[i]? := by unfold mVar slotD; rfl
@[simp] theorem mC_eq (d : D) : mC d ρ = .ok d := rfl
@[simp] theorem mB_eq (f : D → D → R D) : mB f a b ρ = (a ρ).bind fun x => (b ρ).bind fun y => f x y := rfl
@[simp] theorem mU_eq (f : D → R D) : mU f a ρ = (a ρ).bind f := rfl
@[simp] theorem mUT_eq (f : D → R Bool) : mUT f a ρ = (a ρ).bind f := rfl
@[simp] theorem mBT_eq (f : D → D → R Bool) : mBT f a b ρ = (a ρ).bind fun x => (b ρ).bind fun y => f x y := rfl
@[simp] theorem mNil_eq : mNil ρ = .ok [] := rfl
@[simp] theorem mCons_eq : mCons a m ρ = (a ρ).bind fun x => (m ρ).bind fun xs => .ok (x :: xs) := rfl
@[simp] theorem mTest_eq : mTest a ρ = (a ρ).bind blOf := rfl
@[simp] theorem mAnd_eq : mAnd t u ρ = (t ρ).bind fun x => if x = true then u ρ else .ok false := rfl
@[simp] theorem mOr_eq : mOr t u ρ = (t ρ).bind fun x => if x = true then .ok true else u ρ := rfl
@[simp] theorem mNot_eq : mNot t ρ = (t ρ).bind fun x => .ok (!x) := rfl
@[simp] theorem mIf_eq : mIf t a b ρ = (t ρ).bind fun x => if x = true then a ρ else b ρ := rfl
@[simp] theorem mAndV_eq : mAndV a b ρ = (a ρ).bind fun x => (blOf x).bind fun k => if k = true then b ρ else .ok (.bl false) := rfl
@[simp] theorem mOrV_eq : mOrV a b ρ = (a ρ).bind fun x => (blOf x).bind fun k => if k = true then .ok (.bl true) else b ρ := rfl
@[simp] theorem mNotV_eq : mNotV a ρ = (a ρ).bind fun x => (blOf x).bind fun k => .ok (.bl (!k)) := rfl
@[simp] theorem mTup_eq : mTup m ρ = (m ρ).bind fun ds => if ds.length ≤ sizeLine then .ok (.tup ds) else .bad := rfl
@[simp] theorem mLst_eq : mLst m ρ = (m ρ).bind fun ds => if ds.length ≤ sizeLine then .ok ds else .bad := rfl
@[simp] theorem mFz_eq : mFz m ρ = (m ρ).bind fun ds => .ok (.lst ds) := rfl
@[simp] theorem mCall_eq (f : List D → R D) : mCall f m ρ = (m ρ).bind f := rfl
@[simp] theorem mFn_eq (n : Nat) (f : List D → R D) : mFn n f m ρ = (m ρ).bind fun ds => if ds.length = n then f ds else .bad := rfl
@[simp] theorem mCh_eq (f g : D → D → R D) : mCh f g a b c ρ = (a ρ).bind fun x => (b ρ).bind fun y => (f x y).bind fun k => (blOf k).bind fun k => if k = true then (c ρ).bind fun z => g y z else .ok (.bl false) := rfl
@[simp] theorem mSl_eq (lo hi : Env → R (Option Int)) : mSl a lo hi ρ = (a ρ).bind fun x => (lo ρ).bind fun l => (hi ρ).bind fun h => slD x l h := rfl
@[simp] theorem mNo_eq : mNo ρ = .ok none := rfl
def intO : D → R (Option Int)
  | .int i => .ok (some i)
  | _ => .bad
@[simp] theorem intO_int (i : Int) : intO (.int i) = .ok (some i) := rfl
@[simp] theorem mSome_eq : mSome a ρ = (a ρ).bind intO := by unfold mSome intO; rfl
@[simp] theorem mSeq_eq (f : D → R (List D)) : mSeq f a ρ = (a ρ).bind f := rfl
@[simp] theorem mSeqs_eq (f : List D → R (List D)) : mSeqs f m ρ = (m ρ).bind f := rfl
@[simp] theorem mPeekT_eq : mPeekT t ρ = t (ρ.map Slot.peek) := rfl
@[simp] theorem peek_fz (d : D) : Slot.peek (.fz d) = .fz d := rfl
@[simp] theorem peek_un : Slot.peek .un = .un := rfl
@[simp] theorem peek_ol (ds : List D) : Slot.peek (.ol ds) = .fz (.lst ds) := rfl
@[simp] theorem blOf_bl (k : Bool) : blOf (.bl k) = .ok k := rfl
@[simp] theorem truth_bl (k : Bool) : truth (.bl k) = .ok k := rfl
@[simp] theorem truth_lst (ds : List D) : truth (.lst ds) = .ok (!ds.isEmpty) := rfl
@[simp] theorem truth_tup (ds : List D) : truth (.tup ds) = .ok (!ds.isEmpty) := rfl
@[simp] theorem mLc_eq (vs : List Nat) (mt : TgF) : mLc vs m mt t a ρ = (m ρ).bind fun ds => if ds.length ≤ 1000000 then nx (lcGo mt t a (wipeE ρ vs) ds) else .bad := rfl
def seqR : RS → (Env → RS) → RS
  | .nx ρ, b => b ρ
  | r, _ => r
@[simp] theorem seqR_nx (b : Env → RS) : seqR (.nx ρ) b = b ρ := rfl
@[simp] theorem seqR_ret (d : D) (b : Env → RS) : seqR (.ret d) b = .ret d := rfl
@[simp] theorem seqR_exc (x : Str) (b : Env → RS) : seqR (.exc x) b = .exc x := rfl
@[simp] theorem seqR_bad (b : Env → RS) : seqR .bad b = .bad := rfl
@[simp] theorem seqR_brk (b : Env → RS) : seqR (.brk ρ) b = .brk ρ := rfl
@[simp] theorem seqR_ct (b : Env → RS) : seqR (.ct ρ) b = .ct ρ := rfl
@[simp] theorem seqR_ite {p : Prop} [Decidable p] (x y : RS) (b : Env → RS) : seqR (if p then x else y) b = if p then seqR x b else seqR y b := by split <;> rfl
@[simp] theorem sSeq_eq : sSeq s v ρ = seqR (s ρ) v := by
  unfold sSeq
  cases s ρ <;> rfl
@[simp] theorem sSkip_eq : sSkip ρ = .nx ρ := rfl
@[simp] theorem sSet_eq (i : Nat) : sSet i a ρ = (a ρ).to fun d => .nx (ρ.set i (.fz d)) := rfl
@[simp] theorem sSetO_eq (i : Nat) : sSetO i m ρ = (m ρ).to fun ds => .nx (ρ.set i (.ol ds)) := rfl
@[simp] theorem sRet_eq : sRet a ρ = (a ρ).to .ret := rfl
@[simp] theorem sDrop_eq : sDrop a ρ = (a ρ).to fun _ => .nx ρ := rfl
@[simp] theorem sIf_eq : sIf t s v ρ = (t ρ).to fun k => if k = true then s ρ else v ρ := rfl
@[simp] theorem sUnp_eq (mt : TgF) : sUnp mt a ρ = (a ρ).to fun d => (nx (mt d ρ)).to .nx := rfl
@[simp] theorem sFor_eq (mt : TgF) : sFor m mt s ρ = (m ρ).to fun ds => forGo mt s ds ρ := rfl
@[simp] theorem sWhile_eq (n : Env → Nat) : sWhile n t s ρ = whGo t s (n ρ) ρ := rfl
def parS (i j : Nat) (ρ : Env) : List D → RS
  | [d, e] => .nx ((ρ.set i (.fz d)).set j (.fz e))
  | _ => .bad
@[simp] theorem parS_two (i j : Nat) (d e : D) : parS i j ρ [d, e] = .nx ((ρ.set i (.fz d)).set j (.fz e)) := rfl
@[simp] theorem sPar_eq (i j : Nat) : sPar i j m ρ = (m ρ).to (parS i j ρ) := by
  unfold sPar parS
  rfl
end
def outR : RS → R D
  | .nx _ => .ok .non
  | .ret d => .ok d
  | .exc c => .exc c
  | _ => .bad
@[simp] theorem outR_nx (ρ : Env) : outR (.nx ρ) = .ok .non := rfl
@[simp] theorem outR_ret (d : D) : outR (.ret d) = .ok d := rfl
@[simp] theorem outR_exc (c : Str) : outR (.exc c) = .exc c := rfl
@[simp] theorem outR_bad : outR .bad = .bad := rfl
@[simp] theorem outR_ite {p : Prop} [Decidable p] (x y : RS) : outR (if p then x else y) = if p then outR x else outR y := by split <;> rfl
theorem runD_eq (n : Nat) (m : Env → RS) (ds : List D) : runD n m ds = outR (m (Mir.envOf n ds)) := by
  unfold runD outR
  cases m (Mir.envOf n ds) <;> rfl
@[simp] theorem addD_int (i j : Int) : addD (.int i) (.int j) = .ok (.int (i + j)) := rfl
@[simp] theorem subD_int (i j : Int) : subD (.int i) (.int j) = .ok (.int (i - j)) := rfl
@[simp] theorem mulD_int (i j : Int) : mulD (.int i) (.int j) = if (-(2 ^ 64) < i ∧ i < 2 ^ 64) ∨ (-(2 ^ 64) < j ∧ j < 2 ^ 64) then .ok (.int (i * j)) else .bad := rfl
@[simp] theorem fdivD_int (i j : Int) : fdivD (.int i) (.int j) = if 0 < j ∧ j < 2 ^ 64 then .ok (.int (i / j)) else .bad := rfl
@[simp] theorem modD_int (i j : Int) : modD (.int i) (.int j) = if 0 < j then .ok (.int (i % j)) else .bad := rfl
@[simp] theorem powD_int (i j : Int) : powD (.int i) (.int j) = if 0 ≤ j ∧ j ≤ 64 ∧ -(2 ^ 63) ≤ i ∧ i ≤ 2 ^ 63 then .ok (.int (i ^ j.toNat)) else .bad := rfl
@[simp] theorem addD_str (s t : Str) : addD (.str s) (.str t) = if s.length + t.length ≤ sizeLine then .ok (.str (s ++ t)) else .bad := rfl
@[simp] theorem addD_lst (s t : List D) : addD (.lst s) (.lst t) = if s.length + t.length ≤ sizeLine then .ok (.lst (s ++ t)) else .bad := rfl
@[simp] theorem negD_int (i : Int) : negD (.int i) = .ok (.int (-i)) := rfl
@[simp] theorem intF_int (i : Int) : intF [.int i] = .ok (.int i) := rfl
@[simp] theorem lenF_lst (ds : List D) : lenF [.lst ds] = .ok (.int ds.length) := rfl
@[simp] theorem lenF_rol (ds : List D) : lenF [.rol ds] = .ok (.int ds.length) := rfl
@[simp] theorem lenF_tup (ds : List D) : lenF [.tup ds] = .ok (.int ds.length) := rfl
@[simp] theorem lenF_str (z : Str) : lenF [.str z] = if z.length ≤ sizeLine then .ok (.int z.length) else .bad := rfl
@[simp] theorem cmp_lt (i j : Int) : cmpF .Lt (.int i) (.int j) = .ok (.bl (decide (i < j))) := rfl
@[simp] theorem cmp_le (i j : Int) : cmpF .LtE (.int i) (.int j) = .ok (.bl (decide (i ≤ j))) := rfl
@[simp] theorem cmp_gt (i j : Int) : cmpF .Gt (.int i) (.int j) = .ok (.bl (decide (j < i))) := rfl
@[simp] theorem cmp_ge (i j : Int) : cmpF .GtE (.int i) (.int j) = .ok (.bl (decide (j ≤ i))) := rfl
@[simp] theorem ixD_lst (ds : List D) (k : Int) : ixD (.lst ds) (.int k) = ofO (atI ds k) .ok := rfl
@[simp] theorem ixD_rol (ds : List D) (k : Int) : ixD (.rol ds) (.int k) = ofO (atI ds k) .ok := rfl
@[simp] theorem ixD_tup (ds : List D) (k : Int) : ixD (.tup ds) (.int k) = ofO (atI ds k) .ok := rfl
@[simp] theorem ixD_str (z : Str) (k : Int) : ixD (.str z) (.int k) = if z.length ≤ sizeLine then ofO (atI z.cps.toList k) fun c => .ok (.str ⟨#[c]⟩) else .bad := rfl
@[simp] theorem tupF_lst (ds : List D) : tupF [.lst ds] = .ok (.tup ds) := rfl
@[simp] theorem tgName_eq (i : Nat) (d : D) (ρ : Env) : tgName i d ρ = .ok (ρ.set i (.fz d)) := rfl
@[simp] theorem rng1_eq (n : Int) : rng1 [.int n] = if -(2 ^ 62) ≤ n ∧ n < 2 ^ 62 then .ok (rangeD 0 n.toNat) else .bad := rfl
theorem at_lt {α : Type} (xs : List α) {k : Int} (h0 : 0 ≤ k) (h1 : k < xs.length) : ∃ h : k.toNat < xs.length, atI xs k = some xs[k.toNat] := by
  have h : k.toNat < xs.length := by omega
  refine ⟨h, ?_⟩
  unfold atI ixN
  rw [if_pos h0, if_pos h1]
  exact List.getElem?_eq_getElem h
theorem line_le {n : Nat} (h : n ≤ 16777216) : n ≤ sizeLine := by rw [sizeLine_eq]; exact h
/-! shapes -/
theorem shp_ints (ns : List Int) : PyData.canLayAll0 (toPyAll (ns.map D.int)) = true := by
  induction ns with
  | nil => rfl
  | cons n ns ih => rw [List.map_cons, toPyAll, PyData.canLayAll0, ih]; rfl
theorem depth_ints (ns : List Int) : PyData.depthAll (toPyAll (ns.map D.int)) = 0 := by
  induction ns with
  | nil => rfl
  | cons n ns ih => rw [List.map_cons, toPyAll, PyData.depthAll, ih]; rfl
theorem shp_rol (ns : List Int) : shp (.rol (ns.map D.int)) = true := by
  unfold shp SeqAt.shaped
  rw [toPy, PyData.canLay0, shp_ints, PyData.depth, depth_ints]
  rfl
end Mir
/-! more equations for simp -/
namespace Mir
open PySem PySem.Spec PyProof.Rows L2
section
variable (x y : D)
@[simp] theorem cmp_eq : cmpF .Eq x y = eqD x y := rfl
@[simp] theorem cmp_ne : cmpF .NotEq x y = neD x y := rfl
@[simp] theorem cmp_in : cmpF .In x y = inD x y := rfl
@[simp] theorem cmp_nin : cmpF .NotIn x y = ninD x y := rfl
@[simp] theorem cmp_is : cmpF .Is x y = isD x y := rfl
@[simp] theorem cmp_isn : cmpF .IsNot x y = isnD x y := rfl
@[simp] theorem isD_non : isD x .non = .ok (.bl (isNon x)) := rfl
@[simp] theorem isnD_non : isnD x .non = .ok (.bl (!isNon x)) := rfl
@[simp] theorem isNon_non : isNon .non = true := rfl
@[simp] theorem isNon_int (i : Int) : isNon (.int i) = false := rfl
@[simp] theorem isNon_tup (ds : List D) : isNon (.tup ds) = false := rfl
end
theorem ne_rol_nil (ns : List Int) : neD (.rol (ns.map D.int)) (.lst []) = .ok (.bl (!ns.isEmpty)) := by
  unfold neD
  rw [if_pos ⟨shp_rol ns, rfl⟩]
  cases ns <;> rfl
/-- a text of the letters '.', 'a', 'b' -/
def txt (w : List Nat) : D := .str ⟨w.toArray⟩
def abc (w : List Nat) : Bool := w.all fun c => c == 46 || c == 97 || c == 98
theorem txt_shp (w : List Nat) (h : abc w = true) : shp (txt w) = true := by
  unfold shp SeqAt.shaped txt
  rw [toPy, PyData.canLay0, PyData.depth]
  simp only [Bool.and_eq_true, decide_eq_true_eq]
  refine ⟨?_, by omega⟩
  unfold PyData.strOk
  simp only [List.all_toArray]
  unfold abc at h
  rw [List.all_eq_true] at h ⊢
  intro c hc
  have := h c hc
  simp only [Bool.or_eq_true, beq_iff_eq] at this
  simp only [decide_eq_true_eq]
  omega
/-! comprehensions -/
theorem lcGo_of {mt : TgF} {tt : Env → R Bool} {me : Env → R D} {ρ : Env} {p : D → Bool} {g : D → D} : ∀ ds : List D, (∀ d ∈ ds, ∃ ρ1, mt d ρ = .ok ρ1 ∧ tt ρ1 = .ok (p d) ∧ (p d = true → me ρ1 = .ok (g d))) → lcGo mt tt me ρ ds = .ok ((ds.filter p).map g)
  | [], _ => rfl
  | d :: ds, h => by
    obtain ⟨ρ1, h1, h2, h3⟩ := h d (.head _)
    have ih := lcGo_of ds fun x hx => h x (.tail _ hx)
    unfold lcGo
    rw [h1, nx_ok', R_bind_ok, h2, nx_ok', R_bind_ok, List.filter_cons]
    cases hp : p d with
    | true => rw [if_pos rfl, if_pos rfl, h3 hp, nx_ok', R_bind_ok, ih]; rfl
    | false => rw [if_neg Bool.false_ne_true, if_neg Bool.false_ne_true]; exact ih
theorem lcGo_all {mt : TgF} {me : Env → R D} {ρ : Env} {g : D → D} (ds : List D) (h : ∀ d ∈ ds, ∃ ρ1, mt d ρ = .ok ρ1 ∧ me ρ1 = .ok (g d)) : lcGo mt mYes me ρ ds = .ok (ds.map g) := by
  have := lcGo_of (mt := mt) (tt := mYes) (me := me) (ρ := ρ) (p := fun _ => true) (g := g) ds fun d hd => by
    obtain ⟨ρ1, h1, h2⟩ := h d hd
    exact ⟨ρ1, h1, rfl, fun _ => h2⟩
  rw [this, List.filter_eq_self.mpr (fun _ _ => rfl)]
/-- elements by a relation -/
theorem lcGo_rel {mt : TgF} {me : Env → R D} {ρ : Env} {r : D → Prop} : ∀ ds : List D, (∀ d ∈ ds, ∃ ρ1 y, mt d ρ = .ok ρ1 ∧ me ρ1 = .ok y ∧ r y) → ∃ ys, lcGo mt mYes me ρ ds = .ok ys ∧ ys.length = ds.length ∧ ∀ y ∈ ys, r y
  | [], _ => ⟨[], rfl, rfl, fun _ h => nomatch h⟩
  | d :: ds, h => by
    obtain ⟨ρ1, y, h1, h2, h3⟩ := h d (.head _)
    obtain ⟨ys, e, l, q⟩ := lcGo_rel ds fun x hx => h x (.tail _ hx)
    refine ⟨y :: ys, ?_, by simp [l], ?_⟩
    · unfold lcGo
      rw [h1, nx_ok', R_bind_ok]
      show (nx (R.ok true)).bind _ = _
      rw [nx_ok', R_bind_ok, if_pos rfl, h2, nx_ok', R_bind_ok, e]
      rfl
    · intro z hz
      rcases List.mem_cons.mp hz with rfl | hz
      · exact h3
      · exact q z hz
/-- a loop that goes through, its state by a relation -/
theorem forGo_nx {mt : TgF} {mb : Env → RS} {I : Env → Prop} : ∀ (ds : List D) (ρ : Env), I ρ → (∀ d ∈ ds, ∀ ρ, I ρ → ∃ ρ1 ρ2, mt d ρ = .ok ρ1 ∧ mb ρ1 = .nx ρ2 ∧ I ρ2) → ∃ ρ', forGo mt mb ds ρ = .nx ρ' ∧ I ρ'
  | [], ρ, h, _ => ⟨ρ, rfl, h⟩
  | d :: ds, ρ, h, hb => by
    obtain ⟨ρ1, ρ2, h1, h2, h3⟩ := hb d (.head _) ρ h
    obtain ⟨ρ', e, q⟩ := forGo_nx ds ρ2 h3 fun x hx => hb x (.tail _ hx)
    refine ⟨ρ', ?_, q⟩
    unfold forGo
    rw [h1, nx_ok', R_to_ok, h2]
    exact e
end Mir
namespace Mir
open PySem PySem.Spec PyProof.Rows L2
def isBl (b : Bool) : R D → Bool
  | .ok (.bl c) => c == b
  | _ => false
theorem of_isBl {b : Bool} {r : R D} (h : isBl b r = true) : r = .ok (.bl b) := by
  unfold isBl at h
  split at h
  · rw [beq_iff_eq.mp h]
  · cases h
end Mir
namespace Mir
open PySem PySem.Spec PyProof.Rows L2
section
variable (ρ : Env) (d e : D) (ds es : List D)
@[simp] theorem tgTup_eq (n : Nat) (m : TgsF) : tgTup n m (.tup ds) ρ = if ds.length = n then m ds ρ else .bad := rfl
@[simp] theorem tgCons_eq (m : TgF) (r : TgsF) : tgCons m r (d :: ds) ρ = (m d ρ).bind fun ρ1 => r ds ρ1 := rfl
@[simp] theorem tgNil_eq : tgNil [] ρ = .ok ρ := rfl
@[simp] theorem anyOf_lst : anyOf (.lst ds) = .ok ds := rfl
@[simp] theorem anyOf_tup : anyOf (.tup ds) = .ok ds := rfl
@[simp] theorem anyOf_str (z : Str) : anyOf (.str z) = .ok (signsD z) := rfl
@[simp] theorem enF_lst : enF [.lst ds] = .ok (enumD ds) := rfl
@[simp] theorem enF_tup : enF [.tup ds] = .ok (enumD ds) := rfl
@[simp] theorem enF_str (z : Str) : enF [.str z] = .ok (enumD (signsD z)) := rfl
@[simp] theorem zipF_lst : zipF [.lst ds, .lst es] = .ok (zipD ds es) := rfl
@[simp] theorem slD_lst (lo hi : Option Int) : slD (.lst ds) lo hi = .ok (.lst (cutD ds lo hi)) := rfl
@[simp] theorem slD_tup (lo hi : Option Int) : slD (.tup ds) lo hi = .ok (.tup (cutD ds lo hi)) := rfl
@[simp] theorem wipe_nil : wipeE ρ [] = ρ := rfl
@[simp] theorem wipe_cons (v : Nat) (vs : List Nat) : wipeE ρ (v :: vs) = (wipeE ρ vs).set v .un := rfl
@[simp] theorem mJoin_eq (o a : Env → R D) (z : Str) : mJoin (mC (.str z)) a ρ = (a ρ).bind fun y => joinD (.str z) y := rfl
@[simp] theorem rng2_eq (i j : Int) : rng2 [.int i, .int j] = if -(2 ^ 62) ≤ i ∧ i < 2 ^ 62 ∧ -(2 ^ 62) ≤ j ∧ j < 2 ^ 62 then .ok (rangeD i (j - i).toNat) else .bad := rfl
@[simp] theorem range_len (i : Int) (n : Nat) : (rangeD i n).length = n := by unfold rangeD; rw [List.length_map, List.length_range]
theorem range_mem {i : Int} {n : Nat} {d : D} (h : d ∈ rangeD i n) : ∃ j : Nat, j < n ∧ d = .int (i + j) := by
  unfold rangeD at h
  obtain ⟨j, hj, e⟩ := List.mem_map.mp h
  exact ⟨j, List.mem_range.mp hj, e.symm⟩
end
theorem signs_txt (w : List Nat) : signsD ⟨w.toArray⟩ = w.map fun c => txt [c] := by
  unfold signsD txt
  rfl
theorem glued_one : ∀ (w : List Nat), Str.join ⟨#[]⟩ (w.map fun c => (⟨#[c]⟩ : Str)) = ⟨w.toArray⟩
  | [] => rfl
  | [c] => rfl
  | c :: d :: w => by
    have ih := glued_one (d :: w)
    show ((⟨#[c]⟩ : Str) ++ ⟨#[]⟩) ++ Str.join ⟨#[]⟩ ((d :: w).map fun c => (⟨#[c]⟩ : Str)) = _
    rw [ih]
    show (⟨(#[c] ++ #[]) ++ (d :: w).toArray⟩ : Str) = _
    simp
end Mir
namespace Mir
open PySem PySem.Spec PyProof.Rows L2
theorem fold_one : ∀ (r : List Nat) (A : Array Nat), (r.map fun c => (⟨#[c]⟩ : Str)).foldl (fun acc p => acc ++ (#[] : Array Nat) ++ p.cps) A = A ++ r.toArray
  | [], A => by simp
  | c :: r, A => by
    rw [List.map_cons, List.foldl_cons, fold_one r]
    simp
theorem join_one (w : List Nat) : Txt.join ⟨#[]⟩ (w.map fun c => (⟨#[c]⟩ : Str)) = ⟨w.toArray⟩ := by
  cases w with
  | nil => rfl
  | cons c r =>
    show (⟨(r.map fun c => (⟨#[c]⟩ : Str)).foldl (fun acc p => acc ++ (#[] : Array Nat) ++ p.cps) #[c]⟩ : Str) = _
    rw [fold_one]
    simp
theorem strs_one (w : List Nat) : strsOf (w.map fun c => txt [c]) = some (w.map fun c => (⟨#[c]⟩ : Str)) := by
  induction w with
  | nil => rfl
  | cons c r ih =>
    show (strsOf (r.map fun c => txt [c])).map _ = _
    rw [ih]
    rfl
theorem sum_one (w : List Nat) : ((w.map fun c => (⟨#[c]⟩ : Str)).map (·.length)).sum = w.length := by
  induction w with
  | nil => rfl
  | cons c r ih =>
    rw [List.map_cons, List.map_cons, List.sum_cons, ih, List.length_cons]
    show 1 + _ = _
    omega
theorem empty_str : ("" : Str) = ⟨#[]⟩ := by decide +kernel
theorem joinD_one (w : List Nat) (h : w.length ≤ 1000) : joinD (.str "") (.lst (w.map fun c => txt [c])) = .ok (txt w) := by
  rw [empty_str]
  unfold joinD
  simp only
  rw [strs_one, ofO_some, sum_one, if_pos (by simp [Str.length]; omega), join_one]
  rfl
/-- texts of one letter each, from a list of letters -/
theorem ones_of {ls : List Nat} : ∀ ys : List D, (∀ y ∈ ys, ∃ c ∈ ls, y = txt [c]) → ∃ w : List Nat, ys = (w.map fun c => txt [c]) ∧ ∀ c ∈ w, c ∈ ls
  | [], _ => ⟨[], rfl, fun _ h => nomatch h⟩
  | y :: ys, h => by
    obtain ⟨c, hc, e⟩ := h y (.head _)
    obtain ⟨w, ew, hw⟩ := ones_of ys fun z hz => h z (.tail _ hz)
    refine ⟨c :: w, by rw [e, ew, List.map_cons], fun z hz => ?_⟩
    rcases List.mem_cons.mp hz with rfl | hz
    · exact hc
    · exact hw z hz
end Mir
namespace Mir
open PySem PySem.Spec PyProof.Rows L2
def isTxt (w : List Nat) : R D → Bool
  | .ok (.str s) => decide (s = ⟨w.toArray⟩)
  | _ => false
theorem of_isTxt {w : List Nat} {r : R D} (h : isTxt w r = true) : r = .ok (txt w) := by
  unfold isTxt at h
  split at h
  · rw [of_decide_eq_true h]; rfl
  · cases h
@[simp] theorem ixD_txt (w : List Nat) (k : Int) : ixD (txt w) (.int k) = if w.length ≤ sizeLine then ofO (atI w k) fun c => .ok (txt [c]) else .bad := by
  unfold txt
  rw [ixD_str]
  simp [Str.length]
@[simp] theorem lenF_txt (w : List Nat) : lenF [txt w] = if w.length ≤ sizeLine then .ok (.int w.length) else .bad := by
  unfold txt
  rw [lenF_str]
  simp [Str.length]
@[simp] theorem addD_txt (v w : List Nat) : addD (txt v) (txt w) = if v.length + w.length ≤ sizeLine then .ok (txt (v ++ w)) else .bad := by
  unfold txt
  rw [addD_str]
  have : (⟨v.toArray⟩ : Str) ++ (⟨w.toArray⟩ : Str) = ⟨(v ++ w).toArray⟩ := by
    show (⟨v.toArray ++ w.toArray⟩ : Str) = _
    simp
  rw [this]
  simp [Str.length]
@[simp] theorem anyOf_txt (w : List Nat) : anyOf (txt w) = .ok (w.map fun c => txt [c]) := by
  unfold txt
  rw [anyOf_str, signs_txt]
  rfl
@[simp] theorem enF_txt (w : List Nat) : enF [txt w] = .ok (enumD (w.map fun c => txt [c])) := by
  unfold txt
  rw [enF_str, signs_txt]
  rfl
theorem cutS_txt (w : List Nat) (lo hi : Option Int) : True := trivial
end Mir
namespace Mir
open PySem PySem.Spec PyProof.Rows L2
@[simp] theorem inD_one (c : Nat) (l : List Nat) : inD (txt [c]) (txt l) = .ok (.bl (decide (c ∈ l))) := rfl
@[simp] theorem allF_map {α : Type} (l : List α) (f : α → Bool) : allF [.lst (l.map fun x => .bl (f x))] = .ok (.bl (l.all f)) := by
  have : boolsOf (l.map fun x => D.bl (f x)) = some (l.map f) := by
    induction l with
    | nil => rfl
    | cons x r ih =>
      simp only [List.map_cons]
      unfold boolsOf
      rw [ih]
      rfl
  unfold allF
  simp only
  rw [this, ofO_some, List.all_map]
  rfl
end Mir
namespace Mir
open PySem PySem.Spec PyProof.Rows L2
/-! lists of numbers -/
theorem shp_lints (ns : List Int) : shp (.lst (ns.map D.int)) = true := by
  unfold shp SeqAt.shaped
  rw [toPy, PyData.canLay0, shp_ints, PyData.depth, depth_ints]
  rfl
theorem ne_lst_nil (ns : List Int) : neD (.lst (ns.map D.int)) (.lst []) = .ok (.bl (!ns.isEmpty)) := by
  unfold neD
  rw [if_pos ⟨shp_lints ns, rfl⟩]
  cases ns <;> rfl
theorem any_int (k : Int) (ns : List Int) : ((ns.map D.int).any fun z => eqv z (.int k)) = decide (k ∈ ns) := by
  induction ns with
  | nil => rfl
  | cons n ns ih =>
    rw [List.map_cons, List.any_cons, ih]
    show ((n == k) || _) = _
    by_cases h : n = k
    · simp [h]
    · have h2 : ¬ k = n := fun e => h e.symm
      simp [h, h2]
theorem inB_int (k : Int) (ns : List Int) : inB (.int k) (.lst (ns.map D.int)) = .ok (decide (k ∈ ns)) := by
  show (if shp (.int k) = true ∧ shp (.lst (ns.map D.int)) = true then R.ok ((ns.map D.int).any fun z => eqv z (.int k)) else .bad) = _
  rw [if_pos ⟨rfl, shp_lints ns⟩, any_int]
@[simp] theorem inD_int (k : Int) (ns : List Int) : inD (.int k) (.lst (ns.map D.int)) = .ok (.bl (decide (k ∈ ns))) := by
  unfold inD
  rw [inB_int]
  rfl
@[simp] theorem ninD_int (k : Int) (ns : List Int) : ninD (.int k) (.lst (ns.map D.int)) = .ok (.bl (!decide (k ∈ ns))) := by
  unfold ninD
  rw [inB_int]
  rfl
theorem lcGo_ints {i : Nat} {tt : Env → R Bool} {me : Env → R D} {ρ : Env} {p : Int → Bool} (l : List Int) (h : ∀ m ∈ l, tt (ρ.set i (.fz (.int m))) = .ok (p m)) (h2 : ∀ m ∈ l, me (ρ.set i (.fz (.int m))) = .ok (.int m)) : lcGo (tgName i) tt me ρ (l.map D.int) = .ok ((l.filter p).map D.int) := by
  induction l with
  | nil => rfl
  | cons m l ih =>
    have ih := ih (fun x hx => h x (.tail _ hx)) fun x hx => h2 x (.tail _ hx)
    rw [List.map_cons]
    unfold lcGo
    rw [tgName_eq, nx_ok', R_bind_ok, h m (.head _), nx_ok', R_bind_ok, List.filter_cons, ih]
    cases p m with
    | true => rw [if_pos rfl, if_pos rfl, h2 m (.head _), nx_ok', R_bind_ok]; rfl
    | false => rfl
theorem range_map (n : Nat) : rangeD 0 n = ((List.range n).map fun i : Nat => (i : Int)).map D.int := by
  unfold rangeD
  rw [List.map_map]
  exact List.map_congr_left fun i _ => by show D.int (0 + (i : Int)) = _; rw [Int.zero_add]; rfl
/-- the places of what is true, from a number on -/
def heldFrom : Nat → List Bool → List Int
  | _, [] => []
  | i, true :: r => (i : Int) :: heldFrom (i + 1) r
  | i, false :: r => heldFrom (i + 1) r
def enumFrom (i : Nat) (ds : List D) : List D := (List.range' i ds.length).zipWith (fun i d => .tup [.int (i : Nat), d]) ds
theorem enum_from (ds : List D) : enumD ds = enumFrom 0 ds := by
  unfold enumD enumFrom
  rw [List.range_eq_range']
theorem enumFrom_cons (i : Nat) (d : D) (ds : List D) : enumFrom i (d :: ds) = .tup [.int (i : Nat), d] :: enumFrom (i + 1) ds := rfl
theorem lcGo_held {i j : Nat} {tt : Env → R Bool} {me : Env → R D} {ρ : Env} {p : Nat → Bool} (w : List Nat) (n : Nat) (h : ∀ (m : Nat), ∀ c ∈ w, tt ((ρ.set i (.fz (.int (m : Nat)))).set j (.fz (txt [c]))) = .ok (p c)) (h2 : ∀ (m : Nat), ∀ c ∈ w, me ((ρ.set i (.fz (.int (m : Nat)))).set j (.fz (txt [c]))) = .ok (.int (m : Nat))) :
    lcGo (tgTup 2 (tgCons (tgName i) (tgCons (tgName j) tgNil))) tt me ρ (enumFrom n (w.map fun c => txt [c])) = .ok ((heldFrom n (w.map p)).map D.int) := by
  induction w generalizing n with
  | nil => rfl
  | cons c w ih =>
    have ih := ih (n + 1) (fun m x hx => h m x (.tail _ hx)) fun m x hx => h2 m x (.tail _ hx)
    rw [List.map_cons, enumFrom_cons]
    unfold lcGo
    have e : tgTup 2 (tgCons (tgName i) (tgCons (tgName j) tgNil)) (.tup [.int (n : Nat), txt [c]]) ρ = .ok ((ρ.set i (.fz (.int (n : Nat)))).set j (.fz (txt [c]))) := rfl
    rw [e, nx_ok', R_bind_ok, h n c (.head _), nx_ok', R_bind_ok, ih, List.map_cons]
    cases p c with
    | true => rw [if_pos rfl, h2 n c (.head _), nx_ok', R_bind_ok]; rfl
    | false => rfl
theorem enum_txt_len (n : Nat) (ds : List D) : (enumFrom n ds).length = ds.length := by
  unfold enumFrom
  rw [List.length_zipWith, List.length_range', Nat.min_self]
theorem held_len (n : Nat) (bs : List Bool) : (heldFrom n bs).length ≤ bs.length := by
  induction bs generalizing n with
  | nil => exact Nat.le_refl _
  | cons b r ih =>
    cases b with
    | true => exact Nat.succ_le_succ (ih _)
    | false => exact Nat.le_succ_of_le (ih _)
/-- pairs of numbers that are kept -/
theorem lcGo_zip {i j k : Nat} {tt : Env → R Bool} {me : Env → R D} {ρ : Env} {p : Int → Int → Bool} {g : Int → Int → Int} : ∀ (a b : List Int), (∀ x y, tt ((ρ.set i (.fz (.int x))).set j (.fz (.int y))) = .ok (p x y)) → (∀ x y, me ((ρ.set i (.fz (.int x))).set j (.fz (.int y))) = .ok (.int (g x y))) →
    lcGo (tgTup 2 (tgCons (tgName i) (tgCons (tgName j) tgNil))) tt me ρ (zipD (a.map D.int) (b.map D.int)) = .ok ((((a.zip b).filter fun q => p q.1 q.2).map fun q => g q.1 q.2).map D.int)
  | [], _, _, _ => rfl
  | _ :: _, [], _, _ => rfl
  | x :: a, y :: b, h, h2 => by
    have ih := lcGo_zip (k := 0) a b h h2
    show lcGo _ _ _ _ (.tup [.int x, .int y] :: zipD (a.map D.int) (b.map D.int)) = _
    unfold lcGo
    have e : tgTup 2 (tgCons (tgName i) (tgCons (tgName j) tgNil)) (.tup [.int x, .int y]) ρ = .ok ((ρ.set i (.fz (.int x))).set j (.fz (.int y))) := rfl
    rw [e, nx_ok', R_bind_ok, h x y, nx_ok', R_bind_ok, ih, List.zip_cons_cons, List.filter_cons]
    cases p x y with
    | true => rw [if_pos rfl, h2 x y, nx_ok', R_bind_ok]; rfl
    | false => rfl
end Mir
namespace Mir
open PySem PySem.Spec PyProof.Rows L2
/-! lists of truth values -/
def bls (bs : List Bool) : List D := bs.map D.bl
def cnt (bs : List Bool) : Nat := (bs.filter id).length
theorem bools_bls (bs : List Bool) : boolsOf (bls bs) = some bs := by
  induction bs with
  | nil => rfl
  | cons b r ih =>
    unfold bls
    rw [List.map_cons]
    unfold boolsOf
    show (boolsOf (bls r)).map _ = _ 
    rw [ih]
    rfl
theorem nums_bls (bs : List Bool) : ∃ ns, numsD (bls bs) = some ns ∧ ns.sum = cnt bs := by
  induction bs with
  | nil => exact ⟨[], rfl, rfl⟩
  | cons b r ih =>
    obtain ⟨ns, e, s⟩ := ih
    refine ⟨(if b then 1 else 0) :: ns, ?_, ?_⟩
    · unfold bls at e ⊢
      rw [List.map_cons]
      unfold numsD
      rw [e]
      cases b <;> rfl
    · rw [List.sum_cons, s]
      unfold cnt
      cases b
      · simp
      · simp; omega
@[simp] theorem sumF_bls (bs : List Bool) : sumF [.lst (bls bs)] = .ok (.int (cnt bs)) := by
  obtain ⟨ns, e, s⟩ := nums_bls bs
  unfold sumF
  simp only
  rw [e, ofO_some, s]
@[simp] theorem allF_bls (bs : List Bool) : allF [.lst (bls bs)] = .ok (.bl (bs.all id)) := by
  unfold allF
  simp only
  rw [bools_bls, ofO_some]
@[simp] theorem anyF_bls (bs : List Bool) : anyF [.lst (bls bs)] = .ok (.bl (bs.any id)) := by
  unfold anyF
  simp only
  rw [bools_bls, ofO_some]
@[simp] theorem len_bls (bs : List Bool) : (bls bs).length = bs.length := List.length_map ..
@[simp] theorem cut_bls (bs : List Bool) (lo hi : Option Int) : Mir.cutD (bls bs) lo hi = bls (Mir.cutD bs lo hi) := by
  unfold Mir.cutD
  rw [len_bls]
  unfold bls
  rw [← List.map_drop, ← List.map_take]
theorem at_bls {bs : List Bool} {k : Int} {b : Bool} (h : atI bs k = some b) : atI (bls bs) k = some (.bl b) := by
  unfold atI at h ⊢
  rw [len_bls]
  cases e : ixN bs.length k with
  | none => rw [e] at h; cases h
  | some j =>
    rw [e] at h
    show (bls bs)[j]? = _
    unfold bls
    rw [List.getElem?_map, show bs[j]? = some b from h]
    rfl
theorem cut_from {α : Type} (xs : List α) (k : Nat) : Mir.cutD xs (some (k : Nat)) none = xs.drop k := by
  unfold Mir.cutD HT.sIx
  simp only
  rw [if_neg (by omega)]
  by_cases h : k ≤ xs.length
  · rw [show min (k : Int).toNat xs.length = k by omega]
    rw [List.take_of_length_le (by rw [List.length_drop]; exact Nat.le_refl _)]
  · rw [show min (k : Int).toNat xs.length = xs.length by omega, List.drop_of_length_le (Nat.le_refl _), List.drop_of_length_le (by omega), List.take_nil]
theorem cut_neg {α : Type} (xs : List α) (k : Int) (h1 : k < 0) (h2 : 0 ≤ xs.length + k) : Mir.cutD xs (some k) none = xs.drop (xs.length + k).toNat := by
  unfold Mir.cutD HT.sIx
  simp only
  rw [if_pos h1, Int.add_comm, List.take_of_length_le (by rw [List.length_drop]; exact Nat.le_refl _)]
theorem lcGo_bls {i : Nat} {me : Env → R D} {ρ : Env} {p : Nat → Bool} (w : List Nat) (h : ∀ c ∈ w, me (ρ.set i (.fz (txt [c]))) = .ok (.bl (p c))) : lcGo (tgName i) mYes me ρ (w.map fun c => txt [c]) = .ok (bls (w.map p)) := by
  induction w with
  | nil => rfl
  | cons c w ih =>
    have ih := ih fun x hx => h x (.tail _ hx)
    rw [List.map_cons]
    unfold lcGo
    rw [tgName_eq, nx_ok', R_bind_ok]
    show (nx (R.ok true)).bind _ = _
    rw [nx_ok', R_bind_ok, if_pos rfl, h c (.head _), nx_ok', R_bind_ok, ih]
    rfl
theorem lcGo_bzip {i j : Nat} {me : Env → R D} {ρ : Env} {g : Bool → Bool → Bool} : ∀ (a b : List Bool), (∀ x y, me ((ρ.set i (.fz (.bl x))).set j (.fz (.bl y))) = .ok (.bl (g x y))) →
    lcGo (tgTup 2 (tgCons (tgName i) (tgCons (tgName j) tgNil))) mYes me ρ (zipD (bls a) (bls b)) = .ok (bls (a.zipWith g b))
  | [], _, _ => rfl
  | _ :: _, [], _ => rfl
  | x :: a, y :: b, h => by
    have ih := lcGo_bzip a b h
    show lcGo _ _ _ _ (.tup [.bl x, .bl y] :: zipD (bls a) (bls b)) = _
    unfold lcGo
    have e : tgTup 2 (tgCons (tgName i) (tgCons (tgName j) tgNil)) (.tup [.bl x, .bl y]) ρ = .ok ((ρ.set i (.fz (.bl x))).set j (.fz (.bl y))) := rfl
    rw [e, nx_ok', R_bind_ok]
    show (nx (R.ok true)).bind _ = _
    rw [nx_ok', R_bind_ok, if_pos rfl, h x y, nx_ok', R_bind_ok, ih]
    rfl
end Mir
namespace Mir
open PySem PySem.Spec PyProof.Rows L2
theorem lcGo_heldD {i j : Nat} {tt : Env → R Bool} {me : Env → R D} {ρ : Env} {p : D → Bool} (ds : List D) (n : Nat) (h : ∀ (m : Nat), ∀ d ∈ ds, tt ((ρ.set i (.fz (.int (m : Nat)))).set j (.fz d)) = .ok (p d)) (h2 : ∀ (m : Nat), ∀ d ∈ ds, me ((ρ.set i (.fz (.int (m : Nat)))).set j (.fz d)) = .ok (.int (m : Nat))) :
    lcGo (tgTup 2 (tgCons (tgName i) (tgCons (tgName j) tgNil))) tt me ρ (enumFrom n ds) = .ok ((heldFrom n (ds.map p)).map D.int) := by
  induction ds generalizing n with
  | nil => rfl
  | cons d r ih =>
    have ih := ih (n + 1) (fun m x hx => h m x (.tail _ hx)) fun m x hx => h2 m x (.tail _ hx)
    rw [enumFrom_cons]
    unfold lcGo
    have e : tgTup 2 (tgCons (tgName i) (tgCons (tgName j) tgNil)) (.tup [.int (n : Nat), d]) ρ = .ok ((ρ.set i (.fz (.int (n : Nat)))).set j (.fz d)) := rfl
    rw [e, nx_ok', R_bind_ok, h n d (.head _), nx_ok', R_bind_ok, ih, List.map_cons]
    cases p d with
    | true => rw [if_pos rfl, h2 n d (.head _), nx_ok', R_bind_ok]; rfl
    | false => rfl
/-- the first place of what is true, or None -/
def firstOf : Nat → List Bool → D
  | _, [] => .non
  | i, true :: _ => .int (i : Nat)
  | i, false :: r => firstOf (i + 1) r
theorem firstOf_held : ∀ (bs : List Bool) (i : Nat), (heldFrom i bs = [] ∧ firstOf i bs = .non) ∨ (∃ n r, heldFrom i bs = n :: r ∧ firstOf i bs = .int n)
  | [], _ => .inl ⟨rfl, rfl⟩
  | true :: r, i => .inr ⟨_, _, rfl, rfl⟩
  | false :: r, i => firstOf_held r (i + 1)
theorem firstOf_non (bs : List Bool) (i : Nat) : isNon (firstOf i bs) = !bs.any id := by
  induction bs generalizing i with
  | nil => rfl
  | cons b r ih =>
    cases b with
    | true => rfl
    | false => exact ih (i + 1)
def fbG : Nat → List (List Bool) → D
  | _, [] => .non
  | n, B :: r => if B.any id = true then .tup [.int (n : Nat), firstOf 0 B] else fbG (n + 1) r
theorem fbG_non (rows : List (List Bool)) (n : Nat) : isNon (fbG n rows) = !rows.any fun B => B.any id := by
  induction rows generalizing n with
  | nil => rfl
  | cons B r ih =>
    unfold fbG
    rw [List.any_cons]
    cases h : B.any id with
    | true => rfl
    | false => rw [if_neg (by decide), ih]; rfl
@[simp] theorem slD_txt (w : List Nat) (lo hi : Option Int) : slD (txt w) lo hi = if w.length ≤ sizeLine then .ok (txt (Mir.cutD w lo hi)) else .bad := by
  show (if (⟨w.toArray⟩ : Str).length ≤ sizeLine then R.ok (D.str (cutS ⟨w.toArray⟩ lo hi)) else .bad) = _
  rfl
/-- rows that agree on the first one with anything true -/
theorem fbG_eq (P L : Nat → List Bool) (hl : ∀ k, (P k).length = (L k).length) (N : Nat) (h1 : ∀ k, k < N → ∀ i : Nat, (L k)[i]? = some true → (P k)[i]? = some true) (h2 : ∀ k, k < N → ∀ i : Nat, (P k)[i]? = some true → (L k)[i]? = some false → 0 < k ∧ (P (k - 1))[i]? = some true) :
    ∀ (m k : Nat), k + m ≤ N → (∀ j, j < k → (P j).any id = false) → fbG k ((List.range' k m).map P) = fbG k ((List.range' k m).map L)
  | 0, _, _, _ => rfl
  | m + 1, k, hk, hp => by
    rw [List.range'_succ, List.map_cons, List.map_cons]
    unfold fbG
    have e : P k = L k := by
      refine List.ext_getElem? fun i => ?_
      by_cases hi : i < (P k).length
      · have hi2 : i < (L k).length := by rw [← hl k]; exact hi
        have a := List.getElem?_eq_getElem hi
        have b := List.getElem?_eq_getElem hi2
        cases x : (P k)[i] with
        | true =>
          cases y : (L k)[i] with
          | true => rw [a, b, x, y]
          | false =>
            exfalso
            obtain ⟨k0, q⟩ := h2 k (by omega) i (by rw [a, x]) (by rw [b, y])
            have := hp (k - 1) (by omega)
            rw [List.any_eq_false] at this
            exact this true (List.mem_of_getElem? q) rfl
        | false =>
          cases y : (L k)[i] with
          | true =>
            have := h1 k (by omega) i (by rw [b, y])
            rw [a, x] at this
            cases this
          | false => rw [a, b, x, y]
      · rw [List.getElem?_eq_none (by omega), List.getElem?_eq_none (by rw [← hl k]; omega)]
    rw [← e]
    by_cases hb : (P k).any id = true
    · rw [if_pos hb, if_pos hb]
    · rw [if_neg hb, if_neg hb]
      refine fbG_eq P L hl N h1 h2 m (k + 1) (by omega) fun j hj => ?_
      by_cases hj2 : j < k
      · exact hp j hj2
      · rw [show j = k by omega]; exact Bool.eq_false_iff.mpr hb
end Mir
namespace Mir
open PySem PySem.Spec PyProof.Rows L2
/-! ### sorted: a list of texts, a list of numbers -/
def leS (x y : Str) : Bool := !ltCps y.cps.toList x.cps.toList
theorem leS_iff (x y : Str) : leS x y = true ↔ x.cps.toList ≤ y.cps.toList := by
  unfold leS
  rw [ltCps_eq]
  simp
theorem leS_anti {x y : Str} (h1 : leS x y = true) (h2 : leS y x = true) : x = y := by
  have := List.le_antisymm ((leS_iff x y).mp h1) ((leS_iff y x).mp h2)
  cases x
  cases y
  simp at this
  rw [this]
theorem leS_trans (x y z : Str) (h1 : leS x y = true) (h2 : leS y z = true) : leS x z = true :=
  (leS_iff x z).mpr (List.le_trans ((leS_iff x y).mp h1) ((leS_iff y z).mp h2))
theorem leS_total (x y : Str) : (leS x y || leS y x) = true := by
  rcases List.le_total x.cps.toList y.cps.toList with h | h
  · rw [(leS_iff x y).mpr h]; rfl
  · rw [(leS_iff y x).mpr h, Bool.or_true]
theorem rising_pw : ∀ (l : List Str) (p : Str), risingS p l = true → (p :: l).Pairwise fun a b => leS a b = true
  | [], p, _ => .cons (fun _ h => nomatch h) .nil
  | x :: r, p, h => by
    have h' : (!ltCps x.cps.toList p.cps.toList && risingS x r) = true := h
    obtain ⟨h1, h2⟩ := Bool.and_eq_true_iff.mp h'
    have ih := rising_pw r x h2
    refine .cons (fun y hy => ?_) ih
    rcases List.mem_cons.mp hy with rfl | hy
    · exact h1
    · exact leS_trans _ _ _ h1 ((List.pairwise_cons.mp ih).1 y hy)
theorem sorted_pw (l : List Str) (h : sortedS l = true) : l.Pairwise fun a b => leS a b = true := by
  cases l with
  | nil => exact .nil
  | cons x r => exact rising_pw r x h
def sortS (xs : List Str) : List Str := xs.mergeSort leS
theorem eq_sortS {xs ys : List Str} (hp : ys.Perm xs) (hs : sortedS ys = true) : ys = sortS xs :=
  List.Perm.eq_of_pairwise (fun a b _ _ h1 h2 => leS_anti h1 h2) (sorted_pw ys hs) (List.pairwise_mergeSort leS_trans leS_total xs) (hp.trans (List.mergeSort_perm xs leS).symm)
def intsOf : List D → Option (List Int)
  | [] => some []
  | .int b :: r => (intsOf r).map (b :: ·)
  | _ => none
theorem ints_v {K : PySem.W.Frag} {F : Hp} : ∀ {ds : List D} {vs : List V} {bs : List Int}, DvAll K F vs ds → intsOf ds = some bs → vs = bs.map V.int
  | [], _, _, h, e => by cases h; cases e; rfl
  | d :: ds, _, bs, h, e => by
    cases h with
    | cons h r =>
      cases h with
      | int b =>
        unfold intsOf at e
        cases q : intsOf ds with
        | none => rw [q] at e; cases e
        | some bs2 =>
          rw [q] at e
          cases e
          rw [ints_v r q, List.map_cons]
      | _ => cases e
theorem dv_strs {K : PySem.W.Frag} {F : Hp} : ∀ ys : List Str, DvAll K F (ys.map V.str) (ys.map D.str)
  | [] => .nil
  | y :: r => .cons (.str y) (dv_strs r)
def sortedF : List D → R D
  | [.lst ds] => if ds.length < 64 then (match strsOf ds with
    | some ys => .ok (.lst ((sortS ys).map D.str))
    | none => ofO (intsOf ds) fun ns => .ok (.lst ((PySem.W.sortI ns).map D.int))) else .bad
  | _ => .bad
theorem cm_sorted : CallM G (fun vs H Q => rSortedS G.K vs H Q ∨ rSorted G.K vs H Q) sortedF := by
  intro F H vs ds Q s h P
  unfold sortedF at P
  split at P
  · rename_i es
    obtain ⟨v, rfl, q⟩ := one_of h
    cases q with
    | lst e r =>
      split at P
      · rename_i h64
        have hlen := r.length
        split at P
        · rename_i ys ey
          have ev := strs_v r ey
          subst ev
          refine .inl ⟨_, ys, rfl, SqL.of (s _ _ e), by rw [List.length_map] at hlen; omega, fun zs p hp hs hn => ?_⟩
          rw [eq_sortS hp hs]
          exact postNew P s hn (.lst upd_same (dv_strs _))
        · cases z : intsOf es with
          | none => rw [z] at P; exact P.elim
          | some ns =>
            rw [z] at P
            have ev := ints_v r z
            subst ev
            refine .inr ⟨_, ns, rfl, SqL.of (s _ _ e), by rw [List.length_map] at hlen; omega, fun zs p hp hs hn => ?_⟩
            rw [PySem.W.eq_sortI hp hs]
            exact postNew P s hn (.lst upd_same (dv_ints _))
      · exact P.elim
  · exact P.elim
section
variable {X : Cx} {G : Gm} {e : Expr} {pos p : Pos}
theorem me_sorted {m : Env → R (List D)} (ha : MA X G [e] m) (hx : X.mg "sorted" = none) (hK : X.K = G.K := by rfl) (hg : Gl X "sorted" := by rfl) (he : starEach [e] X.env = (false, eval e X.env) :: starEach [] X.env := by rfl) (hpl : (backTo pos (starEach [] X.env)).any (·.1) = false := by rfl) :
    ME X G (.Call (.Name "sorted" p) [e] [] pos) (mCall sortedF m) := me_callB (cr_sortedS.or cr_sorted) (by rw [hK]; exact cm_sorted) ha hx (by decide +kernel) hg (by decide) (by decide) he hpl
end
end Mir
/-! list(zip(xs, ys)) over two lists -/
namespace Mir
open PySem PySem.Spec PyProof.Rows L2
/-- a zip over two lists with i pairs given out; S: the list that takes them -/
def ZL (h : Heap) (z TI TO i1 i2 l1 l2 S : Addr) (xs ys : Array Value) (i : Nat) : Prop :=
  IsPair h TI (.ref i1) (.ref i2) ∧ h.IsListIter i1 l1 i ∧ h.IsListIter i2 l2 i ∧ h.IsList l1 xs ∧ h.IsList l2 ys ∧
    ((IsZip h z TI TO .none ∧ ∃ a b, IsPair h TO a b) ∨ ∃ T f oT, IsZipHeld h z TI TO T f ∧ h.get? T = some oT ∧ T ≠ z ∧ T ≠ i1 ∧ T ≠ i2 ∧ T ≠ S)
/-- S is none of the zip's own objects -/
structure Off (S z TI TO i1 i2 l1 l2 : Addr) : Prop where
  z : S ≠ z
  TI : S ≠ TI
  TO : S ≠ TO
  i1 : S ≠ i1
  i2 : S ≠ i2
  l1 : S ≠ l1
  l2 : S ≠ l2
section
variable {prog : Program} {w : World} {A : Around} {E : Value → Shared → Prop} {s : Shared} {z TI TO i1 i2 l1 l2 S : Addr} {xs ys : Array Value} {i : Nat}
theorem ZL.keep {h h' : Heap} (O : Off S z TI TO i1 i2 l1 l2) (x : ZL h z TI TO i1 i2 l1 l2 S xs ys i) (hk : ∀ b o, b ≠ S → h.get? b = some o → h'.get? b = some o) : ZL h' z TI TO i1 i2 l1 l2 S xs ys i := by
  obtain ⟨a1, a2, a3, a4, a5, a6⟩ := x
  refine ⟨hk _ _ O.TI.symm a1, a2.at fun o e => hk _ o O.i1.symm e, a3.at fun o e => hk _ o O.i2.symm e, a4.at fun o e => hk _ o O.l1.symm e, a5.at fun o e => hk _ o O.l2.symm e, ?_⟩
  rcases a6 with ⟨b1, a, b, b2⟩ | ⟨T, f, oT, b1, b2, r1, r2, r3, r4⟩
  · exact .inl ⟨hk _ _ O.z.symm b1, a, b, hk _ _ O.TO.symm b2⟩
  · exact .inr ⟨T, f, oT, hk _ _ O.z.symm b1, hk _ _ r4 b2, r1, r2, r3, r4⟩
theorem zl_item (D : ZipApart z TI TO i1 i2 l1 l2) {x y : Value} {Q : Option Value → Shared → Prop} (st : ZL s.heap z TI TO i1 i2 l1 l2 S xs ys i) (hS : S < s.heap.objs.size) (ex : xs[i]? = some x) (ey : ys[i]? = some y)
    (hQ : ∀ h', ZL h' z TI TO i1 i2 l1 l2 S xs ys (i + 1) → IsPair h' s.heap.objs.size x y → h'.objs.size = s.heap.objs.size + 1 → (∀ c o, c ≠ z → c ≠ TO → c ≠ i1 → c ≠ i2 → s.heap.get? c = some o → h'.get? c = some o) → Q (some (.ref s.heap.objs.size)) { s with heap := h' }) :
    wpAny (model prog w) A (pyNext (.ref z)) Q E s := by
  obtain ⟨a1, a2, a3, a4, a5, a6⟩ := st
  have new : ∀ {c o}, s.heap.get? c = some o → s.heap.objs.size ≠ c := fun e => Nat.ne_of_gt (Heap.lt_size e)
  have m1 : s.heap.objs.size ≠ i1 := let ⟨_, e, _⟩ := a2; new e
  have m2 : s.heap.objs.size ≠ i2 := let ⟨_, e, _⟩ := a3; new e
  rcases a6 with ⟨b1, a, b, b2⟩ | ⟨T, f, oT, b1, b2, r1, r2, r3, r4⟩
  · refine wpAny_pyNext_zip_item D b1 a1 b2 a2 a3 a4 a5 ex ey fun h' c1 _ c3 c4 c5 c6 hk => hQ h' ?_ c5 c6 hk
    exact ⟨hk _ _ D.TIz D.TITO D.TIi1 D.TIi2 a1, c3, c4, a4.at fun o e => hk _ o D.l1z D.l1TO D.l1i1 D.l1i2 e, a5.at fun o e => hk _ o D.l2z D.l2TO D.l2i1 D.l2i2 e, .inr ⟨_, false, _, c1, c5, new b1, m1, m2, Nat.ne_of_gt hS⟩⟩
  · refine wpAny_pyNext_zip_item_held D b1 b2 a1 a2 a3 a4 a5 ex ey fun h' c1 c3 c4 c5 c6 hk => hQ h' ?_ c5 c6 fun c o n1 _ n3 n4 e => hk c o n1 n3 n4 e
    exact ⟨hk _ _ D.TIz D.TIi1 D.TIi2 a1, c3, c4, a4.at fun o e => hk _ o D.l1z D.l1i1 D.l1i2 e, a5.at fun o e => hk _ o D.l2z D.l2i1 D.l2i2 e, .inr ⟨T, true, oT, c1, hk _ _ r1 r2 r3 b2, r1, r2, r3, r4⟩⟩
theorem zl_done (hh : A.handled = none) (D : ZipApart z TI TO i1 i2 l1 l2) {Q : Option Value → Shared → Prop} (st : ZL s.heap z TI TO i1 i2 l1 l2 S xs ys i) (hend : xs[i]? = none ∨ ys[i]? = none)
    (hQ : ∀ h', (∀ c o, c ≠ z → c ≠ TO → c ≠ i1 → c ≠ i2 → s.heap.get? c = some o → h'.get? c = some o) → Q none { s with heap := h' }) : wpAny (model prog w) A (pyNext (.ref z)) Q E s := by
  obtain ⟨a1, a2, a3, a4, a5, a6⟩ := st
  rcases a6 with ⟨b1, a, b, b2⟩ | ⟨T, f, oT, b1, b2, _⟩
  · exact wpAny_pyNext_zip_end hh D b1 a1 b2 a2 a3 a4 a5 hend fun h' hk => hQ h' fun c o n1 n2 n3 n4 e => hk c o n1 n2 n3 n4 e
  · exact wpAny_pyNext_zip_end_held hh D b1 b2 a1 a2 a3 a4 a5 hend fun h' hk => hQ h' fun c o n1 _ n3 n4 e => hk c o n1 n3 n4 e
end
end Mir
namespace Mir
open PySem PySem.Spec PyProof.Rows L2
/-- the tuples given out, each behind the former -/
structure ZG (xs ys : Array Value) (lo : Addr) (h : Heap) (ts : List Addr) : Prop where
  up : ts.Pairwise (· < ·)
  over : ∀ t ∈ ts, lo < t
  is : ∀ (j : Nat) (t : Addr), ts[j]? = some t → ∃ x y, xs[j]? = some x ∧ ys[j]? = some y ∧ IsPair h t x y
theorem ZG.lt {xs ys : Array Value} {lo : Addr} {h : Heap} {ts : List Addr} (g : ZG xs ys lo h ts) {t : Addr} (ht : t ∈ ts) : t < h.objs.size := by
  obtain ⟨j, hj⟩ := List.mem_iff_getElem?.mp ht
  obtain ⟨_, _, _, _, e⟩ := g.is j t hj
  exact Heap.lt_size e
section
variable {prog : Program} {w : World} {A : Around} {s : Shared} {z TI TO i1 i2 l1 l2 S : Addr} {xs ys : Array Value}
/-- below S and none of it -/
structure Below (S z TI TO i1 i2 l1 l2 : Addr) : Prop where
  z : z < S
  TI : TI < S
  TO : TO < S
  i1 : i1 < S
  i2 : i2 < S
  l1 : l1 < S
  l2 : l2 < S
theorem Below.off (b : Below S z TI TO i1 i2 l1 l2) : Off S z TI TO i1 i2 l1 l2 := ⟨Nat.ne_of_gt b.z, Nat.ne_of_gt b.TI, Nat.ne_of_gt b.TO, Nat.ne_of_gt b.i1, Nat.ne_of_gt b.i2, Nat.ne_of_gt b.l1, Nat.ne_of_gt b.l2⟩
theorem zl_loop {R : Result → Shared → Prop} (hh : A.handled = none) (D : ZipApart z TI TO i1 i2 l1 l2) (B : Below S z TI TO i1 i2 l1 l2) (N : Nat) (hN : N = min xs.size ys.size) (hn : N ≤ sizeLine) (res : Value) {g : Heap}
    (hR : ∀ h' tk acc c ts, (∀ b o, S < b ∨ (b ≠ S ∧ b ≠ z ∧ b ≠ TO ∧ b ≠ i1 ∧ b ≠ i2) → g.get? b = some o → h'.get? b = some o) → h'.get? S = some { cls := .type "list", dict := none, data := .seq acc c, slots := #[] } → ts.length = N → ZG xs ys S h' ts → acc.toList = ts.map Value.ref → R (.ok (.ret res)) { s with heap := h', toks := tk }) :
    ∀ (k i : Nat) (h : Heap) (tk c : Nat) (acc : Array Value) (ts : List Addr), N - i = k → i ≤ N → ZL h z TI TO i1 i2 l1 l2 S xs ys i → (∀ b o, S < b ∨ (b ≠ S ∧ b ≠ z ∧ b ≠ TO ∧ b ≠ i1 ∧ b ≠ i2) → g.get? b = some o → h.get? b = some o) →
      h.get? S = some { cls := .type "list", dict := none, data := .seq acc c, slots := #[] } → acc.toList = ts.map Value.ref → ts.length = i → ZG xs ys S h ts →
      codeAny (model prog w) A (.builtin "list.extend.loop" ⟨[.ref S, .ref z, res], []⟩) R { s with heap := h, toks := tk } := by
  have O := B.off
  intro k
  induction k with
  | zero =>
    intro i h tk c acc ts hk hi st kp hS ha hl G
    have hin : i = N := by omega
    have e0 : xs[i]? = none ∨ ys[i]? = none := by
      rcases Nat.le_total xs.size ys.size with q | q
      · exact .inl (Array.getElem?_eq_none (by rw [hin, hN, Nat.min_eq_left q]; exact Nat.le_refl _))
      · exact .inr (Array.getElem?_eq_none (by rw [hin, hN, Nat.min_eq_right q]; exact Nat.le_refl _))
    apply codeAny_builtin PySem.F.entry_extend_loop
    rw [Around.under_plainId PySem.F.plain_extend_loop]
    show wpAny (model prog w) A.in1 (pyNext (.ref z) >>= _) _ _ _
    refine wpAny_bind (zl_done (s := { s with heap := h, toks := tk }) (A := A.in1) hh D st e0 fun h' hk' => wpAny_pure ?_)
    have stay : ∀ b o, S < b ∨ (b ≠ S ∧ b ≠ z ∧ b ≠ TO ∧ b ≠ i1 ∧ b ≠ i2) → h.get? b = some o → h'.get? b = some o := fun b o q e => by
      rcases q with q | ⟨_, q1, q2, q3, q4⟩
      · exact hk' b o (Nat.ne_of_gt (Nat.lt_trans B.z q)) (Nat.ne_of_gt (Nat.lt_trans B.TO q)) (Nat.ne_of_gt (Nat.lt_trans B.i1 q)) (Nat.ne_of_gt (Nat.lt_trans B.i2 q)) e
      · exact hk' b o q1 q2 q3 q4 e
    refine hR h' tk acc c ts (fun b o q e => stay b o q (kp b o q e)) (hk' S _ O.z O.TO O.i1 O.i2 hS) (by omega) ⟨G.up, G.over, fun j t hj => ?_⟩ ha
    obtain ⟨x, y, q1, q2, q3⟩ := G.is j t hj
    exact ⟨x, y, q1, q2, stay t _ (.inl (G.over t (List.mem_of_getElem? hj))) q3⟩
  | succ k ih =>
    intro i h tk c acc ts hk hi st kp hS ha hl G
    have hx : i < xs.size := by have := Nat.min_le_left xs.size ys.size; omega
    have hy : i < ys.size := by have := Nat.min_le_right xs.size ys.size; omega
    have hSl : S < h.objs.size := Heap.lt_size hS
    have asz : acc.size = i := by rw [← Array.length_toList, ha, List.length_map, hl]
    apply codeAny_builtin PySem.F.entry_extend_loop
    rw [Around.under_plainId PySem.F.plain_extend_loop]
    show wpAny (model prog w) A.in1 (pyNext (.ref z) >>= _) _ _ _
    refine wpAny_bind (zl_item (s := { s with heap := h, toks := tk }) (S := S) D st hSl (Array.getElem?_eq_getElem hx) (Array.getElem?_eq_getElem hy) fun h' st' ht hz hk' => ?_)
    dsimp only at ht hz hk' ⊢
    have hS' := hk' S _ O.z O.TO O.i1 O.i2 hS
    have oth : ∀ b o, b ≠ S → h'.get? b = some o → (h'.update S (Obj.mapSeq (·.push (Value.ref h.objs.size)))).get? b = some o := fun b o q e => (Heap.get?_update_other _ _ (Ne.symm q)).trans e
    have stay : ∀ b o, S < b ∨ (b ≠ S ∧ b ≠ z ∧ b ≠ TO ∧ b ≠ i1 ∧ b ≠ i2) → h.get? b = some o → (h'.update S (Obj.mapSeq (·.push (Value.ref h.objs.size)))).get? b = some o := fun b o q e => by
      rcases q with q | ⟨q0, q1, q2, q3, q4⟩
      · exact oth b o (Nat.ne_of_gt q) (hk' b o (Nat.ne_of_gt (Nat.lt_trans B.z q)) (Nat.ne_of_gt (Nat.lt_trans B.TO q)) (Nat.ne_of_gt (Nat.lt_trans B.i1 q)) (Nat.ne_of_gt (Nat.lt_trans B.i2 q)) e)
      · exact oth b o q0 (hk' b o q1 q2 q3 q4 e)
    have hnew : IsPair (h'.update S (Obj.mapSeq (·.push (Value.ref h.objs.size)))) h.objs.size xs[i] ys[i] := oth _ _ (Nat.ne_of_gt hSl) ht
    show wpAny (model prog w) A.in1 (updateSeq S (·.push (Value.ref h.objs.size)) >>= _) _ _ _
    refine wpAny_bind (wpAny_updateSeq hS' rfl (wpAny_pure ⟨plainId_quiet PySem.F.plain_extend_loop _, ih (i + 1) _ tk _ (acc.push (Value.ref h.objs.size)) (ts ++ [h.objs.size]) (by omega) (by omega) (st'.keep O oth) (fun b o q e => stay b o q (kp b o q e)) (Heap.get?_update_self _ hS' rfl) (by rw [Array.toList_push, ha, List.map_append]; rfl) (by rw [List.length_append, hl]; rfl) ⟨?_, ?_, ?_⟩⟩) (by rw [asz]; omega) (by rw [Array.size_push, asz]; omega))
    · exact List.pairwise_append.mpr ⟨G.up, List.pairwise_singleton _ _, fun a h1 b h2 => by rw [List.mem_singleton.mp h2]; exact G.lt h1⟩
    · intro t h1
      rcases List.mem_append.mp h1 with h1 | h1
      · exact G.over t h1
      · rw [List.mem_singleton.mp h1]; exact hSl
    · intro j t hj
      rcases Nat.lt_or_ge j ts.length with q | q
      · rw [List.getElem?_append_left q] at hj
        obtain ⟨x, y, q1, q2, q3⟩ := G.is j t hj
        exact ⟨x, y, q1, q2, stay t _ (.inl (G.over t (List.mem_of_getElem? hj))) q3⟩
      · rw [List.getElem?_append_right q] at hj
        have j0 : j - ts.length = 0 := by
          have := (List.getElem?_eq_some_iff.mp hj).1
          rw [List.length_singleton] at this
          omega
        rw [j0] at hj
        have et : h.objs.size = t := Option.some.inj hj
        subst et
        have ej : j = i := by omega
        subst ej
        exact ⟨_, _, Array.getElem?_eq_getElem hx, Array.getElem?_eq_getElem hy, hnew⟩
end
end Mir
namespace Mir
open PySem PySem.Spec PyProof.Rows L2
theorem zl_nolen : typeLookup (.type "zip") "__len__" = pure none := am_miss_of_fast (by decide +kernel)
theorem zl_nohint : typeLookup (.type "zip") "__length_hint__" = pure none := am_miss_of_fast (by decide +kernel)
section
variable {prog : Program} {w : World} {A : Around} {E : Value → Shared → Prop} {s : Shared} {z TI TO i1 i2 l1 l2 S : Addr} {xs ys : Array Value}
theorem zl_hint (hT : s.TypeIs (.ref z) "zip") {Q : Bool → Shared → Prop} (h : Q true s) : wpAny (model prog w) A (Builtin.List.listLengthHint (.ref z)) Q E s := by
  unfold Builtin.List.listLengthHint
  refine wpAny_bind (wpAny_specialOf hT zl_nolen ?_)
  refine wpAny_ite_split (fun q => absurd q (by decide)) fun _ => ?_
  refine wpAny_ite_split (fun q => absurd q (by decide)) fun _ => ?_
  refine wpAny_bind (wpAny_specialOf hT zl_nohint ?_)
  exact wpAny_pure h
theorem zl_extend {R : Result → Shared → Prop} (hh : A.handled = none) (D : ZipApart z TI TO i1 i2 l1 l2) (B : Below S z TI TO i1 i2 l1 l2) (hn : min xs.size ys.size ≤ sizeLine) (st : ZL s.heap z TI TO i1 i2 l1 l2 S xs ys 0) (hz : IsZip s.heap z TI TO .none) (res : Value) (c0 : Nat) (hS : s.heap.get? S = some { cls := .type "list", data := .seq #[] c0 })
    (hR : ∀ h' tk acc c ts, (∀ b o, S < b ∨ (b ≠ S ∧ b ≠ z ∧ b ≠ TO ∧ b ≠ i1 ∧ b ≠ i2) → s.heap.get? b = some o → h'.get? b = some o) → h'.get? S = some { cls := .type "list", dict := none, data := .seq acc c, slots := #[] } → ts.length = min xs.size ys.size → ZG xs ys S h' ts → acc.toList = ts.map Value.ref → R (.ok (.ret res)) { s with heap := h', toks := tk }) :
    wpAny (model prog w) A.in1 (Builtin.List.listExtendWith (.ref S) (.ref z) res) (fun fin s' => match fin with
      | .done f => R (.ok f) s'
      | .again c' => c'.quiet = true ∧ codeAny (model prog w) A c' R s') (fun e s' => R (.error e) s') s := by
  have O := B.off
  have go : ∀ (h : Heap) (c1 tk : Nat), (∀ b o, b ≠ S → s.heap.get? b = some o → h.get? b = some o) → h.get? S = some { cls := .type "list", data := .seq #[] c1 } → codeAny (model prog w) A (.builtin "list.extend.loop" ⟨[.ref S, .ref z, res], []⟩) R { s with heap := h, toks := tk } := fun h c1 tk hk hS1 =>
    zl_loop (s := s) hh D B _ rfl hn res (g := s.heap) (fun h' tk' acc c ts k1 k2 k3 k4 k5 => hR h' tk' acc c ts k1 k2 k3 k4 k5) _ 0 h tk c1 #[] [] rfl (Nat.zero_le _) (st.keep O hk) (fun b o q e => hk b o (by
      rcases q with q | q
      · exact Nat.ne_of_gt q
      · exact q.1) e) hS1 rfl rfl ⟨.nil, fun _ q => (nomatch q), fun j t q => (by simp at q)⟩
  have hT : s.TypeIs (.ref z) "zip" := ⟨_, hz, rfl⟩
  unfold Builtin.List.listExtendWith
  refine wpAny_bind (wpAny_typeOf (T := "zip") hT ?_)
  have e1 : Builtin.List.listSameRef (.ref S) (.ref z) = false := by simp [Builtin.List.listSameRef, O.z]
  have e2 : (Value.type "zip" == Value.type "list") = false := by decide
  have e3 : (Value.type "zip" == Value.type "tuple") = false := by decide
  simp only [e1, e2, e3, Bool.or_false, Bool.false_eq_true, if_false]
  refine wpAny_bind (wpAny_pyIter_zip hz ?_)
  refine wpAny_bind (wpAny_holding (zl_hint hT ?_))
  refine wpAny_ite_split (fun _ => ?_) (fun _ => wpAny_pure ⟨plainId_quiet PySem.F.plain_extend_loop _, go _ c0 _ (fun b o _ e => e) hS⟩)
  refine wpAny_bind (wpAny_rule ?_)
  refine wpAny_bind ?_
  show wpAny (model prog w) A.in1 (updateSeq S (·.push .none) >>= fun _ => updateSeq S (·.pop)) _ _ _
  refine wpAny_bind (wpAny_updateSeq hS rfl ?_)
  have u2 := Heap.get?_update_self (Obj.mapSeq (·.push Value.none)) hS rfl
  refine wpAny_updateSeq (hz := by seq_fits) u2 rfl ?_
  have u3 := Heap.get?_update_self (Obj.mapSeq (·.pop)) u2 rfl
  exact wpAny_pure ⟨plainId_quiet PySem.F.plain_extend_loop _, go _ _ _ (fun b o q e => (Heap.get?_update_other _ _ (Ne.symm q)).trans ((Heap.get?_update_other _ _ (Ne.symm q)).trans e)) u3⟩
theorem zl_call {Q : Value → Shared → Prop} (hh : A.handled = none) (D : ZipApart z TI TO i1 i2 l1 l2) (hn : min xs.size ys.size ≤ sizeLine) (hz : IsZip s.heap z TI TO .none) (hTI : IsPair s.heap TI (.ref i1) (.ref i2)) (hTO : ∃ a b, IsPair s.heap TO a b) (h1 : s.heap.IsListIter i1 l1 0) (h2 : s.heap.IsListIter i2 l2 0) (hl1 : s.heap.IsList l1 xs) (hl2 : s.heap.IsList l2 ys)
    (hQ : ∀ h' tk acc c ts, (∀ b o, b ≠ z → b ≠ TO → b ≠ i1 → b ≠ i2 → s.heap.get? b = some o → h'.get? b = some o) → h'.get? s.heap.objs.size = some { cls := .type "list", dict := none, data := .seq acc c, slots := #[] } → ts.length = min xs.size ys.size → ZG xs ys s.heap.objs.size h' ts → acc.toList = ts.map Value.ref → Q (.ref s.heap.objs.size) { s with heap := h', toks := tk }) :
    wpAny (model prog w) A (call (.type "list") [.ref z]) Q E s := by
  refine callType_codes (Q₁ := fun ob sh => ob = .ref s.heap.objs.size ∧ sh = { s with heap := s.heap.push { cls := .type "list", data := .seq #[] } }) PySem.F.called_list (PySem.F.typeCall_list_1 _) PySem.F.entry_list_init (code_list_new _ ⟨rfl, rfl⟩) fun ob sh q => ?_
  obtain ⟨rfl, rfl⟩ := q
  have up : ∀ b o, s.heap.get? b = some o → (s.heap.push { cls := .type "list", data := .seq #[] }).get? b = some o := fun b o e => Heap.get?_push_of_some _ e
  have hS : (s.heap.push { cls := .type "list", data := .seq #[] }).get? s.heap.objs.size = some { cls := .type "list", data := .seq #[] } := Heap.get?_push_size _ rfl
  obtain ⟨a, b, hTO⟩ := hTO
  have B : Below s.heap.objs.size z TI TO i1 i2 l1 l2 := ⟨Heap.lt_size hz, Heap.lt_size hTI, Heap.lt_size hTO, let ⟨_, e, _⟩ := h1; Heap.lt_size e, let ⟨_, e, _⟩ := h2; Heap.lt_size e, let ⟨_, e, _⟩ := hl1; Heap.lt_size e, let ⟨_, e, _⟩ := hl2; Heap.lt_size e⟩
  refine ⟨⟨_, hS, rfl⟩, PySem.F.args_list_init_2 _ _, ?_⟩
  show wpAny (model prog w) A.in1.in1 (do let old ← Builtin.List.listItems (.ref s.heap.objs.size); Builtin.List.listUpdate (.ref s.heap.objs.size) (fun _ => #[]); letGo old.toList.reverse; Builtin.List.listExtendWith (.ref s.heap.objs.size) (.ref z) .none) _ _ _
  refine wpAny_bind ?_
  unfold Builtin.List.listItems
  refine wpAny_bind (wpAny_seqItems hS rfl (wpAny_pure ?_))
  show wpAny (model prog w) A.in1.in1 (updateSeq s.heap.objs.size (fun _ => #[]) >>= fun _ => letGo (#[] : Array Value).toList.reverse >>= fun _ => Builtin.List.listExtendWith (.ref s.heap.objs.size) (.ref z) .none) _ _ _
  refine wpAny_bind (wpAny_updateSeq hS rfl ?_)
  have hS2 := Heap.get?_update_self (Obj.mapSeq (fun _ => (#[] : Array Value))) hS rfl
  have oth : ∀ b o, b ≠ s.heap.objs.size → s.heap.get? b = some o → ((s.heap.push { cls := .type "list", data := .seq #[] }).update s.heap.objs.size (Obj.mapSeq (fun _ => (#[] : Array Value)))).get? b = some o := fun b o q e => (Heap.get?_update_other _ _ (Ne.symm q)).trans (up b o e)
  have ne : ∀ {b o}, s.heap.get? b = some o → b ≠ s.heap.objs.size := fun e => Nat.ne_of_lt (Heap.lt_size e)
  have all : ∀ b o, s.heap.get? b = some o → ((s.heap.push { cls := .type "list", data := .seq #[] }).update s.heap.objs.size (Obj.mapSeq (fun _ => (#[] : Array Value)))).get? b = some o := fun b o e => oth b o (ne e) e
  refine wpAny_bind (wpAny_letGo ?_)
  refine zl_extend (A := A.in1) hh D B hn ⟨all _ _ hTI, h1.at fun o e => all _ o e, h2.at fun o e => all _ o e, hl1.at fun o e => all _ o e, hl2.at fun o e => all _ o e, .inl ⟨all _ _ hz, a, b, all _ _ hTO⟩⟩ (all _ _ hz) .none _ hS2 fun h' tk acc c ts k1 k2 k3 k4 k5 => ?_
  exact ⟨rfl, hQ h' tk acc c ts (fun b o q1 q2 q3 q4 e => k1 b o (.inr ⟨ne e, q1, q2, q3, q4⟩) (all b o e)) k2 k3 k4 k5⟩
end
end Mir
namespace Mir
open PySem PySem.Spec PyProof.Rows L2
/-- pairs laid at their addresses -/
def putZ : Hp → List Addr → List (V × V) → Hp
  | H, t :: ts, q :: qs => putZ (upd H t (.tup [q.1, q.2])) ts qs
  | H, _, _ => H
theorem putZ_off {b : Addr} : ∀ (ts : List Addr) (qs : List (V × V)) (H : Hp), b ∉ ts → putZ H ts qs b = H b
  | [], _, _, _ => rfl
  | _ :: _, [], _, _ => rfl
  | t :: ts, q :: qs, H, h => by
    have e : putZ H (t :: ts) (q :: qs) b = putZ (upd H t (.tup [q.1, q.2])) ts qs b := rfl
    rw [e, putZ_off ts qs _ fun m => h (.tail _ m), upd_ne fun m => h (by rw [m]; exact .head _)]
theorem putZ_at : ∀ (ts : List Addr) (qs : List (V × V)) (H : Hp), ts.length = qs.length → ts.Nodup → ∀ (j : Nat) (t : Addr) (q : V × V), ts[j]? = some t → qs[j]? = some q → putZ H ts qs t = some (.tup [q.1, q.2])
  | [], _, _, _, _, j, t, q, h, _ => by simp at h
  | _ :: _, [], _, h, _, _, _, _, _, _ => by cases h
  | a :: ts, p :: qs, H, h, hn, j, t, q, h1, h2 => by
    obtain ⟨n1, n2⟩ := List.nodup_cons.mp hn
    have e : putZ H (a :: ts) (p :: qs) t = putZ (upd H a (.tup [p.1, p.2])) ts qs t := rfl
    rw [e]
    cases j with
    | zero =>
      cases Option.some.inj h1
      cases Option.some.inj h2
      rw [putZ_off ts qs _ n1, upd_same]
    | succ j => exact putZ_at ts qs _ (Nat.succ.inj h) n2 j t q h1 h2
def tListZip (K : PySem.W.Frag) (ta : TA) : TE := fun σ H Q => ta σ H fun vs H1 => ∃ a b xs ys, vs = [.ref a, .ref b] ∧ SqL K H1 a xs ∧ SqL K H1 b ys ∧
  ∀ (H' : Hp) (p : Addr) (ts : List Addr), (∀ c o, H1 c = some o → H' c = some o) → H1 p = none → (∀ t ∈ ts, H1 t = none) → H' p = some (.lst (ts.map V.ref)) → ts.length = (xs.zip ys).length → (∀ (j : Nat) (t : Addr) (q : V × V), ts[j]? = some t → (xs.zip ys)[j]? = some q → H' t = some (.tup [q.1, q.2])) → Q (.ref p) H'
theorem zip_laid {X : Cx} {pins : List (Addr × Obj)} {σ : L2.St} {H : Hp} {s : Shared} {h' : Heap} {tk : Nat} {xs ys : List V} {us vs : List Value} {acc : Array Value} {c : Nat} {S : Addr} {ts : List Addr} (I : Inv X pins σ H s) (hS0 : s.heap.objs.size ≤ S) (hx : Vals xs us) (hy : Vals ys vs) (hz : (xs.zip ys).length ≤ sizeLine)
    (hk : ∀ b o, s.heap.get? b = some o → h'.get? b = some o) (hS : h'.get? S = some { cls := .type "list", dict := none, data := .seq acc c, slots := #[] }) (hl : ts.length = (xs.zip ys).length) (hG : ZG us.toArray vs.toArray S h' ts) (ha : acc.toList = ts.map Value.ref) :
    ∃ H' : Hp, (∀ b o, H b = some o → H' b = some o) ∧ H S = none ∧ (∀ t ∈ ts, H t = none) ∧ H' S = some (.lst (ts.map V.ref)) ∧ (∀ (j : Nat) (t : Addr) (q : V × V), ts[j]? = some t → (xs.zip ys)[j]? = some q → H' t = some (.tup [q.1, q.2])) ∧ Inv X pins σ H' { s with heap := h', toks := tk } := by
  have Sn : S ∉ ts := fun m => Nat.lt_irrefl _ (hG.over _ m)
  have nd : ts.Nodup := List.Pairwise.imp (fun {a b} (q : a < b) => Nat.ne_of_lt q) hG.up
  have f1 : ∀ t ∈ ts, H t = none := fun t m => I.hok.fresh (Nat.le_trans hS0 (Nat.le_of_lt (hG.over t m)))
  have f2 : H S = none := I.hok.fresh hS0
  have at1 := putZ_at ts (xs.zip ys) (upd H S (.lst (ts.map V.ref))) hl nd
  have off : ∀ b, b ∉ ts → b ≠ S → putZ (upd H S (.lst (ts.map V.ref))) ts (xs.zip ys) b = H b := fun b q1 q2 => by rw [putZ_off ts _ _ q1, upd_ne q2]
  have low : ∀ b o, s.heap.get? b = some o → b ∉ ts ∧ b ≠ S := fun b o e => by
    have := Heap.lt_size e
    exact ⟨fun m => absurd (hG.over b m) (by have h0 := hS0; have h1 := this; show ¬ S < b; exact Nat.not_lt.mpr (Nat.le_of_lt (Nat.lt_of_lt_of_le h1 h0))), Nat.ne_of_lt (Nat.lt_of_lt_of_le this hS0)⟩
  have kp : ∀ b u, H b = some u → putZ (upd H S (.lst (ts.map V.ref))) ts (xs.zip ys) b = some u := fun b u e => by
    rw [off b (fun m => by rw [f1 b m] at e; cases e) fun m => by rw [m, f2] at e; cases e]
    exact e
  have eS : putZ (upd H S (.lst (ts.map V.ref))) ts (xs.zip ys) S = some (.lst (ts.map V.ref)) := by rw [putZ_off ts _ _ Sn, upd_same]
  refine ⟨putZ (upd H S (.lst (ts.map V.ref))) ts (xs.zip ys), kp, f2, f1, eS, at1, ?_⟩
  refine I.call' (ch := []) rfl ⟨fun b o q _ _ _ => hk b o q, fun b o q _ _ _ => ⟨o.slots, hk b o q⟩, fun b o q n _ => ?_, fun b o q _ => ⟨o, hk b o q⟩, fun b l q => kp b _ q, fun b o u q => kp b _ q, fun b ps q => ⟨#[], by rw [kp b _ q]; simp⟩⟩ (fun b u q => ?_) I.bare fun b q => by simp at q
  · obtain ⟨q1, q2⟩ := low b o q
    rw [off b q1 q2]
    exact n
  · by_cases hb : b ∈ ts
    · obtain ⟨j, hj⟩ := List.mem_iff_getElem?.mp hb
      have jl : j < (xs.zip ys).length := by rw [← hl]; exact (List.getElem?_eq_some_iff.mp hj).1
      have eq := List.getElem?_eq_getElem jl
      rw [at1 j b _ hj eq] at q
      cases q
      obtain ⟨x, y, g1, g2, g3⟩ := hG.is j b hj
      have jx : j < xs.length := by rw [List.length_zip] at jl; exact Nat.lt_of_lt_of_le jl (Nat.min_le_left ..)
      have jy : j < ys.length := by rw [List.length_zip] at jl; exact Nat.lt_of_lt_of_le jl (Nat.min_le_right ..)
      obtain ⟨u, hu, ru⟩ := hx.get (List.getElem?_eq_getElem jx)
      obtain ⟨v, hv, rv⟩ := hy.get (List.getElem?_eq_getElem jy)
      have g1' : us[j]? = some x := by simpa using g1
      have g2' : vs[j]? = some y := by simpa using g2
      rw [hu] at g1'
      rw [hv] at g2'
      cases Option.some.inj g1'
      cases Option.some.inj g2'
      rw [List.getElem_zip]
      exact ⟨by show 2 ≤ sizeLine; decide, [x, y], .cons ru (.cons rv .nil), ⟨_, g3, rfl, _, rfl⟩⟩
    · by_cases hb2 : b = S
      · subst hb2
        rw [eS] at q
        cases q
        refine ⟨by rw [List.length_map, hl]; exact hz, acc.toList, c, by rw [ha]; exact LiI.vals_refs ts, ?_⟩
        rw [Array.toArray_toList]
        exact hS
      · rw [off b hb hb2] at q
        exact (I.hok b u q).stay (fun d v _ y => hk d v y) (fun d y => kp d _ y) fun d l y => kp d _ y
end Mir
namespace Mir
open PySem PySem.Spec PyProof.Rows L2
section
variable {X : Cx} {G : Gm} {e e2 : Expr} {ta : TA} {p p2 cpos pos : Pos}
/-- list(zip(e, e2)), of two lists -/
theorem pe_listZip (hc : X.calm = true) (ha : PA X [e, e2] ta) (hg : Gl X "list") (hm : X.mg "list" = none) (hgz : Gl X "zip") (hmz : X.mg "zip" = none)
    (hs1 : starEach [.Call (.Name "zip" p2) [e, e2] [] cpos] X.env = (false, eval (.Call (.Name "zip" p2) [e, e2] [] cpos) X.env) :: starEach [] X.env := by rfl)
    (hs : starEach [e, e2] X.env = (false, eval e X.env) :: starEach [e2] X.env := by rfl) (hpl : (backTo cpos (starEach [e2] X.env)).any (·.1) = false := by rfl) :
    PE X (.Call (.Name "list" p) [.Call (.Name "zip" p2) [e, e2] [] cpos] [] pos) (tListZip X.K ta) := by
  refine ⟨fun pins s σ H Q I h => ?_⟩
  have hv : bootBuiltins "list" = some (.type "list") := by decide +kernel
  refine wpAny_Call_Name_kw (ld_blt I hg hm hv ?_)
  refine PyProof.Rows.callWith_type1 ?_ hs1 rfl
  rw [hs1]
  show wpAny _ _ (spliced ((false, eval (.Call (.Name "zip" p2) [e, e2] [] cpos) X.env) :: backTo pos (starEach [] X.env))) _ _ s
  refine Calls.spliced_cons ?_
  refine Call_ (ld_blt I hgz hmz PyProof.Rows.boot_zip (PyProof.Rows.callWith_type1 (thn (ha.run cpos pins s σ H _ I h) fun us s1 ⟨vs, H1, I1, r1, q1⟩ => ?_) hs hpl))
  obtain ⟨a, b, xs, ys, ex, hqx, hqy, q⟩ := q1
  subst ex
  cases r1 with
  | cons r rr =>
    cases rr with
    | cons r' rr =>
      cases rr
      cases r
      cases r'
      obtain ⟨its, rv, l1, z1⟩ := I1.list hqx
      obtain ⟨its2, rv2, l2, z2⟩ := I1.list hqy
      refine call_zip_2 l1.isList l2.isList fun h' hz hTI hTO h1 h2 hsz hk => ?_
      refine Calls.spliced_nil ?_
      have D := PySem.W.ktu_apart s1.heap.objs.size a b l1.lt l2.lt
      have n1 : xs.length = its.length := rv.length
      have n2 : ys.length = its2.length := rv2.length
      have nz : (xs.zip ys).length = min its.toArray.size its2.toArray.size := by rw [List.length_zip, n1, n2, List.size_toArray, List.size_toArray]
      have nl : (xs.zip ys).length ≤ sizeLine := by rw [List.length_zip]; exact Nat.le_trans (Nat.min_le_left ..) z1
      refine zl_call (I1.ok.hd hc) D (by rw [← nz]; exact nl) hz hTI ⟨_, _, hTO⟩ h1 h2 (l1.isList.at fun o q => hk _ o q) (l2.isList.at fun o q => hk _ o q) fun h'' tk acc c ts kp hS hl hG hacc => ?_
      have old : ∀ c o, s1.heap.get? c = some o → h''.get? c = some o := fun c o m => by
        have lt := Heap.lt_size m
        refine kp c o (fun z => ?_) (fun z => ?_) (fun z => ?_) (fun z => ?_) (hk c o m)
        · rw [z] at lt; exact absurd lt (Nat.not_lt.mpr (Nat.le_add_right _ _))
        · rw [z] at lt; exact absurd lt (Nat.not_lt.mpr (Nat.le_add_right _ _))
        · rw [z] at lt; exact Nat.lt_irrefl _ lt
        · rw [z] at lt; exact absurd lt (Nat.not_lt.mpr (Nat.le_add_right _ _))
      obtain ⟨H', k1, k2, k3, k4, k5, J⟩ := zip_laid (tk := tk) I1 (S := h'.objs.size) (by rw [hsz]; exact Nat.le_add_right _ _) rv rv2 nl old hS (by rw [nz]; exact hl) hG hacc
      exact ⟨.ref _, H', J, rfl, q H' _ ts k1 k2 k3 k4 (by rw [nz]; exact hl) k5⟩
end
end Mir
namespace Mir
open PySem PySem.Spec PyProof.Rows L2
/-- list(zip(xs, ys)) -/
def lzF : List D → R D
  | [.lst ds, .lst es] => .ok (.lst (zipD ds es))
  | _ => .bad
/-- what is new in H' is frozen -/
def addF (F H H' : Hp) : Hp := fun c => if H c = none then H' c else F c
theorem addF_grow {F H H' : Hp} (s : Same F H) (k : ∀ c o, H c = some o → H' c = some o) : Grow F H (addF F H H') H' := by
  have nn : ∀ {c : Addr} {u : HO}, H c = some u → ¬ H c = none := fun e z => by rw [e] at z; cases z
  refine ⟨fun c u e => k c u e, fun c u e => ?_, fun c u e => ?_, fun c u e => ?_⟩
  · unfold addF
    rw [if_neg (nn (s c u e))]
    exact e
  · unfold addF at e
    by_cases z : H c = none
    · rw [if_pos z] at e
      exact e
    · rw [if_neg z] at e
      exact k c u (s c u e)
  · unfold addF
    rw [if_neg (nn e)]
theorem dv_zipped {K : PySem.W.Frag} {F : Hp} : ∀ (ts : List Addr) (xs ys : List V) (ds es : List D), DvAll K F xs ds → DvAll K F ys es → ts.length = (xs.zip ys).length → (∀ (j : Nat) (t : Addr) (q : V × V), ts[j]? = some t → (xs.zip ys)[j]? = some q → F t = some (.tup [q.1, q.2])) → DvAll K F (ts.map V.ref) (zipD ds es)
  | ts, [], ys, ds, es, h1, h2, hl, _ => by
    cases h1
    have : ts = [] := List.eq_nil_of_length_eq_zero hl
    subst this
    exact .nil
  | ts, x :: xs, [], ds, es, h1, h2, hl, _ => by
    cases h2
    have : ts = [] := List.eq_nil_of_length_eq_zero hl
    subst this
    cases ds <;> exact .nil
  | [], x :: xs, y :: ys, _, _, _, _, hl, _ => by cases hl
  | t :: ts, x :: xs, y :: ys, ds, es, h1, h2, hl, hq => by
    cases h1 with
    | cons a1 r1 =>
      cases h2 with
      | cons a2 r2 =>
        have e := hq 0 t (x, y) rfl rfl
        exact .cons (.tup (SqT.of e) (.cons a1 (.cons a2 .nil))) (dv_zipped ts xs ys _ _ r1 r2 (Nat.succ.inj hl) fun j t q m1 m2 => hq (j + 1) t q m1 m2)
section
variable {X : Cx} {G : Gm} {e e2 : Expr} {mr : Env → R (List D)} {p p2 cpos pos : Pos}
theorem me_listZip (ha : MA X G [e, e2] mr) (hx : X.mg "list" = none) (hxz : X.mg "zip" = none) (hK : X.K = G.K := by rfl) (hc : X.calm = true := by rfl) (hg : Gl X "list" := by rfl) (hgz : Gl X "zip" := by rfl)
    (hs1 : starEach [.Call (.Name "zip" p2) [e, e2] [] cpos] X.env = (false, eval (.Call (.Name "zip" p2) [e, e2] [] cpos) X.env) :: starEach [] X.env := by rfl)
    (hs : starEach [e, e2] X.env = (false, eval e X.env) :: starEach [e2] X.env := by rfl) (hpl : (backTo cpos (starEach [e2] X.env)).any (·.1) = false := by rfl) :
    ME X G (.Call (.Name "list" p) [.Call (.Name "zip" p2) [e, e2] [] cpos] [] pos) (mCall lzF mr) := weakE (pe_listZip hc ha hg hx hgz hxz hs1 hs hpl) fun σ H Q ⟨ρ, F, S, P⟩ => by
  refine ⟨ρ, F, S, (PostR.bind (rel := DvsR G) P).imp fun d x F1 H1 e1 g1 q1 ⟨F1', d', e1', g1', q1', P1⟩ => ?_⟩
  rw [hK]
  unfold lzF at P1
  split at P1
  · cases q1' with
    | cons h r =>
      obtain ⟨v, rfl, q⟩ := one_of r
      cases q with
      | lst z2 r2 =>
        cases h with
        | lst z r =>
          refine ⟨_, _, _, _, rfl, SqL.of (g1'.s _ _ z), SqL.of (g1'.s _ _ z2), fun H' l ts k1 k2 k3 k4 k5 k6 => ?_⟩
          have gr := addF_grow g1'.s k1
          have new : ∀ {c : Addr}, H1 c = none → addF F1' H1 H' c = H' c := fun e => by unfold addF; rw [if_pos e]
          refine P1 _ _ _ gr (.lst ((new k2).trans k4) (dv_zipped ts _ _ _ _ (r.mono gr.f) (r2.mono gr.f) k5 fun j t q m1 m2 => ?_))
          rw [new (k3 t (List.mem_of_getElem? m1))]
          exact k6 j t q m1 m2
  · exact P1.elim
end
end Mir
namespace K03
open PySem PySem.Spec PyProof.Rows L2 Mir
def topS (i : Nat) : Stmt := PySem.Challenge.pw_staybounds_k03_judging.main.body.getD i (.Pass ⟨0, 0, 0, 0⟩)
abbrev st_is_book : Stmt := topS 10
abbrev N_is_book : List Str := ["candidate", "zones", "limits", "limit"]
theorem sc_is_book : FnScope N_is_book ["candidate"] (defScope st_is_book) := ⟨rfl, rfl, rfl, by decide +kernel, rfl, by decide +kernel, by decide +kernel⟩
abbrev st_is_calendar : Stmt := topS 11
abbrev N_is_calendar : List Str := ["book", "candidate"]
theorem sc_is_calendar : FnScope N_is_calendar ["book", "candidate"] (defScope st_is_calendar) := ⟨rfl, rfl, rfl, by decide +kernel, rfl, by decide +kernel, by decide +kernel⟩
abbrev st_check_book : Stmt := topS 12
abbrev N_check_book : List Str := ["book"]
theorem sc_check_book : FnScope N_check_book ["book"] (defScope st_check_book) := ⟨rfl, rfl, rfl, by decide +kernel, rfl, by decide +kernel, by decide +kernel⟩
abbrev st_check_calendar : Stmt := topS 13
abbrev N_check_calendar : List Str := ["book", "calendar"]
theorem sc_check_calendar : FnScope N_check_calendar ["book", "calendar"] (defScope st_check_calendar) := ⟨rfl, rfl, rfl, by decide +kernel, rfl, by decide +kernel, by decide +kernel⟩
abbrev st_day_letters : Stmt := topS 14
abbrev N_day_letters : List Str := ["book"]
theorem sc_day_letters : FnScope N_day_letters ["book"] (defScope st_day_letters) := ⟨rfl, rfl, rfl, by decide +kernel, rfl, by decide +kernel, by decide +kernel⟩
abbrev st_is_text_of : Stmt := topS 15
abbrev N_is_text_of : List Str := ["letters", "most", "candidate", "letter"]
theorem sc_is_text_of : FnScope N_is_text_of ["letters", "most", "candidate"] (defScope st_is_text_of) := ⟨rfl, rfl, rfl, by decide +kernel, rfl, by decide +kernel, by decide +kernel⟩
abbrev st_is_pair : Stmt := topS 16
abbrev N_is_pair : List Str := ["candidate"]
theorem sc_is_pair : FnScope N_is_pair ["candidate"] (defScope st_is_pair) := ⟨rfl, rfl, rfl, by decide +kernel, rfl, by decide +kernel, by decide +kernel⟩
abbrev st_is_between : Stmt := topS 17
abbrev N_is_between : List Str := ["candidate", "low", "high"]
theorem sc_is_between : FnScope N_is_between ["candidate", "low", "high"] (defScope st_is_between) := ⟨rfl, rfl, rfl, by decide +kernel, rfl, by decide +kernel, by decide +kernel⟩
abbrev st__limit_zones : Stmt := topS 18
abbrev N__limit_zones : List Str := ["zones"]
theorem sc__limit_zones : FnScope N__limit_zones ["zones"] (defScope st__limit_zones) := ⟨rfl, rfl, rfl, by decide +kernel, rfl, by decide +kernel, by decide +kernel⟩
abbrev st__is_limit_within : Stmt := topS 19
abbrev N__is_limit_within : List Str := ["candidate", "zones", "kind", "bounds", "numbers", "number", "low", "high"]
theorem sc__is_limit_within : FnScope N__is_limit_within ["candidate", "zones"] (defScope st__is_limit_within) := ⟨rfl, rfl, rfl, by decide +kernel, rfl, by decide +kernel, by decide +kernel⟩
abbrev st_is_allowed : Stmt := topS 23
abbrev N_is_allowed : List Str := ["book", "calendar"]
theorem sc_is_allowed : FnScope N_is_allowed ["book", "calendar"] (defScope st_is_allowed) := ⟨rfl, rfl, rfl, by decide +kernel, rfl, by decide +kernel, by decide +kernel⟩
abbrev st_first_broken : Stmt := topS 24
abbrev N_first_broken : List Str := ["book", "calendar", "lived", "day", "number"]
theorem sc_first_broken : FnScope N_first_broken ["book", "calendar"] (defScope st_first_broken) := ⟨rfl, rfl, rfl, by decide +kernel, rfl, by decide +kernel, by decide +kernel⟩
abbrev st_past_of : Stmt := topS 25
abbrev N_past_of : List Str := ["book", "calendar"]
theorem sc_past_of : FnScope N_past_of ["book", "calendar"] (defScope st_past_of) := ⟨rfl, rfl, rfl, by decide +kernel, rfl, by decide +kernel, by decide +kernel⟩
abbrev st_next_days : Stmt := topS 26
abbrev N_next_days : List Str := ["book", "calendar"]
theorem sc_next_days : FnScope N_next_days ["book", "calendar"] (defScope st_next_days) := ⟨rfl, rfl, rfl, by decide +kernel, rfl, by decide +kernel, by decide +kernel⟩
abbrev st_check_allowed : Stmt := topS 27
abbrev N_check_allowed : List Str := ["book", "calendar"]
theorem sc_check_allowed : FnScope N_check_allowed ["book", "calendar"] (defScope st_check_allowed) := ⟨rfl, rfl, rfl, by decide +kernel, rfl, by decide +kernel, by decide +kernel⟩
abbrev st_days_behind : Stmt := topS 28
abbrev N_days_behind : List Str := ["book", "past", "day"]
theorem sc_days_behind : FnScope N_days_behind ["book", "past"] (defScope st_days_behind) := ⟨rfl, rfl, rfl, by decide +kernel, rfl, by decide +kernel, by decide +kernel⟩
abbrev st_limit_broken : Stmt := topS 29
abbrev N_limit_broken : List Str := ["book", "past", "day", "number", "limit"]
theorem sc_limit_broken : FnScope N_limit_broken ["book", "past", "day"] (defScope st_limit_broken) := ⟨rfl, rfl, rfl, by decide +kernel, rfl, by decide +kernel, by decide +kernel⟩
abbrev st__breaks : Stmt := topS 30
abbrev N__breaks : List Str := ["limit", "days", "kind", "zones", "count", "inside", "begun", "day", "before", "now"]
theorem sc__breaks : FnScope N__breaks ["limit", "days"] (defScope st__breaks) := ⟨rfl, rfl, rfl, by decide +kernel, rfl, by decide +kernel, by decide +kernel⟩
abbrev st__law_drawn : Stmt := topS 32
abbrev N__law_drawn : List Str := ["_law_script", "_law_k", "_law_many", "_law_cell", "_law_turn", "_law_rest"]
theorem sc__law_drawn : FnScope N__law_drawn ["_law_script", "_law_k", "_law_many"] (defScope st__law_drawn) := ⟨rfl, rfl, rfl, by decide +kernel, rfl, by decide +kernel, by decide +kernel⟩
abbrev st__law_limit : Stmt := topS 33
abbrev N__law_limit : List Str := ["_law_script", "_law_at", "_law_zones", "_law_some", "_law_kind"]
theorem sc__law_limit : FnScope N__law_limit ["_law_script", "_law_at", "_law_zones"] (defScope st__law_limit) := ⟨rfl, rfl, rfl, by decide +kernel, rfl, by decide +kernel, by decide +kernel⟩
abbrev st__law_breaks : Stmt := topS 34
abbrev N__law_breaks : List Str := ["_law_limit_here", "_law_days_here", "_law_kind", "_law_zones", "_law_count", "_law_held", "_law_first", "_law_begun", "_law_day", "_law_k"]
theorem sc__law_breaks : FnScope N__law_breaks ["_law_limit_here", "_law_days_here"] (defScope st__law_breaks) := ⟨rfl, rfl, rfl, by decide +kernel, rfl, by decide +kernel, by decide +kernel⟩
abbrev st__law_broken : Stmt := topS 35
abbrev N__law_broken : List Str := ["_law_book", "_law_calendar", "_law_days_here", "_law_number", "_law_day", "_law_bad", "_law_k", "_law_limit_here"]
theorem sc__law_broken : FnScope N__law_broken ["_law_book", "_law_calendar"] (defScope st__law_broken) := ⟨rfl, rfl, rfl, by decide +kernel, rfl, by decide +kernel, by decide +kernel⟩
abbrev st__law_days : Stmt := topS 36
abbrev N__law_days : List Str := ["_law_script", "_law_at", "_law_book", "_law_most", "_law_many", "_law_letters", "_law_k"]
theorem sc__law_days : FnScope N__law_days ["_law_script", "_law_at", "_law_book", "_law_most"] (defScope st__law_days) := ⟨rfl, rfl, rfl, by decide +kernel, rfl, by decide +kernel, by decide +kernel⟩
abbrev st__law_badbook : Stmt := topS 37
abbrev N__law_badbook : List Str := ["_law_script", "_law_at", "_law_limit_here", "_law_bad"]
theorem sc__law_badbook : FnScope N__law_badbook ["_law_script", "_law_at"] (defScope st__law_badbook) := ⟨rfl, rfl, rfl, by decide +kernel, rfl, by decide +kernel, by decide +kernel⟩
abbrev st__law_badcalendar : Stmt := topS 38
abbrev N__law_badcalendar : List Str := ["_law_script", "_law_at"]
theorem sc__law_badcalendar : FnScope N__law_badcalendar ["_law_script", "_law_at"] (defScope st__law_badcalendar) := ⟨rfl, rfl, rfl, by decide +kernel, rfl, by decide +kernel, by decide +kernel⟩
abbrev st__law_error : Stmt := topS 39
abbrev N__law_error : List Str := ["_law_way", "_law_one", "_law_two", "e"]
theorem sc__law_error : FnScope N__law_error ["_law_way", "_law_one", "_law_two"] (defScope st__law_error) := ⟨rfl, rfl, rfl, by decide +kernel, rfl, by decide +kernel, by decide +kernel⟩
abbrev st__law_whole : Stmt := topS 40
abbrev N__law_whole : List Str := ["_law_limit_here", "_law_calendar", "_law_kind", "_law_zones", "_law_count", "_law_held", "_law_firsts", "_law_lasts", "_law_known", "_law_number", "_law_day", "_law_n", "_law_end", "_law_first", "_law_m"]
theorem sc__law_whole : FnScope N__law_whole ["_law_limit_here", "_law_calendar"] (defScope st__law_whole) := ⟨rfl, rfl, rfl, by decide +kernel, rfl, by decide +kernel, by decide +kernel⟩
abbrev st__law_raw : Stmt := topS 41
abbrev N__law_raw : List Str := ["_law_script", "_law_at", "_law_most", "_law_zones", "_law_limits", "_law_k"]
theorem sc__law_raw : FnScope N__law_raw ["_law_script", "_law_at", "_law_most"] (defScope st__law_raw) := ⟨rfl, rfl, rfl, by decide +kernel, rfl, by decide +kernel, by decide +kernel⟩
abbrev st_law : Stmt := topS 42
abbrev N_law : List Str := ["_law_script", "_law_book", "_law_k", "_law_calendar", "_law_bad", "_law_able", "_law_day", "_law_odd", "_law_wrong", "_law_told", "_law_way", "_law_limit_here"]
theorem sc_law : FnScope N_law ["_law_script"] (defScope st_law) := ⟨rfl, rfl, rfl, by decide +kernel, rfl, by decide +kernel, by decide +kernel⟩
def tab_BOUNDS : List (Str × Option D) := [("most", some (.tup [(.tup [(.int 0), (.int 6)]), (.tup [(.int 1), (.int 6)])])), ("row", some (.tup [(.tup [(.int 0), (.int 5)])])), ("gap", some (.tup [(.tup [(.int 1), (.int 5)])])), ("starts", some (.tup [(.tup [(.int 0), (.int 5)]), (.tup [(.int 1), (.int 5)])])), ("stay", none)]
/-- what the top leaves -/
structure Top (K : PySem.W.Frag) (w : World) (mg : Str → Option Value) : Prop where
  d_is_book : DefT K mg "is_book" st_is_book ["candidate"]
  d_is_calendar : DefT K mg "is_calendar" st_is_calendar ["book", "candidate"]
  d_check_book : DefT K mg "check_book" st_check_book ["book"]
  d_check_calendar : DefT K mg "check_calendar" st_check_calendar ["book", "calendar"]
  d_day_letters : DefT K mg "day_letters" st_day_letters ["book"]
  d_is_text_of : DefT K mg "is_text_of" st_is_text_of ["letters", "most", "candidate"]
  d_is_pair : DefT K mg "is_pair" st_is_pair ["candidate"]
  d_is_between : DefT K mg "is_between" st_is_between ["candidate", "low", "high"]
  d__limit_zones : DefT K mg "_limit_zones" st__limit_zones ["zones"]
  d__is_limit_within : DefT K mg "_is_limit_within" st__is_limit_within ["candidate", "zones"]
  d_is_allowed : DefT K mg "is_allowed" st_is_allowed ["book", "calendar"]
  d_first_broken : DefT K mg "first_broken" st_first_broken ["book", "calendar"]
  d_past_of : DefT K mg "past_of" st_past_of ["book", "calendar"]
  d_next_days : DefT K mg "next_days" st_next_days ["book", "calendar"]
  d_check_allowed : DefT K mg "check_allowed" st_check_allowed ["book", "calendar"]
  d_days_behind : DefT K mg "days_behind" st_days_behind ["book", "past"]
  d_limit_broken : DefT K mg "limit_broken" st_limit_broken ["book", "past", "day"]
  d__breaks : DefT K mg "_breaks" st__breaks ["limit", "days"]
  d__law_drawn : DefT K mg "_law_drawn" st__law_drawn ["_law_script", "_law_k", "_law_many"]
  d__law_limit : DefT K mg "_law_limit" st__law_limit ["_law_script", "_law_at", "_law_zones"]
  d__law_breaks : DefT K mg "_law_breaks" st__law_breaks ["_law_limit_here", "_law_days_here"]
  d__law_broken : DefT K mg "_law_broken" st__law_broken ["_law_book", "_law_calendar"]
  d__law_days : DefT K mg "_law_days" st__law_days ["_law_script", "_law_at", "_law_book", "_law_most"]
  d__law_badbook : DefT K mg "_law_badbook" st__law_badbook ["_law_script", "_law_at"]
  d__law_badcalendar : DefT K mg "_law_badcalendar" st__law_badcalendar ["_law_script", "_law_at"]
  d__law_error : DefT K mg "_law_error" st__law_error ["_law_way", "_law_one", "_law_two"]
  d__law_whole : DefT K mg "_law_whole" st__law_whole ["_law_limit_here", "_law_calendar"]
  d__law_raw : DefT K mg "_law_raw" st__law_raw ["_law_script", "_law_at", "_law_most"]
  d_law : DefT K mg "law" st_law ["_law_script"]
  c_AWAY : ∃ t, mg "AWAY" = some (.str "." t)
  c_MOST_DAYS : ∃ t, mg "MOST_DAYS" = some (.int 60 t)
  c_MOST_LIMITS : ∃ t, mg "MOST_LIMITS" = some (.int 4 t)
  c_PAST_DAYS : ∃ t, mg "PAST_DAYS" = some (.int 5 t)
  c_FIRST_PAST : ∃ t, mg "FIRST_PAST" = some (.str "....." t)
  t_BOUNDS : KTab K w mg "BOUNDS" tab_BOUNDS
  x_StayError : ∃ C, ExcT K mg "StayError" C
  x_InvalidBook : ∃ C, ExcT K mg "InvalidBook" C
  x_InvalidCalendar : ∃ C, ExcT K mg "InvalidCalendar" C
  x_Broken : ∃ C, ExcT K mg "Broken" C
  try__law_error : TryT K mg "StayError" ["InvalidBook", "InvalidCalendar", "Broken"]
  z_all : mg "all" = none
  z_any : mg "any" = none
  z_bool : mg "bool" = none
  z_enumerate : mg "enumerate" = none
  z_int : mg "int" = none
  z_isinstance : mg "isinstance" = none
  z_len : mg "len" = none
  z_range : mg "range" = none
  z_str : mg "str" = none
  z_sum : mg "sum" = none
  z_tuple : mg "tuple" = none
  z_zip : mg "zip" = none
/-! ### mirrors -/
def b_is_pair : Mir.Env → RS := (sRet (mAndV (mCall isF (mCons (mVar 0) (mCons (mC (.ty "tuple")) mNil))) (mB (cmpF .Eq) (mCall lenF (mCons (mVar 0) mNil)) (mC (.int 2)))))
def f_is_pair : List D → R D := runD 1 b_is_pair
def b_is_between : Mir.Env → RS := (sSeq (sIf (mOr (mUT truth (mCall isF (mCons (mVar 0) (mCons (mC (.ty "bool")) mNil)))) (mNot (mUT truth (mCall isF (mCons (mVar 0) (mCons (mC (.ty "int")) mNil)))))) (sRet (mC (.bl false))) sSkip)
  (sRet (mCh (cmpF .LtE) (cmpF .LtE) (mVar 1) (mVar 0) (mVar 2))))
def f_is_between : List D → R D := runD 3 b_is_between
def b__limit_zones : Mir.Env → RS := (sSeq (sIf (mTest (mB (cmpF .Eq) (mVar 0) (mC (.str "ab")))) (sRet (mTup (mCons (mC (.str "a")) (mCons (mC (.str "b")) (mCons (mC (.str "ab")) mNil))))) sSkip)
  (sRet (mTup (mCons (mC (.str "a")) mNil))))
def f__limit_zones : List D → R D := runD 1 b__limit_zones
def el__is_limit_within_1 : Mir.Env → R D := (mFn 3 f_is_between (mCons (mVar 5) (mCons (mVar 6) (mCons (mVar 7) mNil))))
def b__is_limit_within : Mir.Env → RS := (sSeq (sIf (mOr (mNot (mUT truth (mCall isF (mCons (mVar 0) (mCons (mC (.ty "tuple")) mNil))))) (mTest (mB (cmpF .Lt) (mCall lenF (mCons (mVar 0) mNil)) (mC (.int 3))))) (sRet (mC (.bl false))) sSkip)
  (sSeq (sSet 2 (mB ixD (mVar 0) (mC (.int 0))))
  (sSeq (sIf (mOr (mNot (mUT truth (mCall isF (mCons (mVar 2) (mCons (mC (.ty "str")) mNil))))) (mTest (mU (kHas tab_BOUNDS true) (mVar 2)))) (sRet (mC (.bl false))) sSkip)
  (sSeq (sSet 3 (mU (kGet tab_BOUNDS) (mVar 2)))
  (sSeq (sSet 4 (mSl (mVar 0) (mSome (mC (.int 2))) mNo))
  (sSeq (sIf (mOr (mTest (mB (cmpF .NotIn) (mB ixD (mVar 0) (mC (.int 1))) (mFn 1 f__limit_zones (mCons (mVar 1) mNil)))) (mTest (mB (cmpF .NotEq) (mCall lenF (mCons (mVar 4) mNil)) (mCall lenF (mCons (mVar 3) mNil))))) (sRet (mC (.bl false))) sSkip)
  (sRet (mCall allF (mCons (mFz (mLc [5, 6, 7] (mSeqs zipF (mCons (mVar 4) (mCons (mVar 3) mNil))) (tgTup 2 (tgCons (tgName 5) (tgCons (tgTup 2 (tgCons (tgName 6) (tgCons (tgName 7) tgNil))) tgNil))) mYes el__is_limit_within_1)) mNil)))))))))
def f__is_limit_within : List D → R D := runD 8 b__is_limit_within
def el_is_book_1 : Mir.Env → R D := (mFn 2 f__is_limit_within (mCons (mVar 3) (mCons (mVar 1) mNil)))
def b_is_book : Mir.Env → RS := (sSeq (sIf (mNot (mUT truth (mFn 1 f_is_pair (mCons (mVar 0) mNil)))) (sRet (mC (.bl false))) sSkip)
  (sSeq (sUnp (tgTup 2 (tgCons (tgName 1) (tgCons (tgName 2) tgNil))) (mVar 0))
  (sSeq (sIf (mOr (mTest (mB (cmpF .NotIn) (mVar 1) (mTup (mCons (mC (.str "a")) (mCons (mC (.str "ab")) mNil))))) (mNot (mUT truth (mCall isF (mCons (mVar 2) (mCons (mC (.ty "tuple")) mNil)))))) (sRet (mC (.bl false))) sSkip)
  (sSeq (sIf (mTest (mB (cmpF .Gt) (mCall lenF (mCons (mVar 2) mNil)) (mC (.int 4)))) (sRet (mC (.bl false))) sSkip)
  (sRet (mCall allF (mCons (mFz (mLc [3] (mSeq anyOf (mVar 2)) (tgName 3) mYes el_is_book_1)) mNil)))))))
def f_is_book : List D → R D := runD 4 b_is_book
def b_check_book : Mir.Env → RS := (sIf (mNot (mUT truth (mFn 1 f_is_book (mCons (mVar 0) mNil)))) (fun _ => .exc "InvalidBook") sSkip)
def f_check_book : List D → R D := runD 1 b_check_book
def b_day_letters : Mir.Env → RS := (sRet (mB addD (mC (.str ".")) (mB ixD (mVar 0) (mC (.int 0)))))
def f_day_letters : List D → R D := runD 1 b_day_letters
def el_is_text_of_1 : Mir.Env → R D := (mB (cmpF .In) (mVar 3) (mVar 0))
def b_is_text_of : Mir.Env → RS := (sSeq (sIf (mOr (mNot (mUT truth (mCall isF (mCons (mVar 2) (mCons (mC (.ty "str")) mNil))))) (mTest (mB (cmpF .Gt) (mCall lenF (mCons (mVar 2) mNil)) (mVar 1)))) (sRet (mC (.bl false))) sSkip)
  (sRet (mCall allF (mCons (mFz (mLc [3] (mSeq anyOf (mVar 2)) (tgName 3) mYes el_is_text_of_1)) mNil))))
def f_is_text_of : List D → R D := runD 4 b_is_text_of
def b_is_calendar : Mir.Env → RS := (sSeq (sDrop (mFn 1 f_check_book (mCons (mVar 0) mNil)))
  (sRet (mFn 3 f_is_text_of (mCons (mFn 1 f_day_letters (mCons (mVar 0) mNil)) (mCons (mC (.int 60)) (mCons (mVar 1) mNil))))))
def f_is_calendar : List D → R D := runD 2 b_is_calendar
def b_check_calendar : Mir.Env → RS := (sIf (mNot (mUT truth (mFn 2 f_is_calendar (mCons (mVar 0) (mCons (mVar 1) mNil))))) (fun _ => .exc "InvalidCalendar") sSkip)
def f_check_calendar : List D → R D := runD 2 b_check_calendar
def el__breaks_1 : Mir.Env → R D := (mB (cmpF .In) (mVar 7) (mVar 3))
def el__breaks_2 : Mir.Env → R D := (mAndV (mVar 9) (mNotV (mVar 8)))
def b__breaks : Mir.Env → RS := (sSeq (sUnp (tgTup 3 (tgCons (tgName 2) (tgCons (tgName 3) (tgCons (tgName 4) tgNil)))) (mSl (mVar 0) mNo (mSome (mC (.int 3)))))
  (sSeq (sSet 5 (mFz (mLc [7] (mSeq anyOf (mVar 1)) (tgName 7) mYes el__breaks_1)))
  (sSeq (sSet 6 (mFz (mLc [8, 9] (mSeqs zipF (mCons (mVar 5) (mCons (mSl (mVar 5) (mSome (mC (.int 1))) mNo) mNil))) (tgTup 2 (tgCons (tgName 8) (tgCons (tgName 9) tgNil))) mYes el__breaks_2)))
  (sSeq (sIf (mTest (mB (cmpF .Eq) (mVar 2) (mC (.str "most")))) (sRet (mB (cmpF .Gt) (mCall sumF (mCons (mSl (mVar 5) (mSome (mU negD (mB ixD (mVar 0) (mC (.int 3))))) mNo) mNil)) (mVar 4))) sSkip)
  (sSeq (sIf (mTest (mB (cmpF .Eq) (mVar 2) (mC (.str "starts")))) (sRet (mB (cmpF .Gt) (mCall sumF (mCons (mSl (mVar 6) (mSome (mU negD (mB ixD (mVar 0) (mC (.int 3))))) mNo) mNil)) (mVar 4))) sSkip)
  (sSeq (sIf (mTest (mB (cmpF .Eq) (mVar 2) (mC (.str "row")))) (sRet (mCall allF (mCons (mSl (mVar 5) (mSome (mB subD (mU negD (mC (.int 1))) (mVar 4))) mNo) mNil))) sSkip)
  (sRet (mAndV (mB ixD (mVar 6) (mU negD (mC (.int 1)))) (mCall anyF (mCons (mSl (mVar 5) (mSome (mB subD (mU negD (mC (.int 1))) (mVar 4))) (mSome (mU negD (mC (.int 1))))) mNil))))))))))
def f__breaks : List D → R D := runD 10 b__breaks
def bd_limit_broken_1 : Mir.Env → RS := (sIf (mUT truth (mFn 2 f__breaks (mCons (mVar 4) (mCons (mB addD (mVar 1) (mVar 2)) mNil)))) (sRet (mVar 3)) sSkip)
def b_limit_broken : Mir.Env → RS := (sSeq (sFor (mSeqs enF (mCons (mB ixD (mVar 0) (mC (.int 1))) mNil)) (tgTup 2 (tgCons (tgName 3) (tgCons (tgName 4) tgNil))) bd_limit_broken_1)
  (sRet (mC .non)))
def f_limit_broken : List D → R D := runD 5 b_limit_broken
def bd_first_broken_1 : Mir.Env → RS := (sSeq (sSet 4 (mFn 3 f_limit_broken (mCons (mVar 0) (mCons (mSl (mVar 2) (mSome (mVar 3)) (mSome (mB addD (mVar 3) (mC (.int 5))))) (mCons (mB ixD (mVar 1) (mVar 3)) mNil)))))
  (sIf (mTest (mB (cmpF .IsNot) (mVar 4) (mC .non))) (sRet (mTup (mCons (mVar 3) (mCons (mVar 4) mNil)))) sSkip))
def b_first_broken : Mir.Env → RS := (sSeq (sDrop (mFn 2 f_check_calendar (mCons (mVar 0) (mCons (mVar 1) mNil))))
  (sSeq (sSet 2 (mB addD (mC (.str ".....")) (mVar 1)))
  (sSeq (sFor (mSeqs rng1 (mCons (mCall lenF (mCons (mVar 1) mNil)) mNil)) (tgName 3) bd_first_broken_1)
  (sRet (mC .non)))))
def f_first_broken : List D → R D := runD 5 b_first_broken
def b_is_allowed : Mir.Env → RS := (sRet (mB (cmpF .Is) (mFn 2 f_first_broken (mCons (mVar 0) (mCons (mVar 1) mNil))) (mC .non)))
def f_is_allowed : List D → R D := runD 2 b_is_allowed
def b_past_of : Mir.Env → RS := (sSeq (sDrop (mFn 2 f_check_calendar (mCons (mVar 0) (mCons (mVar 1) mNil))))
  (sRet (mSl (mB addD (mC (.str ".....")) (mVar 1)) (mSome (mU negD (mC (.int 5)))) mNo)))
def f_past_of : List D → R D := runD 2 b_past_of
def b_check_allowed : Mir.Env → RS := (sIf (mNot (mUT truth (mFn 2 f_is_allowed (mCons (mVar 0) (mCons (mVar 1) mNil))))) (fun _ => .exc "Broken") sSkip)
def f_check_allowed : List D → R D := runD 2 b_check_allowed
def el_days_behind_1 : Mir.Env → R D := (mVar 2)
def tt_days_behind_2 : Mir.Env → R Bool := (mTest (mB (cmpF .Is) (mFn 3 f_limit_broken (mCons (mVar 0) (mCons (mVar 1) (mCons (mVar 2) mNil)))) (mC .non)))
def b_days_behind : Mir.Env → RS := (sRet (mFz (mLc [2] (mSeq anyOf (mFn 1 f_day_letters (mCons (mVar 0) mNil))) (tgName 2) tt_days_behind_2 el_days_behind_1)))
def f_days_behind : List D → R D := runD 3 b_days_behind
def b_next_days : Mir.Env → RS := (sSeq (sDrop (mFn 2 f_check_allowed (mCons (mVar 0) (mCons (mVar 1) mNil))))
  (sRet (mFn 2 f_days_behind (mCons (mVar 0) (mCons (mFn 2 f_past_of (mCons (mVar 0) (mCons (mVar 1) mNil))) mNil)))))
def f_next_days : List D → R D := runD 2 b_next_days
def wt__law_drawn_1 : Mir.Env → R Bool := (mAnd (mTest (mB (cmpF .Gt) (mVar 5) (mC (.int 0)))) (mTest (mB (cmpF .Gt) (mVar 4) (mC (.int 0)))))
def wb__law_drawn_2 : Mir.Env → RS := (sSeq (sSet 5 (mB fdivD (mVar 5) (mC (.int 1000000))))
  (sSet 4 (mB subD (mVar 4) (mC (.int 1)))))
def b__law_drawn : Mir.Env → RS := (sSeq (sSet 3 (mB mulD (mC (.int 7)) (mVar 1)))
  (sSeq (sIf (mTest (mB (cmpF .NotEq) (mVar 0) (mFz (mLst mNil)))) (sSeq (sSet 3 (mB ixD (mVar 0) (mB modD (mCall intF (mCons (mVar 1) mNil)) (mCall lenF (mCons (mVar 0) mNil)))))
  (sSeq (sSet 4 (mB fdivD (mVar 1) (mCall lenF (mCons (mVar 0) mNil))))
  (sSeq (sIf (mAnd (mTest (mB (cmpF .GtE) (mVar 3) (mB powD (mC (.int 10)) (mC (.int 18))))) (mTest (mB (cmpF .Lt) (mVar 4) (mC (.int 60))))) (sSeq (sSet 5 (mB fdivD (mVar 3) (mB powD (mC (.int 10)) (mC (.int 18)))))
  (sSeq (sWhile (fun _ => 1000) wt__law_drawn_1 wb__law_drawn_2)
  (sIf (mTest (mB (cmpF .Gt) (mVar 5) (mC (.int 0)))) (sRet (mB modD (mCall intF (mCons (mB modD (mCall intF (mCons (mVar 5) mNil)) (mC (.int 1000000))) mNil)) (mVar 2))) sSkip))) sSkip)
  (sSet 3 (mB addD (mVar 3) (mB mulD (mC (.int 6553)) (mB fdivD (mVar 1) (mCall lenF (mCons (mVar 0) mNil))))))))) sSkip)
  (sSeq (sSet 3 (mB modD (mCall intF (mCons (mB addD (mB mulD (mB modD (mCall intF (mCons (mVar 3) mNil)) (mC (.int 2147483563))) (mC (.int 69069))) (mB mulD (mC (.int 104723)) (mB addD (mVar 1) (mC (.int 1))))) mNil)) (mC (.int 2147483563))))
  (sSeq (sSet 3 (mB modD (mCall intF (mCons (mB addD (mB mulD (mVar 3) (mVar 3)) (mB fdivD (mVar 3) (mC (.int 3)))) mNil)) (mC (.int 2147483399))))
  (sRet (mB modD (mCall intF (mCons (mB fdivD (mB modD (mCall intF (mCons (mB addD (mB mulD (mVar 3) (mVar 3)) (mB fdivD (mVar 3) (mC (.int 7)))) mNil)) (mC (.int 2147483647))) (mC (.int 11))) mNil)) (mVar 2)))))))
def f__law_drawn : List D → R D := runD 6 b__law_drawn
def b__law_limit : Mir.Env → RS := (sSeq (sSet 3 (mIf (mTest (mB (cmpF .Eq) (mVar 2) (mC (.str "a")))) (mC (.str "a")) (mB ixD (mFz (mLst (mCons (mC (.str "a")) (mCons (mC (.str "b")) (mCons (mC (.str "ab")) (mCons (mC (.str "ab")) mNil)))))) (mFn 3 f__law_drawn (mCons (mVar 0) (mCons (mVar 1) (mCons (mC (.int 4)) mNil)))))))
  (sSeq (sSet 4 (mB ixD (mFz (mLst (mCons (mC (.str "most")) (mCons (mC (.str "most")) (mCons (mC (.str "row")) (mCons (mC (.str "gap")) (mCons (mC (.str "starts")) mNil))))))) (mFn 3 f__law_drawn (mCons (mVar 0) (mCons (mB addD (mVar 1) (mC (.int 1))) (mCons (mC (.int 5)) mNil))))))
  (sSeq (sIf (mTest (mB (cmpF .Eq) (mVar 4) (mC (.str "most")))) (sRet (mTup (mCons (mVar 4) (mCons (mVar 3) (mCons (mB addD (mC (.int 1)) (mFn 3 f__law_drawn (mCons (mVar 0) (mCons (mB addD (mVar 1) (mC (.int 2))) (mCons (mC (.int 3)) mNil))))) (mCons (mB addD (mC (.int 1)) (mFn 3 f__law_drawn (mCons (mVar 0) (mCons (mB addD (mVar 1) (mC (.int 3))) (mCons (mC (.int 6)) mNil))))) mNil)))))) sSkip)
  (sSeq (sIf (mTest (mB (cmpF .Eq) (mVar 4) (mC (.str "starts")))) (sRet (mTup (mCons (mVar 4) (mCons (mVar 3) (mCons (mFn 3 f__law_drawn (mCons (mVar 0) (mCons (mB addD (mVar 1) (mC (.int 2))) (mCons (mC (.int 3)) mNil)))) (mCons (mB addD (mC (.int 1)) (mFn 3 f__law_drawn (mCons (mVar 0) (mCons (mB addD (mVar 1) (mC (.int 3))) (mCons (mC (.int 5)) mNil))))) mNil)))))) sSkip)
  (sRet (mTup (mCons (mVar 4) (mCons (mVar 3) (mCons (mB addD (mC (.int 1)) (mFn 3 f__law_drawn (mCons (mVar 0) (mCons (mB addD (mVar 1) (mC (.int 2))) (mCons (mC (.int 3)) mNil))))) mNil)))))))))
def f__law_limit : List D → R D := runD 5 b__law_limit
def el__law_breaks_1 : Mir.Env → R D := (mB (cmpF .In) (mVar 8) (mVar 3))
def el__law_breaks_2 : Mir.Env → R D := (mVar 9)
def tt__law_breaks_3 : Mir.Env → R Bool := (mAnd (mUT truth (mB ixD (mVar 5) (mVar 9))) (mNot (mUT truth (mB ixD (mVar 5) (mB subD (mVar 9) (mC (.int 1)))))))
def b__law_breaks : Mir.Env → RS := (sSeq (sUnp (tgTup 3 (tgCons (tgName 2) (tgCons (tgName 3) (tgCons (tgName 4) tgNil)))) (mSl (mVar 0) mNo (mSome (mC (.int 3)))))
  (sSeq (sSet 5 (mFz (mLc [8] (mSeq anyOf (mVar 1)) (tgName 8) mYes el__law_breaks_1)))
  (sSeq (sIf (mTest (mB (cmpF .Eq) (mVar 2) (mC (.str "most")))) (sRet (mB (cmpF .Gt) (mCall sumF (mCons (mSl (mVar 5) (mSome (mB subD (mCall lenF (mCons (mVar 5) mNil)) (mB ixD (mVar 0) (mC (.int 3))))) mNo) mNil)) (mVar 4))) sSkip)
  (sSeq (sSet 6 (mAndV (mB ixD (mVar 5) (mU negD (mC (.int 1)))) (mNotV (mB ixD (mVar 5) (mU negD (mC (.int 2)))))))
  (sSeq (sIf (mTest (mB (cmpF .Eq) (mVar 2) (mC (.str "row")))) (sRet (mAndV (mB (cmpF .Gt) (mCall lenF (mCons (mVar 5) mNil)) (mVar 4)) (mCall allF (mCons (mSl (mVar 5) (mSome (mB subD (mB subD (mCall lenF (mCons (mVar 5) mNil)) (mVar 4)) (mC (.int 1)))) mNo) mNil)))) sSkip)
  (sSeq (sIf (mTest (mB (cmpF .Eq) (mVar 2) (mC (.str "gap")))) (sRet (mAndV (mVar 6) (mCall anyF (mCons (mSl (mVar 5) (mSome (mB subD (mB subD (mCall lenF (mCons (mVar 5) mNil)) (mVar 4)) (mC (.int 1)))) (mSome (mB subD (mCall lenF (mCons (mVar 5) mNil)) (mC (.int 1))))) mNil)))) sSkip)
  (sSeq (sSet 7 (mFz (mLc [9] (mSeqs rng2 (mCons (mB subD (mCall lenF (mCons (mVar 5) mNil)) (mB ixD (mVar 0) (mC (.int 3)))) (mCons (mCall lenF (mCons (mVar 5) mNil)) mNil))) (tgName 9) tt__law_breaks_3 el__law_breaks_2)))
  (sRet (mAndV (mVar 6) (mB (cmpF .Gt) (mCall lenF (mCons (mVar 7) mNil)) (mVar 4)))))))))))
def f__law_breaks : List D → R D := runD 10 b__law_breaks
def el__law_broken_1 : Mir.Env → R D := (mVar 6)
def tt__law_broken_2 : Mir.Env → R Bool := (mUT truth (mFn 2 f__law_breaks (mCons (mVar 7) (mCons (mVar 2) mNil))))
def bd__law_broken_3 : Mir.Env → RS := (sSeq (sSet 2 (mB addD (mVar 2) (mVar 4)))
  (sSeq (sSet 5 (mFz (mLc [6, 7] (mSeqs enF (mCons (mB ixD (mVar 0) (mC (.int 1))) mNil)) (tgTup 2 (tgCons (tgName 6) (tgCons (tgName 7) tgNil))) tt__law_broken_2 el__law_broken_1)))
  (sIf (mTest (mB (cmpF .NotEq) (mVar 5) (mFz (mLst mNil)))) (sRet (mTup (mCons (mVar 3) (mCons (mB ixD (mVar 5) (mC (.int 0))) mNil)))) sSkip)))
def b__law_broken : Mir.Env → RS := (sSeq (sSet 2 (mB mulD (mC (.str ".")) (mC (.int 7))))
  (sSeq (sFor (mSeqs enF (mCons (mVar 1) mNil)) (tgTup 2 (tgCons (tgName 3) (tgCons (tgName 4) tgNil))) bd__law_broken_3)
  (sRet (mC .non))))
def f__law_broken : List D → R D := runD 8 b__law_broken
def el__law_days_1 : Mir.Env → R D := (mB ixD (mVar 5) (mFn 3 f__law_drawn (mCons (mVar 0) (mCons (mB addD (mB addD (mVar 1) (mC (.int 1))) (mVar 6)) (mCons (mCall lenF (mCons (mVar 5) mNil)) mNil)))))
def b__law_days : Mir.Env → RS := (sSeq (sSet 4 (mFn 3 f__law_drawn (mCons (mVar 0) (mCons (mVar 1) (mCons (mB addD (mVar 3) (mC (.int 1))) mNil)))))
  (sSeq (sSet 5 (mB addD (mB addD (mC (.str ".")) (mB ixD (mVar 2) (mC (.int 0)))) (mC (.str "."))))
  (sRet (mJoin (mC (.str "")) (mFz (mLc [6] (mSeqs rng1 (mCons (mVar 4) mNil)) (tgName 6) mYes el__law_days_1))))))
def f__law_days : List D → R D := runD 7 b__law_days
def b__law_badbook : Mir.Env → RS := (sSeq (sSet 2 (mTup (mCons (mC (.str "row")) (mCons (mC (.str "a")) (mCons (mC (.int 2)) mNil)))))
  (sSeq (sSet 3 (mFz (mLst (mCons (mC .non) (mCons (mTup mNil) (mCons (mTup (mCons (mC (.str "a")) mNil)) (mCons (mTup (mCons (mC (.str "b")) (mCons (mTup mNil) mNil))) (mCons (mTup (mCons (mC (.str "ba")) (mCons (mTup mNil) mNil))) (mCons (mTup (mCons (mC (.str "")) (mCons (mTup mNil) mNil))) (mCons (mFz (mLst (mCons (mC (.str "a")) (mCons (mTup mNil) mNil)))) (mCons (mTup (mCons (mC (.str "a")) (mCons (mFz (mLst (mCons (mVar 2) mNil))) mNil))) mNil)))))))))))
  (sSeq (sSet 3 (mB addD (mVar 3) (mFz (mLst (mCons (mTup (mCons (mC (.str "a")) (mCons (mB mulD (mTup (mCons (mVar 2) mNil)) (mC (.int 5))) mNil))) mNil)))))
  (sSeq (sSet 3 (mB addD (mVar 3) (mFz (mLst (mCons (mTup (mCons (mC (.str "a")) (mCons (mTup (mCons (mTup (mCons (mC (.str "row")) (mCons (mC (.str "b")) (mCons (mC (.int 2)) mNil)))) mNil)) mNil))) (mCons (mTup (mCons (mC (.str "a")) (mCons (mTup (mCons (mTup (mCons (mC (.str "row")) (mCons (mC (.str "a")) (mCons (mC (.int 6)) mNil)))) mNil)) mNil))) (mCons (mTup (mCons (mC (.str "a")) (mCons (mTup (mCons (mTup (mCons (mC (.str "gap")) (mCons (mC (.str "a")) (mCons (mC (.int 0)) mNil)))) mNil)) mNil))) mNil)))))))
  (sSeq (sSet 3 (mB addD (mVar 3) (mFz (mLst (mCons (mTup (mCons (mC (.str "a")) (mCons (mTup (mCons (mTup (mCons (mC (.str "most")) (mCons (mC (.str "a")) (mCons (mC (.int 2)) mNil)))) mNil)) mNil))) (mCons (mTup (mCons (mC (.str "a")) (mCons (mTup (mCons (mTup (mCons (mC (.str "most")) (mCons (mC (.str "a")) (mCons (mC (.int 2)) (mCons (mC (.int 7)) mNil))))) mNil)) mNil))) mNil))))))
  (sSeq (sSet 3 (mB addD (mVar 3) (mFz (mLst (mCons (mTup (mCons (mC (.str "a")) (mCons (mTup (mCons (mTup (mCons (mC (.str "stay")) (mCons (mC (.str "a")) (mCons (mC (.int 2)) mNil)))) mNil)) mNil))) mNil)))))
  (sRet (mB ixD (mB addD (mVar 3) (mFz (mLst (mCons (mTup (mCons (mC (.str "a")) (mCons (mTup (mCons (mTup (mCons (mC (.str "row")) (mCons (mC (.str "a")) (mCons (mC (.bl true)) mNil)))) mNil)) mNil))) (mCons (mTup (mCons (mC .non) (mCons (mTup mNil) mNil))) (mCons (mTup (mCons (mC (.str "a")) (mCons (mTup (mCons (mVar 2) mNil)) (mCons (mC (.int 1)) mNil)))) mNil)))))) (mFn 3 f__law_drawn (mCons (mVar 0) (mCons (mVar 1) (mCons (mC (.int 18)) mNil))))))))))))
def f__law_badbook : List D → R D := runD 4 b__law_badbook
def b__law_badcalendar : Mir.Env → RS := (sRet (mB ixD (mFz (mLst (mCons (mC .non) (mCons (mC (.int 5)) (mCons (mC (.str "c")) (mCons (mC (.str "a b")) (mCons (mFz (mLst mNil)) (mCons (mTup (mCons (mC (.str "a")) mNil)) (mCons (mB mulD (mC (.str ".")) (mC (.int 61))) (mCons (mC (.str "A")) (mCons (mC (.str "aap")) mNil))))))))))) (mFn 3 f__law_drawn (mCons (mVar 0) (mCons (mVar 1) (mCons (mC (.int 9)) mNil))))))
def f__law_badcalendar : List D → R D := runD 2 b__law_badcalendar
def try__law_error_1 : Mir.Env → RS := (sDrop (mFnIx 2 [f_is_allowed, f_first_broken, f_past_of, f_next_days] (mVar 0) (mCons (mVar 1) (mCons (mVar 2) mNil))))
def b__law_error : Mir.Env → RS := (sSeq (sTry ["InvalidBook", "InvalidCalendar", "Broken"] try__law_error_1)
  (sRet (mC .non)))
def f__law_error : List D → R D := runD 4 b__law_error
def el__law_whole_1 : Mir.Env → R D := (mVar 9)
def tt__law_whole_2 : Mir.Env → R Bool := (mTest (mB (cmpF .In) (mVar 10) (mVar 3)))
def el__law_whole_3 : Mir.Env → R D := (mVar 9)
def tt__law_whole_4 : Mir.Env → R Bool := (mTest (mB (cmpF .NotIn) (mB subD (mVar 9) (mC (.int 1))) (mVar 5)))
def el__law_whole_5 : Mir.Env → R D := (mVar 9)
def tt__law_whole_6 : Mir.Env → R Bool := (mTest (mB (cmpF .NotIn) (mB addD (mVar 9) (mC (.int 1))) (mVar 5)))
def el__law_whole_7 : Mir.Env → R D := (mVar 14)
def tt__law_whole_8 : Mir.Env → R Bool := (mTest (mCh (cmpF .Lt) (cmpF .LtE) (mB subD (mVar 11) (mB ixD (mVar 0) (mC (.int 3)))) (mVar 14) (mVar 11)))
def el__law_whole_9 : Mir.Env → R D := (mVar 11)
def tt__law_whole_10 : Mir.Env → R Bool := (mTest (mB (cmpF .Gt) (mCall lenF (mCons (mFz (mLc [14] (mSeq anyOf (mVar 8)) (tgName 14) tt__law_whole_8 el__law_whole_7)) mNil)) (mVar 4)))
def el__law_whole_11 : Mir.Env → R D := (mVar 13)
def tt__law_whole_12 : Mir.Env → R Bool := (mTest (mB (cmpF .Gt) (mB addD (mB subD (mVar 12) (mVar 13)) (mC (.int 1))) (mVar 4)))
def el__law_whole_13 : Mir.Env → R D := (mVar 12)
def tt__law_whole_14 : Mir.Env → R Bool := (mTest (mB (cmpF .Lt) (mB subD (mB subD (mVar 13) (mVar 12)) (mC (.int 1))) (mVar 4)))
def b__law_whole : Mir.Env → RS := (sSeq (sUnp (tgTup 3 (tgCons (tgName 2) (tgCons (tgName 3) (tgCons (tgName 4) tgNil)))) (mSl (mVar 0) mNo (mSome (mC (.int 3)))))
  (sSeq (sSet 5 (mFz (mLc [9, 10] (mSeqs enF (mCons (mVar 1) mNil)) (tgTup 2 (tgCons (tgName 9) (tgCons (tgName 10) tgNil))) tt__law_whole_2 el__law_whole_1)))
  (sSeq (sSet 6 (mFz (mLc [9] (mSeq anyOf (mVar 5)) (tgName 9) tt__law_whole_4 el__law_whole_3)))
  (sSeq (sSet 7 (mFz (mLc [9] (mSeq anyOf (mVar 5)) (tgName 9) tt__law_whole_6 el__law_whole_5)))
  (sSeq (sIf (mTest (mB (cmpF .In) (mVar 2) (mTup (mCons (mC (.str "most")) (mCons (mC (.str "starts")) mNil))))) (sSeq (sSet 8 (mIf (mTest (mB (cmpF .Eq) (mVar 2) (mC (.str "most")))) (mVar 5) (mVar 6)))
  (sRet (mB (cmpF .NotEq) (mFz (mLc [11] (mSeqs rng1 (mCons (mCall lenF (mCons (mVar 1) mNil)) mNil)) (tgName 11) tt__law_whole_10 el__law_whole_9)) (mFz (mLst mNil))))) sSkip)
  (sSeq (sIf (mTest (mB (cmpF .Eq) (mVar 2) (mC (.str "row")))) (sRet (mB (cmpF .NotEq) (mFz (mLc [13, 12] (mSeqs zipF (mCons (mVar 6) (mCons (mVar 7) mNil))) (tgTup 2 (tgCons (tgName 13) (tgCons (tgName 12) tgNil))) tt__law_whole_12 el__law_whole_11)) (mFz (mLst mNil)))) sSkip)
  (sRet (mB (cmpF .NotEq) (mFz (mLc [12, 13] (mSeqs zipF (mCons (mVar 7) (mCons (mSl (mVar 6) (mSome (mC (.int 1))) mNo) mNil))) (tgTup 2 (tgCons (tgName 12) (tgCons (tgName 13) tgNil))) tt__law_whole_14 el__law_whole_13)) (mFz (mLst mNil))))))))))
def f__law_whole : List D → R D := runD 15 b__law_whole
def el__law_raw_1 : Mir.Env → R D := (mFn 3 f__law_limit (mCons (mVar 0) (mCons (mB addD (mB addD (mVar 1) (mC (.int 2))) (mB mulD (mC (.int 5)) (mVar 5))) (mCons (mVar 3) mNil))))
def b__law_raw : Mir.Env → RS := (sSeq (sSet 3 (mB ixD (mFz (mLst (mCons (mC (.str "a")) (mCons (mC (.str "a")) (mCons (mC (.str "ab")) mNil))))) (mFn 3 f__law_drawn (mCons (mVar 0) (mCons (mVar 1) (mCons (mC (.int 3)) mNil))))))
  (sSeq (sSet 4 (mFz (mLc [5] (mSeqs rng1 (mCons (mFn 3 f__law_drawn (mCons (mVar 0) (mCons (mB addD (mVar 1) (mC (.int 1))) (mCons (mB addD (mVar 2) (mC (.int 1))) mNil)))) mNil)) (tgName 5) mYes el__law_raw_1)))
  (sRet (mTup (mCons (mVar 3) (mCons (mCall tupF (mCons (mVar 4) mNil)) mNil))))))
def f__law_raw : List D → R D := runD 6 b__law_raw
def el_law_1 : Mir.Env → R D := (mVar 11)
def tt_law_2 : Mir.Env → R Bool := (mUT truth (mFn 2 f__law_whole (mCons (mVar 11) (mCons (mVar 3) mNil))))
def el_law_3 : Mir.Env → R D := (mVar 11)
def tt_law_4 : Mir.Env → R Bool := (mUT truth (mFn 2 f__law_whole (mCons (mVar 11) (mCons (mB addD (mVar 3) (mVar 6)) mNil))))
def bd_law_5 : Mir.Env → RS := (sIf (mTest (mB (cmpF .Eq) (mFz (mLc [11] (mSeq anyOf (mB ixD (mVar 1) (mC (.int 1)))) (tgName 11) tt_law_4 el_law_3)) (mFz (mLst mNil)))) (sApp 5 (mVar 6)) sSkip)
def bd_law_6 : Mir.Env → RS := (sSeq (sSet 3 (mFn 4 f__law_days (mCons (mVar 0) (mCons (mB addD (mC (.int 40)) (mB mulD (mC (.int 15)) (mVar 2))) (mCons (mVar 1) (mCons (mC (.int 11)) mNil))))))
  (sSeq (sSet 4 (mFz (mLc [11] (mSeq anyOf (mB ixD (mVar 1) (mC (.int 1)))) (tgName 11) tt_law_2 el_law_1)))
  (sSeq (sIf (mTest (mB (cmpF .NotEq) (mFn 2 f_is_allowed (mCons (mVar 1) (mCons (mVar 3) mNil))) (mB (cmpF .Eq) (mVar 4) (mFz (mLst mNil))))) (sRet (mC (.bl false))) sSkip)
  (sSeq (sIf (mTest (mB (cmpF .NotEq) (mFn 2 f_first_broken (mCons (mVar 1) (mCons (mVar 3) mNil))) (mFn 2 f__law_broken (mCons (mVar 1) (mCons (mVar 3) mNil))))) (sRet (mC (.bl false))) sSkip)
  (sSeq (sIf (mTest (mB (cmpF .NotEq) (mFn 2 f_past_of (mCons (mVar 1) (mCons (mVar 3) mNil))) (mSl (mB addD (mC (.str ".....")) (mVar 3)) (mSome (mCall lenF (mCons (mVar 3) mNil))) mNo))) (sRet (mC (.bl false))) sSkip)
  (sIf (mTest (mB (cmpF .Eq) (mVar 4) (mFz (mLst mNil)))) (sSeq (sSetO 5 (mLst mNil))
  (sSeq (sFor (mSeq anyOf (mB addD (mC (.str ".")) (mB ixD (mVar 1) (mC (.int 0))))) (tgName 6) bd_law_5)
  (sIf (mPeekT (mTest (mB (cmpF .NotEq) (mFn 2 f_next_days (mCons (mVar 1) (mCons (mVar 3) mNil))) (mVar 5)))) (sRet (mC (.bl false))) sSkip))) (sIf (mTest (mB (cmpF .NotEq) (mFn 3 f__law_error (mCons (mC (.int 3)) (mCons (mVar 1) (mCons (mVar 3) mNil)))) (mC (.int 2)))) (sRet (mC (.bl false))) sSkip)))))))
def el_law_7 : Mir.Env → R D := (mFn 3 f__law_error (mCons (mVar 10) (mCons (mVar 7) (mCons (mVar 8) mNil))))
def el_law_8 : Mir.Env → R D := (mFn 3 f__law_error (mCons (mVar 10) (mCons (mVar 1) (mCons (mVar 8) mNil))))
def b_law : Mir.Env → RS := (sSeq (sSet 1 (mFn 3 f__law_raw (mCons (mVar 0) (mCons (mC (.int 10)) (mCons (mC (.int 3)) mNil)))))
  (sSeq (sFor (mSeqs rng1 (mCons (mC (.int 5)) mNil)) (tgName 2) bd_law_6)
  (sSeq (sUnp (tgTup 2 (tgCons (tgName 7) (tgCons (tgName 8) tgNil))) (mTup (mCons (mFn 2 f__law_badbook (mCons (mVar 0) (mCons (mC (.int 1)) mNil))) (mCons (mFn 2 f__law_badcalendar (mCons (mVar 0) (mCons (mC (.int 2)) mNil))) mNil))))
  (sSeq (sSet 9 (mFz (mLc [10] (mSeqs rng1 (mCons (mC (.int 4)) mNil)) (tgName 10) mYes el_law_7)))
  (sRet (mB (cmpF .Eq) (mB addD (mVar 9) (mFz (mLc [10] (mSeqs rng1 (mCons (mC (.int 4)) mNil)) (tgName 10) mYes el_law_8))) (mB addD (mB mulD (mFz (mLst (mCons (mC (.int 0)) mNil))) (mC (.int 4))) (mB mulD (mFz (mLst (mCons (mC (.int 1)) mNil))) (mC (.int 4))))))))))
def f_law : List D → R D := runD 12 b_law
/-! ### the defs keep to them -/
section
variable {P : Program} {w : World} {K : PySem.W.Frag} {mg : Str → Option Value} {base : Heap}
theorem df_is_pair (T : Top K w mg) : Df P w K mg base 1 "is_pair" ["candidate"] f_is_pair := by
  refine df_mk T.d_is_pair sc_is_pair fun f cdv A outer s H E hr tk hx hpo => ?_
  exact (ss_one (ms_ret (me_and (me_isi (ma_cons (me_var 0) (ma_cons (me_ty T.z_tuple (by decide +kernel)) ma_nil)) T.z_isinstance) (me_one (me_cm hr (me_len (ma_cons (me_var 0) ma_nil) T.z_len) me_int)))))
theorem df_is_between (T : Top K w mg) : Df P w K mg base 1 "is_between" ["candidate", "low", "high"] f_is_between := by
  refine df_mk T.d_is_between sc_is_between fun f cdv A outer s H E hr tk hx hpo => ?_
  exact (ss_cons (ms_if (PW.pt (mw_or (mt_truth (me_isi (ma_cons (me_var 0) (ma_cons (me_ty T.z_bool (by decide +kernel)) ma_nil)) T.z_isinstance)) (mw_or1 (mt_not (mt_truth (me_isi (ma_cons (me_var 0) (ma_cons (me_ty T.z_int (by decide +kernel)) ma_nil)) T.z_isinstance)))))) (ss_one (ms_ret me_bl)) ss_nil)
    (ss_one (ms_ret (me_ch hr (me_var 1) (me_var 0) (me_var 2)))))
theorem df__limit_zones (T : Top K w mg) : Df P w K mg base 1 "_limit_zones" ["zones"] f__limit_zones := by
  refine df_mk T.d__limit_zones sc__limit_zones fun f cdv A outer s H E hr tk hx hpo => ?_
  exact (ss_cons (ms_if (mt_cm hr (me_var 0) me_str) (ss_one (ms_ret (me_tup (ma_cons me_str (ma_cons me_str (ma_cons me_str ma_nil)))))) ss_nil)
    (ss_one (ms_ret (me_tup (ma_cons me_str ma_nil)))))
theorem df__is_limit_within (T : Top K w mg) : Df P w K mg base 2 "_is_limit_within" ["candidate", "zones"] f__is_limit_within := by
  refine df_mk T.d__is_limit_within sc__is_limit_within fun f cdv A outer s H E hr tk hx hpo => ?_
  exact (ss_cons (ms_if (PW.pt (mw_or (mt_not (mt_truth (me_isi (ma_cons (me_var 0) (ma_cons (me_ty T.z_tuple (by decide +kernel)) ma_nil)) T.z_isinstance))) (mw_or1 (mt_cm hr (me_len (ma_cons (me_var 0) ma_nil) T.z_len) me_int)))) (ss_one (ms_ret me_bl)) ss_nil)
    (ss_cons (ms_set sc__is_limit_within.nd (me_ix (me_var 0) me_int))
    (ss_cons (ms_if (PW.pt (mw_or (mt_not (mt_truth (me_isi (ma_cons (me_var 2) (ma_cons (me_ty T.z_str (by decide +kernel)) ma_nil)) T.z_isinstance))) (mw_or1 (mt_knin T.t_BOUNDS (me_var 2))))) (ss_one (ms_ret me_bl)) ss_nil)
    (ss_cons (ms_set sc__is_limit_within.nd (me_kget T.t_BOUNDS (me_var 2)))
    (ss_cons (ms_set sc__is_limit_within.nd (me_sl (me_var 0) (mo_some me_int) mo_none))
    (ss_cons (ms_if (PW.pt (mw_or (mt_cm hr (me_ix (me_var 0) me_int) (me_df (df__limit_zones T) hr (by decide) hx (ma_cons (me_var 1) ma_nil))) (mw_or1 (mt_cm hr (me_len (ma_cons (me_var 4) ma_nil) T.z_len) (me_len (ma_cons (me_var 3) ma_nil) T.z_len))))) (ss_one (ms_ret me_bl)) ss_nil)
    (ss_one (ms_ret (me_all (ma_cons (me_fz (mf_lc (own := [("number", 5), ("low", 6), ("high", 7)]) sc__is_limit_within.nd (mi_zip (ma_cons (me_var 4) (ma_cons (me_var 3) ma_nil)) T.z_zip) (blkOk_by (own := [("number", 5), ("low", 6), ("high", 7)]) (N := N__is_limit_within) (sc := defScope st__is_limit_within) (by decide +kernel)) (fun _ _ _ _ _ => (pg_tup rfl (pgs_cons (pg_name (i := 5) sc__is_limit_within.nd rfl (by first | exact Or.inl rfl | exact Or.inr rfl)) (pgs_cons (pg_tup rfl (pgs_cons (pg_name (i := 6) sc__is_limit_within.nd rfl (by first | exact Or.inl rfl | exact Or.inr rfl)) (pgs_cons (pg_name (i := 7) sc__is_limit_within.nd rfl (by first | exact Or.inl rfl | exact Or.inr rfl)) pgs_nil))) pgs_nil)))) (tg_tup (tg_cons (tg_name (by decide)) (tg_cons (tg_tup (tg_cons (tg_name (by decide)) (tg_cons (tg_name (by decide)) tg_nil))) tg_nil))) (fun _ _ _ _ _ => mts_nil) (fun _ _ _ _ _ => (me_df (df_is_between T) hr (by decide) passL (ma_cons (me_var 5) (ma_cons (me_var 6) (ma_cons (me_var 7) ma_nil))))))) ma_nil) T.z_all)))))))))
theorem df_is_book (T : Top K w mg) : Df P w K mg base 3 "is_book" ["candidate"] f_is_book := by
  refine df_mk T.d_is_book sc_is_book fun f cdv A outer s H E hr tk hx hpo => ?_
  exact (ss_cons (ms_if (mt_not (mt_truth (me_df (df_is_pair T) hr (by decide) hx (ma_cons (me_var 0) ma_nil)))) (ss_one (ms_ret me_bl)) ss_nil)
    (ss_cons (ms_unp (vs := [1, 2]) (me_var 0) (pg_tup rfl (pgs_cons (pg_name (i := 1) sc_is_book.nd rfl (by first | exact Or.inl rfl | exact Or.inr rfl)) (pgs_cons (pg_name (i := 2) sc_is_book.nd rfl (by first | exact Or.inl rfl | exact Or.inr rfl)) pgs_nil))) (tg_tup (tg_cons (tg_name (by decide)) (tg_cons (tg_name (by decide)) tg_nil))))
    (ss_cons (ms_if (PW.pt (mw_or (mt_cm hr (me_var 1) (me_tup (ma_cons me_str (ma_cons me_str ma_nil)))) (mw_or1 (mt_not (mt_truth (me_isi (ma_cons (me_var 2) (ma_cons (me_ty T.z_tuple (by decide +kernel)) ma_nil)) T.z_isinstance)))))) (ss_one (ms_ret me_bl)) ss_nil)
    (ss_cons (ms_if (mt_cm hr (me_len (ma_cons (me_var 2) ma_nil) T.z_len) (me_gInt T.c_MOST_LIMITS)) (ss_one (ms_ret me_bl)) ss_nil)
    (ss_one (ms_ret (me_all (ma_cons (me_fz (mf_lc (own := [("limit", 3)]) sc_is_book.nd (mi_any (me_var 2)) (blkOk_by (own := [("limit", 3)]) (N := N_is_book) (sc := defScope st_is_book) (by decide +kernel)) (fun _ _ _ _ _ => (pg_name (i := 3) sc_is_book.nd rfl (by first | exact Or.inl rfl | exact Or.inr rfl))) (tg_name (by decide)) (fun _ _ _ _ _ => mts_nil) (fun _ _ _ _ _ => (me_df (df__is_limit_within T) hr (by decide) passL (ma_cons (me_var 3) (ma_cons (me_var 1) ma_nil)))))) ma_nil) T.z_all)))))))
theorem df_check_book (T : Top K w mg) : Df P w K mg base 4 "check_book" ["book"] f_check_book := by
  obtain ⟨C_InvalidBook, x_InvalidBook⟩ := T.x_InvalidBook
  refine df_mk T.d_check_book sc_check_book fun f cdv A outer s H E hr tk hx hpo => ?_
  exact (ss_one (ms_if (mt_not (mt_truth (me_df (df_is_book T) hr (by decide) hx (ma_cons (me_var 0) ma_nil)))) (ss_one (ms_raise x_InvalidBook tk)) ss_nil))
theorem df_day_letters (T : Top K w mg) : Df P w K mg base 1 "day_letters" ["book"] f_day_letters := by
  refine df_mk T.d_day_letters sc_day_letters fun f cdv A outer s H E hr tk hx hpo => ?_
  exact (ss_one (ms_ret (me_add (me_gStr T.c_AWAY) (me_ix (me_var 0) me_int))))
theorem df_is_text_of (T : Top K w mg) : Df P w K mg base 1 "is_text_of" ["letters", "most", "candidate"] f_is_text_of := by
  refine df_mk T.d_is_text_of sc_is_text_of fun f cdv A outer s H E hr tk hx hpo => ?_
  exact (ss_cons (ms_if (PW.pt (mw_or (mt_not (mt_truth (me_isi (ma_cons (me_var 2) (ma_cons (me_ty T.z_str (by decide +kernel)) ma_nil)) T.z_isinstance))) (mw_or1 (mt_cm hr (me_len (ma_cons (me_var 2) ma_nil) T.z_len) (me_var 1))))) (ss_one (ms_ret me_bl)) ss_nil)
    (ss_one (ms_ret (me_all (ma_cons (me_fz (mf_lc (own := [("letter", 3)]) sc_is_text_of.nd (mi_any (me_var 2)) (blkOk_by (own := [("letter", 3)]) (N := N_is_text_of) (sc := defScope st_is_text_of) (by decide +kernel)) (fun _ _ _ _ _ => (pg_name (i := 3) sc_is_text_of.nd rfl (by first | exact Or.inl rfl | exact Or.inr rfl))) (tg_name (by decide)) (fun _ _ _ _ _ => mts_nil) (fun _ _ _ _ _ => (me_cm hr (me_var 3) (me_var 0))))) ma_nil) T.z_all))))
theorem df_is_calendar (T : Top K w mg) : Df P w K mg base 5 "is_calendar" ["book", "candidate"] f_is_calendar := by
  refine df_mk T.d_is_calendar sc_is_calendar fun f cdv A outer s H E hr tk hx hpo => ?_
  exact (ss_cons (ms_expr (me_df (df_check_book T) hr (by decide) hx (ma_cons (me_var 0) ma_nil)))
    (ss_one (ms_ret (me_df (df_is_text_of T) hr (by decide) hx (ma_cons (me_df (df_day_letters T) hr (by decide) hx (ma_cons (me_var 0) ma_nil)) (ma_cons (me_gInt T.c_MOST_DAYS) (ma_cons (me_var 1) ma_nil)))))))
theorem df_check_calendar (T : Top K w mg) : Df P w K mg base 6 "check_calendar" ["book", "calendar"] f_check_calendar := by
  obtain ⟨C_InvalidCalendar, x_InvalidCalendar⟩ := T.x_InvalidCalendar
  refine df_mk T.d_check_calendar sc_check_calendar fun f cdv A outer s H E hr tk hx hpo => ?_
  exact (ss_one (ms_if (mt_not (mt_truth (me_df (df_is_calendar T) hr (by decide) hx (ma_cons (me_var 0) (ma_cons (me_var 1) ma_nil))))) (ss_one (ms_raise x_InvalidCalendar tk)) ss_nil))
theorem df__breaks (T : Top K w mg) : Df P w K mg base 1 "_breaks" ["limit", "days"] f__breaks := by
  refine df_mk T.d__breaks sc__breaks fun f cdv A outer s H E hr tk hx hpo => ?_
  exact (ss_cons (ms_unp (vs := [2, 3, 4]) (me_sl (me_var 0) mo_none (mo_some me_int)) (pg_tup rfl (pgs_cons (pg_name (i := 2) sc__breaks.nd rfl (by first | exact Or.inl rfl | exact Or.inr rfl)) (pgs_cons (pg_name (i := 3) sc__breaks.nd rfl (by first | exact Or.inl rfl | exact Or.inr rfl)) (pgs_cons (pg_name (i := 4) sc__breaks.nd rfl (by first | exact Or.inl rfl | exact Or.inr rfl)) pgs_nil)))) (tg_tup (tg_cons (tg_name (by decide)) (tg_cons (tg_name (by decide)) (tg_cons (tg_name (by decide)) tg_nil)))))
    (ss_cons (ms_setLc (own := [("day", 7)]) sc__breaks.nd (mi_any (me_var 1)) (blkOk_by (own := [("day", 7)]) (N := N__breaks) (sc := defScope st__breaks) (by decide +kernel)) (fun _ _ _ _ _ => (pg_name (i := 7) sc__breaks.nd rfl (by first | exact Or.inl rfl | exact Or.inr rfl))) (tg_name (by decide)) (fun _ _ _ _ _ => mts_nil) (fun _ _ _ _ _ => (me_cm hr (me_var 7) (me_var 3))) (sw_true rfl rfl rfl (by decide +kernel)))
    (ss_cons (ms_setLc (own := [("before", 8), ("now", 9)]) sc__breaks.nd (mi_zip (ma_cons (me_var 5) (ma_cons (me_sl (me_var 5) (mo_some me_int) mo_none) ma_nil)) T.z_zip) (blkOk_by (own := [("before", 8), ("now", 9)]) (N := N__breaks) (sc := defScope st__breaks) (by decide +kernel)) (fun _ _ _ _ _ => (pg_tup rfl (pgs_cons (pg_name (i := 8) sc__breaks.nd rfl (by first | exact Or.inl rfl | exact Or.inr rfl)) (pgs_cons (pg_name (i := 9) sc__breaks.nd rfl (by first | exact Or.inl rfl | exact Or.inr rfl)) pgs_nil)))) (tg_tup (tg_cons (tg_name (by decide)) (tg_cons (tg_name (by decide)) tg_nil))) (fun _ _ _ _ _ => mts_nil) (fun _ _ _ _ _ => (me_and (me_var 9) (me_one (me_not (me_var 8))))) (sw_true rfl rfl rfl (by decide +kernel)))
    (ss_cons (ms_if (mt_cm hr (me_var 2) me_str) (ss_one (ms_ret (me_cm hr (me_sum (ma_cons (me_sl (me_var 5) (mo_some (me_neg (me_ix (me_var 0) me_int))) mo_none) ma_nil) T.z_sum) (me_var 4)))) ss_nil)
    (ss_cons (ms_if (mt_cm hr (me_var 2) me_str) (ss_one (ms_ret (me_cm hr (me_sum (ma_cons (me_sl (me_var 6) (mo_some (me_neg (me_ix (me_var 0) me_int))) mo_none) ma_nil) T.z_sum) (me_var 4)))) ss_nil)
    (ss_cons (ms_if (mt_cm hr (me_var 2) me_str) (ss_one (ms_ret (me_all (ma_cons (me_sl (me_var 5) (mo_some (me_sub (me_neg me_int) (me_var 4))) mo_none) ma_nil) T.z_all))) ss_nil)
    (ss_one (ms_ret (me_and (me_ix (me_var 6) (me_neg me_int)) (me_one (me_any (ma_cons (me_sl (me_var 5) (mo_some (me_sub (me_neg me_int) (me_var 4))) (mo_some (me_neg me_int))) ma_nil) T.z_any)))))))))))
theorem df_limit_broken (T : Top K w mg) : Df P w K mg base 2 "limit_broken" ["book", "past", "day"] f_limit_broken := by
  refine df_mk T.d_limit_broken sc_limit_broken fun f cdv A outer s H E hr tk hx hpo => ?_
  exact (ss_cons (ms_for (vs := [3, 4]) hpo (mi_enum (ma_cons (me_ix (me_var 0) me_int) ma_nil) T.z_enumerate) (pg_tup rfl (pgs_cons (pg_name (i := 3) sc_limit_broken.nd rfl (by first | exact Or.inl rfl | exact Or.inr rfl)) (pgs_cons (pg_name (i := 4) sc_limit_broken.nd rfl (by first | exact Or.inl rfl | exact Or.inr rfl)) pgs_nil))) (tg_tup (tg_cons (tg_name (by decide)) (tg_cons (tg_name (by decide)) tg_nil))) (ss_one (ms_if (mt_truth (me_df (df__breaks T) hr (by decide) hx (ma_cons (me_var 4) (ma_cons (me_add (me_var 1) (me_var 2)) ma_nil)))) (ss_one (ms_ret (me_var 3))) ss_nil)))
    (ss_one (ms_ret me_non)))
theorem df_first_broken (T : Top K w mg) : Df P w K mg base 7 "first_broken" ["book", "calendar"] f_first_broken := by
  refine df_mk T.d_first_broken sc_first_broken fun f cdv A outer s H E hr tk hx hpo => ?_
  exact (ss_cons (ms_expr (me_df (df_check_calendar T) hr (by decide) hx (ma_cons (me_var 0) (ma_cons (me_var 1) ma_nil))))
    (ss_cons (ms_set sc_first_broken.nd (me_add (me_gStr T.c_FIRST_PAST) (me_var 1)))
    (ss_cons (ms_for (vs := [3]) hpo (mi_range1 (ma_cons (me_len (ma_cons (me_var 1) ma_nil) T.z_len) ma_nil) T.z_range) (pg_name (i := 3) sc_first_broken.nd rfl (by first | exact Or.inl rfl | exact Or.inr rfl)) (tg_name (by decide)) (ss_cons (ms_set sc_first_broken.nd (me_df (df_limit_broken T) hr (by decide) hx (ma_cons (me_var 0) (ma_cons (me_sl (me_var 2) (mo_some (me_var 3)) (mo_some (me_add (me_var 3) (me_gInt T.c_PAST_DAYS)))) (ma_cons (me_ix (me_var 1) (me_var 3)) ma_nil)))))
    (ss_one (ms_if (mt_cm hr (me_var 4) me_non) (ss_one (ms_ret (me_tup (ma_cons (me_var 3) (ma_cons (me_var 4) ma_nil))))) ss_nil))))
    (ss_one (ms_ret me_non)))))
theorem df_is_allowed (T : Top K w mg) : Df P w K mg base 8 "is_allowed" ["book", "calendar"] f_is_allowed := by
  refine df_mk T.d_is_allowed sc_is_allowed fun f cdv A outer s H E hr tk hx hpo => ?_
  exact (ss_one (ms_ret (me_cm hr (me_df (df_first_broken T) hr (by decide) hx (ma_cons (me_var 0) (ma_cons (me_var 1) ma_nil))) me_non)))
theorem df_past_of (T : Top K w mg) : Df P w K mg base 7 "past_of" ["book", "calendar"] f_past_of := by
  refine df_mk T.d_past_of sc_past_of fun f cdv A outer s H E hr tk hx hpo => ?_
  exact (ss_cons (ms_expr (me_df (df_check_calendar T) hr (by decide) hx (ma_cons (me_var 0) (ma_cons (me_var 1) ma_nil))))
    (ss_one (ms_ret (me_sl (me_add (me_gStr T.c_FIRST_PAST) (me_var 1)) (mo_some (me_neg (me_gInt T.c_PAST_DAYS))) mo_none))))
theorem df_check_allowed (T : Top K w mg) : Df P w K mg base 9 "check_allowed" ["book", "calendar"] f_check_allowed := by
  obtain ⟨C_Broken, x_Broken⟩ := T.x_Broken
  refine df_mk T.d_check_allowed sc_check_allowed fun f cdv A outer s H E hr tk hx hpo => ?_
  exact (ss_one (ms_if (mt_not (mt_truth (me_df (df_is_allowed T) hr (by decide) hx (ma_cons (me_var 0) (ma_cons (me_var 1) ma_nil))))) (ss_one (ms_raise x_Broken tk)) ss_nil))
theorem df_days_behind (T : Top K w mg) : Df P w K mg base 3 "days_behind" ["book", "past"] f_days_behind := by
  refine df_mk T.d_days_behind sc_days_behind fun f cdv A outer s H E hr tk hx hpo => ?_
  exact (ss_one (ms_ret (me_fz (mf_lc (own := [("day", 2)]) sc_days_behind.nd (mi_any (me_df (df_day_letters T) hr (by decide) hx (ma_cons (me_var 0) ma_nil))) (blkOk_by (own := [("day", 2)]) (N := N_days_behind) (sc := defScope st_days_behind) (by decide +kernel)) (fun _ _ _ _ _ => (pg_name (i := 2) sc_days_behind.nd rfl (by first | exact Or.inl rfl | exact Or.inr rfl))) (tg_name (by decide)) (fun _ _ _ _ _ => (mts_one (mt_cm hr (me_df (df_limit_broken T) hr (by decide) passL (ma_cons (me_var 0) (ma_cons (me_var 1) (ma_cons (me_var 2) ma_nil)))) me_non))) (fun _ _ _ _ _ => (me_var 2))))))
theorem df_next_days (T : Top K w mg) : Df P w K mg base 10 "next_days" ["book", "calendar"] f_next_days := by
  refine df_mk T.d_next_days sc_next_days fun f cdv A outer s H E hr tk hx hpo => ?_
  exact (ss_cons (ms_expr (me_df (df_check_allowed T) hr (by decide) hx (ma_cons (me_var 0) (ma_cons (me_var 1) ma_nil))))
    (ss_one (ms_ret (me_df (df_days_behind T) hr (by decide) hx (ma_cons (me_var 0) (ma_cons (me_df (df_past_of T) hr (by decide) hx (ma_cons (me_var 0) (ma_cons (me_var 1) ma_nil))) ma_nil))))))
theorem df__law_drawn (T : Top K w mg) : Df P w K mg base 1 "_law_drawn" ["_law_script", "_law_k", "_law_many"] f__law_drawn := by
  refine df_mk T.d__law_drawn sc__law_drawn fun f cdv A outer s H E hr tk hx hpo => ?_
  exact (ss_cons (ms_set sc__law_drawn.nd (me_mul me_int (me_var 1)))
    (ss_cons (ms_if (mt_cm hr (me_var 0) (me_fz (mf_lst ma_nil))) (ss_cons (ms_set sc__law_drawn.nd (me_ix (me_var 0) (me_mod (me_int1 (ma_cons (me_var 1) ma_nil) T.z_int) (me_len (ma_cons (me_var 0) ma_nil) T.z_len))))
    (ss_cons (ms_set sc__law_drawn.nd (me_fdiv (me_var 1) (me_len (ma_cons (me_var 0) ma_nil) T.z_len)))
    (ss_cons (ms_if (PW.pt (mw_and (mt_cm hr (me_var 3) (me_pow me_int me_int)) (mw_and1 (mt_cm hr (me_var 4) me_int)))) (ss_cons (ms_set sc__law_drawn.nd (me_fdiv (me_var 3) (me_pow me_int me_int)))
    (ss_cons (ms_while (fun _ => 1000) hpo (PW.pt (mw_and (mt_cm hr (me_var 5) me_int) (mw_and1 (mt_cm hr (me_var 4) me_int)))) (ss_cons (ms_set sc__law_drawn.nd (me_fdiv (me_var 5) me_int))
    (ss_one (ms_set sc__law_drawn.nd (me_sub (me_var 4) me_int)))))
    (ss_one (ms_if (mt_cm hr (me_var 5) me_int) (ss_one (ms_ret (me_mod (me_int1 (ma_cons (me_mod (me_int1 (ma_cons (me_var 5) ma_nil) T.z_int) me_int) ma_nil) T.z_int) (me_var 2)))) ss_nil)))) ss_nil)
    (ss_one (ms_set sc__law_drawn.nd (me_add (me_var 3) (me_mul me_int (me_fdiv (me_var 1) (me_len (ma_cons (me_var 0) ma_nil) T.z_len))))))))) ss_nil)
    (ss_cons (ms_set sc__law_drawn.nd (me_mod (me_int1 (ma_cons (me_add (me_mul (me_mod (me_int1 (ma_cons (me_var 3) ma_nil) T.z_int) me_int) me_int) (me_mul me_int (me_add (me_var 1) me_int))) ma_nil) T.z_int) me_int))
    (ss_cons (ms_set sc__law_drawn.nd (me_mod (me_int1 (ma_cons (me_add (me_mul (me_var 3) (me_var 3)) (me_fdiv (me_var 3) me_int)) ma_nil) T.z_int) me_int))
    (ss_one (ms_ret (me_mod (me_int1 (ma_cons (me_fdiv (me_mod (me_int1 (ma_cons (me_add (me_mul (me_var 3) (me_var 3)) (me_fdiv (me_var 3) me_int)) ma_nil) T.z_int) me_int) me_int) ma_nil) T.z_int) (me_var 2))))))))
theorem df__law_limit (T : Top K w mg) : Df P w K mg base 2 "_law_limit" ["_law_script", "_law_at", "_law_zones"] f__law_limit := by
  refine df_mk T.d__law_limit sc__law_limit fun f cdv A outer s H E hr tk hx hpo => ?_
  exact (ss_cons (ms_set sc__law_limit.nd (me_if (mt_cm hr (me_var 2) me_str) me_str (me_ix (me_fz (mf_lst (ma_cons me_str (ma_cons me_str (ma_cons me_str (ma_cons me_str ma_nil)))))) (me_df (df__law_drawn T) hr (by decide) hx (ma_cons (me_var 0) (ma_cons (me_var 1) (ma_cons me_int ma_nil)))))))
    (ss_cons (ms_set sc__law_limit.nd (me_ix (me_fz (mf_lst (ma_cons me_str (ma_cons me_str (ma_cons me_str (ma_cons me_str (ma_cons me_str ma_nil))))))) (me_df (df__law_drawn T) hr (by decide) hx (ma_cons (me_var 0) (ma_cons (me_add (me_var 1) me_int) (ma_cons me_int ma_nil))))))
    (ss_cons (ms_if (mt_cm hr (me_var 4) me_str) (ss_one (ms_ret (me_tup (ma_cons (me_var 4) (ma_cons (me_var 3) (ma_cons (me_add me_int (me_df (df__law_drawn T) hr (by decide) hx (ma_cons (me_var 0) (ma_cons (me_add (me_var 1) me_int) (ma_cons me_int ma_nil))))) (ma_cons (me_add me_int (me_df (df__law_drawn T) hr (by decide) hx (ma_cons (me_var 0) (ma_cons (me_add (me_var 1) me_int) (ma_cons me_int ma_nil))))) ma_nil))))))) ss_nil)
    (ss_cons (ms_if (mt_cm hr (me_var 4) me_str) (ss_one (ms_ret (me_tup (ma_cons (me_var 4) (ma_cons (me_var 3) (ma_cons (me_df (df__law_drawn T) hr (by decide) hx (ma_cons (me_var 0) (ma_cons (me_add (me_var 1) me_int) (ma_cons me_int ma_nil)))) (ma_cons (me_add me_int (me_df (df__law_drawn T) hr (by decide) hx (ma_cons (me_var 0) (ma_cons (me_add (me_var 1) me_int) (ma_cons me_int ma_nil))))) ma_nil))))))) ss_nil)
    (ss_one (ms_ret (me_tup (ma_cons (me_var 4) (ma_cons (me_var 3) (ma_cons (me_add me_int (me_df (df__law_drawn T) hr (by decide) hx (ma_cons (me_var 0) (ma_cons (me_add (me_var 1) me_int) (ma_cons me_int ma_nil))))) ma_nil))))))))))
theorem df__law_breaks (T : Top K w mg) : Df P w K mg base 1 "_law_breaks" ["_law_limit_here", "_law_days_here"] f__law_breaks := by
  refine df_mk T.d__law_breaks sc__law_breaks fun f cdv A outer s H E hr tk hx hpo => ?_
  exact (ss_cons (ms_unp (vs := [2, 3, 4]) (me_sl (me_var 0) mo_none (mo_some me_int)) (pg_tup rfl (pgs_cons (pg_name (i := 2) sc__law_breaks.nd rfl (by first | exact Or.inl rfl | exact Or.inr rfl)) (pgs_cons (pg_name (i := 3) sc__law_breaks.nd rfl (by first | exact Or.inl rfl | exact Or.inr rfl)) (pgs_cons (pg_name (i := 4) sc__law_breaks.nd rfl (by first | exact Or.inl rfl | exact Or.inr rfl)) pgs_nil)))) (tg_tup (tg_cons (tg_name (by decide)) (tg_cons (tg_name (by decide)) (tg_cons (tg_name (by decide)) tg_nil)))))
    (ss_cons (ms_set sc__law_breaks.nd (me_fz (mf_lc (own := [("_law_day", 8)]) sc__law_breaks.nd (mi_any (me_var 1)) (blkOk_by (own := [("_law_day", 8)]) (N := N__law_breaks) (sc := defScope st__law_breaks) (by decide +kernel)) (fun _ _ _ _ _ => (pg_name (i := 8) sc__law_breaks.nd rfl (by first | exact Or.inl rfl | exact Or.inr rfl))) (tg_name (by decide)) (fun _ _ _ _ _ => mts_nil) (fun _ _ _ _ _ => (me_cm hr (me_var 8) (me_var 3))))))
    (ss_cons (ms_if (mt_cm hr (me_var 2) me_str) (ss_one (ms_ret (me_cm hr (me_sum (ma_cons (me_sl (me_var 5) (mo_some (me_sub (me_len (ma_cons (me_var 5) ma_nil) T.z_len) (me_ix (me_var 0) me_int))) mo_none) ma_nil) T.z_sum) (me_var 4)))) ss_nil)
    (ss_cons (ms_set sc__law_breaks.nd (me_and (me_ix (me_var 5) (me_neg me_int)) (me_one (me_not (me_ix (me_var 5) (me_neg me_int))))))
    (ss_cons (ms_if (mt_cm hr (me_var 2) me_str) (ss_one (ms_ret (me_and (me_cm hr (me_len (ma_cons (me_var 5) ma_nil) T.z_len) (me_var 4)) (me_one (me_all (ma_cons (me_sl (me_var 5) (mo_some (me_sub (me_sub (me_len (ma_cons (me_var 5) ma_nil) T.z_len) (me_var 4)) me_int)) mo_none) ma_nil) T.z_all))))) ss_nil)
    (ss_cons (ms_if (mt_cm hr (me_var 2) me_str) (ss_one (ms_ret (me_and (me_var 6) (me_one (me_any (ma_cons (me_sl (me_var 5) (mo_some (me_sub (me_sub (me_len (ma_cons (me_var 5) ma_nil) T.z_len) (me_var 4)) me_int)) (mo_some (me_sub (me_len (ma_cons (me_var 5) ma_nil) T.z_len) me_int))) ma_nil) T.z_any))))) ss_nil)
    (ss_cons (ms_setLc (own := [("_law_k", 9)]) sc__law_breaks.nd (mi_range2 (ma_cons (me_sub (me_len (ma_cons (me_var 5) ma_nil) T.z_len) (me_ix (me_var 0) me_int)) (ma_cons (me_len (ma_cons (me_var 5) ma_nil) T.z_len) ma_nil)) T.z_range) (blkOk_by (own := [("_law_k", 9)]) (N := N__law_breaks) (sc := defScope st__law_breaks) (by decide +kernel)) (fun _ _ _ _ _ => (pg_name (i := 9) sc__law_breaks.nd rfl (by first | exact Or.inl rfl | exact Or.inr rfl))) (tg_name (by decide)) (fun _ _ _ _ _ => (mts_one (PW.pt (mw_and (mt_truth (me_ix (me_var 5) (me_var 9))) (mw_and1 (mt_not (mt_truth (me_ix (me_var 5) (me_sub (me_var 9) me_int))))))))) (fun _ _ _ _ _ => (me_var 9)) (sw_true rfl rfl rfl (by decide +kernel)))
    (ss_one (ms_ret (me_and (me_var 6) (me_one (me_cm hr (me_len (ma_cons (me_var 7) ma_nil) T.z_len) (me_var 4)))))))))))))
theorem df__law_broken (T : Top K w mg) : Df P w K mg base 2 "_law_broken" ["_law_book", "_law_calendar"] f__law_broken := by
  refine df_mk T.d__law_broken sc__law_broken fun f cdv A outer s H E hr tk hx hpo => ?_
  exact (ss_cons (ms_set sc__law_broken.nd (me_mul me_str me_int))
    (ss_cons (ms_for (vs := [3, 4]) hpo (mi_enum (ma_cons (me_var 1) ma_nil) T.z_enumerate) (pg_tup rfl (pgs_cons (pg_name (i := 3) sc__law_broken.nd rfl (by first | exact Or.inl rfl | exact Or.inr rfl)) (pgs_cons (pg_name (i := 4) sc__law_broken.nd rfl (by first | exact Or.inl rfl | exact Or.inr rfl)) pgs_nil))) (tg_tup (tg_cons (tg_name (by decide)) (tg_cons (tg_name (by decide)) tg_nil))) (ss_cons (ms_set sc__law_broken.nd (me_add (me_var 2) (me_var 4)))
    (ss_cons (ms_setLc (own := [("_law_k", 6), ("_law_limit_here", 7)]) sc__law_broken.nd (mi_enum (ma_cons (me_ix (me_var 0) me_int) ma_nil) T.z_enumerate) (blkOk_by (own := [("_law_k", 6), ("_law_limit_here", 7)]) (N := N__law_broken) (sc := defScope st__law_broken) (by decide +kernel)) (fun _ _ _ _ _ => (pg_tup rfl (pgs_cons (pg_name (i := 6) sc__law_broken.nd rfl (by first | exact Or.inl rfl | exact Or.inr rfl)) (pgs_cons (pg_name (i := 7) sc__law_broken.nd rfl (by first | exact Or.inl rfl | exact Or.inr rfl)) pgs_nil)))) (tg_tup (tg_cons (tg_name (by decide)) (tg_cons (tg_name (by decide)) tg_nil))) (fun _ _ _ _ _ => (mts_one (mt_truth (me_df (df__law_breaks T) hr (by decide) passL (ma_cons (me_var 7) (ma_cons (me_var 2) ma_nil)))))) (fun _ _ _ _ _ => (me_var 6)) (sw_true rfl rfl rfl (by decide +kernel)))
    (ss_one (ms_if (mt_cm hr (me_var 5) (me_fz (mf_lst ma_nil))) (ss_one (ms_ret (me_tup (ma_cons (me_var 3) (ma_cons (me_ix (me_var 5) me_int) ma_nil))))) ss_nil)))))
    (ss_one (ms_ret me_non))))
theorem df__law_days (T : Top K w mg) : Df P w K mg base 2 "_law_days" ["_law_script", "_law_at", "_law_book", "_law_most"] f__law_days := by
  refine df_mk T.d__law_days sc__law_days fun f cdv A outer s H E hr tk hx hpo => ?_
  exact (ss_cons (ms_set sc__law_days.nd (me_df (df__law_drawn T) hr (by decide) hx (ma_cons (me_var 0) (ma_cons (me_var 1) (ma_cons (me_add (me_var 3) me_int) ma_nil)))))
    (ss_cons (ms_set sc__law_days.nd (me_add (me_add me_str (me_ix (me_var 2) me_int)) me_str))
    (ss_one (ms_ret (me_join me_str (me_fz (mf_lc (own := [("_law_k", 6)]) sc__law_days.nd (mi_range1 (ma_cons (me_var 4) ma_nil) T.z_range) (blkOk_by (own := [("_law_k", 6)]) (N := N__law_days) (sc := defScope st__law_days) (by decide +kernel)) (fun _ _ _ _ _ => (pg_name (i := 6) sc__law_days.nd rfl (by first | exact Or.inl rfl | exact Or.inr rfl))) (tg_name (by decide)) (fun _ _ _ _ _ => mts_nil) (fun _ _ _ _ _ => (me_ix (me_var 5) (me_df (df__law_drawn T) hr (by decide) passL (ma_cons (me_var 0) (ma_cons (me_add (me_add (me_var 1) me_int) (me_var 6)) (ma_cons (me_len (ma_cons (me_var 5) ma_nil) T.z_len) ma_nil)))))))))))))
theorem df__law_badbook (T : Top K w mg) : Df P w K mg base 2 "_law_badbook" ["_law_script", "_law_at"] f__law_badbook := by
  refine df_mk T.d__law_badbook sc__law_badbook fun f cdv A outer s H E hr tk hx hpo => ?_
  exact (ss_cons (ms_set sc__law_badbook.nd (me_tup (ma_cons me_str (ma_cons me_str (ma_cons me_int ma_nil)))))
    (ss_cons (ms_set sc__law_badbook.nd (me_fz (mf_lst (ma_cons me_non (ma_cons (me_tup ma_nil) (ma_cons (me_tup (ma_cons me_str ma_nil)) (ma_cons (me_tup (ma_cons me_str (ma_cons (me_tup ma_nil) ma_nil))) (ma_cons (me_tup (ma_cons me_str (ma_cons (me_tup ma_nil) ma_nil))) (ma_cons (me_tup (ma_cons me_str (ma_cons (me_tup ma_nil) ma_nil))) (ma_cons (me_fz (mf_lst (ma_cons me_str (ma_cons (me_tup ma_nil) ma_nil)))) (ma_cons (me_tup (ma_cons me_str (ma_cons (me_fz (mf_lst (ma_cons (me_var 2) ma_nil))) ma_nil))) ma_nil)))))))))))
    (ss_cons (ms_set sc__law_badbook.nd (me_add (me_var 3) (me_fz (mf_lst (ma_cons (me_tup (ma_cons me_str (ma_cons (me_mul (me_tup (ma_cons (me_var 2) ma_nil)) me_int) ma_nil))) ma_nil)))))
    (ss_cons (ms_set sc__law_badbook.nd (me_add (me_var 3) (me_fz (mf_lst (ma_cons (me_tup (ma_cons me_str (ma_cons (me_tup (ma_cons (me_tup (ma_cons me_str (ma_cons me_str (ma_cons me_int ma_nil)))) ma_nil)) ma_nil))) (ma_cons (me_tup (ma_cons me_str (ma_cons (me_tup (ma_cons (me_tup (ma_cons me_str (ma_cons me_str (ma_cons me_int ma_nil)))) ma_nil)) ma_nil))) (ma_cons (me_tup (ma_cons me_str (ma_cons (me_tup (ma_cons (me_tup (ma_cons me_str (ma_cons me_str (ma_cons me_int ma_nil)))) ma_nil)) ma_nil))) ma_nil)))))))
    (ss_cons (ms_set sc__law_badbook.nd (me_add (me_var 3) (me_fz (mf_lst (ma_cons (me_tup (ma_cons me_str (ma_cons (me_tup (ma_cons (me_tup (ma_cons me_str (ma_cons me_str (ma_cons me_int ma_nil)))) ma_nil)) ma_nil))) (ma_cons (me_tup (ma_cons me_str (ma_cons (me_tup (ma_cons (me_tup (ma_cons me_str (ma_cons me_str (ma_cons me_int (ma_cons me_int ma_nil))))) ma_nil)) ma_nil))) ma_nil))))))
    (ss_cons (ms_set sc__law_badbook.nd (me_add (me_var 3) (me_fz (mf_lst (ma_cons (me_tup (ma_cons me_str (ma_cons (me_tup (ma_cons (me_tup (ma_cons me_str (ma_cons me_str (ma_cons me_int ma_nil)))) ma_nil)) ma_nil))) ma_nil)))))
    (ss_one (ms_ret (me_ix (me_add (me_var 3) (me_fz (mf_lst (ma_cons (me_tup (ma_cons me_str (ma_cons (me_tup (ma_cons (me_tup (ma_cons me_str (ma_cons me_str (ma_cons me_bl ma_nil)))) ma_nil)) ma_nil))) (ma_cons (me_tup (ma_cons me_non (ma_cons (me_tup ma_nil) ma_nil))) (ma_cons (me_tup (ma_cons me_str (ma_cons (me_tup (ma_cons (me_var 2) ma_nil)) (ma_cons me_int ma_nil)))) ma_nil)))))) (me_df (df__law_drawn T) hr (by decide) hx (ma_cons (me_var 0) (ma_cons (me_var 1) (ma_cons me_int ma_nil)))))))))))))
theorem df__law_badcalendar (T : Top K w mg) : Df P w K mg base 2 "_law_badcalendar" ["_law_script", "_law_at"] f__law_badcalendar := by
  refine df_mk T.d__law_badcalendar sc__law_badcalendar fun f cdv A outer s H E hr tk hx hpo => ?_
  exact (ss_one (ms_ret (me_ix (me_fz (mf_lst (ma_cons me_non (ma_cons me_int (ma_cons me_str (ma_cons me_str (ma_cons (me_fz (mf_lst ma_nil)) (ma_cons (me_tup (ma_cons me_str ma_nil)) (ma_cons (me_mul me_str me_int) (ma_cons me_str (ma_cons me_str ma_nil))))))))))) (me_df (df__law_drawn T) hr (by decide) hx (ma_cons (me_var 0) (ma_cons (me_var 1) (ma_cons me_int ma_nil)))))))
theorem df__law_error (T : Top K w mg) : Df P w K mg base 11 "_law_error" ["_law_way", "_law_one", "_law_two"] f__law_error := by
  obtain ⟨a_is_allowed, g_is_allowed, F_is_allowed⟩ := (df_is_allowed (P := P) (w := w) (base := base) T).fnAt (by decide : _ ≤ 10)
  obtain ⟨a_first_broken, g_first_broken, F_first_broken⟩ := (df_first_broken (P := P) (w := w) (base := base) T).fnAt (by decide : _ ≤ 10)
  obtain ⟨a_past_of, g_past_of, F_past_of⟩ := (df_past_of (P := P) (w := w) (base := base) T).fnAt (by decide : _ ≤ 10)
  obtain ⟨a_next_days, g_next_days, F_next_days⟩ := (df_next_days (P := P) (w := w) (base := base) T).fnAt (by decide : _ ≤ 10)
  refine df_mk T.d__law_error sc__law_error fun f cdv A outer s H E hr tk hx hpo => ?_
  exact (ss_cons (ms_try (i := 3) (cs := ["InvalidBook", "InvalidCalendar", "Broken"]) T.try__law_error sc__law_error.nd takes0 (fun W pn xe hx hpo => (ss_one (ms_expr (me_fnIx (pfs_cons g_is_allowed (pfs_cons g_first_broken (pfs_cons g_past_of (pfs_cons g_next_days pfs_nil)))) (FnsAt.cons F_is_allowed (FnsAt.cons F_first_broken (FnsAt.cons F_past_of (FnsAt.cons F_next_days FnsAt.nil)))) hr (by decide) hx (me_var 0) (ma_cons (me_var 1) (ma_cons (me_var 2) ma_nil)) (Nat.le_of_ble_eq_true rfl))))) (fun a oe pn D c C hz hf => (pi_cons C hz hf T.z_isinstance (pi_cons C hz hf T.z_isinstance (pi_cons C hz hf T.z_isinstance pi_nil (T.x_Broken.imp fun _ h => h.g)) (T.x_InvalidCalendar.imp fun _ h => h.g)) (T.x_InvalidBook.imp fun _ h => h.g))))
    (ss_one (ms_ret me_non)))
theorem df__law_whole (T : Top K w mg) : Df P w K mg base 1 "_law_whole" ["_law_limit_here", "_law_calendar"] f__law_whole := by
  refine df_mk T.d__law_whole sc__law_whole fun f cdv A outer s H E hr tk hx hpo => ?_
  exact (ss_cons (ms_unp (vs := [2, 3, 4]) (me_sl (me_var 0) mo_none (mo_some me_int)) (pg_tup rfl (pgs_cons (pg_name (i := 2) sc__law_whole.nd rfl (by first | exact Or.inl rfl | exact Or.inr rfl)) (pgs_cons (pg_name (i := 3) sc__law_whole.nd rfl (by first | exact Or.inl rfl | exact Or.inr rfl)) (pgs_cons (pg_name (i := 4) sc__law_whole.nd rfl (by first | exact Or.inl rfl | exact Or.inr rfl)) pgs_nil)))) (tg_tup (tg_cons (tg_name (by decide)) (tg_cons (tg_name (by decide)) (tg_cons (tg_name (by decide)) tg_nil)))))
    (ss_cons (ms_set sc__law_whole.nd (me_fz (mf_lc (own := [("_law_number", 9), ("_law_day", 10)]) sc__law_whole.nd (mi_enum (ma_cons (me_var 1) ma_nil) T.z_enumerate) (blkOk_by (own := [("_law_number", 9), ("_law_day", 10)]) (N := N__law_whole) (sc := defScope st__law_whole) (by decide +kernel)) (fun _ _ _ _ _ => (pg_tup rfl (pgs_cons (pg_name (i := 9) sc__law_whole.nd rfl (by first | exact Or.inl rfl | exact Or.inr rfl)) (pgs_cons (pg_name (i := 10) sc__law_whole.nd rfl (by first | exact Or.inl rfl | exact Or.inr rfl)) pgs_nil)))) (tg_tup (tg_cons (tg_name (by decide)) (tg_cons (tg_name (by decide)) tg_nil))) (fun _ _ _ _ _ => (mts_one (mt_cm hr (me_var 10) (me_var 3)))) (fun _ _ _ _ _ => (me_var 9)))))
    (ss_cons (ms_setLc (own := [("_law_number", 9)]) sc__law_whole.nd (mi_any (me_var 5)) (blkOk_by (own := [("_law_number", 9)]) (N := N__law_whole) (sc := defScope st__law_whole) (by decide +kernel)) (fun _ _ _ _ _ => (pg_name (i := 9) sc__law_whole.nd rfl (by first | exact Or.inl rfl | exact Or.inr rfl))) (tg_name (by decide)) (fun _ _ _ _ _ => (mts_one (mt_cm hr (me_sub (me_var 9) me_int) (me_var 5)))) (fun _ _ _ _ _ => (me_var 9)) (sw_true rfl rfl rfl (by decide +kernel)))
    (ss_cons (ms_setLc (own := [("_law_number", 9)]) sc__law_whole.nd (mi_any (me_var 5)) (blkOk_by (own := [("_law_number", 9)]) (N := N__law_whole) (sc := defScope st__law_whole) (by decide +kernel)) (fun _ _ _ _ _ => (pg_name (i := 9) sc__law_whole.nd rfl (by first | exact Or.inl rfl | exact Or.inr rfl))) (tg_name (by decide)) (fun _ _ _ _ _ => (mts_one (mt_cm hr (me_add (me_var 9) me_int) (me_var 5)))) (fun _ _ _ _ _ => (me_var 9)) (sw_true rfl rfl rfl (by decide +kernel)))
    (ss_cons (ms_if (mt_cm hr (me_var 2) (me_tup (ma_cons me_str (ma_cons me_str ma_nil)))) (ss_cons (ms_set sc__law_whole.nd (me_if (mt_cm hr (me_var 2) me_str) (me_var 5) (me_var 6)))
    (ss_one (ms_ret (me_cm hr (me_fz (mf_lc (own := [("_law_n", 11)]) sc__law_whole.nd (mi_range1 (ma_cons (me_len (ma_cons (me_var 1) ma_nil) T.z_len) ma_nil) T.z_range) (blkOk_by (own := [("_law_n", 11)]) (N := N__law_whole) (sc := defScope st__law_whole) (by decide +kernel)) (fun _ _ _ _ _ => (pg_name (i := 11) sc__law_whole.nd rfl (by first | exact Or.inl rfl | exact Or.inr rfl))) (tg_name (by decide)) (fun _ _ _ _ _ => (mts_one (mt_cm hr (me_len (ma_cons (me_fz (mf_lc (own := [("_law_m", 14)]) sc__law_whole.nd (mi_any (me_var 8)) (blkOk_by (own := [("_law_m", 14)]) (by kernel_rfl)) (fun _ _ _ _ _ => (pg_name (i := 14) sc__law_whole.nd rfl (by first | exact Or.inl rfl | exact Or.inr rfl))) (tg_name (by decide)) (fun _ _ _ _ _ => (mts_one (mt_ch hr (me_sub (me_var 11) (me_ix (me_var 0) me_int)) (me_var 14) (me_var 11)))) (fun _ _ _ _ _ => (me_var 14)))) ma_nil) T.z_len) (me_var 4)))) (fun _ _ _ _ _ => (me_var 11)))) (me_fz (mf_lst ma_nil)))))) ss_nil)
    (ss_cons (ms_if (mt_cm hr (me_var 2) me_str) (ss_one (ms_ret (me_cm hr (me_fz (mf_lc (own := [("_law_first", 13), ("_law_end", 12)]) sc__law_whole.nd (mi_zip (ma_cons (me_var 6) (ma_cons (me_var 7) ma_nil)) T.z_zip) (blkOk_by (own := [("_law_first", 13), ("_law_end", 12)]) (N := N__law_whole) (sc := defScope st__law_whole) (by decide +kernel)) (fun _ _ _ _ _ => (pg_tup rfl (pgs_cons (pg_name (i := 13) sc__law_whole.nd rfl (by first | exact Or.inl rfl | exact Or.inr rfl)) (pgs_cons (pg_name (i := 12) sc__law_whole.nd rfl (by first | exact Or.inl rfl | exact Or.inr rfl)) pgs_nil)))) (tg_tup (tg_cons (tg_name (by decide)) (tg_cons (tg_name (by decide)) tg_nil))) (fun _ _ _ _ _ => (mts_one (mt_cm hr (me_add (me_sub (me_var 12) (me_var 13)) me_int) (me_var 4)))) (fun _ _ _ _ _ => (me_var 13)))) (me_fz (mf_lst ma_nil))))) ss_nil)
    (ss_one (ms_ret (me_cm hr (me_fz (mf_lc (own := [("_law_end", 12), ("_law_first", 13)]) sc__law_whole.nd (mi_zip (ma_cons (me_var 7) (ma_cons (me_sl (me_var 6) (mo_some me_int) mo_none) ma_nil)) T.z_zip) (blkOk_by (own := [("_law_end", 12), ("_law_first", 13)]) (N := N__law_whole) (sc := defScope st__law_whole) (by decide +kernel)) (fun _ _ _ _ _ => (pg_tup rfl (pgs_cons (pg_name (i := 12) sc__law_whole.nd rfl (by first | exact Or.inl rfl | exact Or.inr rfl)) (pgs_cons (pg_name (i := 13) sc__law_whole.nd rfl (by first | exact Or.inl rfl | exact Or.inr rfl)) pgs_nil)))) (tg_tup (tg_cons (tg_name (by decide)) (tg_cons (tg_name (by decide)) tg_nil))) (fun _ _ _ _ _ => (mts_one (mt_cm hr (me_sub (me_sub (me_var 13) (me_var 12)) me_int) (me_var 4)))) (fun _ _ _ _ _ => (me_var 12)))) (me_fz (mf_lst ma_nil)))))))))))
theorem df__law_raw (T : Top K w mg) : Df P w K mg base 3 "_law_raw" ["_law_script", "_law_at", "_law_most"] f__law_raw := by
  refine df_mk T.d__law_raw sc__law_raw fun f cdv A outer s H E hr tk hx hpo => ?_
  exact (ss_cons (ms_set sc__law_raw.nd (me_ix (me_fz (mf_lst (ma_cons me_str (ma_cons me_str (ma_cons me_str ma_nil))))) (me_df (df__law_drawn T) hr (by decide) hx (ma_cons (me_var 0) (ma_cons (me_var 1) (ma_cons me_int ma_nil))))))
    (ss_cons (ms_setLc (own := [("_law_k", 5)]) sc__law_raw.nd (mi_range1 (ma_cons (me_df (df__law_drawn T) hr (by decide) hx (ma_cons (me_var 0) (ma_cons (me_add (me_var 1) me_int) (ma_cons (me_add (me_var 2) me_int) ma_nil)))) ma_nil) T.z_range) (blkOk_by (own := [("_law_k", 5)]) (N := N__law_raw) (sc := defScope st__law_raw) (by decide +kernel)) (fun _ _ _ _ _ => (pg_name (i := 5) sc__law_raw.nd rfl (by first | exact Or.inl rfl | exact Or.inr rfl))) (tg_name (by decide)) (fun _ _ _ _ _ => mts_nil) (fun _ _ _ _ _ => (me_df (df__law_limit T) hr (by decide) passL (ma_cons (me_var 0) (ma_cons (me_add (me_add (me_var 1) me_int) (me_mul me_int (me_var 5))) (ma_cons (me_var 3) ma_nil))))) (sw_true rfl rfl rfl (by decide +kernel)))
    (ss_one (ms_ret (me_tup (ma_cons (me_var 3) (ma_cons (me_tuple (ma_cons (me_var 4) ma_nil) T.z_tuple) ma_nil)))))))
theorem fn_law (T : Top K w mg) {fa : Addr} {fd : FuncData} (FF : Fun K "law" "law" st_law fa fd) : FnM P w K mg base 12 fa fd ["_law_script"] f_law := by
  refine fn_mk2 FF sc_law fun f cdv A outer s H E hr tk hx hpo => ?_
  exact (ss_cons (ms_set sc_law.nd (me_df (df__law_raw T) hr (by decide) hx (ma_cons (me_var 0) (ma_cons me_int (ma_cons me_int ma_nil)))))
    (ss_cons (ms_for (vs := [2]) hpo (mi_range1 (ma_cons me_int ma_nil) T.z_range) (pg_name (i := 2) sc_law.nd rfl (by first | exact Or.inl rfl | exact Or.inr rfl)) (tg_name (by decide)) (ss_cons (ms_set sc_law.nd (me_df (df__law_days T) hr (by decide) hx (ma_cons (me_var 0) (ma_cons (me_add me_int (me_mul me_int (me_var 2))) (ma_cons (me_var 1) (ma_cons me_int ma_nil))))))
    (ss_cons (ms_setLc (own := [("_law_limit_here", 11)]) sc_law.nd (mi_any (me_ix (me_var 1) me_int)) (blkOk_by (own := [("_law_limit_here", 11)]) (N := N_law) (sc := defScope st_law) (by decide +kernel)) (fun _ _ _ _ _ => (pg_name (i := 11) sc_law.nd rfl (by first | exact Or.inl rfl | exact Or.inr rfl))) (tg_name (by decide)) (fun _ _ _ _ _ => (mts_one (mt_truth (me_df (df__law_whole T) hr (by decide) passL (ma_cons (me_var 11) (ma_cons (me_var 3) ma_nil)))))) (fun _ _ _ _ _ => (me_var 11)) (sw_true rfl rfl rfl (by decide +kernel)))
    (ss_cons (ms_if (mt_cm hr (me_df (df_is_allowed T) hr (by decide) hx (ma_cons (me_var 1) (ma_cons (me_var 3) ma_nil))) (me_cm hr (me_var 4) (me_fz (mf_lst ma_nil)))) (ss_one (ms_ret me_bl)) ss_nil)
    (ss_cons (ms_if (mt_cm hr (me_df (df_first_broken T) hr (by decide) hx (ma_cons (me_var 1) (ma_cons (me_var 3) ma_nil))) (me_df (df__law_broken T) hr (by decide) hx (ma_cons (me_var 1) (ma_cons (me_var 3) ma_nil)))) (ss_one (ms_ret me_bl)) ss_nil)
    (ss_cons (ms_if (mt_cm hr (me_df (df_past_of T) hr (by decide) hx (ma_cons (me_var 1) (ma_cons (me_var 3) ma_nil))) (me_sl (me_add me_str (me_var 3)) (mo_some (me_len (ma_cons (me_var 3) ma_nil) T.z_len)) mo_none)) (ss_one (ms_ret me_bl)) ss_nil)
    (ss_one (ms_if (mt_cm hr (me_var 4) (me_fz (mf_lst ma_nil))) (ss_cons (ms_setO sc_law.nd (mf_lst ma_nil))
    (ss_cons (ms_for (vs := [6]) hpo (mi_any (me_add me_str (me_ix (me_var 1) me_int))) (pg_name (i := 6) sc_law.nd rfl (by first | exact Or.inl rfl | exact Or.inr rfl)) (tg_name (by decide)) (ss_one (ms_if (mt_cm hr (me_fz (mf_lc (own := [("_law_limit_here", 11)]) sc_law.nd (mi_any (me_ix (me_var 1) me_int)) (blkOk_by (own := [("_law_limit_here", 11)]) (N := N_law) (sc := defScope st_law) (by decide +kernel)) (fun _ _ _ _ _ => (pg_name (i := 11) sc_law.nd rfl (by first | exact Or.inl rfl | exact Or.inr rfl))) (tg_name (by decide)) (fun _ _ _ _ _ => (mts_one (mt_truth (me_df (df__law_whole T) hr (by decide) passL (ma_cons (me_var 11) (ma_cons (me_add (me_var 3) (me_var 6)) ma_nil)))))) (fun _ _ _ _ _ => (me_var 11)))) (me_fz (mf_lst ma_nil))) (ss_one (ms_app 5 (me_var 6))) ss_nil)))
    (ss_one (ms_if (mt_peek (mt_cm hr (me_df (df_next_days T) hr (by decide) hx (ma_cons (me_var 1) (ma_cons (me_var 3) ma_nil))) (me_var 5))) (ss_one (ms_ret me_bl)) ss_nil)))) (ss_one (ms_if (mt_cm hr (me_df (df__law_error T) hr (by decide) hx (ma_cons me_int (ma_cons (me_var 1) (ma_cons (me_var 3) ma_nil)))) me_int) (ss_one (ms_ret me_bl)) ss_nil))))))))))
    (ss_cons (ms_unp (vs := [7, 8]) (me_tup (ma_cons (me_df (df__law_badbook T) hr (by decide) hx (ma_cons (me_var 0) (ma_cons me_int ma_nil))) (ma_cons (me_df (df__law_badcalendar T) hr (by decide) hx (ma_cons (me_var 0) (ma_cons me_int ma_nil))) ma_nil))) (pg_tup rfl (pgs_cons (pg_name (i := 7) sc_law.nd rfl (by first | exact Or.inl rfl | exact Or.inr rfl)) (pgs_cons (pg_name (i := 8) sc_law.nd rfl (by first | exact Or.inl rfl | exact Or.inr rfl)) pgs_nil))) (tg_tup (tg_cons (tg_name (by decide)) (tg_cons (tg_name (by decide)) tg_nil))))
    (ss_cons (ms_setLc (own := [("_law_way", 10)]) sc_law.nd (mi_range1 (ma_cons me_int ma_nil) T.z_range) (blkOk_by (own := [("_law_way", 10)]) (N := N_law) (sc := defScope st_law) (by decide +kernel)) (fun _ _ _ _ _ => (pg_name (i := 10) sc_law.nd rfl (by first | exact Or.inl rfl | exact Or.inr rfl))) (tg_name (by decide)) (fun _ _ _ _ _ => mts_nil) (fun _ _ _ _ _ => (me_df (df__law_error T) hr (by decide) passL (ma_cons (me_var 10) (ma_cons (me_var 7) (ma_cons (me_var 8) ma_nil))))) (sw_true rfl rfl rfl (by decide +kernel)))
    (ss_one (ms_ret (me_cm hr (me_add (me_var 9) (me_fz (mf_lc (own := [("_law_way", 10)]) sc_law.nd (mi_range1 (ma_cons me_int ma_nil) T.z_range) (blkOk_by (own := [("_law_way", 10)]) (N := N_law) (sc := defScope st_law) (by decide +kernel)) (fun _ _ _ _ _ => (pg_name (i := 10) sc_law.nd rfl (by first | exact Or.inl rfl | exact Or.inr rfl))) (tg_name (by decide)) (fun _ _ _ _ _ => mts_nil) (fun _ _ _ _ _ => (me_df (df__law_error T) hr (by decide) passL (ma_cons (me_var 10) (ma_cons (me_var 1) (ma_cons (me_var 8) ma_nil)))))))) (me_add (me_mul (me_fz (mf_lst (ma_cons me_int ma_nil))) me_int) (me_mul (me_fz (mf_lst (ma_cons me_int ma_nil))) me_int)))))))))
end
end K03
namespace K03
open PySem PySem.Spec PyProof.Rows L2 Mir
/-! ### a draw -/
theorem drawn_loop (rest turn : Int) (S : List Int) (k many cell : Int) : ∀ n : Nat, turn.toNat < n → ∃ rest' turn' : Int, whGo wt__law_drawn_1 wb__law_drawn_2 n [.fz (.rol (S.map D.int)), .fz (.int k), .fz (.int many), .fz (.int cell), .fz (.int turn), .fz (.int rest)] = .nx [.fz (.rol (S.map D.int)), .fz (.int k), .fz (.int many), .fz (.int cell), .fz (.int turn'), .fz (.int rest')]
  | 0, h => absurd h (Nat.not_lt_zero _)
  | n + 1, h => by
    by_cases h1 : 0 < rest
    · by_cases h2 : 0 < turn
      · obtain ⟨r', t', e⟩ := drawn_loop (rest / 1000000) (turn - 1) S k many cell n (by omega)
        refine ⟨r', t', ?_⟩
        rw [← e]
        simp [whGo, wt__law_drawn_1, wb__law_drawn_2, h1, h2]
      · exact ⟨rest, turn, by simp [whGo, wt__law_drawn_1, h1, h2]⟩
    · exact ⟨rest, turn, by simp [whGo, wt__law_drawn_1, h1]⟩
def drawn_end : Mir.Env → RS := (sSeq (sSet 3 (mB modD (mCall intF (mCons (mB addD (mB mulD (mB modD (mCall intF (mCons (mVar 3) mNil)) (mC (.int 2147483563))) (mC (.int 69069))) (mB mulD (mC (.int 104723)) (mB addD (mVar 1) (mC (.int 1))))) mNil)) (mC (.int 2147483563))))
  (sSeq (sSet 3 (mB modD (mCall intF (mCons (mB addD (mB mulD (mVar 3) (mVar 3)) (mB fdivD (mVar 3) (mC (.int 3)))) mNil)) (mC (.int 2147483399))))
  (sRet (mB modD (mCall intF (mCons (mB fdivD (mB modD (mCall intF (mCons (mB addD (mB mulD (mVar 3) (mVar 3)) (mB fdivD (mVar 3) (mC (.int 7)))) mNil)) (mC (.int 2147483647))) (mC (.int 11))) mNil)) (mVar 2)))))
def drawn_mid : Mir.Env → RS := (sSeq (sSet 3 (mB ixD (mVar 0) (mB modD (mCall intF (mCons (mVar 1) mNil)) (mCall lenF (mCons (mVar 0) mNil)))))
  (sSeq (sSet 4 (mB fdivD (mVar 1) (mCall lenF (mCons (mVar 0) mNil))))
  (sSeq (sIf (mAnd (mTest (mB (cmpF .GtE) (mVar 3) (mB powD (mC (.int 10)) (mC (.int 18))))) (mTest (mB (cmpF .Lt) (mVar 4) (mC (.int 60))))) (sSeq (sSet 5 (mB fdivD (mVar 3) (mB powD (mC (.int 10)) (mC (.int 18)))))
  (sSeq (sWhile (fun _ => 1000) wt__law_drawn_1 wb__law_drawn_2)
  (sIf (mTest (mB (cmpF .Gt) (mVar 5) (mC (.int 0)))) (sRet (mB modD (mCall intF (mCons (mB modD (mCall intF (mCons (mVar 5) mNil)) (mC (.int 1000000))) mNil)) (mVar 2))) sSkip))) sSkip)
  (sSet 3 (mB addD (mVar 3) (mB mulD (mC (.int 6553)) (mB fdivD (mVar 1) (mCall lenF (mCons (mVar 0) mNil)))))))))
theorem drawn_end_ok (a : Slot) (k many cell : Int) (r : Mir.Env) (hm : 0 < many) : ∃ i : Int, drawn_end (a :: .fz (.int k) :: .fz (.int many) :: .fz (.int cell) :: r) = .ret (.int i) ∧ 0 ≤ i ∧ i < many := by
  have b1 : ∀ c : Int, -18446744073709551616 < c % 2147483563 ∧ c % 2147483563 < 18446744073709551616 := fun c => by omega
  have b2 : ∀ c : Int, -18446744073709551616 < c % 2147483399 ∧ c % 2147483399 < 18446744073709551616 := fun c => by omega
  simp [drawn_end, hm, b1, b2]
  exact ⟨Int.emod_nonneg _ (Int.ne_of_gt hm), Int.emod_lt_of_pos _ hm⟩
theorem drawn_ok (S : List Int) (k many : Int) (hS : S.length ≤ 63) (hk : 0 ≤ k) (hm : 0 < many) : ∃ i : Int, f__law_drawn [.rol (S.map D.int), .int k, .int many] = .ok (.int i) ∧ 0 ≤ i ∧ i < many := by
  have fin : ∀ {ρ : Mir.Env} {a : Slot} {cell : Int} {r : Mir.Env}, ρ = a :: .fz (.int k) :: .fz (.int many) :: .fz (.int cell) :: r → ∃ i : Int, outR (drawn_end ρ) = .ok (.int i) ∧ 0 ≤ i ∧ i < many := by
    intro ρ a cell r e
    obtain ⟨i, h, q⟩ := drawn_end_ok a k many cell r hm
    exact ⟨i, by rw [e, h]; rfl, q⟩
  by_cases hz : S = []
  · subst hz
    have e' : f__law_drawn [.rol (List.map D.int []), .int k, .int many] = outR (drawn_end (.fz (.rol []) :: .fz (.int k) :: .fz (.int many) :: .fz (.int (7 * k)) :: [.un, .un])) := by
      have z : neD (.rol []) (.lst []) = .ok (.bl false) := ne_rol_nil []
      have ar : f__law_drawn = runD 6 (sSeq (sSet 3 (mB mulD (mC (.int 7)) (mVar 1))) (sSeq (sIf (mTest (mB (cmpF .NotEq) (mVar 0) (mFz (mLst mNil)))) drawn_mid sSkip) drawn_end)) := rfl
      rw [ar]
      simp [runD_eq, Mir.envOf, z]
    rw [e']
    exact fin rfl
  · have hl : 0 < (S.length : Int) := by
      cases S with
      | nil => exact absurd rfl hz
      | cons x r => simp
    have z : neD (.rol (S.map D.int)) (.lst []) = .ok (.bl true) := by
      rw [ne_rol_nil S]
      cases S with
      | nil => exact absurd rfl hz
      | cons x r => rfl
    obtain ⟨c, hat⟩ : ∃ c, atI (S.map D.int) (k % (S.length : Int)) = some (.int c) := by
      obtain ⟨h, e⟩ := at_lt (S.map D.int) (k := k % (S.length : Int)) (Int.emod_nonneg _ (by omega)) (by rw [List.length_map]; exact Int.emod_lt_of_pos _ hl)
      exact ⟨_, e.trans (by rw [List.getElem_map])⟩
    have ar : f__law_drawn = runD 6 (sSeq (sSet 3 (mB mulD (mC (.int 7)) (mVar 1))) (sSeq (sIf (mTest (mB (cmpF .NotEq) (mVar 0) (mFz (mLst mNil)))) drawn_mid sSkip) drawn_end)) := rfl
    rw [ar]
    have hl2 : (S.length : Int) < 18446744073709551616 := by omega
    have hl3 : -18446744073709551616 < k / (S.length : Int) := by have := Int.ediv_nonneg hk (Int.le_of_lt hl); omega
    have hN : 0 < S.length := by omega
    by_cases b1 : 1000000000000000000 ≤ c
    · by_cases b2 : k / (S.length : Int) < 60
      · obtain ⟨r', t', e⟩ := drawn_loop (c / 1000000000000000000) (k / (S.length : Int)) S k many c 1000 (by omega)
        by_cases hr : 0 < r'
        · have e3 : ∃ v : Int, outR (.ret (.int (v % many))) = .ok (.int (v % many)) ∧ v = r' % 1000000 := ⟨_, rfl, rfl⟩
          refine ⟨r' % 1000000 % many, ?_, Int.emod_nonneg _ (Int.ne_of_gt hm), Int.emod_lt_of_pos _ hm⟩
          simp [runD_eq, Mir.envOf, z, drawn_mid, hl, hl2, hat, b1, b2, e, hr, hm, hN]
        · simp [runD_eq, Mir.envOf, z, drawn_mid, hl, hl2, hat, b1, b2, e, hr, hm, hN]
          exact fin rfl
      · simp [runD_eq, Mir.envOf, z, drawn_mid, hl, hl2, hat, b1, b2, hm, hN]
        exact fin rfl
    · simp [runD_eq, Mir.envOf, z, drawn_mid, hl, hl2, hat, b1, hm, hN]
      exact fin rfl
/-! ### a limit -/
def zz : Bool → Str
  | true => "ab"
  | false => "a"
def zl : Bool → List Str
  | true => ["a", "b", "ab"]
  | false => ["a"]
def isLim (two : Bool) (d : D) : Prop := ∃ z ∈ zl two, (∃ c s : Int, 1 ≤ c ∧ c ≤ 3 ∧ 1 ≤ s ∧ s ≤ 6 ∧ d = .tup [.str "most", .str z, .int c, .int s]) ∨ (∃ c : Int, 1 ≤ c ∧ c ≤ 3 ∧ d = .tup [.str "row", .str z, .int c]) ∨ (∃ c : Int, 1 ≤ c ∧ c ≤ 3 ∧ d = .tup [.str "gap", .str z, .int c]) ∨ (∃ c s : Int, 0 ≤ c ∧ c ≤ 2 ∧ 1 ≤ s ∧ s ≤ 5 ∧ d = .tup [.str "starts", .str z, .int c, .int s])
theorem eqs_mm : eqD (.str "most") (.str "most") = .ok (.bl true) := of_isBl (by decide +kernel)
theorem eqs_ms : eqD (.str "most") (.str "starts") = .ok (.bl false) := of_isBl (by decide +kernel)
theorem eqs_mr : eqD (.str "most") (.str "row") = .ok (.bl false) := of_isBl (by decide +kernel)
theorem eqs_mg : eqD (.str "most") (.str "gap") = .ok (.bl false) := of_isBl (by decide +kernel)
theorem eqs_sm : eqD (.str "starts") (.str "most") = .ok (.bl false) := of_isBl (by decide +kernel)
theorem eqs_ss : eqD (.str "starts") (.str "starts") = .ok (.bl true) := of_isBl (by decide +kernel)
theorem eqs_sr : eqD (.str "starts") (.str "row") = .ok (.bl false) := of_isBl (by decide +kernel)
theorem eqs_sg : eqD (.str "starts") (.str "gap") = .ok (.bl false) := of_isBl (by decide +kernel)
theorem eqs_rm : eqD (.str "row") (.str "most") = .ok (.bl false) := of_isBl (by decide +kernel)
theorem eqs_rs : eqD (.str "row") (.str "starts") = .ok (.bl false) := of_isBl (by decide +kernel)
theorem eqs_rr : eqD (.str "row") (.str "row") = .ok (.bl true) := of_isBl (by decide +kernel)
theorem eqs_rg : eqD (.str "row") (.str "gap") = .ok (.bl false) := of_isBl (by decide +kernel)
theorem eqs_gm : eqD (.str "gap") (.str "most") = .ok (.bl false) := of_isBl (by decide +kernel)
theorem eqs_gs : eqD (.str "gap") (.str "starts") = .ok (.bl false) := of_isBl (by decide +kernel)
theorem eqs_gr : eqD (.str "gap") (.str "row") = .ok (.bl false) := of_isBl (by decide +kernel)
theorem eqs_gg : eqD (.str "gap") (.str "gap") = .ok (.bl true) := of_isBl (by decide +kernel)
theorem eqs_za (two : Bool) : eqD (.str (zz two)) (.str "a") = .ok (.bl (!two)) := by
  cases two <;> exact of_isBl (by decide +kernel)
theorem size5 : (5 : Nat) ≤ sizeLine := by rw [sizeLine_eq]; omega
theorem size4 : (4 : Nat) ≤ sizeLine := by rw [sizeLine_eq]; omega
theorem size3 : (3 : Nat) ≤ sizeLine := by rw [sizeLine_eq]; omega
theorem limit_ok (S : List Int) (k : Int) (two : Bool) (hS : S.length ≤ 63) (hk : 0 ≤ k) : ∃ d, f__law_limit [.rol (S.map D.int), .int k, .str (zz two)] = .ok d ∧ isLim two d := by
  obtain ⟨i0, e0, l0, u0⟩ := drawn_ok S k 4 hS hk (by omega)
  obtain ⟨i1, e1, l1, u1⟩ := drawn_ok S (k + 1) 5 hS (by omega) (by omega)
  obtain ⟨i2, e2, l2, u2⟩ := drawn_ok S (k + 2) 3 hS (by omega) (by omega)
  obtain ⟨i3, e3, l3, u3⟩ := drawn_ok S (k + 3) 6 hS (by omega) (by omega)
  obtain ⟨i4, e4, l4, u4⟩ := drawn_ok S (k + 3) 5 hS (by omega) (by omega)
  obtain ⟨z, hz, ez⟩ : ∃ z ∈ zl two, (mIf (mTest (mB (cmpF .Eq) (mVar 2) (mC (.str "a")))) (mC (.str "a")) (mB ixD (mFz (mLst (mCons (mC (.str "a")) (mCons (mC (.str "b")) (mCons (mC (.str "ab")) (mCons (mC (.str "ab")) mNil)))))) (mFn 3 f__law_drawn (mCons (mVar 0) (mCons (mVar 1) (mCons (mC (.int 4)) mNil)))))) [.fz (.rol (S.map D.int)), .fz (.int k), .fz (.str (zz two)), .un, .un] = .ok (.str z) := by
    cases two with
    | false => exact ⟨"a", .head _, by simp [eqs_za]⟩
    | true =>
      have : i0 = 0 ∨ i0 = 1 ∨ i0 = 2 ∨ i0 = 3 := by omega
      rcases this with rfl | rfl | rfl | rfl
      · exact ⟨"a", by simp [zl], by simp [eqs_za, e0, size4]; rfl⟩
      · exact ⟨"b", by simp [zl], by simp [eqs_za, e0, size4]; rfl⟩
      · exact ⟨"ab", by simp [zl], by simp [eqs_za, e0, size4]; rfl⟩
      · exact ⟨"ab", by simp [zl], by simp [eqs_za, e0, size4]; rfl⟩
  have start : f__law_limit [.rol (S.map D.int), .int k, .str (zz two)] = outR (b__law_limit [.fz (.rol (S.map D.int)), .fz (.int k), .fz (.str (zz two)), .un, .un]) := runD_eq _ _ _
  rw [start]
  unfold b__law_limit
  rw [sSeq_eq, sSet_eq, ez]
  have : i1 = 0 ∨ i1 = 1 ∨ i1 = 2 ∨ i1 = 3 ∨ i1 = 4 := by omega
  rcases this with rfl | rfl | rfl | rfl | rfl
  · refine ⟨.tup [.str "most", .str z, .int (1 + i2), .int (1 + i3)], ?_, z, hz, .inl ⟨_, _, by omega, by omega, by omega, by omega, rfl⟩⟩
    simp [eqs_mm, e1, e2, e3, size5, size4, show atI [D.str "most", .str "most", .str "row", .str "gap", .str "starts"] 0 = some (.str "most") from rfl]
  · refine ⟨.tup [.str "most", .str z, .int (1 + i2), .int (1 + i3)], ?_, z, hz, .inl ⟨_, _, by omega, by omega, by omega, by omega, rfl⟩⟩
    simp [eqs_mm, e1, e2, e3, size5, size4, show atI [D.str "most", .str "most", .str "row", .str "gap", .str "starts"] 1 = some (.str "most") from rfl]
  · refine ⟨.tup [.str "row", .str z, .int (1 + i2)], ?_, z, hz, .inr (.inl ⟨_, by omega, by omega, rfl⟩)⟩
    simp [eqs_rm, eqs_rs, e1, e2, size5, size3, show atI [D.str "most", .str "most", .str "row", .str "gap", .str "starts"] 2 = some (.str "row") from rfl]
  · refine ⟨.tup [.str "gap", .str z, .int (1 + i2)], ?_, z, hz, .inr (.inr (.inl ⟨_, by omega, by omega, rfl⟩))⟩
    simp [eqs_gm, eqs_gs, e1, e2, size5, size3, show atI [D.str "most", .str "most", .str "row", .str "gap", .str "starts"] 3 = some (.str "gap") from rfl]
  · refine ⟨.tup [.str "starts", .str z, .int i2, .int (1 + i4)], ?_, z, hz, .inr (.inr (.inr ⟨_, _, by omega, by omega, by omega, by omega, rfl⟩))⟩
    simp [eqs_sm, eqs_ss, e1, e2, e4, size5, size4, show atI [D.str "most", .str "most", .str "row", .str "gap", .str "starts"] 4 = some (.str "starts") from rfl]
/-! ### a book and days -/
theorem raw_ok (S : List Int) (k most : Int) (hS : S.length ≤ 63) (hk : 0 ≤ k) (hm : 0 ≤ most) (hm2 : most ≤ 100) : ∃ two ls, f__law_raw [.rol (S.map D.int), .int k, .int most] = .ok (.tup [.str (zz two), .tup ls]) ∧ (ls.length : Int) ≤ most ∧ ∀ d ∈ ls, isLim two d := by
  obtain ⟨i0, e0, l0, u0⟩ := drawn_ok S k 3 hS hk (by omega)
  obtain ⟨i1, e1, l1, u1⟩ := drawn_ok S (k + 1) (most + 1) hS (by omega) (by omega)
  obtain ⟨two, hz⟩ : ∃ two, atI [D.str "a", .str "a", .str "ab"] i0 = some (.str (zz two)) := by
    have : i0 = 0 ∨ i0 = 1 ∨ i0 = 2 := by omega
    rcases this with rfl | rfl | rfl
    · exact ⟨false, rfl⟩
    · exact ⟨false, rfl⟩
    · exact ⟨true, rfl⟩
  obtain ⟨ls, el, ll, hl⟩ := lcGo_rel (mt := tgName 5) (me := el__law_raw_1) (ρ := [.fz (.rol (S.map D.int)), .fz (.int k), .fz (.int most), .fz (.str (zz two)), .un, .un]) (r := isLim two) (rangeD 0 i1.toNat) (fun d hd => by
    obtain ⟨j, hj, rfl⟩ := range_mem hd
    obtain ⟨y, ey, hy⟩ := limit_ok S (k + 2 + 5 * (0 + (j : Int))) two hS (by omega)
    have g : (-18446744073709551616 : Int) < 5 := by omega
    refine ⟨_, y, rfl, ?_, hy⟩
    simp [el__law_raw_1]
    simpa using ey)
  refine ⟨two, ls, ?_, by rw [ll, range_len]; omega, hl⟩
  have g1 : i1.toNat ≤ 1000000 := by omega
  simp [f__law_raw, runD_eq, b__law_raw, Mir.envOf, e0, e1, hz, sizeLine_eq, g1, el]
  omega
def lets : Bool → List Nat
  | true => [46, 97, 98]
  | false => [46, 97]
theorem days_ok (S : List Int) (k most : Int) (two : Bool) (l : D) (hS : S.length ≤ 63) (hk : 0 ≤ k) (hm : 0 ≤ most) (hm2 : most ≤ 100) : ∃ w : List Nat, f__law_days [.rol (S.map D.int), .int k, .tup [.str (zz two), l], .int most] = .ok (txt w) ∧ (w.length : Int) ≤ most ∧ ∀ c ∈ w, c ∈ lets two := by
  obtain ⟨i0, e0, l0, u0⟩ := drawn_ok S k (most + 1) hS hk (by omega)
  obtain ⟨lz, hz, hz2, hz4, hz3⟩ : ∃ ws : List Nat, (mB addD (mB addD (mC (.str ".")) (mB ixD (mVar 2) (mC (.int 0)))) (mC (.str "."))) [.fz (.rol (S.map D.int)), .fz (.int k), .fz (.tup [.str (zz two), l]), .fz (.int most), .fz (.int i0), .un, .un] = .ok (txt ws) ∧ 0 < ws.length ∧ ws.length ≤ 10 ∧ ∀ c ∈ ws, c ∈ lets two := by
    cases two with
    | true =>
      refine ⟨[46, 97, 98, 46], ?_, by decide, by decide, by decide⟩
      have h1 : addD (.str ".") (.str "ab") = .ok (txt [46, 97, 98]) := of_isTxt (by decide +kernel)
      have h2 : addD (txt [46, 97, 98]) (.str ".") = .ok (txt [46, 97, 98, 46]) := of_isTxt (by decide +kernel)
      simp [zz, h1, h2, show atI [D.str "ab", l] 0 = some (.str "ab") from rfl]
    | false =>
      refine ⟨[46, 97, 46], ?_, by decide, by decide, by decide⟩
      have h1 : addD (.str ".") (.str "a") = .ok (txt [46, 97]) := of_isTxt (by decide +kernel)
      have h2 : addD (txt [46, 97]) (.str ".") = .ok (txt [46, 97, 46]) := of_isTxt (by decide +kernel)
      simp [zz, h1, h2, show atI [D.str "a", l] 0 = some (.str "a") from rfl]
  obtain ⟨ls, el, ll, hl⟩ := lcGo_rel (mt := tgName 6) (me := el__law_days_1) (ρ := [.fz (.rol (S.map D.int)), .fz (.int k), .fz (.tup [.str (zz two), l]), .fz (.int most), .fz (.int i0), .fz (txt lz), .un]) (r := fun y => ∃ c ∈ lets two, y = txt [c]) (rangeD 0 i0.toNat) (fun d hd => by
    obtain ⟨j, hj, rfl⟩ := range_mem hd
    obtain ⟨i1, e1, l1, u1⟩ := drawn_ok S (k + 1 + (0 + (j : Int))) lz.length hS (by omega) (by omega)
    obtain ⟨hq, eq⟩ := at_lt lz l1 u1
    have hs : lz.length ≤ 16777216 := by omega
    refine ⟨_, txt [lz[i1.toNat]], rfl, ?_, _, hz3 _ (List.getElem_mem hq), rfl⟩
    simp at e1
    simp [el__law_days_1, sizeLine_eq, hs, e1, eq])
  obtain ⟨w, ew, hw⟩ := ones_of ls hl
  have lw : w.length = i0.toNat := by
    have := ll
    rw [ew, List.length_map, range_len] at this
    exact this
  refine ⟨w, ?_, by omega, hw⟩
  have g1 : i0.toNat ≤ 1000000 := by omega
  have hz' := hz
  simp at hz'
  rw [ew] at el
  simp [f__law_days, runD_eq, b__law_days, Mir.envOf, e0, hz', sizeLine_eq, g1, el]
  rw [if_pos (by omega)]
  simp [joinD_one w (by omega)]
/-! ### values of other forms -/
def badBooks : List D :=
  let l : D := .tup [.str "row", .str "a", .int 2]
  [.non, .tup [], .tup [.str "a"], .tup [.str "b", .tup []], .tup [.str "ba", .tup []], .tup [.str "", .tup []], .lst [.str "a", .tup []], .tup [.str "a", .lst [l]],
   .tup [.str "a", .tup [l, l, l, l, l]], .tup [.str "a", .tup [.tup [.str "row", .str "b", .int 2]]], .tup [.str "a", .tup [.tup [.str "row", .str "a", .int 6]]], .tup [.str "a", .tup [.tup [.str "gap", .str "a", .int 0]]],
   .tup [.str "a", .tup [.tup [.str "most", .str "a", .int 2]]], .tup [.str "a", .tup [.tup [.str "most", .str "a", .int 2, .int 7]]], .tup [.str "a", .tup [.tup [.str "stay", .str "a", .int 2]]],
   .tup [.str "a", .tup [.tup [.str "row", .str "a", .bl true]]], .tup [.non, .tup []], .tup [.str "a", .tup [l], .int 1]]
theorem badbook_ok (S : List Int) (k : Int) (hS : S.length ≤ 63) (hk : 0 ≤ k) : ∃ d, f__law_badbook [.rol (S.map D.int), .int k] = .ok d ∧ d ∈ badBooks := by
  obtain ⟨i, e, l, u⟩ := drawn_ok S k 18 hS hk (by omega)
  obtain ⟨hq, eq⟩ := at_lt badBooks l (show i < (18 : Int) from u)
  refine ⟨_, ?_, List.getElem_mem hq⟩
  have m5 : mulD (.tup [.tup [.str "row", .str "a", .int 2]]) (.int 5) = .ok (.tup [.tup [.str "row", .str "a", .int 2], .tup [.str "row", .str "a", .int 2], .tup [.str "row", .str "a", .int 2], .tup [.str "row", .str "a", .int 2], .tup [.str "row", .str "a", .int 2]]) := by
    unfold mulD
    exact if_pos (by simp)
  simp [f__law_badbook, runD_eq, b__law_badbook, Mir.envOf, sizeLine_eq, e, m5]
  unfold badBooks at eq
  simp at eq
  rw [eq]
  rfl
def badCals : List D := [.non, .int 5, .str "c", .str "a b", .lst [], .tup [.str "a"], txt (List.replicate 61 46), .str "A", .str "aap"]
theorem badcalendar_ok (S : List Int) (k : Int) (hS : S.length ≤ 63) (hk : 0 ≤ k) : ∃ d, f__law_badcalendar [.rol (S.map D.int), .int k] = .ok d ∧ d ∈ badCals := by
  obtain ⟨i, e, l, u⟩ := drawn_ok S k 9 hS hk (by omega)
  obtain ⟨hq, eq⟩ := at_lt badCals l (show i < (9 : Int) from u)
  refine ⟨_, ?_, List.getElem_mem hq⟩
  have m : mulD (.str ".") (.int 61) = .ok (txt (List.replicate 61 46)) := of_isTxt (by decide +kernel)
  simp [f__law_badcalendar, runD_eq, b__law_badcalendar, Mir.envOf, sizeLine_eq, e, m]
  unfold badCals at eq
  simp at eq
  rw [eq]
  rfl
/-! ### books and calendars, and what is none -/
theorem badbook_no : ∀ d ∈ badBooks, f_is_book [d] = .ok (.bl false) := by
  have h : (badBooks.all fun d => isBl false (f_is_book [d])) = true := by decide +kernel
  intro d hd
  exact of_isBl (List.all_eq_true.mp h d hd)
theorem chk_bad {d : D} (h : f_is_book [d] = .ok (.bl false)) : f_check_book [d] = .exc "InvalidBook" := by
  simp [f_check_book, runD_eq, b_check_book, Mir.envOf, h]
theorem chk_good {d : D} (h : f_is_book [d] = .ok (.bl true)) : f_check_book [d] = .ok .non := by
  simp [f_check_book, runD_eq, b_check_book, Mir.envOf, h]
theorem chkcal_badbook {d : D} (x : D) (h : f_is_book [d] = .ok (.bl false)) : f_check_calendar [d, x] = .exc "InvalidBook" := by
  have h1 : f_is_calendar [d, x] = .exc "InvalidBook" := by
    simp [f_is_calendar, runD_eq, b_is_calendar, Mir.envOf, chk_bad h]
  simp [f_check_calendar, runD_eq, b_check_calendar, Mir.envOf, h1]
theorem chkcal_bad {d x : D} (h : f_is_calendar [d, x] = .ok (.bl false)) : f_check_calendar [d, x] = .exc "InvalidCalendar" := by
  simp [f_check_calendar, runD_eq, b_check_calendar, Mir.envOf, h]
theorem chkcal_good {d x : D} (h : f_is_calendar [d, x] = .ok (.bl true)) : f_check_calendar [d, x] = .ok .non := by
  simp [f_check_calendar, runD_eq, b_check_calendar, Mir.envOf, h]
theorem letters_ok (two : Bool) (l : D) : f_day_letters [.tup [.str (zz two), l]] = .ok (txt (lets two)) := by
  cases two with
  | true =>
    have h1 : addD (.str ".") (.str "ab") = .ok (txt [46, 97, 98]) := of_isTxt (by decide +kernel)
    simp [f_day_letters, runD_eq, b_day_letters, Mir.envOf, zz, h1, lets, show atI [D.str "ab", l] 0 = some (.str "ab") from rfl]
  | false =>
    have h1 : addD (.str ".") (.str "a") = .ok (txt [46, 97]) := of_isTxt (by decide +kernel)
    simp [f_day_letters, runD_eq, b_day_letters, Mir.envOf, zz, h1, lets, show atI [D.str "a", l] 0 = some (.str "a") from rfl]
theorem text_ok (L : List Nat) (m : Int) (w : List Nat) (hw : w.length ≤ 1000) : f_is_text_of [txt L, .int m, txt w] = .ok (.bl (decide ((w.length : Int) ≤ m) && w.all fun c => decide (c ∈ L))) := by
  have hs : isF [txt w, .ty "str"] = .ok (.bl true) := of_isBl (show isBl true (isF [.str ⟨w.toArray⟩, .ty "str"]) = true from rfl)
  have e : lcGo (tgName 3) mYes el_is_text_of_1 [.fz (txt L), .fz (.int m), .fz (txt w), .un] (w.map fun c => txt [c]) = .ok ((w.map fun c => D.bl (decide (c ∈ L)))) := by
    have := lcGo_all (mt := tgName 3) (me := el_is_text_of_1) (ρ := [.fz (txt L), .fz (.int m), .fz (txt w), .un]) (g := fun d => match inD d (txt L) with
      | .ok y => y
      | _ => .non) (w.map fun c => txt [c]) (fun d hd => by
      obtain ⟨c, hc, rfl⟩ := List.mem_map.mp hd
      refine ⟨_, rfl, ?_⟩
      simp [el_is_text_of_1])
    rw [this, List.map_map]
    rfl
  have g1 : w.length ≤ 16777216 := by omega
  have g2 : w.length ≤ 1000000 := by omega
  by_cases h7 : m < (w.length : Int)
  · have h8 : ¬ (w.length : Int) ≤ m := by omega
    simp [f_is_text_of, runD_eq, b_is_text_of, Mir.envOf, hs, sizeLine_eq, g1, h7, h8]
  · have h8 : (w.length : Int) ≤ m := by omega
    simp [f_is_text_of, runD_eq, b_is_text_of, Mir.envOf, hs, sizeLine_eq, g1, g2, h7, h8, e]
theorem text_other {l m x : D} (hx : isF [x, .ty "str"] = .ok (.bl false)) : f_is_text_of [l, m, x] = .ok (.bl false) := by
  simp [f_is_text_of, runD_eq, b_is_text_of, Mir.envOf, hx]
theorem iscal_txt {two : Bool} {l : D} (w : List Nat) (hb : f_is_book [.tup [.str (zz two), l]] = .ok (.bl true)) (hw : w.length ≤ 1000) : f_is_calendar [.tup [.str (zz two), l], txt w] = .ok (.bl (decide (w.length ≤ 60) && w.all fun c => decide (c ∈ lets two))) := by
  have e : decide ((w.length : Int) ≤ 60) = decide (w.length ≤ 60) := decide_eq_decide.mpr ⟨fun h => by omega, fun h => by omega⟩
  have t := text_ok (lets two) 60 w hw
  rw [e] at t
  simp [f_is_calendar, runD_eq, b_is_calendar, Mir.envOf, chk_good hb, letters_ok, t]
theorem iscal_other {two : Bool} {l x : D} (hb : f_is_book [.tup [.str (zz two), l]] = .ok (.bl true)) (hx : isF [x, .ty "str"] = .ok (.bl false)) : f_is_calendar [.tup [.str (zz two), l], x] = .ok (.bl false) := by
  simp [f_is_calendar, runD_eq, b_is_calendar, Mir.envOf, chk_good hb, letters_ok, text_other hx]
theorem badcal_no {two : Bool} {l : D} (hb : f_is_book [.tup [.str (zz two), l]] = .ok (.bl true)) : ∀ x ∈ badCals, f_is_calendar [.tup [.str (zz two), l], x] = .ok (.bl false) := by
  have s1 : ("c" : Str) = ⟨[99].toArray⟩ := by decide +kernel
  have s2 : ("a b" : Str) = ⟨[97, 32, 98].toArray⟩ := by decide +kernel
  have s3 : ("A" : Str) = ⟨[65].toArray⟩ := by decide +kernel
  have s4 : ("aap" : Str) = ⟨[97, 97, 112].toArray⟩ := by decide +kernel
  have t : ∀ w : List Nat, w.length ≤ 1000 → (decide (w.length ≤ 60) && w.all fun c => decide (c ∈ lets two)) = false → f_is_calendar [.tup [.str (zz two), l], txt w] = .ok (.bl false) := fun w h h2 => (iscal_txt w hb h).trans (by rw [h2])
  intro x hx
  simp only [badCals, List.mem_cons, List.not_mem_nil, or_false] at hx
  rcases hx with rfl | rfl | rfl | rfl | rfl | rfl | rfl | rfl | rfl
  · exact iscal_other hb (of_isBl (by decide +kernel))
  · exact iscal_other hb (of_isBl (by decide +kernel))
  · rw [s1]; exact t [99] (by decide) (by cases two <;> decide)
  · rw [s2]; exact t [97, 32, 98] (by decide) (by cases two <;> decide)
  · exact iscal_other hb (of_isBl (by decide +kernel))
  · exact iscal_other hb (of_isBl (by decide +kernel))
  · exact t (List.replicate 61 46) (by decide) (by cases two <;> decide)
  · rw [s3]; exact t [65] (by decide) (by cases two <;> decide)
  · rw [s4]; exact t [97, 97, 112] (by decide) (by cases two <;> decide)
theorem islim_ok {two : Bool} {d : D} (h : isLim two d) : f__is_limit_within [d, .str (zz two)] = .ok (.bl true) := by
  have m : ∀ z ∈ zl two, ∀ c ∈ ([1, 2, 3] : List Int), ∀ s ∈ ([1, 2, 3, 4, 5, 6] : List Int), isBl true (f__is_limit_within [.tup [.str "most", .str z, .int c, .int s], .str (zz two)]) = true := by cases two <;> decide +kernel
  have r : ∀ z ∈ zl two, ∀ c ∈ ([1, 2, 3] : List Int), isBl true (f__is_limit_within [.tup [.str "row", .str z, .int c], .str (zz two)]) = true := by cases two <;> decide +kernel
  have g : ∀ z ∈ zl two, ∀ c ∈ ([1, 2, 3] : List Int), isBl true (f__is_limit_within [.tup [.str "gap", .str z, .int c], .str (zz two)]) = true := by cases two <;> decide +kernel
  have q : ∀ z ∈ zl two, ∀ c ∈ ([0, 1, 2] : List Int), ∀ s ∈ ([1, 2, 3, 4, 5] : List Int), isBl true (f__is_limit_within [.tup [.str "starts", .str z, .int c, .int s], .str (zz two)]) = true := by cases two <;> decide +kernel
  obtain ⟨z, hz, ⟨c, s, h1, h2, h3, h4, rfl⟩ | ⟨c, h1, h2, rfl⟩ | ⟨c, h1, h2, rfl⟩ | ⟨c, s, h1, h2, h3, h4, rfl⟩⟩ := h
  · exact of_isBl (m z hz c (by simp; omega) s (by simp; omega))
  · exact of_isBl (r z hz c (by simp; omega))
  · exact of_isBl (g z hz c (by simp; omega))
  · exact of_isBl (q z hz c (by simp; omega) s (by simp; omega))
theorem pair_ok (x y : D) : f_is_pair [.tup [x, y]] = .ok (.bl true) := by
  have t1 : isF [.tup [x, y], .ty "tuple"] = .ok (.bl true) := of_isBl rfl
  have n2 : eqD (.int 2) (.int 2) = .ok (.bl true) := of_isBl (by decide +kernel)
  simp [f_is_pair, runD_eq, b_is_pair, Mir.envOf, t1, n2, sizeLine_eq]
theorem isbook_ok {two : Bool} {ls : List D} (hl : ls.length ≤ 4) (h : ∀ d ∈ ls, isLim two d) : f_is_book [.tup [.str (zz two), .tup ls]] = .ok (.bl true) := by
  have t1 : isF [.tup [.str (zz two), .tup ls], .ty "tuple"] = .ok (.bl true) := of_isBl rfl
  have t2 : isF [.tup ls, .ty "tuple"] = .ok (.bl true) := of_isBl rfl
  have t3 : ninD (.str (zz two)) (.tup [.str "a", .str "ab"]) = .ok (.bl false) := by cases two <;> exact of_isBl (by decide +kernel)
  have e : lcGo (tgName 3) mYes el_is_book_1 [.fz (.tup [.str (zz two), .tup ls]), .fz (.str (zz two)), .fz (.tup ls), .un] ls = .ok (ls.map fun _ => D.bl true) :=
    lcGo_all (mt := tgName 3) (me := el_is_book_1) (g := fun _ => D.bl true) ls fun d hd => ⟨_, rfl, by simp [el_is_book_1, islim_ok (h d hd)]⟩
  have l4 : ¬ (4 : Int) < ls.length := by omega
  have l5 : ¬ 4 < ls.length := by omega
  have l6 : ls.length ≤ 1000000 := by omega
  have n2 : neD (.int 2) (.int 2) = .ok (.bl false) := of_isBl (by decide +kernel)
  have al : allF [.lst (ls.map fun _ => D.bl true)] = .ok (.bl true) := by rw [allF_map ls fun _ => true]; simp
  simp only [List.map_const'] at e al
  simp [f_is_book, runD_eq, b_is_book, Mir.envOf, pair_ok, t2, t3, l4, l5, l6, n2, e, sizeLine_eq, al]
/-! the errors -/
theorem err_book {d : D} (x : D) (h : f_is_book [d] = .ok (.bl false)) : ∀ way ∈ ([0, 1, 2, 3] : List Int), f__law_error [.int way, d, x] = .ok (.int 0) := by
  have c := chkcal_badbook x h
  have a1 : f_first_broken [d, x] = .exc "InvalidBook" := by simp [f_first_broken, runD_eq, b_first_broken, Mir.envOf, c]
  have a2 : f_is_allowed [d, x] = .exc "InvalidBook" := by simp [f_is_allowed, runD_eq, b_is_allowed, Mir.envOf, a1]
  have a3 : f_past_of [d, x] = .exc "InvalidBook" := by simp [f_past_of, runD_eq, b_past_of, Mir.envOf, c]
  have a5 : f_check_allowed [d, x] = .exc "InvalidBook" := by simp [f_check_allowed, runD_eq, b_check_allowed, Mir.envOf, a2]
  have a4 : f_next_days [d, x] = .exc "InvalidBook" := by simp [f_next_days, runD_eq, b_next_days, Mir.envOf, a5]
  intro way hw
  simp only [List.mem_cons, List.not_mem_nil, or_false] at hw
  rcases hw with rfl | rfl | rfl | rfl
  all_goals
    simp [f__law_error, runD_eq, b__law_error, Mir.envOf, sTry, try__law_error_1, mFnIx, atI, ixN, a1, a2, a3, a4]
    decide +kernel
theorem err_cal {d x : D} (hb : f_is_calendar [d, x] = .ok (.bl false)) : ∀ way ∈ ([0, 1, 2, 3] : List Int), f__law_error [.int way, d, x] = .ok (.int 1) := by
  have c := chkcal_bad hb
  have a1 : f_first_broken [d, x] = .exc "InvalidCalendar" := by simp [f_first_broken, runD_eq, b_first_broken, Mir.envOf, c]
  have a2 : f_is_allowed [d, x] = .exc "InvalidCalendar" := by simp [f_is_allowed, runD_eq, b_is_allowed, Mir.envOf, a1]
  have a3 : f_past_of [d, x] = .exc "InvalidCalendar" := by simp [f_past_of, runD_eq, b_past_of, Mir.envOf, c]
  have a5 : f_check_allowed [d, x] = .exc "InvalidCalendar" := by simp [f_check_allowed, runD_eq, b_check_allowed, Mir.envOf, a2]
  have a4 : f_next_days [d, x] = .exc "InvalidCalendar" := by simp [f_next_days, runD_eq, b_next_days, Mir.envOf, a5]
  intro way hw
  simp only [List.mem_cons, List.not_mem_nil, or_false] at hw
  rcases hw with rfl | rfl | rfl | rfl
  all_goals
    simp [f__law_error, runD_eq, b__law_error, Mir.envOf, sTry, try__law_error_1, mFnIx, atI, ixN, a1, a2, a3, a4]
    decide +kernel
/-! ### the whole calendar -/
def inz (z : Str) (c : Nat) : Bool := decide (c ∈ z.cps.toList)
theorem inD_z (z : Str) (c : Nat) : inD (txt [c]) (.str z) = .ok (.bl (inz z c)) := rfl
def firstsI (H : List Int) : List Int := H.filter fun m => !decide (m - 1 ∈ H)
def lastsI (H : List Int) : List Int := H.filter fun m => !decide (m + 1 ∈ H)
def wCount (c s : Int) (n : Nat) (K : List Int) : Bool := !(((List.range n).map fun i : Nat => (i : Int)).filter fun i => decide (c < ((K.filter fun m => decide (i - s < m) && decide (m ≤ i)).length : Int))).isEmpty
def wRow (c : Int) (H : List Int) : Bool := !(((firstsI H).zip (lastsI H)).filter fun q => decide (c < q.2 - q.1 + 1)).isEmpty
def wGap (c : Int) (H : List Int) : Bool := !(((lastsI H).zip (firstsI H).tail).filter fun q => decide (q.2 - q.1 - 1 < c)).isEmpty
theorem in_ms : inD (.str "most") (.tup [.str "most", .str "starts"]) = .ok (.bl true) := of_isBl (by decide +kernel)
theorem in_ss : inD (.str "starts") (.tup [.str "most", .str "starts"]) = .ok (.bl true) := of_isBl (by decide +kernel)
theorem in_rs : inD (.str "row") (.tup [.str "most", .str "starts"]) = .ok (.bl false) := of_isBl (by decide +kernel)
theorem in_gs : inD (.str "gap") (.tup [.str "most", .str "starts"]) = .ok (.bl false) := of_isBl (by decide +kernel)
theorem whole_held (l k z c : D) (w : List Nat) (y : Str) (hz : z = .str y) (hw : w.length ≤ 1000) : lcGo (tgTup 2 (tgCons (tgName 9) (tgCons (tgName 10) tgNil))) tt__law_whole_2 el__law_whole_1 [.fz l, .fz (txt w), .fz k, .fz z, .fz c, .un, .un, .un, .un, .un, .un, .un, .un, .un, .un] (enumD (w.map fun c => txt [c])) = .ok ((heldFrom 0 (w.map (inz y))).map D.int) := by
  subst hz
  rw [enum_from]
  refine lcGo_held w 0 (fun m c hc => ?_) fun m c hc => ?_
  · simp [tt__law_whole_2, inD_z]
  · simp [el__law_whole_1]
theorem whole_firsts (l k z c w : D) (H : List Int) : lcGo (tgName 9) tt__law_whole_4 el__law_whole_3 [.fz l, .fz w, .fz k, .fz z, .fz c, .fz (.lst (H.map D.int)), .un, .un, .un, .un, .un, .un, .un, .un, .un] (H.map D.int) = .ok ((firstsI H).map D.int) := by
  refine lcGo_ints H (fun m hm => ?_) fun m hm => ?_
  · simp [tt__law_whole_4]
  · simp [el__law_whole_3]
theorem whole_lasts (l k z c w f : D) (H : List Int) : lcGo (tgName 9) tt__law_whole_6 el__law_whole_5 [.fz l, .fz w, .fz k, .fz z, .fz c, .fz (.lst (H.map D.int)), .fz f, .un, .un, .un, .un, .un, .un, .un, .un] (H.map D.int) = .ok ((lastsI H).map D.int) := by
  refine lcGo_ints H (fun m hm => ?_) fun m hm => ?_
  · simp [tt__law_whole_6]
  · simp [el__law_whole_5]
theorem cut3 (a b c : D) (r : List D) : Mir.cutD (a :: b :: c :: r) none (some 3) = [a, b, c] := by
  simp [Mir.cutD, HT.sIx]
theorem cut_tail (xs : List D) : Mir.cutD xs (some 1) none = xs.tail := by
  cases xs with
  | nil => rfl
  | cons x r =>
    simp [Mir.cutD, HT.sIx]
/-- what comes before the kinds part -/
def whole_rest : Mir.Env → RS := (sSeq (sIf (mTest (mB (cmpF .In) (mVar 2) (mTup (mCons (mC (.str "most")) (mCons (mC (.str "starts")) mNil))))) (sSeq (sSet 8 (mIf (mTest (mB (cmpF .Eq) (mVar 2) (mC (.str "most")))) (mVar 5) (mVar 6)))
  (sRet (mB (cmpF .NotEq) (mFz (mLc [11] (mSeqs rng1 (mCons (mCall lenF (mCons (mVar 1) mNil)) mNil)) (tgName 11) tt__law_whole_10 el__law_whole_9)) (mFz (mLst mNil))))) sSkip)
  (sSeq (sIf (mTest (mB (cmpF .Eq) (mVar 2) (mC (.str "row")))) (sRet (mB (cmpF .NotEq) (mFz (mLc [13, 12] (mSeqs zipF (mCons (mVar 6) (mCons (mVar 7) mNil))) (tgTup 2 (tgCons (tgName 13) (tgCons (tgName 12) tgNil))) tt__law_whole_12 el__law_whole_11)) (mFz (mLst mNil)))) sSkip)
  (sRet (mB (cmpF .NotEq) (mFz (mLc [12, 13] (mSeqs zipF (mCons (mVar 7) (mCons (mSl (mVar 6) (mSome (mC (.int 1))) mNo) mNil))) (tgTup 2 (tgCons (tgName 12) (tgCons (tgName 13) tgNil))) tt__law_whole_14 el__law_whole_13)) (mFz (mLst mNil))))))
theorem whole_start (k z : Str) (c : D) (r : List D) (w : List Nat) (hw : w.length ≤ 1000) : f__law_whole [.tup (.str k :: .str z :: c :: r), txt w] = outR (whole_rest [.fz (.tup (.str k :: .str z :: c :: r)), .fz (txt w), .fz (.str k), .fz (.str z), .fz c, .fz (.lst ((heldFrom 0 (w.map (inz z))).map D.int)), .fz (.lst ((firstsI (heldFrom 0 (w.map (inz z)))).map D.int)), .fz (.lst ((lastsI (heldFrom 0 (w.map (inz z)))).map D.int)), .un, .un, .un, .un, .un, .un, .un]) := by
  have e1 := whole_held (.tup (.str k :: .str z :: c :: r)) (.str k) (.str z) c w z rfl hw
  have ar : b__law_whole = (sSeq (sUnp (tgTup 3 (tgCons (tgName 2) (tgCons (tgName 3) (tgCons (tgName 4) tgNil)))) (mSl (mVar 0) mNo (mSome (mC (.int 3)))))
    (sSeq (sSet 5 (mFz (mLc [9, 10] (mSeqs enF (mCons (mVar 1) mNil)) (tgTup 2 (tgCons (tgName 9) (tgCons (tgName 10) tgNil))) tt__law_whole_2 el__law_whole_1)))
    (sSeq (sSet 6 (mFz (mLc [9] (mSeq anyOf (mVar 5)) (tgName 9) tt__law_whole_4 el__law_whole_3)))
    (sSeq (sSet 7 (mFz (mLc [9] (mSeq anyOf (mVar 5)) (tgName 9) tt__law_whole_6 el__law_whole_5))) whole_rest)))) := rfl
  have hh := held_len 0 (w.map (inz z))
  rw [List.length_map] at hh
  generalize heldFrom 0 (w.map (inz z)) = H at *
  have g1 : (enumD (w.map fun c => txt [c])).length ≤ 1000000 := by rw [enumD_len, List.length_map]; omega
  have g2 : H.length ≤ 1000000 := by omega
  have e2 := whole_firsts (.tup (.str k :: .str z :: c :: r)) (.str k) (.str z) c (txt w) H
  have e3 := whole_lasts (.tup (.str k :: .str z :: c :: r)) (.str k) (.str z) c (txt w) (.lst ((firstsI H).map D.int)) H
  show runD 15 b__law_whole _ = _
  rw [ar]
  simp [runD_eq, Mir.envOf, cut3, e1, g1, g2, e2, e3]
theorem lit_le (n : Nat) (h : n ≤ 16777216) : n ≤ sizeLine := by rw [sizeLine_eq]; exact h
theorem count_in (k z w h f la : D) (c s i : Int) (K : List Int) : lcGo (tgName 14) tt__law_whole_8 el__law_whole_7 [.fz (.tup [k, z, .int c, .int s]), .fz w, .fz k, .fz z, .fz (.int c), .fz h, .fz f, .fz la, .fz (.lst (K.map D.int)), .un, .un, .fz (.int i), .un, .un, .un] (K.map D.int) = .ok ((K.filter fun m => decide (i - s < m) && decide (m ≤ i)).map D.int) := by
  refine lcGo_ints K (fun m hm => ?_) fun m hm => ?_
  · by_cases h1 : i - s < m <;> simp [tt__law_whole_8, show atI [k, z, D.int c, .int s] 3 = some (.int s) from rfl, h1]
  · simp [el__law_whole_7]
theorem count_out (k z w h f la : D) (c s : Int) (K : List Int) (n : Nat) (hK : K.length ≤ 1000) : lcGo (tgName 11) tt__law_whole_10 el__law_whole_9 [.fz (.tup [k, z, .int c, .int s]), .fz w, .fz k, .fz z, .fz (.int c), .fz h, .fz f, .fz la, .fz (.lst (K.map D.int)), .un, .un, .un, .un, .un, .un] (rangeD 0 n) = .ok ((((List.range n).map fun i : Nat => (i : Int)).filter fun i => decide (c < ((K.filter fun m => decide (i - s < m) && decide (m ≤ i)).length : Int))).map D.int) := by
  rw [range_map]
  have g : K.length ≤ 1000000 := by omega
  refine lcGo_ints _ (fun m hm => ?_) fun m hm => ?_
  · have e := count_in k z w h f la c s m K
    simp [tt__law_whole_10, g, e]
  · simp [el__law_whole_9]
theorem firsts_len (H : List Int) : (firstsI H).length ≤ H.length := List.length_filter_le _ _
theorem lasts_len (H : List Int) : (lastsI H).length ≤ H.length := List.length_filter_le _ _
theorem r1 (w : List Nat) (hw : w.length ≤ 1000) : rng1 [.int (w.length : Nat)] = .ok (rangeD 0 w.length) := by
  unfold rng1
  exact if_pos ⟨by omega, by omega⟩
theorem most_rest (k z : Str) (c s : Int) (w : List Nat) (X K : List Int) (h F L : D) (b : Bool) (hk : inD (.str k) (.tup [.str "most", .str "starts"]) = .ok (.bl true)) (hb : eqD (.str k) (.str "most") = .ok (.bl b)) (hh : (if b = true then h else F) = .lst (K.map D.int)) (g1 : w.length ≤ 16777216) (g2 : w.length ≤ 1000000) (r1' : rng1 [.int (w.length : Nat)] = .ok (rangeD 0 w.length)) (e : lcGo (tgName 11) tt__law_whole_10 el__law_whole_9 [.fz (.tup [.str k, .str z, .int c, .int s]), .fz (txt w), .fz (.str k), .fz (.str z), .fz (.int c), .fz h, .fz F, .fz L, .fz (.lst (K.map D.int)), .un, .un, .un, .un, .un, .un] (rangeD 0 w.length) = .ok (X.map D.int)) (ne : neD (.lst (X.map D.int)) (.lst []) = .ok (.bl (!X.isEmpty))) :
  outR (whole_rest [.fz (.tup [.str k, .str z, .int c, .int s]), .fz (txt w), .fz (.str k), .fz (.str z), .fz (.int c), .fz h, .fz F, .fz L, .un, .un, .un, .un, .un, .un, .un]) = .ok (.bl (!X.isEmpty)) := by
  have a1 : ∀ ρ : Mir.Env, ρ[2]? = some (.fz (.str k)) → (mTest (mB (cmpF .In) (mVar 2) (mTup (mCons (mC (.str "most")) (mCons (mC (.str "starts")) mNil))))) ρ = .ok true := fun ρ h => by
    rw [mTest_eq, mB_eq, mVar_eq, h, slotD_fz, R_bind_ok, mTup_eq, mCons_eq, mC_eq, R_bind_ok, mCons_eq, mC_eq, R_bind_ok, mNil_eq, R_bind_ok, R_bind_ok, R_bind_ok, if_pos (lit_le _ (by decide)), R_bind_ok, cmp_in, hk, R_bind_ok, blOf_bl]
  have a2 : (mIf (mTest (mB (cmpF .Eq) (mVar 2) (mC (.str "most")))) (mVar 5) (mVar 6)) [.fz (.tup [.str k, .str z, .int c, .int s]), .fz (txt w), .fz (.str k), .fz (.str z), .fz (.int c), .fz h, .fz F, .fz L, .un, .un, .un, .un, .un, .un, .un] = .ok (.lst (K.map D.int)) := by
    rw [mIf_eq, mTest_eq, mB_eq, mVar_eq, show ([Slot.fz (.tup [.str k, .str z, .int c, .int s]), .fz (txt w), .fz (.str k), .fz (.str z), .fz (.int c), .fz h, .fz F, .fz L, .un, .un, .un, .un, .un, .un, .un] : Mir.Env)[2]? = some (.fz (.str k)) from rfl, slotD_fz, R_bind_ok, mC_eq, R_bind_ok, cmp_eq, hb, R_bind_ok, blOf_bl, R_bind_ok]
    rw [← hh]
    cases b <;> rfl
  have a3 : (mLc [11] (mSeqs rng1 (mCons (mCall lenF (mCons (mVar 1) mNil)) mNil)) (tgName 11) tt__law_whole_10 el__law_whole_9) [.fz (.tup [.str k, .str z, .int c, .int s]), .fz (txt w), .fz (.str k), .fz (.str z), .fz (.int c), .fz h, .fz F, .fz L, .fz (.lst (K.map D.int)), .un, .un, .un, .un, .un, .un] = .ok (X.map D.int) := by
    rw [mLc_eq, mSeqs_eq, mCons_eq, mCall_eq, mCons_eq, mVar_eq, show ([Slot.fz (.tup [.str k, .str z, .int c, .int s]), .fz (txt w), .fz (.str k), .fz (.str z), .fz (.int c), .fz h, .fz F, .fz L, .fz (.lst (K.map D.int)), .un, .un, .un, .un, .un, .un] : Mir.Env)[1]? = some (.fz (txt w)) from rfl, slotD_fz, R_bind_ok, mNil_eq, R_bind_ok, R_bind_ok, lenF_txt, if_pos (lit_le _ g1), R_bind_ok, R_bind_ok, R_bind_ok, r1', R_bind_ok, range_len, if_pos g2]
    rw [show wipeE ([Slot.fz (.tup [.str k, .str z, .int c, .int s]), .fz (txt w), .fz (.str k), .fz (.str z), .fz (.int c), .fz h, .fz F, .fz L, .fz (.lst (K.map D.int)), .un, .un, .un, .un, .un, .un] : Mir.Env) [11] = [Slot.fz (.tup [.str k, .str z, .int c, .int s]), .fz (txt w), .fz (.str k), .fz (.str z), .fz (.int c), .fz h, .fz F, .fz L, .fz (.lst (K.map D.int)), .un, .un, .un, .un, .un, .un] from rfl, e, nx_ok']
  unfold whole_rest
  rw [sSeq_eq, sIf_eq, a1 _ rfl, R_to_ok, if_pos rfl, sSeq_eq, sSet_eq, a2, R_to_ok]
  rw [show ([Slot.fz (.tup [.str k, .str z, .int c, .int s]), .fz (txt w), .fz (.str k), .fz (.str z), .fz (.int c), .fz h, .fz F, .fz L, .un, .un, .un, .un, .un, .un, .un] : Mir.Env).set 8 (.fz (.lst (K.map D.int))) = [.fz (.tup [.str k, .str z, .int c, .int s]), .fz (txt w), .fz (.str k), .fz (.str z), .fz (.int c), .fz h, .fz F, .fz L, .fz (.lst (K.map D.int)), .un, .un, .un, .un, .un, .un] from rfl, seqR_nx, sRet_eq, mB_eq, mFz_eq, a3, R_bind_ok, R_bind_ok, mFz_eq, mLst_eq, mNil_eq, R_bind_ok, if_pos (show ([] : List D).length ≤ sizeLine from lit_le 0 (Nat.zero_le _)), R_bind_ok, R_bind_ok, cmp_ne, ne, R_to_ok, seqR_ret, outR_ret]
theorem whole_most (z : Str) (c s : Int) (w : List Nat) (hw : w.length ≤ 1000) : f__law_whole [.tup [.str "most", .str z, .int c, .int s], txt w] = .ok (.bl (wCount c s w.length (heldFrom 0 (w.map (inz z))))) := by
  rw [whole_start _ _ _ _ _ hw]
  have hh := held_len 0 (w.map (inz z))
  rw [List.length_map] at hh
  exact most_rest _ _ _ _ _ _ _ _ _ _ true in_ms eqs_mm (if_pos rfl) (by omega) (by omega) (r1 w hw) (count_out _ _ _ _ _ _ _ _ _ _ (by omega)) (ne_lst_nil _)
theorem whole_starts (z : Str) (c s : Int) (w : List Nat) (hw : w.length ≤ 1000) : f__law_whole [.tup [.str "starts", .str z, .int c, .int s], txt w] = .ok (.bl (wCount c s w.length (firstsI (heldFrom 0 (w.map (inz z)))))) := by
  rw [whole_start _ _ _ _ _ hw]
  have hh := held_len 0 (w.map (inz z))
  rw [List.length_map] at hh
  have hf := firsts_len (heldFrom 0 (w.map (inz z)))
  exact most_rest _ _ _ _ _ _ _ _ _ _ false in_ss eqs_sm (if_neg (by decide)) (by omega) (by omega) (r1 w hw) (count_out _ _ _ _ _ _ _ _ _ _ (by omega)) (ne_lst_nil _)
theorem nonempty_map {α β : Type} (l : List α) (f : α → β) : (l.map f).isEmpty = l.isEmpty := by cases l <;> rfl
theorem whole_row (z : Str) (c : Int) (w : List Nat) (hw : w.length ≤ 1000) : f__law_whole [.tup [.str "row", .str z, .int c], txt w] = .ok (.bl (wRow c (heldFrom 0 (w.map (inz z))))) := by
  rw [whole_start _ _ _ _ _ hw]
  have hh := held_len 0 (w.map (inz z))
  rw [List.length_map] at hh
  generalize heldFrom 0 (w.map (inz z)) = H at *
  have hf := firsts_len H
  have hl := lasts_len H
  have e := lcGo_zip (k := 0) (i := 13) (j := 12) (tt := tt__law_whole_12) (me := el__law_whole_11) (ρ := [.fz (.tup [.str "row", .str z, .int c]), .fz (txt w), .fz (.str "row"), .fz (.str z), .fz (.int c), .fz (.lst (H.map D.int)), .fz (.lst ((firstsI H).map D.int)), .fz (.lst ((lastsI H).map D.int)), .un, .un, .un, .un, .un, .un, .un]) (p := fun x y => decide (c < y - x + 1)) (g := fun x y => x) (firstsI H) (lastsI H) (fun x y => by simp [tt__law_whole_12]) fun x y => by simp [el__law_whole_11]
  have g : (zipD ((firstsI H).map D.int) ((lastsI H).map D.int)).length ≤ 1000000 := by rw [zipD_len, List.length_map]; omega
  have ne := ne_lst_nil ((((firstsI H).zip (lastsI H)).filter fun q => decide (c < q.2 - q.1 + 1)).map fun q => q.1)
  rw [nonempty_map] at ne
  simp only [whole_rest, sSeq_eq, sIf_eq, mTest_eq, mB_eq, mVar_eq, cmp_in, cmp_eq, mTup_eq, mCons_eq, mNil_eq, mC_eq, R_bind_ok, sRet_eq, mFz_eq, mLc_eq, mLst_eq, wRow]
  simp [-List.map_map, sizeLine_eq, in_rs, eqs_rr, g, e, ne]
theorem whole_gap (z : Str) (c : Int) (w : List Nat) (hw : w.length ≤ 1000) : f__law_whole [.tup [.str "gap", .str z, .int c], txt w] = .ok (.bl (wGap c (heldFrom 0 (w.map (inz z))))) := by
  rw [whole_start _ _ _ _ _ hw]
  have hh := held_len 0 (w.map (inz z))
  rw [List.length_map] at hh
  generalize heldFrom 0 (w.map (inz z)) = H at *
  have hf := firsts_len H
  have hl := lasts_len H
  have e := lcGo_zip (k := 0) (i := 12) (j := 13) (tt := tt__law_whole_14) (me := el__law_whole_13) (ρ := [.fz (.tup [.str "gap", .str z, .int c]), .fz (txt w), .fz (.str "gap"), .fz (.str z), .fz (.int c), .fz (.lst (H.map D.int)), .fz (.lst ((firstsI H).map D.int)), .fz (.lst ((lastsI H).map D.int)), .un, .un, .un, .un, .un, .un, .un]) (p := fun x y => decide (y - x - 1 < c)) (g := fun x y => x) (lastsI H) (firstsI H).tail (fun x y => by simp [tt__law_whole_14]) fun x y => by simp [el__law_whole_13]
  have g : (zipD ((lastsI H).map D.int) ((firstsI H).map D.int).tail).length ≤ 1000000 := by rw [zipD_len, List.length_map]; omega
  have ne := ne_lst_nil ((((lastsI H).zip (firstsI H).tail).filter fun q => decide (q.2 - q.1 - 1 < c)).map fun q => q.1)
  rw [nonempty_map] at ne
  rw [List.map_tail] at e
  simp only [whole_rest, sSeq_eq, sIf_eq, mTest_eq, mB_eq, mVar_eq, cmp_in, cmp_eq, mTup_eq, mCons_eq, mNil_eq, mC_eq, R_bind_ok, sRet_eq, mFz_eq, mLc_eq, mLst_eq, wGap]
  simp [-List.map_map, sizeLine_eq, in_gs, eqs_gr, cut_tail, g, e, ne]
/-! ### a day, by the program and by the law -/
def beg (bs : List Bool) : List Bool := bs.zipWith (fun p n => n && !p) bs.tail
def pbM (c : Int) (s : Nat) (q : List Bool) : Bool := decide (c < cnt (q.drop (6 - s)))
def pbS (c : Int) (s : Nat) (q : List Bool) : Bool := decide (c < cnt ((beg q).drop (5 - s)))
def pbR (c : Nat) (q : List Bool) : Bool := (q.drop (5 - c)).all id
def lastBeg (q : List Bool) : Bool := (beg q).getLastD false
def pbG (c : Nat) (q : List Bool) : Bool := lastBeg q && ((q.drop (5 - c)).take c).any id
def breaks_rest : Mir.Env → RS := (sSeq (sIf (mTest (mB (cmpF .Eq) (mVar 2) (mC (.str "most")))) (sRet (mB (cmpF .Gt) (mCall sumF (mCons (mSl (mVar 5) (mSome (mU negD (mB ixD (mVar 0) (mC (.int 3))))) mNo) mNil)) (mVar 4))) sSkip)
  (sSeq (sIf (mTest (mB (cmpF .Eq) (mVar 2) (mC (.str "starts")))) (sRet (mB (cmpF .Gt) (mCall sumF (mCons (mSl (mVar 6) (mSome (mU negD (mB ixD (mVar 0) (mC (.int 3))))) mNo) mNil)) (mVar 4))) sSkip)
  (sSeq (sIf (mTest (mB (cmpF .Eq) (mVar 2) (mC (.str "row")))) (sRet (mCall allF (mCons (mSl (mVar 5) (mSome (mB subD (mU negD (mC (.int 1))) (mVar 4))) mNo) mNil))) sSkip)
  (sRet (mAndV (mB ixD (mVar 6) (mU negD (mC (.int 1)))) (mCall anyF (mCons (mSl (mVar 5) (mSome (mB subD (mU negD (mC (.int 1))) (mVar 4))) (mSome (mU negD (mC (.int 1))))) mNil)))))))
theorem breaks_start (k z : Str) (c : D) (r : List D) (w : List Nat) (hw : w.length ≤ 1000) : f__breaks [.tup (.str k :: .str z :: c :: r), txt w] = outR (breaks_rest [.fz (.tup (.str k :: .str z :: c :: r)), .fz (txt w), .fz (.str k), .fz (.str z), .fz c, .fz (.lst (bls (w.map (inz z)))), .fz (.lst (bls (beg (w.map (inz z))))), .un, .un, .un]) := by
  have e1 := lcGo_bls (i := 7) (me := el__breaks_1) (ρ := [.fz (.tup (.str k :: .str z :: c :: r)), .fz (txt w), .fz (.str k), .fz (.str z), .fz c, .un, .un, .un, .un, .un]) (p := inz z) w (fun x hx => by simp [el__breaks_1, inD_z])
  have e2 := lcGo_bzip (i := 8) (j := 9) (me := el__breaks_2) (ρ := [.fz (.tup (.str k :: .str z :: c :: r)), .fz (txt w), .fz (.str k), .fz (.str z), .fz c, .fz (.lst (bls (w.map (inz z)))), .un, .un, .un, .un]) (g := fun p n => n && !p) (w.map (inz z)) (w.map (inz z)).tail (fun x y => by cases y <;> cases x <;> simp [el__breaks_2])
  have ar : b__breaks = (sSeq (sUnp (tgTup 3 (tgCons (tgName 2) (tgCons (tgName 3) (tgCons (tgName 4) tgNil)))) (mSl (mVar 0) mNo (mSome (mC (.int 3)))))
    (sSeq (sSet 5 (mFz (mLc [7] (mSeq anyOf (mVar 1)) (tgName 7) mYes el__breaks_1)))
    (sSeq (sSet 6 (mFz (mLc [8, 9] (mSeqs zipF (mCons (mVar 5) (mCons (mSl (mVar 5) (mSome (mC (.int 1))) mNo) mNil))) (tgTup 2 (tgCons (tgName 8) (tgCons (tgName 9) tgNil))) mYes el__breaks_2))) breaks_rest))) := rfl
  have hl : (w.map (inz z)).length = w.length := List.length_map ..
  unfold beg
  generalize w.map (inz z) = bs at *
  have ct : Mir.cutD bs (some 1) none = bs.tail := by rw [show (1 : Int) = ((1 : Nat) : Int) from rfl, cut_from, List.drop_one]
  have g1 : w.length ≤ 1000000 := by omega
  have g2 : (zipD (bls bs) (bls bs.tail)).length ≤ 1000000 := by rw [zipD_len, len_bls]; omega
  show runD 10 b__breaks _ = _
  rw [ar]
  simp [-List.map_map, runD_eq, Mir.envOf, cut3, e1, g1, ct, g2, e2]
theorem breaks_most (z : Str) (c : Int) (s : Nat) (w : List Nat) (hw : w.length = 6) (h1 : 1 ≤ s) (h2 : s ≤ 6) : f__breaks [.tup [.str "most", .str z, .int c, .int s], txt w] = .ok (.bl (pbM c s (w.map (inz z)))) := by
  rw [breaks_start _ _ _ _ _ (by omega)]
  have hl : (w.map (inz z)).length = 6 := by rw [List.length_map, hw]
  generalize w.map (inz z) = bs at *
  have ct : Mir.cutD bs (some (-(s : Int))) none = bs.drop (6 - s) := by rw [cut_neg _ _ (by omega) (by omega), hl]; congr 1; omega
  simp [breaks_rest, eqs_mm, show atI [D.str "most", .str z, .int c, .int s] 3 = some (.int s) from rfl, ct, pbM]
theorem breaks_starts (z : Str) (c : Int) (s : Nat) (w : List Nat) (hw : w.length = 6) (h1 : 1 ≤ s) (h2 : s ≤ 5) : f__breaks [.tup [.str "starts", .str z, .int c, .int s], txt w] = .ok (.bl (pbS c s (w.map (inz z)))) := by
  rw [breaks_start _ _ _ _ _ (by omega)]
  have hl : (beg (w.map (inz z))).length = 5 := by unfold beg; rw [List.length_zipWith, List.length_tail, List.length_map, hw]; rfl
  unfold pbS
  generalize beg (w.map (inz z)) = bs at *
  have ct : Mir.cutD bs (some (-(s : Int))) none = bs.drop (5 - s) := by rw [cut_neg _ _ (by omega) (by omega), hl]; congr 1; omega
  simp [breaks_rest, eqs_sm, eqs_ss, show atI [D.str "starts", .str z, .int c, .int s] 3 = some (.int s) from rfl, ct]
theorem breaks_row (z : Str) (c : Nat) (w : List Nat) (hw : w.length = 6) (h1 : 1 ≤ c) (h2 : c ≤ 3) : f__breaks [.tup [.str "row", .str z, .int c], txt w] = .ok (.bl (pbR c (w.map (inz z)))) := by
  rw [breaks_start _ _ _ _ _ (by omega)]
  have hl : (w.map (inz z)).length = 6 := by rw [List.length_map, hw]
  unfold pbR
  generalize w.map (inz z) = bs at *
  have ct : Mir.cutD bs (some (-1 - (c : Int))) none = bs.drop (5 - c) := by rw [cut_neg _ _ (by omega) (by omega), hl]; congr 1; omega
  simp [breaks_rest, eqs_rm, eqs_rs, eqs_rr, ct]
theorem at_last (bs : List Bool) (h : 0 < bs.length) : atI bs (-1) = some (bs.getLastD false) := by
  unfold atI ixN
  rw [if_neg (by omega), if_pos (by omega)]
  show bs[((bs.length : Int) + -1).toNat]? = _
  rw [show ((bs.length : Int) + -1).toNat = bs.length - 1 by omega, ← List.getLast?_eq_getElem?, List.getLastD_eq_getLast?]
  cases bs with
  | nil => cases h
  | cons b r => rw [List.getLast?_cons]; rfl
theorem breaks_gap (z : Str) (c : Nat) (w : List Nat) (hw : w.length = 6) (h1 : 1 ≤ c) (h2 : c ≤ 3) : f__breaks [.tup [.str "gap", .str z, .int c], txt w] = .ok (.bl (pbG c (w.map (inz z)))) := by
  rw [breaks_start _ _ _ _ _ (by omega)]
  have hl : (w.map (inz z)).length = 6 := by rw [List.length_map, hw]
  have hl2 : (beg (w.map (inz z))).length = 5 := by unfold beg; rw [List.length_zipWith, List.length_tail, List.length_map, hw]; rfl
  unfold pbG
  have al : atI (bls (beg (w.map (inz z)))) (-1) = some (.bl (lastBeg (w.map (inz z)))) := at_bls (at_last (beg (w.map (inz z))) (by omega))
  generalize lastBeg (w.map (inz z)) = g at *
  generalize beg (w.map (inz z)) = gs at *
  generalize w.map (inz z) = bs at *
  have ct : Mir.cutD bs (some (-1 - (c : Int))) (some (-1)) = (bs.drop (5 - c)).take c := by
    unfold Mir.cutD HT.sIx
    simp only
    rw [if_pos (by omega), if_pos (by omega), hl]
    congr 1
    · omega
    · congr 1
      omega
  simp [breaks_rest, eqs_gm, eqs_gs, eqs_gr, ct, al]
  cases g <;> simp
def lbreaks_rest : Mir.Env → RS := (sSeq (sIf (mTest (mB (cmpF .Eq) (mVar 2) (mC (.str "most")))) (sRet (mB (cmpF .Gt) (mCall sumF (mCons (mSl (mVar 5) (mSome (mB subD (mCall lenF (mCons (mVar 5) mNil)) (mB ixD (mVar 0) (mC (.int 3))))) mNo) mNil)) (mVar 4))) sSkip)
  (sSeq (sSet 6 (mAndV (mB ixD (mVar 5) (mU negD (mC (.int 1)))) (mNotV (mB ixD (mVar 5) (mU negD (mC (.int 2)))))))
  (sSeq (sIf (mTest (mB (cmpF .Eq) (mVar 2) (mC (.str "row")))) (sRet (mAndV (mB (cmpF .Gt) (mCall lenF (mCons (mVar 5) mNil)) (mVar 4)) (mCall allF (mCons (mSl (mVar 5) (mSome (mB subD (mB subD (mCall lenF (mCons (mVar 5) mNil)) (mVar 4)) (mC (.int 1)))) mNo) mNil)))) sSkip)
  (sSeq (sIf (mTest (mB (cmpF .Eq) (mVar 2) (mC (.str "gap")))) (sRet (mAndV (mVar 6) (mCall anyF (mCons (mSl (mVar 5) (mSome (mB subD (mB subD (mCall lenF (mCons (mVar 5) mNil)) (mVar 4)) (mC (.int 1)))) (mSome (mB subD (mCall lenF (mCons (mVar 5) mNil)) (mC (.int 1))))) mNil)))) sSkip)
  (sSeq (sSet 7 (mFz (mLc [9] (mSeqs rng2 (mCons (mB subD (mCall lenF (mCons (mVar 5) mNil)) (mB ixD (mVar 0) (mC (.int 3)))) (mCons (mCall lenF (mCons (mVar 5) mNil)) mNil))) (tgName 9) tt__law_breaks_3 el__law_breaks_2)))
  (sRet (mAndV (mVar 6) (mB (cmpF .Gt) (mCall lenF (mCons (mVar 7) mNil)) (mVar 4)))))))))
theorem lbreaks_start (k z : Str) (c : D) (r : List D) (w : List Nat) (hw : w.length ≤ 1000) : f__law_breaks [.tup (.str k :: .str z :: c :: r), txt w] = outR (lbreaks_rest [.fz (.tup (.str k :: .str z :: c :: r)), .fz (txt w), .fz (.str k), .fz (.str z), .fz c, .fz (.lst (bls (w.map (inz z)))), .un, .un, .un, .un]) := by
  have e1 := lcGo_bls (i := 8) (me := el__law_breaks_1) (ρ := [.fz (.tup (.str k :: .str z :: c :: r)), .fz (txt w), .fz (.str k), .fz (.str z), .fz c, .un, .un, .un, .un, .un]) (p := inz z) w (fun x hx => by simp [el__law_breaks_1, inD_z])
  have ar : b__law_breaks = (sSeq (sUnp (tgTup 3 (tgCons (tgName 2) (tgCons (tgName 3) (tgCons (tgName 4) tgNil)))) (mSl (mVar 0) mNo (mSome (mC (.int 3)))))
    (sSeq (sSet 5 (mFz (mLc [8] (mSeq anyOf (mVar 1)) (tgName 8) mYes el__law_breaks_1))) lbreaks_rest)) := rfl
  have g1 : w.length ≤ 1000000 := by omega
  show runD 10 b__law_breaks _ = _
  rw [ar]
  simp [-List.map_map, runD_eq, Mir.envOf, cut3, e1, g1]
theorem lbreaks_most (z : Str) (c : Int) (s : Nat) (p v : List Nat) (hv : v.length = 6) (hp : p.length ≤ 900) (h1 : 1 ≤ s) (h2 : s ≤ 6) : f__law_breaks [.tup [.str "most", .str z, .int c, .int s], txt (p ++ v)] = .ok (.bl (pbM c s (v.map (inz z)))) := by
  rw [lbreaks_start _ _ _ _ _ (by rw [List.length_append]; omega), List.map_append]
  have hl : (v.map (inz z)).length = 6 := by rw [List.length_map, hv]
  generalize v.map (inz z) = q at *
  generalize p.map (inz z) = a at *
  have ct : Mir.cutD (a ++ q) (some (((a ++ q).length : Int) - s)) none = q.drop (6 - s) := by
    rw [show (((a ++ q).length : Int) - s) = ((a.length + (6 - s) : Nat) : Int) by rw [List.length_append, hl]; omega, cut_from, ← List.drop_drop, List.drop_left]
  simp only [List.length_append, Int.natCast_add] at ct
  simp [lbreaks_rest, eqs_mm, show atI [D.str "most", .str z, .int c, .int s] 3 = some (.int s) from rfl, ct, pbM]
theorem first_of (a q : List Bool) (hl : q.length = 6) (ρ : Mir.Env) (h5 : ρ[5]? = some (.fz (.lst (bls (a ++ q))))) : (mAndV (mB ixD (mVar 5) (mU negD (mC (.int 1)))) (mNotV (mB ixD (mVar 5) (mU negD (mC (.int 2)))))) ρ = .ok (.bl (lastBeg q)) := by
  obtain ⟨q0, q1, q2, q3, q4, q5, rfl⟩ : ∃ q0 q1 q2 q3 q4 q5, q = [q0, q1, q2, q3, q4, q5] := by
    match q, hl with
    | [q0, q1, q2, q3, q4, q5], _ => exact ⟨q0, q1, q2, q3, q4, q5, rfl⟩
  have i1 : atI (a ++ [q0, q1, q2, q3, q4, q5]) (-1) = some q5 := by
    unfold atI ixN
    rw [if_neg (by omega), if_pos (by rw [List.length_append]; simp only [List.length_cons]; omega)]
    show (a ++ [q0, q1, q2, q3, q4, q5])[(((a ++ [q0, q1, q2, q3, q4, q5]).length : Int) + -1).toNat]? = _
    rw [show (((a ++ [q0, q1, q2, q3, q4, q5]).length : Int) + -1).toNat = a.length + 5 by rw [List.length_append]; simp only [List.length_cons, List.length_nil]; omega, List.getElem?_append_right (by omega), Nat.add_sub_cancel_left]
    rfl
  have i2 : atI (a ++ [q0, q1, q2, q3, q4, q5]) (-2) = some q4 := by
    unfold atI ixN
    rw [if_neg (by omega), if_pos (by rw [List.length_append]; simp only [List.length_cons]; omega)]
    show (a ++ [q0, q1, q2, q3, q4, q5])[(((a ++ [q0, q1, q2, q3, q4, q5]).length : Int) + -2).toNat]? = _
    rw [show (((a ++ [q0, q1, q2, q3, q4, q5]).length : Int) + -2).toNat = a.length + 4 by rw [List.length_append]; simp only [List.length_cons, List.length_nil]; omega, List.getElem?_append_right (by omega), Nat.add_sub_cancel_left]
    rfl
  have j1 := at_bls i1
  have j2 := at_bls i2
  generalize bls (a ++ [q0, q1, q2, q3, q4, q5]) = L at *
  simp [h5, j1, j2, lastBeg, beg]
  cases q5 <;> cases q4 <;> rfl
theorem lbreaks_row (z : Str) (c : Nat) (p v : List Nat) (hv : v.length = 6) (hp : p.length ≤ 900) (h1 : 1 ≤ c) (h2 : c ≤ 3) : f__law_breaks [.tup [.str "row", .str z, .int c], txt (p ++ v)] = .ok (.bl (pbR c (v.map (inz z)))) := by
  rw [lbreaks_start _ _ _ _ _ (by rw [List.length_append]; omega), List.map_append]
  have hl : (v.map (inz z)).length = 6 := by rw [List.length_map, hv]
  generalize v.map (inz z) = q at *
  generalize p.map (inz z) = a at *
  have fi := first_of a q hl [.fz (.tup [.str "row", .str z, .int c]), .fz (txt (p ++ v)), .fz (.str "row"), .fz (.str z), .fz (.int c), .fz (.lst (bls (a ++ q))), .un, .un, .un, .un] rfl
  have ct : Mir.cutD (a ++ q) (some (((a ++ q).length : Int) - c - 1)) none = q.drop (5 - c) := by
    rw [show (((a ++ q).length : Int) - c - 1) = ((a.length + (5 - c) : Nat) : Int) by rw [List.length_append, hl]; omega, cut_from, ← List.drop_drop, List.drop_left]
  have gt : (c : Int) < (a ++ q).length := by rw [List.length_append, hl]; omega
  generalize a ++ q = L at *
  unfold lbreaks_rest
  rw [sSeq_eq, sIf_eq]
  rw [show (mTest (mB (cmpF .Eq) (mVar 2) (mC (.str "most")))) ([.fz (.tup [.str "row", .str z, .int c]), .fz (txt (p ++ v)), .fz (.str "row"), .fz (.str z), .fz (.int c), .fz (.lst (bls L)), .un, .un, .un, .un] : Mir.Env) = .ok false by simp [eqs_rm], R_to_ok, if_neg (by decide), sSkip_eq, seqR_nx, sSeq_eq, sSet_eq, fi, R_to_ok, seqR_nx]
  simp [eqs_rr, ct, gt, pbR]
theorem lbreaks_gap (z : Str) (c : Nat) (p v : List Nat) (hv : v.length = 6) (hp : p.length ≤ 900) (h1 : 1 ≤ c) (h2 : c ≤ 3) : f__law_breaks [.tup [.str "gap", .str z, .int c], txt (p ++ v)] = .ok (.bl (pbG c (v.map (inz z)))) := by
  rw [lbreaks_start _ _ _ _ _ (by rw [List.length_append]; omega), List.map_append]
  have hl : (v.map (inz z)).length = 6 := by rw [List.length_map, hv]
  generalize v.map (inz z) = q at *
  generalize p.map (inz z) = a at *
  have fi := first_of a q hl [.fz (.tup [.str "gap", .str z, .int c]), .fz (txt (p ++ v)), .fz (.str "gap"), .fz (.str z), .fz (.int c), .fz (.lst (bls (a ++ q))), .un, .un, .un, .un] rfl
  have ct : Mir.cutD (a ++ q) (some (((a ++ q).length : Int) - c - 1)) (some (((a ++ q).length : Int) - 1)) = (q.drop (5 - c)).take c := by
    have hL : (a ++ q).length = a.length + 6 := by rw [List.length_append, hl]
    rw [show (((a ++ q).length : Int) - c - 1) = ((a.length + (5 - c) : Nat) : Int) by rw [hL]; omega, show (((a ++ q).length : Int) - 1) = ((a.length + 5 : Nat) : Int) by rw [hL]; omega]
    unfold Mir.cutD HT.sIx
    simp only
    rw [if_neg (by omega), if_neg (by omega), hL]
    rw [show min ((a.length + (5 - c) : Nat) : Int).toNat (a.length + 6) = a.length + (5 - c) by omega, show min ((a.length + 5 : Nat) : Int).toNat (a.length + 6) = a.length + 5 by omega, show a.length + 5 - (a.length + (5 - c)) = c by omega, ← List.drop_drop, List.drop_left]
  generalize a ++ q = L at *
  unfold lbreaks_rest
  rw [sSeq_eq, sIf_eq]
  rw [show (mTest (mB (cmpF .Eq) (mVar 2) (mC (.str "most")))) ([.fz (.tup [.str "gap", .str z, .int c]), .fz (txt (p ++ v)), .fz (.str "gap"), .fz (.str z), .fz (.int c), .fz (.lst (bls L)), .un, .un, .un, .un] : Mir.Env) = .ok false by simp [eqs_gm], R_to_ok, if_neg (by decide), sSkip_eq, seqR_nx, sSeq_eq, sSet_eq, fi, R_to_ok, seqR_nx]
  simp [eqs_gr, eqs_gg, ct, pbG]
  generalize lastBeg q = g
  cases g <;> simp
theorem starts_list (q : List Bool) (hl : q.length = 6) (s : Nat) (h1 : 1 ≤ s) (h2 : s ≤ 5) : ((List.range s).filter fun j => q.getD (6 - s + j) false && !q.getD (5 - s + j) false).length = cnt ((beg q).drop (5 - s)) := by
  obtain ⟨q0, q1, q2, q3, q4, q5, rfl⟩ : ∃ q0 q1 q2 q3 q4 q5, q = [q0, q1, q2, q3, q4, q5] := by
    match q, hl with
    | [q0, q1, q2, q3, q4, q5], _ => exact ⟨q0, q1, q2, q3, q4, q5, rfl⟩
  have hs : s = 1 ∨ s = 2 ∨ s = 3 ∨ s = 4 ∨ s = 5 := by omega
  clear h1 h2 hl
  revert q0 q1 q2 q3 q4 q5
  rcases hs with rfl | rfl | rfl | rfl | rfl <;> decide +kernel
theorem lbreaks_starts (z : Str) (c : Int) (s : Nat) (p v : List Nat) (hv : v.length = 6) (hp : p.length ≤ 900) (h1 : 1 ≤ s) (h2 : s ≤ 5) : f__law_breaks [.tup [.str "starts", .str z, .int c, .int s], txt (p ++ v)] = .ok (.bl (lastBeg (v.map (inz z)) && pbS c s (v.map (inz z)))) := by
  rw [lbreaks_start _ _ _ _ _ (by rw [List.length_append]; omega), List.map_append]
  have hl : (v.map (inz z)).length = 6 := by rw [List.length_map, hv]
  have ha : (p.map (inz z)).length = p.length := List.length_map ..
  generalize v.map (inz z) = q at *
  generalize p.map (inz z) = a at *
  have fi := first_of a q hl [.fz (.tup [.str "starts", .str z, .int c, .int s]), .fz (txt (p ++ v)), .fz (.str "starts"), .fz (.str z), .fz (.int c), .fz (.lst (bls (a ++ q))), .un, .un, .un, .un] rfl
  have hL : (a ++ q).length = a.length + 6 := by rw [List.length_append, hl]
  have ix : ∀ j : Nat, j < 6 → atI (bls (a ++ q)) ((a.length : Int) + j) = some (.bl (q.getD j false)) := by
    intro j hj
    refine at_bls ?_
    unfold atI ixN
    rw [if_pos (by omega), if_pos (by omega)]
    show (a ++ q)[((a.length : Int) + j).toNat]? = _
    rw [show ((a.length : Int) + j).toNat = a.length + j by omega, List.getElem?_append_right (by omega), Nat.add_sub_cancel_left, List.getD_eq_getElem?_getD, List.getElem?_eq_getElem (by omega)]
    rfl
  have rg : rangeD ((a.length : Int) + 6 - s) s = ((List.range s).map fun j : Nat => ((a.length : Int) + 6 - s) + (j : Int)).map D.int := by
    unfold rangeD
    rw [List.map_map]
    rfl
  have e := lcGo_ints (i := 9) (tt := tt__law_breaks_3) (me := el__law_breaks_2) (ρ := [.fz (.tup [.str "starts", .str z, .int c, .int s]), .fz (txt (p ++ v)), .fz (.str "starts"), .fz (.str z), .fz (.int c), .fz (.lst (bls (a ++ q))), .fz (.bl (lastBeg q)), .un, .un, .un]) (p := fun m => q.getD (m - a.length).toNat false && !q.getD (m - a.length - 1).toNat false) ((List.range s).map fun j : Nat => ((a.length : Int) + 6 - s) + (j : Int)) (fun m hm => by
    obtain ⟨j, hj, rfl⟩ := List.mem_map.mp hm
    have hj := List.mem_range.mp hj
    have i1 := ix (6 - s + j) (by omega)
    have i2 := ix (5 - s + j) (by omega)
    rw [show (a.length : Int) + (6 - s + j : Nat) = (a.length : Int) + 6 - s + j by omega] at i1
    rw [show (a.length : Int) + (5 - s + j : Nat) = (a.length : Int) + 6 - s + j - 1 by omega] at i2
    rw [show ((a.length : Int) + 6 - s + j - a.length).toNat = 6 - s + j by omega, show ((a.length : Int) + 6 - s + j - a.length - 1).toNat = 5 - s + j by omega]
    generalize q.getD (6 - s + j) false = x at *
    generalize q.getD (5 - s + j) false = y at *
    generalize bls (a ++ q) = L at *
    cases x <;> cases y <;> simp [tt__law_breaks_3, i1, i2]) fun m hm => by simp [el__law_breaks_2]
  have sl := starts_list q hl s h1 h2
  have fl : ((((List.range s).map fun j : Nat => ((a.length : Int) + 6 - s) + (j : Int)).filter fun m : Int => q.getD (m - a.length).toNat false && !q.getD (m - a.length - 1).toNat false)).length = cnt ((beg q).drop (5 - s)) := by
    rw [← sl, List.filter_map, List.length_map]
    congr 1
    refine List.filter_congr fun j hj => ?_
    have hj := List.mem_range.mp hj
    show (q.getD ((a.length : Int) + 6 - s + j - a.length).toNat false && !q.getD ((a.length : Int) + 6 - s + j - a.length - 1).toNat false) = _
    rw [show ((a.length : Int) + 6 - s + j - a.length).toNat = 6 - s + j by omega, show ((a.length : Int) + 6 - s + j - a.length - 1).toNat = 5 - s + j by omega]
  have r2 : rng2 [.int ((a.length : Int) + 6 - s), .int ((a.length : Int) + 6)] = .ok (rangeD ((a.length : Int) + 6 - s) s) := by
    unfold rng2
    simp only
    rw [if_pos ⟨by omega, by omega, by omega, by omega⟩, show ((a.length : Int) + 6 - ((a.length : Int) + 6 - s)).toNat = s by omega]
  have hb : ((bls (a ++ q)).length : Int) = (a.length : Int) + 6 := by rw [len_bls, hL]; omega
  rw [← rg] at e
  generalize ((List.range s).map fun j : Nat => ((a.length : Int) + 6 - s) + (j : Int)).filter (fun m : Int => q.getD (m - a.length).toNat false && !q.getD (m - a.length - 1).toNat false) = X at *
  generalize bls (a ++ q) = L at *
  have g5 : s ≤ 1000000 := by omega
  unfold lbreaks_rest pbS
  rw [sSeq_eq, sIf_eq]
  rw [show (mTest (mB (cmpF .Eq) (mVar 2) (mC (.str "most")))) ([.fz (.tup [.str "starts", .str z, .int c, .int s]), .fz (txt (p ++ v)), .fz (.str "starts"), .fz (.str z), .fz (.int c), .fz (.lst L), .un, .un, .un, .un] : Mir.Env) = .ok false by simp [eqs_sm], R_to_ok, if_neg (by decide), sSkip_eq, seqR_nx, sSeq_eq, sSet_eq, fi, R_to_ok, seqR_nx]
  simp [-rng2_eq, eqs_sr, eqs_sg, show atI [D.str "starts", .str z, .int c, .int s] 3 = some (.int s) from rfl, hb, r2, g5, e, fl]
  generalize lastBeg q = g
  cases g <;> simp
/-! ### all calendars of some days, day by day -/
def wins : Nat → List (List Bool)
  | 0 => [[]]
  | n + 1 => (wins n).flatMap fun w => [true :: w, false :: w]
def win (bs : List Bool) (d : Nat) : List Bool := ((List.replicate 5 false ++ bs).drop d).take 6
def okStep (bs : List Bool) : Bool := [true, false].all fun b => [1, 2, 3].all fun c : Nat => (wRow c (heldFrom 0 (bs ++ [b])) == (wRow c (heldFrom 0 bs) || pbR c (win (bs ++ [b]) bs.length))) && (wGap c (heldFrom 0 (bs ++ [b])) == (wGap c (heldFrom 0 bs) || pbG c (win (bs ++ [b]) bs.length)))
theorem step_small : ((List.range 10).all fun n => (wins n).all okStep) = true := by decide +kernel
theorem step_10 : (wins 10).all okStep = true := by decide +kernel
theorem step_11 : (wins 11).all okStep = true := by decide +kernel
theorem mem_wins : ∀ bs : List Bool, bs ∈ wins bs.length
  | [] => .head _
  | b :: r => by
    refine List.mem_flatMap.mpr ⟨r, mem_wins r, ?_⟩
    cases b
    · exact .tail _ (.head _)
    · exact .head _
theorem step_ok (bs : List Bool) (h : bs.length ≤ 11) : okStep bs = true := by
  have m := mem_wins bs
  by_cases h1 : bs.length < 10
  · exact List.all_eq_true.mp (List.all_eq_true.mp step_small _ (List.mem_range.mpr h1)) _ m
  · have : bs.length = 10 ∨ bs.length = 11 := by omega
    rcases this with e | e
    · rw [e] at m
      exact List.all_eq_true.mp step_10 _ m
    · rw [e] at m
      exact List.all_eq_true.mp step_11 _ m
/-! ### counts over spans -/
theorem held_cut (lo hi : Int) : ∀ (bs : List Bool) (i : Nat), ((heldFrom i bs).filter fun m => decide (lo < m) && decide (m ≤ hi)).length = Mir.cnt ((bs.take (hi + 1 - i).toNat).drop (lo + 1 - i).toNat)
  | [], i => by simp [heldFrom, Mir.cnt]
  | b :: r, i => by
    have ih := held_cut lo hi r (i + 1)
    have e1 : ((heldFrom i (b :: r)).filter fun m => decide (lo < m) && decide (m ≤ hi)).length = (if b = true ∧ lo < i ∧ (i : Int) ≤ hi then 1 else 0) + ((heldFrom (i + 1) r).filter fun m => decide (lo < m) && decide (m ≤ hi)).length := by
      cases b with
      | false => simp [heldFrom]
      | true =>
        simp only [heldFrom, List.filter_cons]
        by_cases h1 : lo < (i : Int) <;> by_cases h2 : (i : Int) ≤ hi <;> simp [h1, h2]
        omega
    rw [e1, ih]
    by_cases h2 : (i : Int) ≤ hi
    · obtain ⟨t, ht⟩ : ∃ t, (hi + 1 - i).toNat = t + 1 := ⟨(hi - i).toNat, by omega⟩
      rw [ht, List.take_succ_cons, show (hi + 1 - ((i + 1 : Nat) : Int)).toNat = t by omega]
      by_cases h1 : lo < (i : Int)
      · rw [show (lo + 1 - (i : Int)).toNat = 0 by omega, show (lo + 1 - ((i + 1 : Nat) : Int)).toNat = 0 by omega, List.drop_zero, List.drop_zero]
        cases b with
        | false => simp [Mir.cnt]
        | true => simp [Mir.cnt, h1, h2]; omega
      · obtain ⟨u, hu⟩ : ∃ u, (lo + 1 - (i : Int)).toNat = u + 1 := ⟨(lo - i).toNat, by omega⟩
        rw [hu, List.drop_succ_cons, show (lo + 1 - ((i + 1 : Nat) : Int)).toNat = u by omega, if_neg (by omega), Nat.zero_add]
    · rw [show (hi + 1 - (i : Int)).toNat = 0 by omega, show (hi + 1 - ((i + 1 : Nat) : Int)).toNat = 0 by omega, if_neg (by omega)]
      simp [Mir.cnt]
/-- the last some of the days up to one, days away ahead of them -/
theorem cnt_away (k s d : Nat) (bs : List Bool) (hs : s ≤ k + 1) : Mir.cnt (((List.replicate k false ++ bs).drop (d + k + 1 - s)).take s) = Mir.cnt ((bs.take (d + 1)).drop (d + 1 - s)) := by
  by_cases h : s ≤ d + 1
  · rw [show d + k + 1 - s = k + (d + 1 - s) by omega, ← List.drop_drop, List.drop_left' (by simp), List.drop_take, show d + 1 - (d + 1 - s) = s by omega]
  · rw [show d + 1 - s = 0 by omega, List.drop_zero, List.drop_append_of_le_length (by simp; omega), List.drop_replicate]
    rw [List.take_append, List.length_replicate, List.take_of_length_le (by simp; omega)]
    rw [show s - (k - (d + k + 1 - s)) = d + 1 by omega]
    unfold Mir.cnt
    rw [List.filter_append, List.length_append]
    simp
theorem cnt_span (d s : Nat) (bs : List Bool) : ((heldFrom 0 bs).filter fun m => decide ((d : Int) - s < m) && decide (m ≤ d)).length = Mir.cnt ((bs.take (d + 1)).drop (d + 1 - s)) := by
  rw [held_cut, show ((d : Int) - s + 1 - ((0 : Nat) : Int)).toNat = d + 1 - s by omega, show ((d : Int) + 1 - ((0 : Nat) : Int)).toNat = d + 1 by omega]
def begF (p : Bool) : List Bool → List Bool
  | [] => []
  | b :: r => (b && !p) :: begF b r
theorem beg_F (p : Bool) (bs : List Bool) : beg (p :: bs) = begF p bs := by
  induction bs generalizing p with
  | nil => rfl
  | cons b r ih =>
    have := ih b
    unfold beg at this ⊢
    simp only [List.tail_cons] at this ⊢
    rw [List.zipWith_cons_cons, this]
    rfl
theorem held_ge : ∀ (bs : List Bool) (i : Nat), ∀ m ∈ heldFrom i bs, (i : Int) ≤ m
  | [], _, _, h => nomatch h
  | true :: r, i, m, h => by
    rcases List.mem_cons.mp h with rfl | h
    · exact Int.le_refl _
    · have := held_ge r (i + 1) m h
      omega
  | false :: r, i, m, h => by
    have := held_ge r (i + 1) m h
    omega
theorem firsts_from : ∀ (bs : List Bool) (i : Nat) (A : List Int) (p : Bool), (∀ m ∈ A, m < i) → (p = true ↔ (i : Int) - 1 ∈ A) → ((heldFrom i bs).filter fun m => !decide (m - 1 ∈ A ++ heldFrom i bs)) = heldFrom i (begF p bs)
  | [], _, _, _, _, _ => rfl
  | false :: r, i, A, p, hA, hp => by
    have ih := firsts_from r (i + 1) A false (fun m hm => by have := hA m hm; omega) ⟨fun h => absurd h (by decide), fun h => by have := hA _ h; omega⟩
    show ((heldFrom (i + 1) r).filter fun m => !decide (m - 1 ∈ A ++ heldFrom (i + 1) r)) = heldFrom (i + 1) (begF false r)
    exact ih
  | true :: r, i, A, p, hA, hp => by
    have ih := firsts_from r (i + 1) (A ++ [(i : Int)]) true (fun m hm => by
      rcases List.mem_append.mp hm with hm | hm
      · have := hA m hm; omega
      · rw [List.mem_singleton.mp hm]; omega) ⟨fun _ => List.mem_append_right _ (List.mem_singleton.mpr (by omega)), fun _ => rfl⟩
    have e : ((heldFrom (i + 1) r).filter fun m => !decide (m - 1 ∈ A ++ heldFrom i (true :: r))) = heldFrom (i + 1) (begF true r) := by
      rw [← ih]
      refine List.filter_congr fun m hm => ?_
      show (!decide (m - 1 ∈ A ++ (i : Int) :: heldFrom (i + 1) r)) = _
      rw [List.append_assoc]
      rfl
    have f : ((i : Int) - 1 ∈ A ++ heldFrom i (true :: r)) ↔ p = true := by
      rw [hp]
      refine ⟨fun h => ?_, fun h => List.mem_append_left _ h⟩
      rcases List.mem_append.mp h with h | h
      · exact h
      · have := held_ge _ _ _ h
        omega
    show ((((i : Nat) : Int) :: heldFrom (i + 1) r).filter fun m => !decide (m - 1 ∈ A ++ heldFrom i (true :: r))) = _
    rw [List.filter_cons, e]
    cases p with
    | true =>
      rw [if_neg (by simp [f.mpr rfl])]
      rfl
    | false =>
      rw [if_pos (by
        have : ¬ ((i : Int) - 1 ∈ A ++ heldFrom i (true :: r)) := fun h => nomatch f.mp h
        rw [decide_eq_false this]; rfl)]
      rfl
theorem firsts_beg (bs : List Bool) : firstsI (heldFrom 0 bs) = heldFrom 0 (begF false bs) :=
  firsts_from bs 0 [] false (fun _ h => nomatch h) ⟨fun h => absurd h (by decide), fun h => (nomatch h)⟩
/-! ### a limit's whole account -/
structure LimOk (d : D) (z : Str) (pb lb : List Bool → Bool) : Prop where
  day : ∀ v : List Nat, v.length = 6 → f__breaks [d, txt v] = .ok (.bl (pb (v.map (inz z))))
  law : ∀ p v : List Nat, v.length = 6 → p.length ≤ 900 → f__law_breaks [d, txt (p ++ v)] = .ok (.bl (lb (v.map (inz z))))
  whole : ∀ w : List Nat, w.length ≤ 12 → f__law_whole [d, txt w] = .ok (.bl ((List.range w.length).any fun k => pb (win (w.map (inz z)) k)))
  less : ∀ q : List Bool, q.length = 6 → lb q = true → pb q = true
  early : ∀ (x : Bool) (q : List Bool), q.length = 6 → pb q = true → lb q = false → pb (x :: q.take 5) = true
  start : ∀ b : Bool, pb [false, false, false, false, false, b] = true → lb [false, false, false, false, false, b] = true
theorem any_filter {α : Type} (l : List α) (p : α → Bool) : (!(l.filter p).isEmpty) = l.any p := by
  induction l with
  | nil => rfl
  | cons x r ih =>
    rw [List.filter_cons, List.any_cons]
    cases h : p x with
    | true => rfl
    | false => exact ih
theorem wCount_any (c s : Int) (n : Nat) (K : List Int) : wCount c s n K = (List.range n).any fun d : Nat => decide (c < ((K.filter fun m => decide ((d : Int) - s < m) && decide (m ≤ d)).length : Int)) := by
  unfold wCount
  rw [any_filter, List.any_map]
  rfl
theorem win_cnt (bs : List Bool) (d s : Nat) (hs : s ≤ 6) : Mir.cnt ((win bs d).drop (6 - s)) = Mir.cnt ((bs.take (d + 1)).drop (d + 1 - s)) := by
  rw [← cnt_away 5 s d bs (by omega)]
  unfold win
  rw [List.drop_take, List.drop_drop, show d + (6 - s) = d + 5 + 1 - s by omega, show 6 - (6 - s) = s by omega]
theorem beg_cons (p : Bool) (bs : List Bool) : beg (p :: bs) = begF p bs := beg_F p bs
theorem begF_take (p : Bool) (bs : List Bool) (n : Nat) : begF p (bs.take n) = (begF p bs).take n := by
  induction bs generalizing p n with
  | nil => simp [begF]
  | cons b r ih =>
    cases n with
    | zero => rfl
    | succ n => rw [List.take_succ_cons]; show _ :: begF b (r.take n) = _ :: (begF b r).take n; rw [ih]
theorem beg_take (L : List Bool) (n : Nat) : beg (L.take (n + 1)) = (beg L).take n := by
  cases L with
  | nil => simp [beg]
  | cons b r => rw [List.take_succ_cons, beg_F, beg_F, begF_take]
theorem beg_drop (L : List Bool) (n : Nat) : beg (L.drop n) = (beg L).drop n := by
  induction n generalizing L with
  | zero => rfl
  | succ n ih =>
    cases L with
    | nil => simp [beg]
    | cons b r =>
      rw [List.drop_succ_cons, ih, beg_F]
      cases r with
      | nil => simp [beg, begF]
      | cons c r => rw [beg_F]; rfl
theorem win_beg (bs : List Bool) (d s : Nat) (hs : s ≤ 5) : Mir.cnt ((beg (win bs d)).drop (5 - s)) = Mir.cnt (((begF false bs).take (d + 1)).drop (d + 1 - s)) := by
  rw [← cnt_away 4 s d (begF false bs) (by omega)]
  unfold win
  rw [beg_take, beg_drop, show beg (List.replicate 5 false ++ bs) = List.replicate 4 false ++ begF false bs from beg_F false (List.replicate 4 false ++ bs), List.drop_take, List.drop_drop, show d + (5 - s) = d + 4 + 1 - s by omega, show 5 - (5 - s) = s by omega]
theorem win_app (bs : List Bool) (b : Bool) (d : Nat) (h : d < bs.length) : win (bs ++ [b]) d = win bs d := by
  unfold win
  rw [← List.append_assoc, List.drop_append_of_le_length (by simp; omega), List.take_append_of_le_length (by simp; omega)]
theorem any_same {α : Type} {f g : α → Bool} : ∀ l : List α, (∀ x ∈ l, f x = g x) → l.any f = l.any g
  | [], _ => rfl
  | x :: r, h => by rw [List.any_cons, List.any_cons, h x (.head _), any_same r fun y hy => h y (.tail _ hy)]
theorem any_step (f : List Bool → Bool) (pb : List Bool → Bool) (h0 : f [] = false) (hs : ∀ bs b, bs.length ≤ 11 → f (bs ++ [b]) = (f bs || pb (win (bs ++ [b]) bs.length))) (bs : List Bool) (hl : bs.length ≤ 12) : f bs = (List.range bs.length).any fun k => pb (win bs k) := by
  obtain ⟨rs, rfl⟩ : ∃ rs : List Bool, bs = rs.reverse := ⟨bs.reverse, by simp⟩
  induction rs with
  | nil => exact h0
  | cons b r ih =>
    rw [List.reverse_cons] at hl ⊢
    rw [List.length_append, List.length_singleton] at hl ⊢
    rw [hs _ _ (by omega), ih (by omega), List.range_succ, List.any_append]
    congr 1
    · refine any_same _ fun k hk => ?_
      rw [win_app _ _ _ (List.mem_range.mp hk)]
    · simp
theorem row_any (c : Nat) (h1 : 1 ≤ c) (h2 : c ≤ 3) (bs : List Bool) (hl : bs.length ≤ 12) : wRow c (heldFrom 0 bs) = (List.range bs.length).any fun k => pbR c (win bs k) := by
  refine any_step (fun bs => wRow c (heldFrom 0 bs)) (pbR c) rfl (fun bs b h => ?_) bs hl
  have := List.all_eq_true.mp (List.all_eq_true.mp (step_ok bs h) b (by cases b <;> simp)) c (by simp; omega)
  rw [Bool.and_eq_true, beq_iff_eq, beq_iff_eq] at this
  exact this.1
theorem gap_any (c : Nat) (h1 : 1 ≤ c) (h2 : c ≤ 3) (bs : List Bool) (hl : bs.length ≤ 12) : wGap c (heldFrom 0 bs) = (List.range bs.length).any fun k => pbG c (win bs k) := by
  refine any_step (fun bs => wGap c (heldFrom 0 bs)) (pbG c) rfl (fun bs b h => ?_) bs hl
  have := List.all_eq_true.mp (List.all_eq_true.mp (step_ok bs h) b (by cases b <;> simp)) c (by simp; omega)
  rw [Bool.and_eq_true, beq_iff_eq, beq_iff_eq] at this
  exact this.2
theorem six {q : List Bool} (h : q.length = 6) : ∃ q0 q1 q2 q3 q4 q5, q = [q0, q1, q2, q3, q4, q5] := by
  match q, h with
  | [q0, q1, q2, q3, q4, q5], _ => exact ⟨q0, q1, q2, q3, q4, q5, rfl⟩
theorem early_cnt (s : Nat) (h1 : 1 ≤ s) (h2 : s ≤ 5) (x : Bool) (q : List Bool) (hq : q.length = 6) (h : lastBeg q = false) : Mir.cnt ((beg q).drop (5 - s)) ≤ Mir.cnt ((beg (x :: q.take 5)).drop (5 - s)) := by
  obtain ⟨q0, q1, q2, q3, q4, q5, rfl⟩ := six hq
  have hs : s = 1 ∨ s = 2 ∨ s = 3 ∨ s = 4 ∨ s = 5 := by omega
  clear h1 h2 hq
  revert x q0 q1 q2 q3 q4 q5
  rcases hs with rfl | rfl | rfl | rfl | rfl <;> decide +kernel
theorem lim_ok {two : Bool} {d : D} (h : isLim two d) : ∃ z pb lb, inz z 46 = false ∧ LimOk d z pb lb := by
  have hdot : ∀ z ∈ zl two, inz z 46 = false := by cases two <;> decide +kernel
  obtain ⟨z, hz, ⟨c, s, h1, h2, h3, h4, rfl⟩ | ⟨c, h1, h2, rfl⟩ | ⟨c, h1, h2, rfl⟩ | ⟨c, s, h1, h2, h3, h4, rfl⟩⟩ := h
  · obtain ⟨s, rfl⟩ := Int.eq_ofNat_of_zero_le (show 0 ≤ s by omega)
    refine ⟨z, pbM c s, pbM c s, hdot z hz, fun v hv => breaks_most z c s v hv (by omega) (by omega), fun p v hv hp => lbreaks_most z c s p v hv hp (by omega) (by omega), fun w hw => ?_, fun q _ h => h, fun x q hq h h' => (by rw [h] at h'; cases h'), fun b h => h⟩
    rw [whole_most z c s w (by omega), wCount_any]
    congr 2
    rw [show w.length = (w.map (inz z)).length by rw [List.length_map]]
    congr 1
    funext k
    unfold pbM
    rw [cnt_span, win_cnt _ _ _ (by omega)]
  · obtain ⟨c, rfl⟩ := Int.eq_ofNat_of_zero_le (show 0 ≤ c by omega)
    refine ⟨z, pbR c, pbR c, hdot z hz, fun v hv => breaks_row z c v hv (by omega) (by omega), fun p v hv hp => lbreaks_row z c p v hv hp (by omega) (by omega), fun w hw => ?_, fun q _ h => h, fun x q hq h h' => (by rw [h] at h'; cases h'), fun b h => h⟩
    rw [whole_row z c w (by omega)]
    have := row_any c (by omega) (by omega) (w.map (inz z)) (by rw [List.length_map]; exact hw)
    rw [List.length_map] at this
    rw [← this]
  · obtain ⟨c, rfl⟩ := Int.eq_ofNat_of_zero_le (show 0 ≤ c by omega)
    refine ⟨z, pbG c, pbG c, hdot z hz, fun v hv => breaks_gap z c v hv (by omega) (by omega), fun p v hv hp => lbreaks_gap z c p v hv hp (by omega) (by omega), fun w hw => ?_, fun q _ h => h, fun x q hq h h' => (by rw [h] at h'; cases h'), fun b h => h⟩
    rw [whole_gap z c w (by omega)]
    have := gap_any c (by omega) (by omega) (w.map (inz z)) (by rw [List.length_map]; exact hw)
    rw [List.length_map] at this
    rw [← this]
  · obtain ⟨s, rfl⟩ := Int.eq_ofNat_of_zero_le (show 0 ≤ s by omega)
    refine ⟨z, pbS c s, fun q => lastBeg q && pbS c s q, hdot z hz, fun v hv => breaks_starts z c s v hv (by omega) (by omega), fun p v hv hp => lbreaks_starts z c s p v hv hp (by omega) (by omega), fun w hw => ?_, fun q _ h => (Bool.and_eq_true_iff.mp h).2, fun x q hq h h' => ?_, fun b h => ?_⟩
    · rw [whole_starts z c s w (by omega), wCount_any, firsts_beg]
      congr 2
      rw [show w.length = (w.map (inz z)).length by rw [List.length_map]]
      congr 1
      funext k
      unfold pbS
      rw [cnt_span, win_beg _ _ _ (by omega)]
    · rw [h, Bool.and_true] at h'
      have := early_cnt s (by omega) (by omega) x q hq h'
      unfold pbS at h ⊢
      have h := of_decide_eq_true h
      exact decide_eq_true (by omega)
    · show (lastBeg _ && _) = true
      rw [h, Bool.and_true]
      cases b with
      | true => decide
      | false =>
        exfalso
        unfold pbS at h
        have h := of_decide_eq_true h
        have z0 : Mir.cnt ((beg [false, false, false, false, false, false]).drop (5 - s)) = 0 := by
          have hs : s = 1 ∨ s = 2 ∨ s = 3 ∨ s = 4 ∨ s = 5 := by omega
          rcases hs with rfl | rfl | rfl | rfl | rfl <;> rfl
        rw [z0] at h
        omega
/-! ### all limits of a book -/
def bk (two : Bool) (ls : List D) : D := .tup [.str (zz two), .tup ls]
def brk (d : D) (v : List Nat) : Bool := match f__breaks [d, txt v] with
  | .ok (.bl b) => b
  | _ => false
def lbr (d : D) (v : List Nat) : Bool := match f__law_breaks [d, txt v] with
  | .ok (.bl b) => b
  | _ => false
def whl (d : D) (v : List Nat) : Bool := match f__law_whole [d, txt v] with
  | .ok (.bl b) => b
  | _ => false
def liv (w : List Nat) : List Nat := List.replicate 5 46 ++ w
def winN (w : List Nat) (k : Nat) : List Nat := ((liv w).drop k).take 6
def pre (w : List Nat) (k : Nat) : List Nat := List.replicate 7 46 ++ w.take (k + 1)
theorem liv_len (w : List Nat) : (liv w).length = w.length + 5 := by unfold liv; rw [List.length_append, List.length_replicate]; omega
theorem winN_len {w : List Nat} {k : Nat} (h : k < w.length) : (winN w k).length = 6 := by
  unfold winN
  rw [List.length_take, List.length_drop, liv_len]
  omega
theorem pre_win (w : List Nat) (k : Nat) : pre w k = (List.replicate 2 46 ++ (liv w).take k) ++ winN w k := by
  unfold winN
  rw [List.append_assoc, ← List.take_add]
  unfold pre liv
  rw [show (List.replicate 7 46 : List Nat) = List.replicate 2 46 ++ List.replicate 5 46 from rfl, List.append_assoc]
  congr 1
theorem win_map {z : Str} (hz : inz z 46 = false) (w : List Nat) (k : Nat) : (winN w k).map (inz z) = win (w.map (inz z)) k := by
  unfold winN win liv
  rw [List.map_take, List.map_drop, List.map_append, List.map_replicate, hz]
section
variable {two : Bool} {d : D} (h : isLim two d)
include h
theorem brk_ok (v : List Nat) (hv : v.length = 6) : f__breaks [d, txt v] = .ok (.bl (brk d v)) := by
  obtain ⟨z, pb, lb, hz, L⟩ := lim_ok h
  unfold brk
  rw [L.day v hv]
theorem lbr_ok (w : List Nat) (k : Nat) (hw : w.length ≤ 20) (hk : k < w.length) : f__law_breaks [d, txt (pre w k)] = .ok (.bl (lbr d (pre w k))) := by
  obtain ⟨z, pb, lb, hz, L⟩ := lim_ok h
  unfold lbr
  rw [pre_win, L.law _ _ (winN_len hk) (by rw [List.length_append, List.length_take, liv_len, List.length_replicate]; omega)]
theorem whl_ok (w : List Nat) (hw : w.length ≤ 12) : f__law_whole [d, txt w] = .ok (.bl (whl d w)) := by
  obtain ⟨z, pb, lb, hz, L⟩ := lim_ok h
  unfold whl
  rw [L.whole w hw]
theorem whl_any (w : List Nat) (hw : w.length ≤ 12) : whl d w = (List.range w.length).any fun k => brk d (winN w k) := by
  obtain ⟨z, pb, lb, hz, L⟩ := lim_ok h
  unfold whl
  rw [L.whole w hw]
  refine any_same _ fun k hk => ?_
  unfold brk
  rw [L.day _ (winN_len (List.mem_range.mp hk)), win_map hz]
theorem lbr_brk (w : List Nat) (k : Nat) (hw : w.length ≤ 20) (hk : k < w.length) (e : lbr d (pre w k) = true) : brk d (winN w k) = true := by
  obtain ⟨z, pb, lb, hz, L⟩ := lim_ok h
  unfold lbr at e
  rw [pre_win, L.law _ _ (winN_len hk) (by rw [List.length_append, List.length_take, liv_len, List.length_replicate]; omega)] at e
  unfold brk
  rw [L.day _ (winN_len hk)]
  exact L.less _ (by rw [List.length_map]; exact winN_len hk) e
theorem brk_lbr (w : List Nat) (k : Nat) (hw : w.length ≤ 20) (hk : k < w.length) (e : brk d (winN w k) = true) (e2 : lbr d (pre w k) = false) : 0 < k ∧ brk d (winN w (k - 1)) = true := by
  obtain ⟨z, pb, lb, hz, L⟩ := lim_ok h
  unfold lbr at e2
  rw [pre_win, L.law _ _ (winN_len hk) (by rw [List.length_append, List.length_take, liv_len, List.length_replicate]; omega)] at e2
  unfold brk at e
  rw [L.day _ (winN_len hk)] at e
  cases k with
  | zero =>
    exfalso
    have m : winN w 0 = [46, 46, 46, 46, 46, w[0]] := by
      cases w with
      | nil => cases hk
      | cons c r => rfl
    rw [m] at e e2
    simp only [List.map_cons, List.map_nil, hz] at e e2
    have := L.start _ e
    rw [this] at e2
    cases e2
  | succ k =>
    refine ⟨Nat.succ_pos k, ?_⟩
    have hk2 : k < (liv w).length := by rw [liv_len]; omega
    have m : winN w k = (liv w)[k] :: (winN w (k + 1)).take 5 := by
      unfold winN
      rw [List.drop_eq_getElem_cons hk2, List.take_succ_cons, List.take_take]
      rfl
    unfold brk
    rw [show k + 1 - 1 = k from rfl, L.day _ (winN_len (by omega)), m, List.map_cons, List.map_take]
    exact L.early _ _ (by rw [List.length_map]; exact winN_len hk) e e2
end
theorem limbr_loop (two : Bool) (b v c : D) (u : List Nat) (hu : u.length = 6) (hvc : addD v c = .ok (txt u)) : ∀ (ls : List D) (i : Nat) (s t : Slot), (∀ d ∈ ls, isLim two d) → outR (seqR (forGo (tgTup 2 (tgCons (tgName 3) (tgCons (tgName 4) tgNil))) bd_limit_broken_1 (enumFrom i ls) [.fz b, .fz v, .fz c, s, t]) (sRet (mC .non))) = .ok (firstOf i (ls.map fun d => brk d u))
  | [], i, s, t, _ => rfl
  | d :: r, i, s, t, h => by
    have ih := fun s t => limbr_loop two b v c u hu hvc r (i + 1) s t fun x hx => h x (.tail _ hx)
    rw [enumFrom_cons]
    unfold forGo
    have e : tgTup 2 (tgCons (tgName 3) (tgCons (tgName 4) tgNil)) (.tup [.int (i : Nat), d]) [.fz b, .fz v, .fz c, s, t] = .ok [.fz b, .fz v, .fz c, .fz (.int (i : Nat)), .fz d] := rfl
    have bo := brk_ok (h d (.head _)) u hu
    rw [e, nx_ok', R_to_ok, List.map_cons]
    cases hb : brk d u with
    | true =>
      rw [hb] at bo
      have q : bd_limit_broken_1 [.fz b, .fz v, .fz c, .fz (.int (i : Nat)), .fz d] = .ret (.int (i : Nat)) := by simp [bd_limit_broken_1, hvc, bo]
      rw [q]
      rfl
    | false =>
      rw [hb] at bo
      have q : bd_limit_broken_1 [.fz b, .fz v, .fz c, .fz (.int (i : Nat)), .fz d] = .nx [.fz b, .fz v, .fz c, .fz (.int (i : Nat)), .fz d] := by simp [bd_limit_broken_1, hvc, bo]
      rw [q]
      exact ih _ _
theorem limbr_ok {two : Bool} {ls : List D} (h : ∀ d ∈ ls, isLim two d) (v : List Nat) (c : Nat) (hv : v.length = 5) : f_limit_broken [bk two ls, txt v, txt [c]] = .ok (firstOf 0 (ls.map fun d => brk d (v ++ [c]))) := by
  have hvc : addD (txt v) (txt [c]) = .ok (txt (v ++ [c])) := by rw [addD_txt, if_pos (lit_le _ (by rw [hv, List.length_singleton]; decide))]
  have := limbr_loop two (bk two ls) (txt v) (txt [c]) (v ++ [c]) (by rw [List.length_append, hv]; rfl) hvc ls 0 .un .un h
  rw [← this]
  show runD 5 b_limit_broken _ = _
  rw [← enum_from]
  simp [runD_eq, b_limit_broken, Mir.envOf, bk, show atI [D.str (zz two), D.tup ls] 1 = some (.tup ls) from rfl]
def rowP (ls : List D) (w : List Nat) (k : Nat) : List Bool := ls.map fun d => brk d (winN w k)
def rowL (ls : List D) (w : List Nat) (k : Nat) : List Bool := ls.map fun d => lbr d (pre w k)
theorem win_split {w : List Nat} {k : Nat} (h : k < w.length) : winN w k = ((liv w).drop k).take 5 ++ [w[k]] := by
  unfold winN
  have h5 : 5 < ((liv w).drop k).length := by rw [List.length_drop, liv_len]; omega
  rw [show (6 : Nat) = 5 + 1 from rfl, List.take_succ_eq_append_getElem h5]
  congr 2
  rw [List.getElem_drop]
  unfold liv
  rw [List.getElem_append_right (by simp)]
  congr 1
theorem firstbr_loop {two : Bool} {ls : List D} (h : ∀ d ∈ ls, isLim two d) (w : List Nat) (hw : w.length ≤ 60) : ∀ (m k : Nat) (s t : Slot), k + m = w.length → outR (seqR (forGo (tgName 3) bd_first_broken_1 ((List.range' k m).map fun j : Nat => D.int (j : Nat)) [.fz (bk two ls), .fz (txt w), .fz (txt (liv w)), s, t]) (sRet (mC .non))) = .ok (fbG k ((List.range' k m).map (rowP ls w)))
  | 0, k, s, t, _ => rfl
  | m + 1, k, s, t, hk => by
    have ih := fun s t => firstbr_loop h w hw m (k + 1) s t (by omega)
    have hk2 : k < w.length := by omega
    rw [List.range'_succ, List.map_cons, List.map_cons]
    unfold forGo fbG
    have e : tgName 3 (.int (k : Nat)) [.fz (bk two ls), .fz (txt w), .fz (txt (liv w)), s, t] = .ok [.fz (bk two ls), .fz (txt w), .fz (txt (liv w)), .fz (.int (k : Nat)), t] := rfl
    rw [e, nx_ok', R_to_ok]
    have lb := limbr_ok h (((liv w).drop k).take 5) w[k] (by rw [List.length_take, List.length_drop, liv_len]; omega)
    rw [← win_split hk2] at lb
    have c5 : Mir.cutD (liv w) (some (k : Nat)) (some ((k : Int) + 5)) = ((liv w).drop k).take 5 := by
      unfold Mir.cutD HT.sIx
      simp only
      rw [if_neg (by omega), if_neg (by omega), liv_len, show min ((k : Nat) : Int).toNat (w.length + 5) = k by omega, show min ((k : Int) + 5).toNat (w.length + 5) = k + 5 by omega, show k + 5 - k = 5 by omega]
    obtain ⟨_, at1⟩ := at_lt w (k := (k : Nat)) (by omega) (by omega)
    have at1 : atI w (k : Nat) = some w[k] := at1
    have g1 : (liv w).length ≤ 16777216 := by rw [liv_len]; omega
    have g2 : w.length ≤ 16777216 := by omega
    have fn := firstOf_non (rowP ls w k) 0
    change f_limit_broken _ = .ok (firstOf 0 (rowP ls w k)) at lb
    by_cases hb : (rowP ls w k).any id = true
    · rw [if_pos hb]
      rw [hb] at fn
      have q : bd_first_broken_1 [.fz (bk two ls), .fz (txt w), .fz (txt (liv w)), .fz (.int (k : Nat)), t] = .ret (.tup [.int (k : Nat), firstOf 0 (rowP ls w k)]) := by
        simp [bd_first_broken_1, sizeLine_eq, g1, g2, c5, at1, lb, fn]
      rw [q]
      rfl
    · rw [if_neg hb]
      rw [Bool.eq_false_iff.mpr hb] at fn
      have q : bd_first_broken_1 [.fz (bk two ls), .fz (txt w), .fz (txt (liv w)), .fz (.int (k : Nat)), t] = .nx [.fz (bk two ls), .fz (txt w), .fz (txt (liv w)), .fz (.int (k : Nat)), .fz (firstOf 0 (rowP ls w k))] := by
        simp [bd_first_broken_1, sizeLine_eq, g1, g2, c5, at1, lb, fn]
      rw [q]
      exact ih _ _
theorem firstbr_ok {two : Bool} {ls : List D} (hl : ls.length ≤ 4) (h : ∀ d ∈ ls, isLim two d) (w : List Nat) (hw : w.length ≤ 60) (hc : ∀ c ∈ w, c ∈ lets two) : f_first_broken [bk two ls, txt w] = .ok (fbG 0 ((List.range' 0 w.length).map (rowP ls w))) := by
  have ck : f_check_calendar [bk two ls, txt w] = .ok .non := chkcal_good ((iscal_txt w (isbook_ok hl h) (by omega)).trans (by
    have : (w.all fun c => decide (c ∈ lets two)) = true := List.all_eq_true.mpr fun c hx => decide_eq_true (hc c hx)
    rw [this, decide_eq_true hw]; rfl))
  have lo := firstbr_loop h w hw w.length 0 .un .un (by omega)
  rw [← lo]
  have al : addD (txt [46, 46, 46, 46, 46]) (txt w) = .ok (txt (liv w)) := by
    rw [addD_txt, if_pos (lit_le _ (by show 5 + w.length ≤ _; omega))]
    rfl
  have le : lenF [txt w] = .ok (.int w.length) := by rw [lenF_txt, if_pos (lit_le _ (by omega))]
  have rg := r1 w (by omega)
  have rr : rangeD 0 w.length = (List.range' 0 w.length).map fun j : Nat => D.int (j : Nat) := by
    rw [range_map, List.map_map, List.range_eq_range']
    rfl
  rw [rr] at rg
  rw [show f_first_broken [bk two ls, txt w] = outR (b_first_broken [.fz (bk two ls), .fz (txt w), .un, .un, .un]) from runD_eq _ _ _]
  generalize ((List.range' 0 w.length).map fun j : Nat => D.int (j : Nat)) = X at *
  generalize bk two ls = B at *
  have s1 : (mFn 2 f_check_calendar (mCons (mVar 0) (mCons (mVar 1) mNil))) [.fz B, .fz (txt w), .un, .un, .un] = .ok .non := ck
  have s2 : (mB addD (mC (.str ".....")) (mVar 1)) [.fz B, .fz (txt w), .un, .un, .un] = .ok (txt (liv w)) := by
    rw [mB_eq, mC_eq, R_bind_ok]
    exact al
  have s3 : (mSeqs rng1 (mCons (mCall lenF (mCons (mVar 1) mNil)) mNil)) [.fz B, .fz (txt w), .fz (txt (liv w)), .un, .un] = .ok X := by
    have q : (mCall lenF (mCons (mVar 1) mNil)) [.fz B, .fz (txt w), .fz (txt (liv w)), .un, .un] = .ok (.int w.length) := le
    rw [mSeqs_eq, mCons_eq, q, R_bind_ok, mNil_eq, R_bind_ok, R_bind_ok, rg]
  unfold b_first_broken
  rw [sSeq_eq, sDrop_eq, s1, R_to_ok, seqR_nx, sSeq_eq, sSet_eq, s2, R_to_ok, show ([.fz B, .fz (txt w), .un, .un, .un] : Mir.Env).set 2 (.fz (txt (liv w))) = [.fz B, .fz (txt w), .fz (txt (liv w)), .un, .un] from rfl, seqR_nx, sSeq_eq, sFor_eq, s3, R_to_ok]
/-! ### the law's own first broken day -/
theorem at_zero (d : D) (r ds : List D) (e : ds = d :: r) : atI ds 0 = some d := by
  subst e
  obtain ⟨q, e⟩ := at_lt (d :: r) (k := 0) (Int.le_refl _) (by rw [List.length_cons]; omega)
  exact e
theorem lawbr_loop {two : Bool} {ls : List D} (h : ∀ d ∈ ls, isLim two d) (hl : ls.length ≤ 4) (w : List Nat) (hw : w.length ≤ 20) : ∀ (m k : Nat) (s3 s4 s5 : Slot), k + m = w.length → outR (seqR (forGo (tgTup 2 (tgCons (tgName 3) (tgCons (tgName 4) tgNil))) bd__law_broken_3 (enumFrom k ((w.drop k).map fun c => txt [c])) [.fz (bk two ls), .fz (txt w), .fz (txt (List.replicate 7 46 ++ w.take k)), s3, s4, s5, .un, .un]) (sRet (mC .non))) = .ok (fbG k ((List.range' k m).map (rowL ls w)))
  | 0, k, s3, s4, s5, hk => by
    rw [List.drop_of_length_le (by omega)]
    rfl
  | m + 1, k, s3, s4, s5, hk => by
    have ih := fun s3 s4 s5 => lawbr_loop h hl w hw m (k + 1) s3 s4 s5 (by omega)
    have hk2 : k < w.length := by omega
    rw [List.range'_succ, List.map_cons, List.drop_eq_getElem_cons hk2, List.map_cons, enumFrom_cons]
    unfold forGo fbG
    have e : tgTup 2 (tgCons (tgName 3) (tgCons (tgName 4) tgNil)) (.tup [.int (k : Nat), txt [w[k]]]) [.fz (bk two ls), .fz (txt w), .fz (txt (List.replicate 7 46 ++ w.take k)), s3, s4, s5, .un, .un] = .ok [.fz (bk two ls), .fz (txt w), .fz (txt (List.replicate 7 46 ++ w.take k)), .fz (.int (k : Nat)), .fz (txt [w[k]]), s5, .un, .un] := rfl
    rw [e, nx_ok', R_to_ok]
    have pw : List.replicate 7 46 ++ w.take k ++ [w[k]] = pre w k := by
      unfold pre
      rw [List.append_assoc, List.take_succ_eq_append_getElem hk2]
    have ad : addD (txt (List.replicate 7 46 ++ w.take k)) (txt [w[k]]) = .ok (txt (pre w k)) := by
      rw [addD_txt, pw, if_pos (lit_le _ (by rw [List.length_append, List.length_replicate, List.length_take, List.length_singleton]; omega))]
    have lc := lcGo_heldD (i := 6) (j := 7) (tt := tt__law_broken_2) (me := el__law_broken_1) (ρ := [.fz (bk two ls), .fz (txt w), .fz (txt (pre w k)), .fz (.int (k : Nat)), .fz (txt [w[k]]), s5, .un, .un]) (p := fun d => lbr d (pre w k)) ls 0 (fun m d hd => by
      have q : (mFn 2 f__law_breaks (mCons (mVar 7) (mCons (mVar 2) mNil))) ((([.fz (bk two ls), .fz (txt w), .fz (txt (pre w k)), .fz (.int (k : Nat)), .fz (txt [w[k]]), s5, .un, .un] : Mir.Env).set 6 (.fz (.int (m : Nat)))).set 7 (.fz d)) = .ok (.bl (lbr d (pre w k))) := lbr_ok (h d hd) w k hw hk2
      unfold tt__law_broken_2
      rw [mUT_eq, q, R_bind_ok, truth_bl]) fun m d hd => rfl
    have s1 : (mB addD (mVar 2) (mVar 4)) [.fz (bk two ls), .fz (txt w), .fz (txt (List.replicate 7 46 ++ w.take k)), .fz (.int (k : Nat)), .fz (txt [w[k]]), s5, .un, .un] = .ok (txt (pre w k)) := ad
    have s2 : (mLc [6, 7] (mSeqs enF (mCons (mB ixD (mVar 0) (mC (.int 1))) mNil)) (tgTup 2 (tgCons (tgName 6) (tgCons (tgName 7) tgNil))) tt__law_broken_2 el__law_broken_1) [.fz (bk two ls), .fz (txt w), .fz (txt (pre w k)), .fz (.int (k : Nat)), .fz (txt [w[k]]), s5, .un, .un] = .ok ((heldFrom 0 (rowL ls w k)).map D.int) := by
      have q : (mSeqs enF (mCons (mB ixD (mVar 0) (mC (.int 1))) mNil)) [.fz (bk two ls), .fz (txt w), .fz (txt (pre w k)), .fz (.int (k : Nat)), .fz (txt [w[k]]), s5, .un, .un] = .ok (enumD ls) := rfl
      rw [mLc_eq, q, R_bind_ok, if_pos (by rw [enumD_len]; omega), enum_from]
      rw [show wipeE ([.fz (bk two ls), .fz (txt w), .fz (txt (pre w k)), .fz (.int (k : Nat)), .fz (txt [w[k]]), s5, .un, .un] : Mir.Env) [6, 7] = [.fz (bk two ls), .fz (txt w), .fz (txt (pre w k)), .fz (.int (k : Nat)), .fz (txt [w[k]]), s5, .un, .un] from rfl, lc, nx_ok']
      rfl
    have fo := firstOf_held (rowL ls w k) 0
    have fn := firstOf_non (rowL ls w k) 0
    have ne := ne_lst_nil (heldFrom 0 (rowL ls w k))
    have st : bd__law_broken_3 [.fz (bk two ls), .fz (txt w), .fz (txt (List.replicate 7 46 ++ w.take k)), .fz (.int (k : Nat)), .fz (txt [w[k]]), s5, .un, .un] = (sIf (mTest (mB (cmpF .NotEq) (mVar 5) (mFz (mLst mNil)))) (sRet (mTup (mCons (mVar 3) (mCons (mB ixD (mVar 5) (mC (.int 0))) mNil)))) sSkip) [.fz (bk two ls), .fz (txt w), .fz (txt (pre w k)), .fz (.int (k : Nat)), .fz (txt [w[k]]), .fz (.lst ((heldFrom 0 (rowL ls w k)).map D.int)), .un, .un] := by
      unfold bd__law_broken_3
      rw [sSeq_eq, sSet_eq, s1, R_to_ok, seqR_nx, sSeq_eq]
      rw [show ([.fz (bk two ls), .fz (txt w), .fz (txt (List.replicate 7 46 ++ w.take k)), .fz (.int (k : Nat)), .fz (txt [w[k]]), s5, .un, .un] : Mir.Env).set 2 (.fz (txt (pre w k))) = [.fz (bk two ls), .fz (txt w), .fz (txt (pre w k)), .fz (.int (k : Nat)), .fz (txt [w[k]]), s5, .un, .un] from rfl]
      rw [sSet_eq, mFz_eq, s2, R_bind_ok, R_to_ok, seqR_nx]
      rfl
    rw [st]
    have cond : (mTest (mB (cmpF .NotEq) (mVar 5) (mFz (mLst mNil)))) [.fz (bk two ls), .fz (txt w), .fz (txt (pre w k)), .fz (.int (k : Nat)), .fz (txt [w[k]]), .fz (.lst ((heldFrom 0 (rowL ls w k)).map D.int)), .un, .un] = .ok (!(heldFrom 0 (rowL ls w k)).isEmpty) := by
      have q : (mFz (mLst mNil)) ([.fz (bk two ls), .fz (txt w), .fz (txt (pre w k)), .fz (.int (k : Nat)), .fz (txt [w[k]]), .fz (.lst ((heldFrom 0 (rowL ls w k)).map D.int)), .un, .un] : Mir.Env) = .ok (.lst []) := by
        rw [mFz_eq, mLst_eq, mNil_eq, R_bind_ok, if_pos (show ([] : List D).length ≤ sizeLine from lit_le 0 (Nat.zero_le _)), R_bind_ok]
      rw [mTest_eq, mB_eq, mVar_eq]
      show (((R.ok (D.lst ((heldFrom 0 (rowL ls w k)).map D.int))).bind _).bind _) = _
      rw [R_bind_ok, q, R_bind_ok, cmp_ne, ne, R_bind_ok, blOf_bl]
    rw [sIf_eq, cond, R_to_ok]
    rcases fo with ⟨f1, f2⟩ | ⟨n, r, f1, f2⟩
    · rw [f2] at fn
      have fn : (rowL ls w k).any id = false := by
        have : true = !(rowL ls w k).any id := fn
        cases hh : (rowL ls w k).any id
        · rfl
        · rw [hh] at this; cases this
      rw [f1, if_neg (by decide), fn, if_neg (by decide), sSkip_eq]
      rw [← pw, List.append_assoc, ← List.take_succ_eq_append_getElem hk2]
      exact ih _ _ _
    · rw [f2] at fn
      have fn : (rowL ls w k).any id = true := by
        have : false = !(rowL ls w k).any id := fn
        cases hh : (rowL ls w k).any id
        · rw [hh] at this; cases this
        · rfl
      rw [f1, if_pos (by rfl), fn, if_pos rfl, f2]
      have q : (mTup (mCons (mVar 3) (mCons (mB ixD (mVar 5) (mC (.int 0))) mNil))) [.fz (bk two ls), .fz (txt w), .fz (txt (pre w k)), .fz (.int (k : Nat)), .fz (txt [w[k]]), .fz (.lst ((n :: r).map D.int)), .un, .un] = .ok (.tup [.int (k : Nat), .int n]) := by
        rw [mTup_eq, mCons_eq, mCons_eq, mB_eq, mVar_eq, mVar_eq, mC_eq]
        show (((R.ok (D.int (k : Nat))).bind fun x => (((R.ok (D.lst ((n :: r).map D.int))).bind fun x => (R.ok (D.int 0)).bind fun y => ixD x y).bind fun x => (mNil _).bind fun xs => .ok (x :: xs)).bind fun xs => .ok (x :: xs)).bind _) = _
        rw [R_bind_ok, R_bind_ok, R_bind_ok, ixD_lst]
        rw [at_zero (.int n) (r.map D.int) ((n :: r).map D.int) rfl, ofO_some, R_bind_ok, mNil_eq, R_bind_ok, R_bind_ok, R_bind_ok, if_pos (lit_le _ (by simp))]
      rw [sRet_eq, q, R_to_ok]
      rfl
theorem lawbr_ok {two : Bool} {ls : List D} (hl : ls.length ≤ 4) (h : ∀ d ∈ ls, isLim two d) (w : List Nat) (hw : w.length ≤ 20) : f__law_broken [bk two ls, txt w] = .ok (fbG 0 ((List.range' 0 w.length).map (rowL ls w))) := by
  have m7 : mulD (.str ".") (.int 7) = .ok (txt (List.replicate 7 46)) := of_isTxt (by decide +kernel)
  have lo := lawbr_loop h hl w hw w.length 0 .un .un .un (by omega)
  rw [List.drop_zero, List.take_zero, List.append_nil] at lo
  rw [← lo, show f__law_broken [bk two ls, txt w] = outR (b__law_broken [.fz (bk two ls), .fz (txt w), .un, .un, .un, .un, .un, .un]) from runD_eq _ _ _]
  generalize bk two ls = B at *
  have s1 : (mB mulD (mC (.str ".")) (mC (.int 7))) [.fz B, .fz (txt w), .un, .un, .un, .un, .un, .un] = .ok (txt (List.replicate 7 46)) := m7
  have s2 : (mSeqs enF (mCons (mVar 1) mNil)) [.fz B, .fz (txt w), .fz (txt (List.replicate 7 46)), .un, .un, .un, .un, .un] = .ok (enumFrom 0 (w.map fun c => txt [c])) := by
    rw [← enum_from]
    exact enF_txt w
  unfold b__law_broken
  rw [sSeq_eq, sSet_eq, s1, R_to_ok, show ([.fz B, .fz (txt w), .un, .un, .un, .un, .un, .un] : Mir.Env).set 2 (.fz (txt (List.replicate 7 46))) = [.fz B, .fz (txt w), .fz (txt (List.replicate 7 46)), .un, .un, .un, .un, .un] from rfl, seqR_nx, sSeq_eq, sFor_eq, s2, R_to_ok]
theorem rows_eq {two : Bool} {ls : List D} (h : ∀ d ∈ ls, isLim two d) (w : List Nat) (hw : w.length ≤ 20) : fbG 0 ((List.range' 0 w.length).map (rowP ls w)) = fbG 0 ((List.range' 0 w.length).map (rowL ls w)) := by
  refine fbG_eq (rowP ls w) (rowL ls w) (fun k => by unfold rowP rowL; rw [List.length_map, List.length_map]) w.length (fun k hk i q => ?_) (fun k hk i q q2 => ?_) w.length 0 (by omega) (fun j hj => absurd hj (Nat.not_lt_zero _))
  · unfold rowL rowP at *
    rw [List.getElem?_map] at q ⊢
    cases e : ls[i]? with
    | none => rw [e] at q; cases q
    | some d =>
      rw [e] at q
      have q : some (lbr d (pre w k)) = some true := q
      have := lbr_brk (h d (List.mem_of_getElem? e)) w k hw hk (Option.some.inj q)
      show some (brk d (winN w k)) = some true
      rw [this]
  · unfold rowL rowP at *
    rw [List.getElem?_map] at q q2 ⊢
    cases e : ls[i]? with
    | none => rw [e] at q; cases q
    | some d =>
      rw [e] at q q2
      have q : some (brk d (winN w k)) = some true := q
      have q2 : some (lbr d (pre w k)) = some false := q2
      have := brk_lbr (h d (List.mem_of_getElem? e)) w k hw hk (Option.some.inj q) (Option.some.inj q2)
      refine ⟨this.1, ?_⟩
      show some (brk d (winN w (k - 1))) = some true
      rw [this.2]
theorem any_comm {α β : Type} (a : List α) (b : List β) (f : α → β → Bool) : (a.any fun x => b.any fun y => f x y) = b.any fun y => a.any fun x => f x y := by
  rw [Bool.eq_iff_iff]
  simp only [List.any_eq_true]
  constructor
  · rintro ⟨x, hx, y, hy, e⟩
    exact ⟨y, hy, x, hx, e⟩
  · rintro ⟨y, hy, x, hx, e⟩
    exact ⟨x, hx, y, hy, e⟩
/-- allowed: no limit says otherwise of the whole -/
theorem allowed_ok {two : Bool} {ls : List D} (hl : ls.length ≤ 4) (h : ∀ d ∈ ls, isLim two d) (w : List Nat) (hw : w.length ≤ 12) (hc : ∀ c ∈ w, c ∈ lets two) : f_is_allowed [bk two ls, txt w] = .ok (.bl (!ls.any fun d => whl d w)) := by
  have fb := firstbr_ok hl h w (by omega) hc
  have e : (ls.any fun d => whl d w) = ((List.range' 0 w.length).map (rowP ls w)).any fun B => B.any id := by
    rw [any_same (g := fun d => (List.range w.length).any fun k => brk d (winN w k)) ls (fun d hd => whl_any (h d hd) w hw), any_comm, List.any_map, List.range_eq_range']
    refine any_same _ fun k hk => ?_
    show _ = (rowP ls w k).any id
    unfold rowP
    rw [List.any_map]
    rfl
  rw [e, ← fbG_non _ 0]
  have q : (mFn 2 f_first_broken (mCons (mVar 0) (mCons (mVar 1) mNil))) [.fz (bk two ls), .fz (txt w)] = .ok (fbG 0 ((List.range' 0 w.length).map (rowP ls w))) := fb
  rw [show f_is_allowed [bk two ls, txt w] = outR (b_is_allowed [.fz (bk two ls), .fz (txt w)]) from runD_eq _ _ _]
  unfold b_is_allowed
  rw [sRet_eq, mB_eq, q, R_bind_ok, mC_eq, R_bind_ok, cmp_is, isD_non, R_to_ok, outR_ret]
/-! ### limits in a list, pasts, next days -/
theorem shp_lims {two : Bool} : ∀ ls : List D, (∀ d ∈ ls, isLim two d) → PyData.canLayAll0 (toPyAll ls) = true ∧ PyData.depthAll (toPyAll ls) ≤ 3
  | [], _ => ⟨rfl, Nat.zero_le _⟩
  | d :: r, h => by
    have ih := shp_lims r fun x hx => h x (.tail _ hx)
    have so : ∀ z ∈ zl two, PyData.strOk z = true := by cases two <;> decide +kernel
    have s1 : PyData.strOk "most" = true := by decide +kernel
    have s2 : PyData.strOk "row" = true := by decide +kernel
    have s3 : PyData.strOk "gap" = true := by decide +kernel
    have s4 : PyData.strOk "starts" = true := by decide +kernel
    have hd : PyData.canLay0 (toPy d) = true ∧ PyData.depth (toPy d) ≤ 3 := by
      obtain ⟨z, hz, ⟨c, s, h1, h2, h3, h4, rfl⟩ | ⟨c, h1, h2, rfl⟩ | ⟨c, h1, h2, rfl⟩ | ⟨c, s, h1, h2, h3, h4, rfl⟩⟩ := h d (.head _)
      all_goals
        have := so z hz
        simp [toPy, toPyAll, PyData.canLay0, PyData.canLayAll0, PyData.depth, PyData.depthAll, s1, s2, s3, s4, this]
    rw [toPyAll, PyData.canLayAll0, PyData.depthAll, hd.1, ih.1]
    exact ⟨rfl, Nat.max_le.mpr ⟨hd.2, ih.2⟩⟩
theorem eq_lims_nil {two : Bool} (ls : List D) (h : ∀ d ∈ ls, isLim two d) : eqD (.lst ls) (.lst []) = .ok (.bl ls.isEmpty) := by
  have hs : shp (.lst ls) = true := by
    unfold shp SeqAt.shaped
    have := shp_lims ls h
    rw [toPy, PyData.canLay0, this.1, PyData.depth]
    simp only [Bool.true_and, decide_eq_true_eq]
    omega
  unfold eqD
  rw [if_pos ⟨hs, rfl⟩]
  cases ls <;> rfl
theorem filter_lims {two : Bool} {ls : List D} (h : ∀ d ∈ ls, isLim two d) (p : D → Bool) : ∀ d ∈ ls.filter p, isLim two d := fun d hd => h d (List.mem_filter.mp hd).1
theorem filter_empty {α : Type} (l : List α) (p : α → Bool) : (l.filter p).isEmpty = !l.any p := by
  rw [← any_filter, Bool.not_not]
def pst (w : List Nat) : List Nat := (liv w).drop w.length
theorem pst_len (w : List Nat) : (pst w).length = 5 := by unfold pst; rw [List.length_drop, liv_len]; omega
theorem past_ok {two : Bool} {ls : List D} (hl : ls.length ≤ 4) (h : ∀ d ∈ ls, isLim two d) (w : List Nat) (hw : w.length ≤ 60) (hc : ∀ c ∈ w, c ∈ lets two) : f_past_of [bk two ls, txt w] = .ok (txt (pst w)) := by
  have ck : f_check_calendar [bk two ls, txt w] = .ok .non := chkcal_good ((iscal_txt w (isbook_ok hl h) (by omega)).trans (by
    have : (w.all fun c => decide (c ∈ lets two)) = true := List.all_eq_true.mpr fun c hx => decide_eq_true (hc c hx)
    rw [this, decide_eq_true hw]; rfl))
  have al : addD (txt [46, 46, 46, 46, 46]) (txt w) = .ok (txt (liv w)) := by
    rw [addD_txt, if_pos (lit_le _ (by show 5 + w.length ≤ _; omega))]
    rfl
  have sl : slD (txt (liv w)) (some (-5)) none = .ok (txt (pst w)) := by
    rw [slD_txt, if_pos (lit_le _ (by rw [liv_len]; omega)), cut_neg _ _ (by omega) (by rw [liv_len]; omega)]
    unfold pst
    rw [liv_len, show (((w.length + 5 : Nat) : Int) + -5).toNat = w.length by omega]
  rw [show f_past_of [bk two ls, txt w] = outR (b_past_of [.fz (bk two ls), .fz (txt w)]) from runD_eq _ _ _]
  generalize bk two ls = B at *
  have s1 : (mFn 2 f_check_calendar (mCons (mVar 0) (mCons (mVar 1) mNil))) [.fz B, .fz (txt w)] = .ok .non := ck
  have s2 : (mB addD (mC (.str ".....")) (mVar 1)) [.fz B, .fz (txt w)] = .ok (txt (liv w)) := by
    rw [mB_eq, mC_eq, R_bind_ok]
    exact al
  unfold b_past_of
  rw [sSeq_eq, sDrop_eq, s1, R_to_ok, seqR_nx, sRet_eq, mSl_eq, s2, R_bind_ok]
  have s3 : (mSome (mU negD (mC (.int 5)))) [.fz B, .fz (txt w)] = .ok (some (-5)) := rfl
  rw [s3, R_bind_ok, mNo_eq, R_bind_ok, sl, R_to_ok, outR_ret]
theorem lcGo_txt {i : Nat} {tt : Mir.Env → R Bool} {me : Mir.Env → R D} {ρ : Mir.Env} {p : Nat → Bool} (l : List Nat) (h : ∀ c ∈ l, tt (ρ.set i (.fz (txt [c]))) = .ok (p c)) (h2 : ∀ c ∈ l, me (ρ.set i (.fz (txt [c]))) = .ok (txt [c])) : lcGo (tgName i) tt me ρ (l.map fun c => txt [c]) = .ok ((l.filter p).map fun c => txt [c]) := by
  induction l with
  | nil => rfl
  | cons m l ih =>
    have ih := ih (fun x hx => h x (.tail _ hx)) fun x hx => h2 x (.tail _ hx)
    rw [List.map_cons]
    unfold lcGo
    rw [tgName_eq, nx_ok', R_bind_ok, h m (.head _), nx_ok', R_bind_ok, List.filter_cons, ih]
    cases p m with
    | true => rw [if_pos rfl, if_pos rfl, h2 m (.head _), nx_ok', R_bind_ok]; rfl
    | false => rfl
/-- the days that break nothing behind a past -/
def dbh (two : Bool) (ls : List D) (p : List Nat) : List Nat := (lets two).filter fun c => !ls.any fun d => brk d (p ++ [c])
theorem dbh_ok {two : Bool} {ls : List D} (h : ∀ d ∈ ls, isLim two d) (p : List Nat) (hp : p.length = 5) : f_days_behind [bk two ls, txt p] = .ok (.lst ((dbh two ls p).map fun c => txt [c])) := by
  have dl : f_day_letters [bk two ls] = .ok (txt (lets two)) := letters_ok two (.tup ls)
  have lc := lcGo_txt (i := 2) (tt := tt_days_behind_2) (me := el_days_behind_1) (ρ := [.fz (bk two ls), .fz (txt p), .un]) (p := fun c => !ls.any fun d => brk d (p ++ [c])) (lets two) (fun c hc => by
    have q : (mFn 3 f_limit_broken (mCons (mVar 0) (mCons (mVar 1) (mCons (mVar 2) mNil)))) [.fz (bk two ls), .fz (txt p), .fz (txt [c])] = .ok (firstOf 0 (ls.map fun d => brk d (p ++ [c]))) := limbr_ok h p c hp
    show tt_days_behind_2 [.fz (bk two ls), .fz (txt p), .fz (txt [c])] = _
    unfold tt_days_behind_2
    rw [mTest_eq, mB_eq, q, R_bind_ok, mC_eq, R_bind_ok, cmp_is, isD_non, R_bind_ok, blOf_bl, firstOf_non, List.any_map]
    rfl) fun c hc => rfl
  rw [show f_days_behind [bk two ls, txt p] = outR (b_days_behind [.fz (bk two ls), .fz (txt p), .un]) from runD_eq _ _ _]
  have s2 : (mFn 1 f_day_letters (mCons (mVar 0) mNil)) [.fz (bk two ls), .fz (txt p), .un] = .ok (txt (lets two)) := dl
  unfold b_days_behind
  rw [sRet_eq, mFz_eq, mLc_eq, mSeq_eq, s2, R_bind_ok, anyOf_txt, R_bind_ok, if_pos (by cases two <;> decide)]
  rw [show wipeE ([.fz (bk two ls), .fz (txt p), .un] : Mir.Env) [2] = [.fz (bk two ls), .fz (txt p), .un] from rfl, lc, nx_ok', R_bind_ok, R_to_ok, outR_ret]
  rfl
/-- the days that break nothing behind a calendar -/
def ableN (two : Bool) (ls : List D) (w : List Nat) : List Nat := (lets two).filter fun c => !ls.any fun d => brk d (pst w ++ [c])
theorem next_ok {two : Bool} {ls : List D} (hl : ls.length ≤ 4) (h : ∀ d ∈ ls, isLim two d) (w : List Nat) (hw : w.length ≤ 12) (hc : ∀ c ∈ w, c ∈ lets two) : f_next_days [bk two ls, txt w] = if (ls.any fun d => whl d w) = true then .exc "Broken" else .ok (.lst ((ableN two ls w).map fun c => txt [c])) := by
  have al := allowed_ok hl h w hw hc
  have pa := past_ok hl h w (by omega) hc
  have db := dbh_ok h (pst w) (pst_len w)
  have ca : f_check_allowed [bk two ls, txt w] = if (ls.any fun d => whl d w) = true then .exc "Broken" else .ok .non := by
    rw [show f_check_allowed [bk two ls, txt w] = outR (b_check_allowed [.fz (bk two ls), .fz (txt w)]) from runD_eq _ _ _]
    have s0 : (mNot (mUT truth (mFn 2 f_is_allowed (mCons (mVar 0) (mCons (mVar 1) mNil))))) [.fz (bk two ls), .fz (txt w)] = .ok (ls.any fun d => whl d w) := by
      have q : (mFn 2 f_is_allowed (mCons (mVar 0) (mCons (mVar 1) mNil))) [.fz (bk two ls), .fz (txt w)] = .ok (.bl (!ls.any fun d => whl d w)) := al
      rw [mNot_eq, mUT_eq, q, R_bind_ok, truth_bl, R_bind_ok, Bool.not_not]
    unfold b_check_allowed
    rw [sIf_eq, s0, R_to_ok]
    cases (ls.any fun d => whl d w) <;> rfl
  rw [show f_next_days [bk two ls, txt w] = outR (b_next_days [.fz (bk two ls), .fz (txt w)]) from runD_eq _ _ _]
  have s1 : (mFn 2 f_past_of (mCons (mVar 0) (mCons (mVar 1) mNil))) [.fz (bk two ls), .fz (txt w)] = .ok (txt (pst w)) := pa
  have s3 : (mFn 2 f_check_allowed (mCons (mVar 0) (mCons (mVar 1) mNil))) [.fz (bk two ls), .fz (txt w)] = if (ls.any fun d => whl d w) = true then .exc "Broken" else .ok .non := ca
  unfold b_next_days
  rw [sSeq_eq, sDrop_eq, s3]
  cases (ls.any fun d => whl d w) with
  | true => rfl
  | false =>
    rw [if_neg (by decide), if_neg (by decide), R_to_ok, seqR_nx, sRet_eq, mFn_eq, mCons_eq, mVar_eq, mCons_eq, s1]
    have db : f_days_behind [bk two ls, txt (pst w)] = .ok (.lst ((ableN two ls w).map fun c => txt [c])) := db
    rw [show slotD ([.fz (bk two ls), .fz (txt w)] : Mir.Env)[0]? = .ok (bk two ls) from rfl, R_bind_ok, R_bind_ok, mNil_eq, R_bind_ok, R_bind_ok, R_bind_ok, if_pos (by rfl), db, R_to_ok, outR_ret]
theorem whl_next {two : Bool} {d : D} (h : isLim two d) (w : List Nat) (c : Nat) (hw : w.length ≤ 11) (hf : whl d w = false) : whl d (w ++ [c]) = brk d (pst w ++ [c]) := by
  rw [whl_any h _ (by rw [List.length_append, List.length_singleton]; omega), List.length_append, List.length_singleton, List.range_succ, List.any_append]
  rw [whl_any h w (by omega)] at hf
  have e : ((List.range w.length).any fun k => brk d (winN (w ++ [c]) k)) = false := by
    rw [← hf]
    refine any_same _ fun k hk => ?_
    have hk := List.mem_range.mp hk
    congr 1
    unfold winN liv
    rw [← List.append_assoc, List.drop_append_of_le_length (by simp; omega), List.take_append_of_le_length (by simp; omega)]
  rw [e, Bool.false_or, List.any_cons, List.any_nil, Bool.or_false]
  congr 1
  unfold winN pst
  have : liv (w ++ [c]) = liv w ++ [c] := by unfold liv; rw [List.append_assoc]
  rw [this, List.drop_append_of_le_length (by rw [liv_len]; omega), List.take_of_length_le (by rw [List.length_append, List.length_drop, liv_len, List.length_singleton]; omega)]
/-! ### the law -/
theorem lc_whl {two : Bool} {ls : List D} (h : ∀ d ∈ ls, isLim two d) (hl : ls.length ≤ 4) (u : List Nat) (hu : u.length ≤ 12) (tt : Mir.Env → R Bool) (me : Mir.Env → R D) (ρ : Mir.Env) (ht : ∀ d ∈ ls, tt (ρ.set 11 (.fz d)) = (f__law_whole [d, txt u]).bind truth) (hm : ∀ d, me (ρ.set 11 (.fz d)) = .ok d) : lcGo (tgName 11) tt me ρ ls = .ok (ls.filter fun d => whl d u) := by
  have := lcGo_of (mt := tgName 11) (tt := tt) (me := me) (ρ := ρ) (p := fun d => whl d u) (g := fun d => d) ls fun d hd => ⟨_, rfl, by rw [ht d hd, whl_ok (h d hd) u hu, R_bind_ok, truth_bl], fun _ => hm d⟩
  rw [this, List.map_id']
theorem ne_same_bl (b : Bool) : neD (.bl b) (.bl b) = .ok (.bl false) := by cases b <;> exact of_isBl (by decide +kernel)
theorem fbG_form (rows : List (List Bool)) (n : Nat) : fbG n rows = .non ∨ ∃ a b : Int, fbG n rows = .tup [.int a, .int b] := by
  induction rows generalizing n with
  | nil => exact .inl rfl
  | cons B r ih =>
    unfold fbG
    by_cases hb : B.any id = true
    · rw [if_pos hb]
      rcases firstOf_held B 0 with ⟨_, e⟩ | ⟨x, _, _, e⟩
      · have := firstOf_non B 0
        rw [e, hb] at this
        cases this
      · exact .inr ⟨_, _, by rw [e]⟩
    · rw [if_neg hb]
      exact ih _
theorem eqv_int_self (a : Int) : eqv (.int a) (.int a) = true := by
  show (a == a) = true
  simp
theorem ne_same_fb (x : D) (h : x = .non ∨ ∃ a b : Int, x = .tup [.int a, .int b]) : neD x x = .ok (.bl false) := by
  rcases h with rfl | ⟨a, b, rfl⟩
  · exact of_isBl (by decide +kernel)
  · unfold neD
    have hs : shp (.tup [.int a, .int b]) = true := rfl
    rw [if_pos ⟨hs, hs⟩]
    have : eqv (.tup [.int a, .int b]) (.tup [.int a, .int b]) = true := by
      show ((a == a) && ((b == b) && true)) = true
      simp
    rw [this]
    rfl
theorem ne_same_txt (u : List Nat) (h : abc u = true) : neD (txt u) (txt u) = .ok (.bl false) := by
  unfold neD
  rw [if_pos ⟨txt_shp u h, txt_shp u h⟩]
  have : eqv (txt u) (txt u) = true := by
    show ((⟨u.toArray⟩ : Str) == ⟨u.toArray⟩) = true
    exact beq_self_eq_true _
  rw [this]
  rfl
theorem abc_pst {two : Bool} (w : List Nat) (hc : ∀ c ∈ w, c ∈ lets two) : abc (pst w) = true := by
  unfold abc
  rw [List.all_eq_true]
  intro c h
  have h := List.mem_of_mem_drop h
  unfold liv at h
  rcases List.mem_append.mp h with h | h
  · rw [(List.mem_replicate.mp h).2]; rfl
  · have := hc c h
    cases two <;> simp [lets] at this <;> rcases this with rfl | rfl | rfl <;> rfl
theorem ne_same_able (two : Bool) (p : Nat → Bool) : neD (.lst (((lets two).filter p).map fun c => txt [c])) (.lst (((lets two).filter p).map fun c => txt [c])) = .ok (.bl false) := by
  cases two with
  | true =>
    unfold lets
    simp only [List.filter_cons, List.filter_nil]
    cases p 46 <;> cases p 97 <;> cases p 98 <;> exact of_isBl (by decide +kernel)
  | false =>
    unfold lets
    simp only [List.filter_cons, List.filter_nil]
    cases p 46 <;> cases p 97 <;> exact of_isBl (by decide +kernel)
theorem able_loop {two : Bool} {ls : List D} (h : ∀ d ∈ ls, isLim two d) (hl : ls.length ≤ 4) (w : List Nat) (hw : w.length ≤ 11) (a b s4 : Slot) : ∀ (l acc : List Nat) (s6 : Slot), acc.length + l.length ≤ 100 → ∃ s6', forGo (tgName 6) bd_law_5 (l.map fun c => txt [c]) [a, .fz (bk two ls), b, .fz (txt w), s4, .ol (acc.map fun c => txt [c]), s6, .un, .un, .un, .un, .un] = .nx [a, .fz (bk two ls), b, .fz (txt w), s4, .ol ((acc ++ l.filter fun c => !ls.any fun d => whl d (w ++ [c])).map fun c => txt [c]), s6', .un, .un, .un, .un, .un]
  | [], acc, s6, _ => ⟨s6, by rw [List.filter_nil, List.append_nil]; rfl⟩
  | c :: r, acc, s6, hk => by
    rw [List.length_cons] at hk
    have e : tgName 6 (txt [c]) [a, .fz (bk two ls), b, .fz (txt w), s4, .ol (acc.map fun c => txt [c]), s6, .un, .un, .un, .un, .un] = .ok [a, .fz (bk two ls), b, .fz (txt w), s4, .ol (acc.map fun c => txt [c]), .fz (txt [c]), .un, .un, .un, .un, .un] := rfl
    have ad : addD (txt w) (txt [c]) = .ok (txt (w ++ [c])) := by rw [addD_txt, if_pos (lit_le _ (by rw [List.length_singleton]; omega))]
    have lc := lc_whl h hl (w ++ [c]) (by rw [List.length_append, List.length_singleton]; omega) tt_law_4 el_law_3 [a, .fz (bk two ls), b, .fz (txt w), s4, .ol (acc.map fun c => txt [c]), .fz (txt [c]), .un, .un, .un, .un, .un] (fun d hd => by
      have q : (mCons (mVar 11) (mCons (mB addD (mVar 3) (mVar 6)) mNil)) ([a, .fz (bk two ls), b, .fz (txt w), s4, .ol (acc.map fun c => txt [c]), .fz (txt [c]), .un, .un, .un, .un, .fz d] : Mir.Env) = .ok [d, txt (w ++ [c])] := by
        have q2 : (mB addD (mVar 3) (mVar 6)) ([a, .fz (bk two ls), b, .fz (txt w), s4, .ol (acc.map fun c => txt [c]), .fz (txt [c]), .un, .un, .un, .un, .fz d] : Mir.Env) = .ok (txt (w ++ [c])) := ad
        have q3 : (mVar 11) ([a, .fz (bk two ls), b, .fz (txt w), s4, .ol (acc.map fun c => txt [c]), .fz (txt [c]), .un, .un, .un, .un, .fz d] : Mir.Env) = .ok d := rfl
        rw [mCons_eq, mCons_eq, q2, q3, R_bind_ok, R_bind_ok, mNil_eq, R_bind_ok, R_bind_ok]
      show tt_law_4 [a, .fz (bk two ls), b, .fz (txt w), s4, .ol (acc.map fun c => txt [c]), .fz (txt [c]), .un, .un, .un, .un, .fz d] = _
      unfold tt_law_4
      rw [mUT_eq, mFn_eq, q, R_bind_ok]
      rfl) fun d => rfl
    have cond : (mTest (mB (cmpF .Eq) (mFz (mLc [11] (mSeq anyOf (mB ixD (mVar 1) (mC (.int 1)))) (tgName 11) tt_law_4 el_law_3)) (mFz (mLst mNil)))) [a, .fz (bk two ls), b, .fz (txt w), s4, .ol (acc.map fun c => txt [c]), .fz (txt [c]), .un, .un, .un, .un, .un] = .ok (!ls.any fun d => whl d (w ++ [c])) := by
      have q : (mSeq anyOf (mB ixD (mVar 1) (mC (.int 1)))) [a, .fz (bk two ls), b, .fz (txt w), s4, .ol (acc.map fun c => txt [c]), .fz (txt [c]), .un, .un, .un, .un, .un] = .ok ls := rfl
      rw [mTest_eq, mB_eq, mFz_eq, mLc_eq, q, R_bind_ok, if_pos (by omega)]
      rw [show wipeE ([a, .fz (bk two ls), b, .fz (txt w), s4, .ol (acc.map fun c => txt [c]), .fz (txt [c]), .un, .un, .un, .un, .un] : Mir.Env) [11] = [a, .fz (bk two ls), b, .fz (txt w), s4, .ol (acc.map fun c => txt [c]), .fz (txt [c]), .un, .un, .un, .un, .un] from rfl, lc, nx_ok', R_bind_ok, R_bind_ok, mFz_eq, mLst_eq, mNil_eq, R_bind_ok, if_pos (show ([] : List D).length ≤ sizeLine from lit_le 0 (Nat.zero_le _)), R_bind_ok, R_bind_ok, cmp_eq, eq_lims_nil _ (filter_lims h _), R_bind_ok, blOf_bl, filter_empty]
    rw [List.map_cons]
    unfold forGo
    rw [e, nx_ok', R_to_ok]
    have st : bd_law_5 [a, .fz (bk two ls), b, .fz (txt w), s4, .ol (acc.map fun c => txt [c]), .fz (txt [c]), .un, .un, .un, .un, .un] = if (!ls.any fun d => whl d (w ++ [c])) = true then .nx [a, .fz (bk two ls), b, .fz (txt w), s4, .ol ((acc ++ [c]).map fun c => txt [c]), .fz (txt [c]), .un, .un, .un, .un, .un] else .nx [a, .fz (bk two ls), b, .fz (txt w), s4, .ol (acc.map fun c => txt [c]), .fz (txt [c]), .un, .un, .un, .un, .un] := by
      unfold bd_law_5
      rw [sIf_eq, cond, R_to_ok]
      have q : sApp 5 (mVar 6) [a, .fz (bk two ls), b, .fz (txt w), s4, .ol (acc.map fun c => txt [c]), .fz (txt [c]), .un, .un, .un, .un, .un] = .nx [a, .fz (bk two ls), b, .fz (txt w), s4, .ol ((acc ++ [c]).map fun c => txt [c]), .fz (txt [c]), .un, .un, .un, .un, .un] := by
        unfold sApp
        show ((R.ok (txt [c])).to fun d => if (acc.map fun c => txt [c]).length < 16000000 then RS.nx ([a, .fz (bk two ls), b, .fz (txt w), s4, .ol (acc.map fun c => txt [c]), .fz (txt [c]), .un, .un, .un, .un, .un].set 5 (.ol ((acc.map fun c => txt [c]) ++ [d]))) else .bad) = _
        rw [R_to_ok, if_pos (by rw [List.length_map]; omega), List.map_append]
        rfl
      rw [q, sSkip_eq]
    rw [st, List.filter_cons]
    cases (!ls.any fun d => whl d (w ++ [c])) with
    | true =>
      obtain ⟨s, e⟩ := able_loop h hl w hw a b s4 r (acc ++ [c]) (.fz (txt [c])) (by rw [List.length_append, List.length_singleton]; omega)
      refine ⟨s, ?_⟩
      rw [if_pos rfl, if_pos rfl]
      rw [List.append_assoc] at e
      exact e
    | false =>
      obtain ⟨s, e⟩ := able_loop h hl w hw a b s4 r acc (.fz (txt [c])) (by omega)
      exact ⟨s, by rw [if_neg (by decide), if_neg (by decide)]; exact e⟩
theorem err_broken {d x : D} (e : f_next_days [d, x] = .exc "Broken") : f__law_error [.int 3, d, x] = .ok (.int 2) := by
  simp [f__law_error, runD_eq, b__law_error, Mir.envOf, sTry, try__law_error_1, mFnIx, atI, ixN, e]
  decide +kernel
theorem body_ok (S : List Int) (hS : S.length ≤ 63) {two : Bool} {ls : List D} (h : ∀ d ∈ ls, isLim two d) (hl : ls.length ≤ 4) (k : Nat) (hk : k < 5) (s3 s4 s5 s6 : Slot) : ∃ t3 t4 t5 t6, bd_law_6 [.fz (.rol (S.map D.int)), .fz (bk two ls), .fz (.int (k : Nat)), s3, s4, s5, s6, .un, .un, .un, .un, .un] = .nx [.fz (.rol (S.map D.int)), .fz (bk two ls), .fz (.int (k : Nat)), t3, t4, t5, t6, .un, .un, .un, .un, .un] := by
  obtain ⟨w, ew, hw, hc⟩ := days_ok S (40 + 15 * (k : Int)) 11 two (.tup ls) hS (by omega) (by omega) (by omega)
  have hw : w.length ≤ 11 := by omega
  have d1 : (mFn 4 f__law_days (mCons (mVar 0) (mCons (mB addD (mC (.int 40)) (mB mulD (mC (.int 15)) (mVar 2))) (mCons (mVar 1) (mCons (mC (.int 11)) mNil))))) [.fz (.rol (S.map D.int)), .fz (bk two ls), .fz (.int (k : Nat)), s3, s4, s5, s6, .un, .un, .un, .un, .un] = .ok (txt w) := by
    have q : (mB addD (mC (.int 40)) (mB mulD (mC (.int 15)) (mVar 2))) [.fz (.rol (S.map D.int)), .fz (bk two ls), .fz (.int (k : Nat)), s3, s4, s5, s6, .un, .un, .un, .un, .un] = .ok (.int (40 + 15 * (k : Int))) := by
      have q2 : (mVar 2) [.fz (.rol (S.map D.int)), .fz (bk two ls), .fz (.int (k : Nat)), s3, s4, s5, s6, .un, .un, .un, .un, .un] = .ok (.int (k : Nat)) := rfl
      rw [mB_eq, mC_eq, R_bind_ok, mB_eq, mC_eq, R_bind_ok, q2, R_bind_ok, mulD_int, if_pos (.inl ⟨by omega, by omega⟩), R_bind_ok, addD_int]
    rw [mFn_eq, mCons_eq, mCons_eq, q]
    exact ew
  have lc := lc_whl h hl w (by omega) tt_law_2 el_law_1 [.fz (.rol (S.map D.int)), .fz (bk two ls), .fz (.int (k : Nat)), .fz (txt w), s4, s5, s6, .un, .un, .un, .un, .un] (fun d hd => rfl) fun d => rfl
  have d2 : (mLc [11] (mSeq anyOf (mB ixD (mVar 1) (mC (.int 1)))) (tgName 11) tt_law_2 el_law_1) [.fz (.rol (S.map D.int)), .fz (bk two ls), .fz (.int (k : Nat)), .fz (txt w), s4, s5, s6, .un, .un, .un, .un, .un] = .ok (ls.filter fun d => whl d w) := by
    have q : (mSeq anyOf (mB ixD (mVar 1) (mC (.int 1)))) [.fz (.rol (S.map D.int)), .fz (bk two ls), .fz (.int (k : Nat)), .fz (txt w), s4, s5, s6, .un, .un, .un, .un, .un] = .ok ls := rfl
    rw [mLc_eq, q, R_bind_ok, if_pos (by omega)]
    rw [show wipeE ([.fz (.rol (S.map D.int)), .fz (bk two ls), .fz (.int (k : Nat)), .fz (txt w), s4, s5, s6, .un, .un, .un, .un, .un] : Mir.Env) [11] = [.fz (.rol (S.map D.int)), .fz (bk two ls), .fz (.int (k : Nat)), .fz (txt w), s4, s5, s6, .un, .un, .un, .un, .un] from rfl, lc, nx_ok']
  generalize hbad : (ls.filter fun d => whl d w) = bad at *
  have hbl : ∀ d ∈ bad, isLim two d := by rw [← hbad]; exact filter_lims h _
  have hbe : bad.isEmpty = !ls.any fun d => whl d w := by rw [← hbad, filter_empty]
  have nil_ok : ∀ ρ : Mir.Env, (mFz (mLst mNil)) ρ = .ok (.lst []) := fun ρ => by rw [mFz_eq, mLst_eq, mNil_eq, R_bind_ok, if_pos (show ([] : List D).length ≤ sizeLine from lit_le 0 (Nat.zero_le _)), R_bind_ok]
  have hcal := hc
  have ia := allowed_ok hl h w (by omega) hc
  have fb := firstbr_ok hl h w (by omega) hc
  have lb := lawbr_ok hl h w (by omega)
  rw [← rows_eq h w (by omega)] at lb
  have pa := past_ok hl h w (by omega) hc
  have nd := next_ok hl h w (by omega) hc
  have eqv4 : ∀ (a b c d e f : Slot), (mB (cmpF .Eq) (mVar 4) (mFz (mLst mNil))) [a, b, c, d, .fz (.lst bad), e, f, .un, .un, .un, .un, .un] = .ok (.bl bad.isEmpty) := fun a b c d e f => by
    have q : (mVar 4) [a, b, c, d, .fz (.lst bad), e, f, .un, .un, .un, .un, .un] = .ok (.lst bad) := rfl
    rw [mB_eq, q, R_bind_ok, nil_ok, R_bind_ok, cmp_eq, eq_lims_nil _ hbl]
  -- the environment behind the first two assignments
  have c1 : (mTest (mB (cmpF .NotEq) (mFn 2 f_is_allowed (mCons (mVar 1) (mCons (mVar 3) mNil))) (mB (cmpF .Eq) (mVar 4) (mFz (mLst mNil))))) [.fz (.rol (S.map D.int)), .fz (bk two ls), .fz (.int (k : Nat)), .fz (txt w), .fz (.lst bad), s5, s6, .un, .un, .un, .un, .un] = .ok false := by
    have q : (mFn 2 f_is_allowed (mCons (mVar 1) (mCons (mVar 3) mNil))) [.fz (.rol (S.map D.int)), .fz (bk two ls), .fz (.int (k : Nat)), .fz (txt w), .fz (.lst bad), s5, s6, .un, .un, .un, .un, .un] = .ok (.bl (!ls.any fun d => whl d w)) := ia
    rw [mTest_eq, mB_eq, q, R_bind_ok, eqv4, R_bind_ok, hbe, cmp_ne, ne_same_bl, R_bind_ok, blOf_bl]
  have c2 : (mTest (mB (cmpF .NotEq) (mFn 2 f_first_broken (mCons (mVar 1) (mCons (mVar 3) mNil))) (mFn 2 f__law_broken (mCons (mVar 1) (mCons (mVar 3) mNil))))) [.fz (.rol (S.map D.int)), .fz (bk two ls), .fz (.int (k : Nat)), .fz (txt w), .fz (.lst bad), s5, s6, .un, .un, .un, .un, .un] = .ok false := by
    have q : (mFn 2 f_first_broken (mCons (mVar 1) (mCons (mVar 3) mNil))) [.fz (.rol (S.map D.int)), .fz (bk two ls), .fz (.int (k : Nat)), .fz (txt w), .fz (.lst bad), s5, s6, .un, .un, .un, .un, .un] = .ok (fbG 0 ((List.range' 0 w.length).map (rowP ls w))) := fb
    have q2 : (mFn 2 f__law_broken (mCons (mVar 1) (mCons (mVar 3) mNil))) [.fz (.rol (S.map D.int)), .fz (bk two ls), .fz (.int (k : Nat)), .fz (txt w), .fz (.lst bad), s5, s6, .un, .un, .un, .un, .un] = .ok (fbG 0 ((List.range' 0 w.length).map (rowP ls w))) := lb
    rw [mTest_eq, mB_eq, q, R_bind_ok, q2, R_bind_ok, cmp_ne, ne_same_fb _ (fbG_form _ _), R_bind_ok, blOf_bl]
  have c3 : (mTest (mB (cmpF .NotEq) (mFn 2 f_past_of (mCons (mVar 1) (mCons (mVar 3) mNil))) (mSl (mB addD (mC (.str ".....")) (mVar 3)) (mSome (mCall lenF (mCons (mVar 3) mNil))) mNo))) [.fz (.rol (S.map D.int)), .fz (bk two ls), .fz (.int (k : Nat)), .fz (txt w), .fz (.lst bad), s5, s6, .un, .un, .un, .un, .un] = .ok false := by
    have q : (mFn 2 f_past_of (mCons (mVar 1) (mCons (mVar 3) mNil))) [.fz (.rol (S.map D.int)), .fz (bk two ls), .fz (.int (k : Nat)), .fz (txt w), .fz (.lst bad), s5, s6, .un, .un, .un, .un, .un] = .ok (txt (pst w)) := pa
    have dots : ("....." : Str) = ⟨[46, 46, 46, 46, 46].toArray⟩ := by decide +kernel
    have q2 : (mB addD (mC (.str ".....")) (mVar 3)) [.fz (.rol (S.map D.int)), .fz (bk two ls), .fz (.int (k : Nat)), .fz (txt w), .fz (.lst bad), s5, s6, .un, .un, .un, .un, .un] = .ok (txt (liv w)) := by
      have q3 : (mVar 3) [.fz (.rol (S.map D.int)), .fz (bk two ls), .fz (.int (k : Nat)), .fz (txt w), .fz (.lst bad), s5, s6, .un, .un, .un, .un, .un] = .ok (txt w) := rfl
      rw [mB_eq, mC_eq, R_bind_ok, q3, R_bind_ok, dots]
      show addD (txt [46, 46, 46, 46, 46]) (txt w) = _
      rw [addD_txt, if_pos (lit_le _ (by show 5 + w.length ≤ _; omega))]
      rfl
    have q4 : (mSome (mCall lenF (mCons (mVar 3) mNil))) [.fz (.rol (S.map D.int)), .fz (bk two ls), .fz (.int (k : Nat)), .fz (txt w), .fz (.lst bad), s5, s6, .un, .un, .un, .un, .un] = .ok (some (w.length : Nat)) := by
      have q5 : (mCall lenF (mCons (mVar 3) mNil)) [.fz (.rol (S.map D.int)), .fz (bk two ls), .fz (.int (k : Nat)), .fz (txt w), .fz (.lst bad), s5, s6, .un, .un, .un, .un, .un] = lenF [txt w] := rfl
      rw [mSome_eq, q5, lenF_txt, if_pos (lit_le _ (by omega)), R_bind_ok]
      rfl
    rw [mTest_eq, mB_eq, q, R_bind_ok, mSl_eq, q2, R_bind_ok, q4, R_bind_ok, mNo_eq, R_bind_ok, slD_txt, if_pos (lit_le _ (by rw [liv_len]; omega)), cut_from, R_bind_ok, cmp_ne]
    show (neD (txt (pst w)) (txt (pst w))).bind blOf = _
    rw [ne_same_txt _ (abc_pst w hc), R_bind_ok, blOf_bl]
  have c4 : (mTest (mB (cmpF .Eq) (mVar 4) (mFz (mLst mNil)))) [.fz (.rol (S.map D.int)), .fz (bk two ls), .fz (.int (k : Nat)), .fz (txt w), .fz (.lst bad), s5, s6, .un, .un, .un, .un, .un] = .ok bad.isEmpty := by
    rw [mTest_eq, eqv4, R_bind_ok, blOf_bl]
  unfold bd_law_6
  rw [sSeq_eq, sSet_eq, d1, R_to_ok, seqR_nx, sSeq_eq]
  rw [show ([.fz (.rol (S.map D.int)), .fz (bk two ls), .fz (.int (k : Nat)), s3, s4, s5, s6, .un, .un, .un, .un, .un] : Mir.Env).set 3 (.fz (txt w)) = [.fz (.rol (S.map D.int)), .fz (bk two ls), .fz (.int (k : Nat)), .fz (txt w), s4, s5, s6, .un, .un, .un, .un, .un] from rfl]
  rw [sSet_eq, mFz_eq, d2, R_bind_ok, R_to_ok, seqR_nx]
  rw [show ([.fz (.rol (S.map D.int)), .fz (bk two ls), .fz (.int (k : Nat)), .fz (txt w), s4, s5, s6, .un, .un, .un, .un, .un] : Mir.Env).set 4 (.fz (.lst bad)) = [.fz (.rol (S.map D.int)), .fz (bk two ls), .fz (.int (k : Nat)), .fz (txt w), .fz (.lst bad), s5, s6, .un, .un, .un, .un, .un] from rfl]
  rw [sSeq_eq, sIf_eq, c1, R_to_ok, if_neg (by decide), sSkip_eq, seqR_nx, sSeq_eq, sIf_eq, c2, R_to_ok, if_neg (by decide), sSkip_eq, seqR_nx, sSeq_eq, sIf_eq, c3, R_to_ok, if_neg (by decide), sSkip_eq, seqR_nx, sIf_eq, c4, R_to_ok]
  cases hany : (ls.any fun d => whl d w) with
  | true =>
    rw [hany] at hbe nd
    rw [if_pos rfl] at nd
    rw [hbe, if_neg (by decide)]
    have er := err_broken nd
    have c5 : (mTest (mB (cmpF .NotEq) (mFn 3 f__law_error (mCons (mC (.int 3)) (mCons (mVar 1) (mCons (mVar 3) mNil)))) (mC (.int 2)))) [.fz (.rol (S.map D.int)), .fz (bk two ls), .fz (.int (k : Nat)), .fz (txt w), .fz (.lst bad), s5, s6, .un, .un, .un, .un, .un] = .ok false := by
      have q : (mFn 3 f__law_error (mCons (mC (.int 3)) (mCons (mVar 1) (mCons (mVar 3) mNil)))) [.fz (.rol (S.map D.int)), .fz (bk two ls), .fz (.int (k : Nat)), .fz (txt w), .fz (.lst bad), s5, s6, .un, .un, .un, .un, .un] = .ok (.int 2) := er
      have n2 : neD (.int 2) (.int 2) = .ok (.bl false) := of_isBl (by decide +kernel)
      rw [mTest_eq, mB_eq, q, R_bind_ok, mC_eq, R_bind_ok, cmp_ne, n2, R_bind_ok, blOf_bl]
    rw [sIf_eq, c5, R_to_ok, if_neg (by decide), sSkip_eq]
    exact ⟨_, _, _, _, rfl⟩
  | false =>
    rw [hany] at hbe nd
    rw [if_neg (by decide)] at nd
    rw [hbe, if_pos (by decide)]
    have o1 : sSetO 5 (mLst mNil) [.fz (.rol (S.map D.int)), .fz (bk two ls), .fz (.int (k : Nat)), .fz (txt w), .fz (.lst bad), s5, s6, .un, .un, .un, .un, .un] = .nx [.fz (.rol (S.map D.int)), .fz (bk two ls), .fz (.int (k : Nat)), .fz (txt w), .fz (.lst bad), .ol [], s6, .un, .un, .un, .un, .un] := by
      rw [sSetO_eq, mLst_eq, mNil_eq, R_bind_ok, if_pos (show ([] : List D).length ≤ sizeLine from lit_le 0 (Nat.zero_le _)), R_to_ok]
      rfl
    have o2 : (mSeq anyOf (mB addD (mC (.str ".")) (mB ixD (mVar 1) (mC (.int 0))))) [.fz (.rol (S.map D.int)), .fz (bk two ls), .fz (.int (k : Nat)), .fz (txt w), .fz (.lst bad), .ol [], s6, .un, .un, .un, .un, .un] = .ok ((lets two).map fun c => txt [c]) := by
      have q : (mB ixD (mVar 1) (mC (.int 0))) [.fz (.rol (S.map D.int)), .fz (bk two ls), .fz (.int (k : Nat)), .fz (txt w), .fz (.lst bad), .ol [], s6, .un, .un, .un, .un, .un] = .ok (.str (zz two)) := rfl
      have q2 : addD (.str ".") (.str (zz two)) = .ok (txt (lets two)) := by cases two <;> exact of_isTxt (by decide +kernel)
      rw [mSeq_eq, mB_eq, mC_eq, R_bind_ok, q, R_bind_ok, q2, R_bind_ok, anyOf_txt]
    obtain ⟨t6, lo⟩ := able_loop h hl w hw (.fz (.rol (S.map D.int))) (.fz (.int (k : Nat))) (.fz (.lst bad)) (lets two) [] s6 (by cases two <;> decide)
    rw [List.nil_append] at lo
    have ff : ((lets two).filter fun c => !ls.any fun d => whl d (w ++ [c])) = ableN two ls w := by
      unfold ableN
      refine List.filter_congr fun c _ => ?_
      congr 1
      refine any_same _ fun d hd => whl_next (h d hd) w c hw ?_
      rw [List.any_eq_false] at hany
      exact Bool.eq_false_iff.mpr (hany d hd)
    rw [ff] at lo
    have o3 : sFor (mSeq anyOf (mB addD (mC (.str ".")) (mB ixD (mVar 1) (mC (.int 0))))) (tgName 6) bd_law_5 [.fz (.rol (S.map D.int)), .fz (bk two ls), .fz (.int (k : Nat)), .fz (txt w), .fz (.lst bad), .ol [], s6, .un, .un, .un, .un, .un] = .nx [.fz (.rol (S.map D.int)), .fz (bk two ls), .fz (.int (k : Nat)), .fz (txt w), .fz (.lst bad), .ol ((ableN two ls w).map fun c => txt [c]), t6, .un, .un, .un, .un, .un] := by
      rw [sFor_eq, o2, R_to_ok]
      exact lo
    have c6 : (mPeekT (mTest (mB (cmpF .NotEq) (mFn 2 f_next_days (mCons (mVar 1) (mCons (mVar 3) mNil))) (mVar 5)))) [.fz (.rol (S.map D.int)), .fz (bk two ls), .fz (.int (k : Nat)), .fz (txt w), .fz (.lst bad), .ol ((ableN two ls w).map fun c => txt [c]), t6, .un, .un, .un, .un, .un] = .ok false := by
      have q0 : (mFn 2 f_next_days (mCons (mVar 1) (mCons (mVar 3) mNil))) [.fz (.rol (S.map D.int)), .fz (bk two ls), .fz (.int (k : Nat)), .fz (txt w), .fz (.lst bad), .fz (.lst ((ableN two ls w).map fun c => txt [c])), t6.peek, .un, .un, .un, .un, .un] = .ok (.lst ((ableN two ls w).map fun c => txt [c])) := nd
      have q1 : (mVar 5) [.fz (.rol (S.map D.int)), .fz (bk two ls), .fz (.int (k : Nat)), .fz (txt w), .fz (.lst bad), .fz (.lst ((ableN two ls w).map fun c => txt [c])), t6.peek, .un, .un, .un, .un, .un] = .ok (.lst ((ableN two ls w).map fun c => txt [c])) := rfl
      rw [mPeekT_eq]
      rw [show ([.fz (.rol (S.map D.int)), .fz (bk two ls), .fz (.int (k : Nat)), .fz (txt w), .fz (.lst bad), .ol ((ableN two ls w).map fun c => txt [c]), t6, .un, .un, .un, .un, .un] : Mir.Env).map Slot.peek = [.fz (.rol (S.map D.int)), .fz (bk two ls), .fz (.int (k : Nat)), .fz (txt w), .fz (.lst bad), .fz (.lst ((ableN two ls w).map fun c => txt [c])), t6.peek, .un, .un, .un, .un, .un] from rfl]
      rw [mTest_eq, mB_eq, q0, R_bind_ok, q1, R_bind_ok, cmp_ne]
      unfold ableN
      rw [ne_same_able, R_bind_ok, blOf_bl]
    rw [sSeq_eq, o1, seqR_nx, sSeq_eq, o3, seqR_nx, sIf_eq, c6, R_to_ok, if_neg (by decide), sSkip_eq]
    exact ⟨_, _, _, _, rfl⟩
theorem told_ok (a : Int) (me : Mir.Env → R D) (ρ : Mir.Env) (h : ∀ way ∈ ([0, 1, 2, 3] : List Int), me (ρ.set 10 (.fz (.int way))) = .ok (.int a)) : lcGo (tgName 10) mYes me ρ (rangeD 0 4) = .ok [.int a, .int a, .int a, .int a] := by
  have := lcGo_all (mt := tgName 10) (me := me) (ρ := ρ) (g := fun _ => D.int a) (rangeD 0 4) (fun d hd => by
    obtain ⟨j, hj, rfl⟩ := range_mem hd
    exact ⟨_, rfl, h _ (by simp; omega)⟩)
  rw [this]
  rfl
theorem law_true (S : List Int) (hS : S.length ≤ 63) : f_law [.rol (S.map D.int)] = .ok (.bl true) := by
  obtain ⟨two, ls, er, hl, h⟩ := raw_ok S 10 3 hS (by omega) (by omega) (by omega)
  have hl : ls.length ≤ 4 := by omega
  obtain ⟨ob, eo, ho⟩ := badbook_ok S 1 hS (by omega)
  obtain ⟨wc, ec, hwc⟩ := badcalendar_ok S 2 hS (by omega)
  have e1 := err_book wc (badbook_no ob ho)
  have e2 := err_cal (badcal_no (isbook_ok hl h) wc hwc)
  rw [show f_law [.rol (S.map D.int)] = outR (b_law [.fz (.rol (S.map D.int)), .un, .un, .un, .un, .un, .un, .un, .un, .un, .un, .un]) from runD_eq _ _ _]
  have a1 : (mFn 3 f__law_raw (mCons (mVar 0) (mCons (mC (.int 10)) (mCons (mC (.int 3)) mNil)))) [.fz (.rol (S.map D.int)), .un, .un, .un, .un, .un, .un, .un, .un, .un, .un, .un] = .ok (bk two ls) := er
  obtain ⟨ρ', lo, s2, s3, s4, s5, s6, rfl⟩ := forGo_nx (mt := tgName 2) (mb := bd_law_6) (I := fun ρ => ∃ s2 s3 s4 s5 s6, ρ = [.fz (.rol (S.map D.int)), .fz (bk two ls), s2, s3, s4, s5, s6, .un, .un, .un, .un, .un]) (rangeD 0 5) [.fz (.rol (S.map D.int)), .fz (bk two ls), .un, .un, .un, .un, .un, .un, .un, .un, .un, .un] ⟨_, _, _, _, _, rfl⟩ (fun d hd ρ ⟨s2, s3, s4, s5, s6, e⟩ => by
    obtain ⟨j, hj, rfl⟩ := range_mem hd
    obtain ⟨t3, t4, t5, t6, q⟩ := body_ok S hS h hl j hj s3 s4 s5 s6
    rw [e]
    refine ⟨[.fz (.rol (S.map D.int)), .fz (bk two ls), .fz (.int (0 + (j : Int))), s3, s4, s5, s6, .un, .un, .un, .un, .un], _, rfl, by rw [Int.zero_add]; exact q, _, _, _, _, _, rfl⟩)
  have a2 : sFor (mSeqs rng1 (mCons (mC (.int 5)) mNil)) (tgName 2) bd_law_6 [.fz (.rol (S.map D.int)), .fz (bk two ls), .un, .un, .un, .un, .un, .un, .un, .un, .un, .un] = .nx [.fz (.rol (S.map D.int)), .fz (bk two ls), s2, s3, s4, s5, s6, .un, .un, .un, .un, .un] := by
    have q : (mSeqs rng1 (mCons (mC (.int 5)) mNil)) ([.fz (.rol (S.map D.int)), .fz (bk two ls), .un, .un, .un, .un, .un, .un, .un, .un, .un, .un] : Mir.Env) = .ok (rangeD 0 5) := by
      rw [mSeqs_eq, mCons_eq, mC_eq, mNil_eq, R_bind_ok, R_bind_ok, R_bind_ok]
      unfold rng1
      exact if_pos ⟨by omega, by omega⟩
    rw [sFor_eq, q, R_to_ok]
    exact lo
  have a3 : (mTup (mCons (mFn 2 f__law_badbook (mCons (mVar 0) (mCons (mC (.int 1)) mNil))) (mCons (mFn 2 f__law_badcalendar (mCons (mVar 0) (mCons (mC (.int 2)) mNil))) mNil))) [.fz (.rol (S.map D.int)), .fz (bk two ls), s2, s3, s4, s5, s6, .un, .un, .un, .un, .un] = .ok (.tup [ob, wc]) := by
    have q1 : (mFn 2 f__law_badbook (mCons (mVar 0) (mCons (mC (.int 1)) mNil))) [.fz (.rol (S.map D.int)), .fz (bk two ls), s2, s3, s4, s5, s6, .un, .un, .un, .un, .un] = .ok ob := eo
    have q2 : (mFn 2 f__law_badcalendar (mCons (mVar 0) (mCons (mC (.int 2)) mNil))) [.fz (.rol (S.map D.int)), .fz (bk two ls), s2, s3, s4, s5, s6, .un, .un, .un, .un, .un] = .ok wc := ec
    rw [mTup_eq, mCons_eq, q1, mCons_eq, q2, R_bind_ok, R_bind_ok, mNil_eq, R_bind_ok, R_bind_ok, R_bind_ok, if_pos (lit_le _ (by simp))]
  have rg4 : ∀ ρ : Mir.Env, (mSeqs rng1 (mCons (mC (.int 4)) mNil)) ρ = .ok (rangeD 0 4) := fun ρ => by
    rw [mSeqs_eq, mCons_eq, mC_eq, mNil_eq, R_bind_ok, R_bind_ok, R_bind_ok]
    unfold rng1
    exact if_pos ⟨by omega, by omega⟩
  have a4 : (mLc [10] (mSeqs rng1 (mCons (mC (.int 4)) mNil)) (tgName 10) mYes el_law_7) [.fz (.rol (S.map D.int)), .fz (bk two ls), s2, s3, s4, s5, s6, .fz ob, .fz wc, .un, .un, .un] = .ok [.int 0, .int 0, .int 0, .int 0] := by
    rw [mLc_eq, rg4, R_bind_ok, range_len, if_pos (by decide)]
    rw [show wipeE ([.fz (.rol (S.map D.int)), .fz (bk two ls), s2, s3, s4, s5, s6, .fz ob, .fz wc, .un, .un, .un] : Mir.Env) [10] = [.fz (.rol (S.map D.int)), .fz (bk two ls), s2, s3, s4, s5, s6, .fz ob, .fz wc, .un, .un, .un] from rfl]
    rw [told_ok 0 el_law_7 [.fz (.rol (S.map D.int)), .fz (bk two ls), s2, s3, s4, s5, s6, .fz ob, .fz wc, .un, .un, .un] fun way hw => e1 way hw, nx_ok']
  have a5 : (mLc [10] (mSeqs rng1 (mCons (mC (.int 4)) mNil)) (tgName 10) mYes el_law_8) [.fz (.rol (S.map D.int)), .fz (bk two ls), s2, s3, s4, s5, s6, .fz ob, .fz wc, .fz (.lst [.int 0, .int 0, .int 0, .int 0]), .un, .un] = .ok [.int 1, .int 1, .int 1, .int 1] := by
    rw [mLc_eq, rg4, R_bind_ok, range_len, if_pos (by decide)]
    rw [show wipeE ([.fz (.rol (S.map D.int)), .fz (bk two ls), s2, s3, s4, s5, s6, .fz ob, .fz wc, .fz (.lst [.int 0, .int 0, .int 0, .int 0]), .un, .un] : Mir.Env) [10] = [.fz (.rol (S.map D.int)), .fz (bk two ls), s2, s3, s4, s5, s6, .fz ob, .fz wc, .fz (.lst [.int 0, .int 0, .int 0, .int 0]), .un, .un] from rfl]
    rw [told_ok 1 el_law_8 [.fz (.rol (S.map D.int)), .fz (bk two ls), s2, s3, s4, s5, s6, .fz ob, .fz wc, .fz (.lst [.int 0, .int 0, .int 0, .int 0]), .un, .un] fun way hw => e2 way hw, nx_ok']
  unfold b_law
  rw [sSeq_eq, sSet_eq, a1, R_to_ok, seqR_nx, sSeq_eq]
  rw [show ([.fz (.rol (S.map D.int)), .un, .un, .un, .un, .un, .un, .un, .un, .un, .un, .un] : Mir.Env).set 1 (.fz (bk two ls)) = [.fz (.rol (S.map D.int)), .fz (bk two ls), .un, .un, .un, .un, .un, .un, .un, .un, .un, .un] from rfl, a2, seqR_nx, sSeq_eq, sUnp_eq, a3, R_to_ok]
  rw [show tgTup 2 (tgCons (tgName 7) (tgCons (tgName 8) tgNil)) (.tup [ob, wc]) [.fz (.rol (S.map D.int)), .fz (bk two ls), s2, s3, s4, s5, s6, .un, .un, .un, .un, .un] = .ok [.fz (.rol (S.map D.int)), .fz (bk two ls), s2, s3, s4, s5, s6, .fz ob, .fz wc, .un, .un, .un] from rfl, nx_ok', R_to_ok, seqR_nx, sSeq_eq, sSet_eq, mFz_eq, a4, R_bind_ok, R_to_ok, seqR_nx]
  rw [show ([.fz (.rol (S.map D.int)), .fz (bk two ls), s2, s3, s4, s5, s6, .fz ob, .fz wc, .un, .un, .un] : Mir.Env).set 9 (.fz (.lst [.int 0, .int 0, .int 0, .int 0])) = [.fz (.rol (S.map D.int)), .fz (bk two ls), s2, s3, s4, s5, s6, .fz ob, .fz wc, .fz (.lst [.int 0, .int 0, .int 0, .int 0]), .un, .un] from rfl]
  have fin : (mB (cmpF .Eq) (mB addD (mVar 9) (mFz (mLc [10] (mSeqs rng1 (mCons (mC (.int 4)) mNil)) (tgName 10) mYes el_law_8))) (mB addD (mB mulD (mFz (mLst (mCons (mC (.int 0)) mNil))) (mC (.int 4))) (mB mulD (mFz (mLst (mCons (mC (.int 1)) mNil))) (mC (.int 4))))) [.fz (.rol (S.map D.int)), .fz (bk two ls), s2, s3, s4, s5, s6, .fz ob, .fz wc, .fz (.lst [.int 0, .int 0, .int 0, .int 0]), .un, .un] = .ok (.bl true) := by
    have q9 : (mVar 9) [.fz (.rol (S.map D.int)), .fz (bk two ls), s2, s3, s4, s5, s6, .fz ob, .fz wc, .fz (.lst [.int 0, .int 0, .int 0, .int 0]), .un, .un] = .ok (.lst [.int 0, .int 0, .int 0, .int 0]) := rfl
    have hr : ∀ ρ ρ2 : Mir.Env, (mB addD (mB mulD (mFz (mLst (mCons (mC (.int 0)) mNil))) (mC (.int 4))) (mB mulD (mFz (mLst (mCons (mC (.int 1)) mNil))) (mC (.int 4)))) ρ = (mB addD (mB mulD (mFz (mLst (mCons (mC (.int 0)) mNil))) (mC (.int 4))) (mB mulD (mFz (mLst (mCons (mC (.int 1)) mNil))) (mC (.int 4)))) ρ2 := fun _ _ => rfl
    have cl : ((addD (.lst [.int 0, .int 0, .int 0, .int 0]) (.lst [.int 1, .int 1, .int 1, .int 1])).bind fun x => ((mB addD (mB mulD (mFz (mLst (mCons (mC (.int 0)) mNil))) (mC (.int 4))) (mB mulD (mFz (mLst (mCons (mC (.int 1)) mNil))) (mC (.int 4)))) []).bind fun y => cmpF .Eq x y) = .ok (.bl true) := of_isBl (by decide +kernel)
    rw [mB_eq, hr _ [], mB_eq, q9, R_bind_ok, mFz_eq, a5, R_bind_ok, R_bind_ok]
    exact cl
  rw [sRet_eq, fin, R_to_ok, outR_ret]
end K03
namespace K03
open PySem PySem.Spec PyProof.Rows L2 Mir
theorem top_mk {w : World} {K : PySem.W.Frag} {h : Heap} {mg : Str → Option Value} (X : K.In h) (G : h.Ns mainGlobals mg)
    {f_is_book : Addr} {od_is_book an_is_book : Option Addr} {sl_is_book : Array (Option Value)} {oc_is_book kV_is_book dc_is_book pm_is_book cd_is_book ct_is_book : Value}
    {f_is_calendar : Addr} {od_is_calendar an_is_calendar : Option Addr} {sl_is_calendar : Array (Option Value)} {oc_is_calendar kV_is_calendar dc_is_calendar pm_is_calendar cd_is_calendar ct_is_calendar : Value}
    {f_check_book : Addr} {od_check_book an_check_book : Option Addr} {sl_check_book : Array (Option Value)} {oc_check_book kV_check_book dc_check_book pm_check_book cd_check_book ct_check_book : Value}
    {f_check_calendar : Addr} {od_check_calendar an_check_calendar : Option Addr} {sl_check_calendar : Array (Option Value)} {oc_check_calendar kV_check_calendar dc_check_calendar pm_check_calendar cd_check_calendar ct_check_calendar : Value}
    {f_day_letters : Addr} {od_day_letters an_day_letters : Option Addr} {sl_day_letters : Array (Option Value)} {oc_day_letters kV_day_letters dc_day_letters pm_day_letters cd_day_letters ct_day_letters : Value}
    {f_is_text_of : Addr} {od_is_text_of an_is_text_of : Option Addr} {sl_is_text_of : Array (Option Value)} {oc_is_text_of kV_is_text_of dc_is_text_of pm_is_text_of cd_is_text_of ct_is_text_of : Value}
    {f_is_pair : Addr} {od_is_pair an_is_pair : Option Addr} {sl_is_pair : Array (Option Value)} {oc_is_pair kV_is_pair dc_is_pair pm_is_pair cd_is_pair ct_is_pair : Value}
    {f_is_between : Addr} {od_is_between an_is_between : Option Addr} {sl_is_between : Array (Option Value)} {oc_is_between kV_is_between dc_is_between pm_is_between cd_is_between ct_is_between : Value}
    {f__limit_zones : Addr} {od__limit_zones an__limit_zones : Option Addr} {sl__limit_zones : Array (Option Value)} {oc__limit_zones kV__limit_zones dc__limit_zones pm__limit_zones cd__limit_zones ct__limit_zones : Value}
    {f__is_limit_within : Addr} {od__is_limit_within an__is_limit_within : Option Addr} {sl__is_limit_within : Array (Option Value)} {oc__is_limit_within kV__is_limit_within dc__is_limit_within pm__is_limit_within cd__is_limit_within ct__is_limit_within : Value}
    {f_is_allowed : Addr} {od_is_allowed an_is_allowed : Option Addr} {sl_is_allowed : Array (Option Value)} {oc_is_allowed kV_is_allowed dc_is_allowed pm_is_allowed cd_is_allowed ct_is_allowed : Value}
    {f_first_broken : Addr} {od_first_broken an_first_broken : Option Addr} {sl_first_broken : Array (Option Value)} {oc_first_broken kV_first_broken dc_first_broken pm_first_broken cd_first_broken ct_first_broken : Value}
    {f_past_of : Addr} {od_past_of an_past_of : Option Addr} {sl_past_of : Array (Option Value)} {oc_past_of kV_past_of dc_past_of pm_past_of cd_past_of ct_past_of : Value}
    {f_next_days : Addr} {od_next_days an_next_days : Option Addr} {sl_next_days : Array (Option Value)} {oc_next_days kV_next_days dc_next_days pm_next_days cd_next_days ct_next_days : Value}
    {f_check_allowed : Addr} {od_check_allowed an_check_allowed : Option Addr} {sl_check_allowed : Array (Option Value)} {oc_check_allowed kV_check_allowed dc_check_allowed pm_check_allowed cd_check_allowed ct_check_allowed : Value}
    {f_days_behind : Addr} {od_days_behind an_days_behind : Option Addr} {sl_days_behind : Array (Option Value)} {oc_days_behind kV_days_behind dc_days_behind pm_days_behind cd_days_behind ct_days_behind : Value}
    {f_limit_broken : Addr} {od_limit_broken an_limit_broken : Option Addr} {sl_limit_broken : Array (Option Value)} {oc_limit_broken kV_limit_broken dc_limit_broken pm_limit_broken cd_limit_broken ct_limit_broken : Value}
    {f__breaks : Addr} {od__breaks an__breaks : Option Addr} {sl__breaks : Array (Option Value)} {oc__breaks kV__breaks dc__breaks pm__breaks cd__breaks ct__breaks : Value}
    {f__law_drawn : Addr} {od__law_drawn an__law_drawn : Option Addr} {sl__law_drawn : Array (Option Value)} {oc__law_drawn kV__law_drawn dc__law_drawn pm__law_drawn cd__law_drawn ct__law_drawn : Value}
    {f__law_limit : Addr} {od__law_limit an__law_limit : Option Addr} {sl__law_limit : Array (Option Value)} {oc__law_limit kV__law_limit dc__law_limit pm__law_limit cd__law_limit ct__law_limit : Value}
    {f__law_breaks : Addr} {od__law_breaks an__law_breaks : Option Addr} {sl__law_breaks : Array (Option Value)} {oc__law_breaks kV__law_breaks dc__law_breaks pm__law_breaks cd__law_breaks ct__law_breaks : Value}
    {f__law_broken : Addr} {od__law_broken an__law_broken : Option Addr} {sl__law_broken : Array (Option Value)} {oc__law_broken kV__law_broken dc__law_broken pm__law_broken cd__law_broken ct__law_broken : Value}
    {f__law_days : Addr} {od__law_days an__law_days : Option Addr} {sl__law_days : Array (Option Value)} {oc__law_days kV__law_days dc__law_days pm__law_days cd__law_days ct__law_days : Value}
    {f__law_badbook : Addr} {od__law_badbook an__law_badbook : Option Addr} {sl__law_badbook : Array (Option Value)} {oc__law_badbook kV__law_badbook dc__law_badbook pm__law_badbook cd__law_badbook ct__law_badbook : Value}
    {f__law_badcalendar : Addr} {od__law_badcalendar an__law_badcalendar : Option Addr} {sl__law_badcalendar : Array (Option Value)} {oc__law_badcalendar kV__law_badcalendar dc__law_badcalendar pm__law_badcalendar cd__law_badcalendar ct__law_badcalendar : Value}
    {f__law_error : Addr} {od__law_error an__law_error : Option Addr} {sl__law_error : Array (Option Value)} {oc__law_error kV__law_error dc__law_error pm__law_error cd__law_error ct__law_error : Value}
    {f__law_whole : Addr} {od__law_whole an__law_whole : Option Addr} {sl__law_whole : Array (Option Value)} {oc__law_whole kV__law_whole dc__law_whole pm__law_whole cd__law_whole ct__law_whole : Value}
    {f__law_raw : Addr} {od__law_raw an__law_raw : Option Addr} {sl__law_raw : Array (Option Value)} {oc__law_raw kV__law_raw dc__law_raw pm__law_raw cd__law_raw ct__law_raw : Value}
    {f_law : Addr} {od_law an_law : Option Addr} {sl_law : Array (Option Value)} {oc_law kV_law dc_law pm_law cd_law ct_law : Value}
    {t_AWAY : Tok}
    {t_MOST_DAYS : Tok}
    {t_MOST_LIMITS : Tok}
    {t_PAST_DAYS : Tok}
    {t_FIRST_PAST : Tok}
    {C_StayError : Addr}
    {C_InvalidBook : Addr}
    {C_InvalidCalendar : Addr}
    {C_Broken : Addr}
    {D_BOUNDS : Addr} {es_BOUNDS : Array DictEntry} {n_BOUNDS : Nat}
    {u3 : Tok}
    {u4 : Tok}
    {p2 : Addr} {pd2 : Option Addr} {pn2 : Nat} {ps2 : Array (Option Value)}
    {u6 : Tok}
    {u7 : Tok}
    {p5 : Addr} {pd5 : Option Addr} {pn5 : Nat} {ps5 : Array (Option Value)}
    {p1 : Addr} {pd1 : Option Addr} {pn1 : Nat} {ps1 : Array (Option Value)}
    {u11 : Tok}
    {u12 : Tok}
    {p10 : Addr} {pd10 : Option Addr} {pn10 : Nat} {ps10 : Array (Option Value)}
    {p9 : Addr} {pd9 : Option Addr} {pn9 : Nat} {ps9 : Array (Option Value)}
    {u16 : Tok}
    {u17 : Tok}
    {p15 : Addr} {pd15 : Option Addr} {pn15 : Nat} {ps15 : Array (Option Value)}
    {p14 : Addr} {pd14 : Option Addr} {pn14 : Nat} {ps14 : Array (Option Value)}
    {u21 : Tok}
    {u22 : Tok}
    {p20 : Addr} {pd20 : Option Addr} {pn20 : Nat} {ps20 : Array (Option Value)}
    {u24 : Tok}
    {u25 : Tok}
    {p23 : Addr} {pd23 : Option Addr} {pn23 : Nat} {ps23 : Array (Option Value)}
    {p19 : Addr} {pd19 : Option Addr} {pn19 : Nat} {ps19 : Array (Option Value)}
    (a_is_book : PySem.W.nsIn K mainGlobals "is_book" = some (some (.ref f_is_book)))
    (l_is_book : K.lookup f_is_book = some ⟨oc_is_book, od_is_book, .func (PySem.W.fnOf "is_book" "is_book" (defArgs st_is_book) (defBody st_is_book) (defScope st_is_book) .none kV_is_book dc_is_book pm_is_book an_is_book cd_is_book ct_is_book), sl_is_book⟩)
    (c_is_book : PySem.W.codeIn K cd_is_book "is_book" = true)
    (k_is_book : PySem.W.keepIn K (.ref f_is_book) = true)
    (a_is_calendar : PySem.W.nsIn K mainGlobals "is_calendar" = some (some (.ref f_is_calendar)))
    (l_is_calendar : K.lookup f_is_calendar = some ⟨oc_is_calendar, od_is_calendar, .func (PySem.W.fnOf "is_calendar" "is_calendar" (defArgs st_is_calendar) (defBody st_is_calendar) (defScope st_is_calendar) .none kV_is_calendar dc_is_calendar pm_is_calendar an_is_calendar cd_is_calendar ct_is_calendar), sl_is_calendar⟩)
    (c_is_calendar : PySem.W.codeIn K cd_is_calendar "is_calendar" = true)
    (k_is_calendar : PySem.W.keepIn K (.ref f_is_calendar) = true)
    (a_check_book : PySem.W.nsIn K mainGlobals "check_book" = some (some (.ref f_check_book)))
    (l_check_book : K.lookup f_check_book = some ⟨oc_check_book, od_check_book, .func (PySem.W.fnOf "check_book" "check_book" (defArgs st_check_book) (defBody st_check_book) (defScope st_check_book) .none kV_check_book dc_check_book pm_check_book an_check_book cd_check_book ct_check_book), sl_check_book⟩)
    (c_check_book : PySem.W.codeIn K cd_check_book "check_book" = true)
    (k_check_book : PySem.W.keepIn K (.ref f_check_book) = true)
    (a_check_calendar : PySem.W.nsIn K mainGlobals "check_calendar" = some (some (.ref f_check_calendar)))
    (l_check_calendar : K.lookup f_check_calendar = some ⟨oc_check_calendar, od_check_calendar, .func (PySem.W.fnOf "check_calendar" "check_calendar" (defArgs st_check_calendar) (defBody st_check_calendar) (defScope st_check_calendar) .none kV_check_calendar dc_check_calendar pm_check_calendar an_check_calendar cd_check_calendar ct_check_calendar), sl_check_calendar⟩)
    (c_check_calendar : PySem.W.codeIn K cd_check_calendar "check_calendar" = true)
    (k_check_calendar : PySem.W.keepIn K (.ref f_check_calendar) = true)
    (a_day_letters : PySem.W.nsIn K mainGlobals "day_letters" = some (some (.ref f_day_letters)))
    (l_day_letters : K.lookup f_day_letters = some ⟨oc_day_letters, od_day_letters, .func (PySem.W.fnOf "day_letters" "day_letters" (defArgs st_day_letters) (defBody st_day_letters) (defScope st_day_letters) .none kV_day_letters dc_day_letters pm_day_letters an_day_letters cd_day_letters ct_day_letters), sl_day_letters⟩)
    (c_day_letters : PySem.W.codeIn K cd_day_letters "day_letters" = true)
    (k_day_letters : PySem.W.keepIn K (.ref f_day_letters) = true)
    (a_is_text_of : PySem.W.nsIn K mainGlobals "is_text_of" = some (some (.ref f_is_text_of)))
    (l_is_text_of : K.lookup f_is_text_of = some ⟨oc_is_text_of, od_is_text_of, .func (PySem.W.fnOf "is_text_of" "is_text_of" (defArgs st_is_text_of) (defBody st_is_text_of) (defScope st_is_text_of) .none kV_is_text_of dc_is_text_of pm_is_text_of an_is_text_of cd_is_text_of ct_is_text_of), sl_is_text_of⟩)
    (c_is_text_of : PySem.W.codeIn K cd_is_text_of "is_text_of" = true)
    (k_is_text_of : PySem.W.keepIn K (.ref f_is_text_of) = true)
    (a_is_pair : PySem.W.nsIn K mainGlobals "is_pair" = some (some (.ref f_is_pair)))
    (l_is_pair : K.lookup f_is_pair = some ⟨oc_is_pair, od_is_pair, .func (PySem.W.fnOf "is_pair" "is_pair" (defArgs st_is_pair) (defBody st_is_pair) (defScope st_is_pair) .none kV_is_pair dc_is_pair pm_is_pair an_is_pair cd_is_pair ct_is_pair), sl_is_pair⟩)
    (c_is_pair : PySem.W.codeIn K cd_is_pair "is_pair" = true)
    (k_is_pair : PySem.W.keepIn K (.ref f_is_pair) = true)
    (a_is_between : PySem.W.nsIn K mainGlobals "is_between" = some (some (.ref f_is_between)))
    (l_is_between : K.lookup f_is_between = some ⟨oc_is_between, od_is_between, .func (PySem.W.fnOf "is_between" "is_between" (defArgs st_is_between) (defBody st_is_between) (defScope st_is_between) .none kV_is_between dc_is_between pm_is_between an_is_between cd_is_between ct_is_between), sl_is_between⟩)
    (c_is_between : PySem.W.codeIn K cd_is_between "is_between" = true)
    (k_is_between : PySem.W.keepIn K (.ref f_is_between) = true)
    (a__limit_zones : PySem.W.nsIn K mainGlobals "_limit_zones" = some (some (.ref f__limit_zones)))
    (l__limit_zones : K.lookup f__limit_zones = some ⟨oc__limit_zones, od__limit_zones, .func (PySem.W.fnOf "_limit_zones" "_limit_zones" (defArgs st__limit_zones) (defBody st__limit_zones) (defScope st__limit_zones) .none kV__limit_zones dc__limit_zones pm__limit_zones an__limit_zones cd__limit_zones ct__limit_zones), sl__limit_zones⟩)
    (c__limit_zones : PySem.W.codeIn K cd__limit_zones "_limit_zones" = true)
    (k__limit_zones : PySem.W.keepIn K (.ref f__limit_zones) = true)
    (a__is_limit_within : PySem.W.nsIn K mainGlobals "_is_limit_within" = some (some (.ref f__is_limit_within)))
    (l__is_limit_within : K.lookup f__is_limit_within = some ⟨oc__is_limit_within, od__is_limit_within, .func (PySem.W.fnOf "_is_limit_within" "_is_limit_within" (defArgs st__is_limit_within) (defBody st__is_limit_within) (defScope st__is_limit_within) .none kV__is_limit_within dc__is_limit_within pm__is_limit_within an__is_limit_within cd__is_limit_within ct__is_limit_within), sl__is_limit_within⟩)
    (c__is_limit_within : PySem.W.codeIn K cd__is_limit_within "_is_limit_within" = true)
    (k__is_limit_within : PySem.W.keepIn K (.ref f__is_limit_within) = true)
    (a_is_allowed : PySem.W.nsIn K mainGlobals "is_allowed" = some (some (.ref f_is_allowed)))
    (l_is_allowed : K.lookup f_is_allowed = some ⟨oc_is_allowed, od_is_allowed, .func (PySem.W.fnOf "is_allowed" "is_allowed" (defArgs st_is_allowed) (defBody st_is_allowed) (defScope st_is_allowed) .none kV_is_allowed dc_is_allowed pm_is_allowed an_is_allowed cd_is_allowed ct_is_allowed), sl_is_allowed⟩)
    (c_is_allowed : PySem.W.codeIn K cd_is_allowed "is_allowed" = true)
    (k_is_allowed : PySem.W.keepIn K (.ref f_is_allowed) = true)
    (a_first_broken : PySem.W.nsIn K mainGlobals "first_broken" = some (some (.ref f_first_broken)))
    (l_first_broken : K.lookup f_first_broken = some ⟨oc_first_broken, od_first_broken, .func (PySem.W.fnOf "first_broken" "first_broken" (defArgs st_first_broken) (defBody st_first_broken) (defScope st_first_broken) .none kV_first_broken dc_first_broken pm_first_broken an_first_broken cd_first_broken ct_first_broken), sl_first_broken⟩)
    (c_first_broken : PySem.W.codeIn K cd_first_broken "first_broken" = true)
    (k_first_broken : PySem.W.keepIn K (.ref f_first_broken) = true)
    (a_past_of : PySem.W.nsIn K mainGlobals "past_of" = some (some (.ref f_past_of)))
    (l_past_of : K.lookup f_past_of = some ⟨oc_past_of, od_past_of, .func (PySem.W.fnOf "past_of" "past_of" (defArgs st_past_of) (defBody st_past_of) (defScope st_past_of) .none kV_past_of dc_past_of pm_past_of an_past_of cd_past_of ct_past_of), sl_past_of⟩)
    (c_past_of : PySem.W.codeIn K cd_past_of "past_of" = true)
    (k_past_of : PySem.W.keepIn K (.ref f_past_of) = true)
    (a_next_days : PySem.W.nsIn K mainGlobals "next_days" = some (some (.ref f_next_days)))
    (l_next_days : K.lookup f_next_days = some ⟨oc_next_days, od_next_days, .func (PySem.W.fnOf "next_days" "next_days" (defArgs st_next_days) (defBody st_next_days) (defScope st_next_days) .none kV_next_days dc_next_days pm_next_days an_next_days cd_next_days ct_next_days), sl_next_days⟩)
    (c_next_days : PySem.W.codeIn K cd_next_days "next_days" = true)
    (k_next_days : PySem.W.keepIn K (.ref f_next_days) = true)
    (a_check_allowed : PySem.W.nsIn K mainGlobals "check_allowed" = some (some (.ref f_check_allowed)))
    (l_check_allowed : K.lookup f_check_allowed = some ⟨oc_check_allowed, od_check_allowed, .func (PySem.W.fnOf "check_allowed" "check_allowed" (defArgs st_check_allowed) (defBody st_check_allowed) (defScope st_check_allowed) .none kV_check_allowed dc_check_allowed pm_check_allowed an_check_allowed cd_check_allowed ct_check_allowed), sl_check_allowed⟩)
    (c_check_allowed : PySem.W.codeIn K cd_check_allowed "check_allowed" = true)
    (k_check_allowed : PySem.W.keepIn K (.ref f_check_allowed) = true)
    (a_days_behind : PySem.W.nsIn K mainGlobals "days_behind" = some (some (.ref f_days_behind)))
    (l_days_behind : K.lookup f_days_behind = some ⟨oc_days_behind, od_days_behind, .func (PySem.W.fnOf "days_behind" "days_behind" (defArgs st_days_behind) (defBody st_days_behind) (defScope st_days_behind) .none kV_days_behind dc_days_behind pm_days_behind an_days_behind cd_days_behind ct_days_behind), sl_days_behind⟩)
    (c_days_behind : PySem.W.codeIn K cd_days_behind "days_behind" = true)
    (k_days_behind : PySem.W.keepIn K (.ref f_days_behind) = true)
    (a_limit_broken : PySem.W.nsIn K mainGlobals "limit_broken" = some (some (.ref f_limit_broken)))
    (l_limit_broken : K.lookup f_limit_broken = some ⟨oc_limit_broken, od_limit_broken, .func (PySem.W.fnOf "limit_broken" "limit_broken" (defArgs st_limit_broken) (defBody st_limit_broken) (defScope st_limit_broken) .none kV_limit_broken dc_limit_broken pm_limit_broken an_limit_broken cd_limit_broken ct_limit_broken), sl_limit_broken⟩)
    (c_limit_broken : PySem.W.codeIn K cd_limit_broken "limit_broken" = true)
    (k_limit_broken : PySem.W.keepIn K (.ref f_limit_broken) = true)
    (a__breaks : PySem.W.nsIn K mainGlobals "_breaks" = some (some (.ref f__breaks)))
    (l__breaks : K.lookup f__breaks = some ⟨oc__breaks, od__breaks, .func (PySem.W.fnOf "_breaks" "_breaks" (defArgs st__breaks) (defBody st__breaks) (defScope st__breaks) .none kV__breaks dc__breaks pm__breaks an__breaks cd__breaks ct__breaks), sl__breaks⟩)
    (c__breaks : PySem.W.codeIn K cd__breaks "_breaks" = true)
    (k__breaks : PySem.W.keepIn K (.ref f__breaks) = true)
    (a__law_drawn : PySem.W.nsIn K mainGlobals "_law_drawn" = some (some (.ref f__law_drawn)))
    (l__law_drawn : K.lookup f__law_drawn = some ⟨oc__law_drawn, od__law_drawn, .func (PySem.W.fnOf "_law_drawn" "_law_drawn" (defArgs st__law_drawn) (defBody st__law_drawn) (defScope st__law_drawn) .none kV__law_drawn dc__law_drawn pm__law_drawn an__law_drawn cd__law_drawn ct__law_drawn), sl__law_drawn⟩)
    (c__law_drawn : PySem.W.codeIn K cd__law_drawn "_law_drawn" = true)
    (k__law_drawn : PySem.W.keepIn K (.ref f__law_drawn) = true)
    (a__law_limit : PySem.W.nsIn K mainGlobals "_law_limit" = some (some (.ref f__law_limit)))
    (l__law_limit : K.lookup f__law_limit = some ⟨oc__law_limit, od__law_limit, .func (PySem.W.fnOf "_law_limit" "_law_limit" (defArgs st__law_limit) (defBody st__law_limit) (defScope st__law_limit) .none kV__law_limit dc__law_limit pm__law_limit an__law_limit cd__law_limit ct__law_limit), sl__law_limit⟩)
    (c__law_limit : PySem.W.codeIn K cd__law_limit "_law_limit" = true)
    (k__law_limit : PySem.W.keepIn K (.ref f__law_limit) = true)
    (a__law_breaks : PySem.W.nsIn K mainGlobals "_law_breaks" = some (some (.ref f__law_breaks)))
    (l__law_breaks : K.lookup f__law_breaks = some ⟨oc__law_breaks, od__law_breaks, .func (PySem.W.fnOf "_law_breaks" "_law_breaks" (defArgs st__law_breaks) (defBody st__law_breaks) (defScope st__law_breaks) .none kV__law_breaks dc__law_breaks pm__law_breaks an__law_breaks cd__law_breaks ct__law_breaks), sl__law_breaks⟩)
    (c__law_breaks : PySem.W.codeIn K cd__law_breaks "_law_breaks" = true)
    (k__law_breaks : PySem.W.keepIn K (.ref f__law_breaks) = true)
    (a__law_broken : PySem.W.nsIn K mainGlobals "_law_broken" = some (some (.ref f__law_broken)))
    (l__law_broken : K.lookup f__law_broken = some ⟨oc__law_broken, od__law_broken, .func (PySem.W.fnOf "_law_broken" "_law_broken" (defArgs st__law_broken) (defBody st__law_broken) (defScope st__law_broken) .none kV__law_broken dc__law_broken pm__law_broken an__law_broken cd__law_broken ct__law_broken), sl__law_broken⟩)
    (c__law_broken : PySem.W.codeIn K cd__law_broken "_law_broken" = true)
    (k__law_broken : PySem.W.keepIn K (.ref f__law_broken) = true)
    (a__law_days : PySem.W.nsIn K mainGlobals "_law_days" = some (some (.ref f__law_days)))
    (l__law_days : K.lookup f__law_days = some ⟨oc__law_days, od__law_days, .func (PySem.W.fnOf "_law_days" "_law_days" (defArgs st__law_days) (defBody st__law_days) (defScope st__law_days) .none kV__law_days dc__law_days pm__law_days an__law_days cd__law_days ct__law_days), sl__law_days⟩)
    (c__law_days : PySem.W.codeIn K cd__law_days "_law_days" = true)
    (k__law_days : PySem.W.keepIn K (.ref f__law_days) = true)
    (a__law_badbook : PySem.W.nsIn K mainGlobals "_law_badbook" = some (some (.ref f__law_badbook)))
    (l__law_badbook : K.lookup f__law_badbook = some ⟨oc__law_badbook, od__law_badbook, .func (PySem.W.fnOf "_law_badbook" "_law_badbook" (defArgs st__law_badbook) (defBody st__law_badbook) (defScope st__law_badbook) .none kV__law_badbook dc__law_badbook pm__law_badbook an__law_badbook cd__law_badbook ct__law_badbook), sl__law_badbook⟩)
    (c__law_badbook : PySem.W.codeIn K cd__law_badbook "_law_badbook" = true)
    (k__law_badbook : PySem.W.keepIn K (.ref f__law_badbook) = true)
    (a__law_badcalendar : PySem.W.nsIn K mainGlobals "_law_badcalendar" = some (some (.ref f__law_badcalendar)))
    (l__law_badcalendar : K.lookup f__law_badcalendar = some ⟨oc__law_badcalendar, od__law_badcalendar, .func (PySem.W.fnOf "_law_badcalendar" "_law_badcalendar" (defArgs st__law_badcalendar) (defBody st__law_badcalendar) (defScope st__law_badcalendar) .none kV__law_badcalendar dc__law_badcalendar pm__law_badcalendar an__law_badcalendar cd__law_badcalendar ct__law_badcalendar), sl__law_badcalendar⟩)
    (c__law_badcalendar : PySem.W.codeIn K cd__law_badcalendar "_law_badcalendar" = true)
    (k__law_badcalendar : PySem.W.keepIn K (.ref f__law_badcalendar) = true)
    (a__law_error : PySem.W.nsIn K mainGlobals "_law_error" = some (some (.ref f__law_error)))
    (l__law_error : K.lookup f__law_error = some ⟨oc__law_error, od__law_error, .func (PySem.W.fnOf "_law_error" "_law_error" (defArgs st__law_error) (defBody st__law_error) (defScope st__law_error) .none kV__law_error dc__law_error pm__law_error an__law_error cd__law_error ct__law_error), sl__law_error⟩)
    (c__law_error : PySem.W.codeIn K cd__law_error "_law_error" = true)
    (k__law_error : PySem.W.keepIn K (.ref f__law_error) = true)
    (a__law_whole : PySem.W.nsIn K mainGlobals "_law_whole" = some (some (.ref f__law_whole)))
    (l__law_whole : K.lookup f__law_whole = some ⟨oc__law_whole, od__law_whole, .func (PySem.W.fnOf "_law_whole" "_law_whole" (defArgs st__law_whole) (defBody st__law_whole) (defScope st__law_whole) .none kV__law_whole dc__law_whole pm__law_whole an__law_whole cd__law_whole ct__law_whole), sl__law_whole⟩)
    (c__law_whole : PySem.W.codeIn K cd__law_whole "_law_whole" = true)
    (k__law_whole : PySem.W.keepIn K (.ref f__law_whole) = true)
    (a__law_raw : PySem.W.nsIn K mainGlobals "_law_raw" = some (some (.ref f__law_raw)))
    (l__law_raw : K.lookup f__law_raw = some ⟨oc__law_raw, od__law_raw, .func (PySem.W.fnOf "_law_raw" "_law_raw" (defArgs st__law_raw) (defBody st__law_raw) (defScope st__law_raw) .none kV__law_raw dc__law_raw pm__law_raw an__law_raw cd__law_raw ct__law_raw), sl__law_raw⟩)
    (c__law_raw : PySem.W.codeIn K cd__law_raw "_law_raw" = true)
    (k__law_raw : PySem.W.keepIn K (.ref f__law_raw) = true)
    (a_law : PySem.W.nsIn K mainGlobals "law" = some (some (.ref f_law)))
    (l_law : K.lookup f_law = some ⟨oc_law, od_law, .func (PySem.W.fnOf "law" "law" (defArgs st_law) (defBody st_law) (defScope st_law) .none kV_law dc_law pm_law an_law cd_law ct_law), sl_law⟩)
    (c_law : PySem.W.codeIn K cd_law "law" = true)
    (k_law : PySem.W.keepIn K (.ref f_law) = true)
    (q_AWAY : PySem.W.nsIn K mainGlobals "AWAY" = some (some (.str "." t_AWAY)))
    (q_MOST_DAYS : PySem.W.nsIn K mainGlobals "MOST_DAYS" = some (some (.int 60 t_MOST_DAYS)))
    (q_MOST_LIMITS : PySem.W.nsIn K mainGlobals "MOST_LIMITS" = some (some (.int 4 t_MOST_LIMITS)))
    (q_PAST_DAYS : PySem.W.nsIn K mainGlobals "PAST_DAYS" = some (some (.int 5 t_PAST_DAYS)))
    (q_FIRST_PAST : PySem.W.nsIn K mainGlobals "FIRST_PAST" = some (some (.str "....." t_FIRST_PAST)))
    (ga_StayError : PySem.W.nsIn K mainGlobals "StayError" = some (some (.ref C_StayError)))
    (ge_StayError : PySem.W.excIn K C_StayError [.type "ValueError", .type "Exception", .type "BaseException", .type "object"] "ValueError.__new__" = true)
    (gk_StayError : PySem.W.keepIn K (.ref C_StayError) = true)
    (gs_StayError : PySem.W.subIn K (.ref C_StayError) (.type "BaseException") = some true)
    (gt_StayError : PySem.W.typeIn K (.ref C_StayError) = some (.type "type"))
    (ga_InvalidBook : PySem.W.nsIn K mainGlobals "InvalidBook" = some (some (.ref C_InvalidBook)))
    (ge_InvalidBook : PySem.W.excIn K C_InvalidBook [.type "ValueError", .type "Exception", .type "BaseException", .type "object"] "ValueError.__new__" = true)
    (gk_InvalidBook : PySem.W.keepIn K (.ref C_InvalidBook) = true)
    (gs_InvalidBook : PySem.W.subIn K (.ref C_InvalidBook) (.type "BaseException") = some true)
    (gt_InvalidBook : PySem.W.typeIn K (.ref C_InvalidBook) = some (.type "type"))
    (ga_InvalidCalendar : PySem.W.nsIn K mainGlobals "InvalidCalendar" = some (some (.ref C_InvalidCalendar)))
    (ge_InvalidCalendar : PySem.W.excIn K C_InvalidCalendar [.type "ValueError", .type "Exception", .type "BaseException", .type "object"] "ValueError.__new__" = true)
    (gk_InvalidCalendar : PySem.W.keepIn K (.ref C_InvalidCalendar) = true)
    (gs_InvalidCalendar : PySem.W.subIn K (.ref C_InvalidCalendar) (.type "BaseException") = some true)
    (gt_InvalidCalendar : PySem.W.typeIn K (.ref C_InvalidCalendar) = some (.type "type"))
    (ga_Broken : PySem.W.nsIn K mainGlobals "Broken" = some (some (.ref C_Broken)))
    (ge_Broken : PySem.W.excIn K C_Broken [.type "ValueError", .type "Exception", .type "BaseException", .type "object"] "ValueError.__new__" = true)
    (gk_Broken : PySem.W.keepIn K (.ref C_Broken) = true)
    (gs_Broken : PySem.W.subIn K (.ref C_Broken) (.type "BaseException") = some true)
    (gt_Broken : PySem.W.typeIn K (.ref C_Broken) = some (.type "type"))
    (ta_BOUNDS : PySem.W.nsIn K mainGlobals "BOUNDS" = some (some (.ref D_BOUNDS)))
    (tl_BOUNDS : K.lookup D_BOUNDS = some ⟨.type "dict", none, .dict es_BOUNDS n_BOUNDS, #[]⟩)
    (tk_BOUNDS : PySem.W.KeysLit w.params es_BOUNDS.toList)
    (tn_BOUNDS : (D_BOUNDS == sysModules) = false)
    (ti_BOUNDS_8 : PySem.W.nsIn K D_BOUNDS "most" = some (some (.ref p1)))
    (pl1 : K.lookup p1 = some ⟨.type "tuple", pd1, .seq #[.ref p2, .ref p5] pn1, ps1⟩)
    (pl2 : K.lookup p2 = some ⟨.type "tuple", pd2, .seq #[.int 0 u3, .int 6 u4] pn2, ps2⟩)
    (pl5 : K.lookup p5 = some ⟨.type "tuple", pd5, .seq #[.int 1 u6, .int 6 u7] pn5, ps5⟩)
    (ti_BOUNDS_13 : PySem.W.nsIn K D_BOUNDS "row" = some (some (.ref p9)))
    (pl9 : K.lookup p9 = some ⟨.type "tuple", pd9, .seq #[.ref p10] pn9, ps9⟩)
    (pl10 : K.lookup p10 = some ⟨.type "tuple", pd10, .seq #[.int 0 u11, .int 5 u12] pn10, ps10⟩)
    (ti_BOUNDS_18 : PySem.W.nsIn K D_BOUNDS "gap" = some (some (.ref p14)))
    (pl14 : K.lookup p14 = some ⟨.type "tuple", pd14, .seq #[.ref p15] pn14, ps14⟩)
    (pl15 : K.lookup p15 = some ⟨.type "tuple", pd15, .seq #[.int 1 u16, .int 5 u17] pn15, ps15⟩)
    (ti_BOUNDS_26 : PySem.W.nsIn K D_BOUNDS "starts" = some (some (.ref p19)))
    (pl19 : K.lookup p19 = some ⟨.type "tuple", pd19, .seq #[.ref p20, .ref p23] pn19, ps19⟩)
    (pl20 : K.lookup p20 = some ⟨.type "tuple", pd20, .seq #[.int 0 u21, .int 5 u22] pn20, ps20⟩)
    (pl23 : K.lookup p23 = some ⟨.type "tuple", pd23, .seq #[.int 1 u24, .int 5 u25] pn23, ps23⟩)
    (ti_BOUNDS_27 : PySem.W.nsIn K D_BOUNDS "stay" = some none)
    (hg_InvalidBook : PySem.W.findIn K (.ref C_InvalidBook) "__getattribute__" = some (some (.builtin "BaseException.__getattribute__")))
    (hk_InvalidBook : PySem.W.findIn K (.ref C_InvalidBook) "__getattr__" = some none)
    (hd_InvalidBook : PySem.W.hasDictIn K C_InvalidBook = true)
    (ha_InvalidBook : PySem.W.findIn K (.ref C_InvalidBook) "__class__" = some (some (.builtin "object.__class__")))
    (hm_InvalidBook : PySem.W.mroIn K C_InvalidBook (.type "object") = some true)
    (hb_InvalidBook : PySem.W.subIn K (.ref C_InvalidBook) (.ref C_StayError) = some true)
    (hi_InvalidBook_InvalidBook : PySem.W.subIn K (.ref C_InvalidBook) (.ref C_InvalidBook) = some true)
    (hi_InvalidBook_InvalidCalendar : PySem.W.subIn K (.ref C_InvalidBook) (.ref C_InvalidCalendar) = some false)
    (hi_InvalidBook_Broken : PySem.W.subIn K (.ref C_InvalidBook) (.ref C_Broken) = some false)
    (hg_InvalidCalendar : PySem.W.findIn K (.ref C_InvalidCalendar) "__getattribute__" = some (some (.builtin "BaseException.__getattribute__")))
    (hk_InvalidCalendar : PySem.W.findIn K (.ref C_InvalidCalendar) "__getattr__" = some none)
    (hd_InvalidCalendar : PySem.W.hasDictIn K C_InvalidCalendar = true)
    (ha_InvalidCalendar : PySem.W.findIn K (.ref C_InvalidCalendar) "__class__" = some (some (.builtin "object.__class__")))
    (hm_InvalidCalendar : PySem.W.mroIn K C_InvalidCalendar (.type "object") = some true)
    (hb_InvalidCalendar : PySem.W.subIn K (.ref C_InvalidCalendar) (.ref C_StayError) = some true)
    (hi_InvalidCalendar_InvalidBook : PySem.W.subIn K (.ref C_InvalidCalendar) (.ref C_InvalidBook) = some false)
    (hi_InvalidCalendar_InvalidCalendar : PySem.W.subIn K (.ref C_InvalidCalendar) (.ref C_InvalidCalendar) = some true)
    (hi_InvalidCalendar_Broken : PySem.W.subIn K (.ref C_InvalidCalendar) (.ref C_Broken) = some false)
    (hg_Broken : PySem.W.findIn K (.ref C_Broken) "__getattribute__" = some (some (.builtin "BaseException.__getattribute__")))
    (hk_Broken : PySem.W.findIn K (.ref C_Broken) "__getattr__" = some none)
    (hd_Broken : PySem.W.hasDictIn K C_Broken = true)
    (ha_Broken : PySem.W.findIn K (.ref C_Broken) "__class__" = some (some (.builtin "object.__class__")))
    (hm_Broken : PySem.W.mroIn K C_Broken (.type "object") = some true)
    (hb_Broken : PySem.W.subIn K (.ref C_Broken) (.ref C_StayError) = some true)
    (hi_Broken_InvalidBook : PySem.W.subIn K (.ref C_Broken) (.ref C_InvalidBook) = some false)
    (hi_Broken_InvalidCalendar : PySem.W.subIn K (.ref C_Broken) (.ref C_InvalidCalendar) = some false)
    (hi_Broken_Broken : PySem.W.subIn K (.ref C_Broken) (.ref C_Broken) = some true)
    (hd_StayError : PySem.W.hasDictIn K C_StayError = true)
    (hn_1 : PySem.W.specialIn K (.builtin "object.__class__") "__get__" = some (some (.builtin "getset_descriptor.__get__")))
    (ht_1 : PySem.W.takesIn K (.builtin "object.__class__") = some true)
    (z_all : PySem.W.nsIn K mainGlobals "all" = some none)
    (z_any : PySem.W.nsIn K mainGlobals "any" = some none)
    (z_bool : PySem.W.nsIn K mainGlobals "bool" = some none)
    (z_enumerate : PySem.W.nsIn K mainGlobals "enumerate" = some none)
    (z_int : PySem.W.nsIn K mainGlobals "int" = some none)
    (z_isinstance : PySem.W.nsIn K mainGlobals "isinstance" = some none)
    (z_len : PySem.W.nsIn K mainGlobals "len" = some none)
    (z_range : PySem.W.nsIn K mainGlobals "range" = some none)
    (z_str : PySem.W.nsIn K mainGlobals "str" = some none)
    (z_sum : PySem.W.nsIn K mainGlobals "sum" = some none)
    (z_tuple : PySem.W.nsIn K mainGlobals "tuple" = some none)
    (z_zip : PySem.W.nsIn K mainGlobals "zip" = some none) : Top K w mg where
  d_is_book := ⟨f_is_book, _, fun_mk (st := st_is_book) l_is_book c_is_book k_is_book, (fun_mk (st := st_is_book) l_is_book c_is_book k_is_book).binds (ps := ["candidate"]) fun _ _ _ _ _ _ us hl => match us, hl with | [_], _ => rfl, PySem.W.mg_of X G a_is_book⟩
  d_is_calendar := ⟨f_is_calendar, _, fun_mk (st := st_is_calendar) l_is_calendar c_is_calendar k_is_calendar, (fun_mk (st := st_is_calendar) l_is_calendar c_is_calendar k_is_calendar).binds (ps := ["book", "candidate"]) fun _ _ _ _ _ _ us hl => match us, hl with | [_, _], _ => rfl, PySem.W.mg_of X G a_is_calendar⟩
  d_check_book := ⟨f_check_book, _, fun_mk (st := st_check_book) l_check_book c_check_book k_check_book, (fun_mk (st := st_check_book) l_check_book c_check_book k_check_book).binds (ps := ["book"]) fun _ _ _ _ _ _ us hl => match us, hl with | [_], _ => rfl, PySem.W.mg_of X G a_check_book⟩
  d_check_calendar := ⟨f_check_calendar, _, fun_mk (st := st_check_calendar) l_check_calendar c_check_calendar k_check_calendar, (fun_mk (st := st_check_calendar) l_check_calendar c_check_calendar k_check_calendar).binds (ps := ["book", "calendar"]) fun _ _ _ _ _ _ us hl => match us, hl with | [_, _], _ => rfl, PySem.W.mg_of X G a_check_calendar⟩
  d_day_letters := ⟨f_day_letters, _, fun_mk (st := st_day_letters) l_day_letters c_day_letters k_day_letters, (fun_mk (st := st_day_letters) l_day_letters c_day_letters k_day_letters).binds (ps := ["book"]) fun _ _ _ _ _ _ us hl => match us, hl with | [_], _ => rfl, PySem.W.mg_of X G a_day_letters⟩
  d_is_text_of := ⟨f_is_text_of, _, fun_mk (st := st_is_text_of) l_is_text_of c_is_text_of k_is_text_of, (fun_mk (st := st_is_text_of) l_is_text_of c_is_text_of k_is_text_of).binds (ps := ["letters", "most", "candidate"]) fun _ _ _ _ _ _ us hl => match us, hl with | [_, _, _], _ => rfl, PySem.W.mg_of X G a_is_text_of⟩
  d_is_pair := ⟨f_is_pair, _, fun_mk (st := st_is_pair) l_is_pair c_is_pair k_is_pair, (fun_mk (st := st_is_pair) l_is_pair c_is_pair k_is_pair).binds (ps := ["candidate"]) fun _ _ _ _ _ _ us hl => match us, hl with | [_], _ => rfl, PySem.W.mg_of X G a_is_pair⟩
  d_is_between := ⟨f_is_between, _, fun_mk (st := st_is_between) l_is_between c_is_between k_is_between, (fun_mk (st := st_is_between) l_is_between c_is_between k_is_between).binds (ps := ["candidate", "low", "high"]) fun _ _ _ _ _ _ us hl => match us, hl with | [_, _, _], _ => rfl, PySem.W.mg_of X G a_is_between⟩
  d__limit_zones := ⟨f__limit_zones, _, fun_mk (st := st__limit_zones) l__limit_zones c__limit_zones k__limit_zones, (fun_mk (st := st__limit_zones) l__limit_zones c__limit_zones k__limit_zones).binds (ps := ["zones"]) fun _ _ _ _ _ _ us hl => match us, hl with | [_], _ => rfl, PySem.W.mg_of X G a__limit_zones⟩
  d__is_limit_within := ⟨f__is_limit_within, _, fun_mk (st := st__is_limit_within) l__is_limit_within c__is_limit_within k__is_limit_within, (fun_mk (st := st__is_limit_within) l__is_limit_within c__is_limit_within k__is_limit_within).binds (ps := ["candidate", "zones"]) fun _ _ _ _ _ _ us hl => match us, hl with | [_, _], _ => rfl, PySem.W.mg_of X G a__is_limit_within⟩
  d_is_allowed := ⟨f_is_allowed, _, fun_mk (st := st_is_allowed) l_is_allowed c_is_allowed k_is_allowed, (fun_mk (st := st_is_allowed) l_is_allowed c_is_allowed k_is_allowed).binds (ps := ["book", "calendar"]) fun _ _ _ _ _ _ us hl => match us, hl with | [_, _], _ => rfl, PySem.W.mg_of X G a_is_allowed⟩
  d_first_broken := ⟨f_first_broken, _, fun_mk (st := st_first_broken) l_first_broken c_first_broken k_first_broken, (fun_mk (st := st_first_broken) l_first_broken c_first_broken k_first_broken).binds (ps := ["book", "calendar"]) fun _ _ _ _ _ _ us hl => match us, hl with | [_, _], _ => rfl, PySem.W.mg_of X G a_first_broken⟩
  d_past_of := ⟨f_past_of, _, fun_mk (st := st_past_of) l_past_of c_past_of k_past_of, (fun_mk (st := st_past_of) l_past_of c_past_of k_past_of).binds (ps := ["book", "calendar"]) fun _ _ _ _ _ _ us hl => match us, hl with | [_, _], _ => rfl, PySem.W.mg_of X G a_past_of⟩
  d_next_days := ⟨f_next_days, _, fun_mk (st := st_next_days) l_next_days c_next_days k_next_days, (fun_mk (st := st_next_days) l_next_days c_next_days k_next_days).binds (ps := ["book", "calendar"]) fun _ _ _ _ _ _ us hl => match us, hl with | [_, _], _ => rfl, PySem.W.mg_of X G a_next_days⟩
  d_check_allowed := ⟨f_check_allowed, _, fun_mk (st := st_check_allowed) l_check_allowed c_check_allowed k_check_allowed, (fun_mk (st := st_check_allowed) l_check_allowed c_check_allowed k_check_allowed).binds (ps := ["book", "calendar"]) fun _ _ _ _ _ _ us hl => match us, hl with | [_, _], _ => rfl, PySem.W.mg_of X G a_check_allowed⟩
  d_days_behind := ⟨f_days_behind, _, fun_mk (st := st_days_behind) l_days_behind c_days_behind k_days_behind, (fun_mk (st := st_days_behind) l_days_behind c_days_behind k_days_behind).binds (ps := ["book", "past"]) fun _ _ _ _ _ _ us hl => match us, hl with | [_, _], _ => rfl, PySem.W.mg_of X G a_days_behind⟩
  d_limit_broken := ⟨f_limit_broken, _, fun_mk (st := st_limit_broken) l_limit_broken c_limit_broken k_limit_broken, (fun_mk (st := st_limit_broken) l_limit_broken c_limit_broken k_limit_broken).binds (ps := ["book", "past", "day"]) fun _ _ _ _ _ _ us hl => match us, hl with | [_, _, _], _ => rfl, PySem.W.mg_of X G a_limit_broken⟩
  d__breaks := ⟨f__breaks, _, fun_mk (st := st__breaks) l__breaks c__breaks k__breaks, (fun_mk (st := st__breaks) l__breaks c__breaks k__breaks).binds (ps := ["limit", "days"]) fun _ _ _ _ _ _ us hl => match us, hl with | [_, _], _ => rfl, PySem.W.mg_of X G a__breaks⟩
  d__law_drawn := ⟨f__law_drawn, _, fun_mk (st := st__law_drawn) l__law_drawn c__law_drawn k__law_drawn, (fun_mk (st := st__law_drawn) l__law_drawn c__law_drawn k__law_drawn).binds (ps := ["_law_script", "_law_k", "_law_many"]) fun _ _ _ _ _ _ us hl => match us, hl with | [_, _, _], _ => rfl, PySem.W.mg_of X G a__law_drawn⟩
  d__law_limit := ⟨f__law_limit, _, fun_mk (st := st__law_limit) l__law_limit c__law_limit k__law_limit, (fun_mk (st := st__law_limit) l__law_limit c__law_limit k__law_limit).binds (ps := ["_law_script", "_law_at", "_law_zones"]) fun _ _ _ _ _ _ us hl => match us, hl with | [_, _, _], _ => rfl, PySem.W.mg_of X G a__law_limit⟩
  d__law_breaks := ⟨f__law_breaks, _, fun_mk (st := st__law_breaks) l__law_breaks c__law_breaks k__law_breaks, (fun_mk (st := st__law_breaks) l__law_breaks c__law_breaks k__law_breaks).binds (ps := ["_law_limit_here", "_law_days_here"]) fun _ _ _ _ _ _ us hl => match us, hl with | [_, _], _ => rfl, PySem.W.mg_of X G a__law_breaks⟩
  d__law_broken := ⟨f__law_broken, _, fun_mk (st := st__law_broken) l__law_broken c__law_broken k__law_broken, (fun_mk (st := st__law_broken) l__law_broken c__law_broken k__law_broken).binds (ps := ["_law_book", "_law_calendar"]) fun _ _ _ _ _ _ us hl => match us, hl with | [_, _], _ => rfl, PySem.W.mg_of X G a__law_broken⟩
  d__law_days := ⟨f__law_days, _, fun_mk (st := st__law_days) l__law_days c__law_days k__law_days, (fun_mk (st := st__law_days) l__law_days c__law_days k__law_days).binds (ps := ["_law_script", "_law_at", "_law_book", "_law_most"]) fun _ _ _ _ _ _ us hl => match us, hl with | [_, _, _, _], _ => rfl, PySem.W.mg_of X G a__law_days⟩
  d__law_badbook := ⟨f__law_badbook, _, fun_mk (st := st__law_badbook) l__law_badbook c__law_badbook k__law_badbook, (fun_mk (st := st__law_badbook) l__law_badbook c__law_badbook k__law_badbook).binds (ps := ["_law_script", "_law_at"]) fun _ _ _ _ _ _ us hl => match us, hl with | [_, _], _ => rfl, PySem.W.mg_of X G a__law_badbook⟩
  d__law_badcalendar := ⟨f__law_badcalendar, _, fun_mk (st := st__law_badcalendar) l__law_badcalendar c__law_badcalendar k__law_badcalendar, (fun_mk (st := st__law_badcalendar) l__law_badcalendar c__law_badcalendar k__law_badcalendar).binds (ps := ["_law_script", "_law_at"]) fun _ _ _ _ _ _ us hl => match us, hl with | [_, _], _ => rfl, PySem.W.mg_of X G a__law_badcalendar⟩
  d__law_error := ⟨f__law_error, _, fun_mk (st := st__law_error) l__law_error c__law_error k__law_error, (fun_mk (st := st__law_error) l__law_error c__law_error k__law_error).binds (ps := ["_law_way", "_law_one", "_law_two"]) fun _ _ _ _ _ _ us hl => match us, hl with | [_, _, _], _ => rfl, PySem.W.mg_of X G a__law_error⟩
  d__law_whole := ⟨f__law_whole, _, fun_mk (st := st__law_whole) l__law_whole c__law_whole k__law_whole, (fun_mk (st := st__law_whole) l__law_whole c__law_whole k__law_whole).binds (ps := ["_law_limit_here", "_law_calendar"]) fun _ _ _ _ _ _ us hl => match us, hl with | [_, _], _ => rfl, PySem.W.mg_of X G a__law_whole⟩
  d__law_raw := ⟨f__law_raw, _, fun_mk (st := st__law_raw) l__law_raw c__law_raw k__law_raw, (fun_mk (st := st__law_raw) l__law_raw c__law_raw k__law_raw).binds (ps := ["_law_script", "_law_at", "_law_most"]) fun _ _ _ _ _ _ us hl => match us, hl with | [_, _, _], _ => rfl, PySem.W.mg_of X G a__law_raw⟩
  d_law := ⟨f_law, _, fun_mk (st := st_law) l_law c_law k_law, (fun_mk (st := st_law) l_law c_law k_law).binds (ps := ["_law_script"]) fun _ _ _ _ _ _ us hl => match us, hl with | [_], _ => rfl, PySem.W.mg_of X G a_law⟩
  c_AWAY := ⟨_, PySem.W.mg_of X G q_AWAY⟩
  c_MOST_DAYS := ⟨_, PySem.W.mg_of X G q_MOST_DAYS⟩
  c_MOST_LIMITS := ⟨_, PySem.W.mg_of X G q_MOST_LIMITS⟩
  c_PAST_DAYS := ⟨_, PySem.W.mg_of X G q_PAST_DAYS⟩
  c_FIRST_PAST := ⟨_, PySem.W.mg_of X G q_FIRST_PAST⟩
  x_StayError := ⟨C_StayError, PySem.W.mg_of X G ga_StayError, ge_StayError, gk_StayError, gs_StayError, gt_StayError⟩
  x_InvalidBook := ⟨C_InvalidBook, PySem.W.mg_of X G ga_InvalidBook, ge_InvalidBook, gk_InvalidBook, gs_InvalidBook, gt_InvalidBook⟩
  x_InvalidCalendar := ⟨C_InvalidCalendar, PySem.W.mg_of X G ga_InvalidCalendar, ge_InvalidCalendar, gk_InvalidCalendar, gs_InvalidCalendar, gt_InvalidCalendar⟩
  x_Broken := ⟨C_Broken, PySem.W.mg_of X G ga_Broken, ge_Broken, gk_Broken, gs_Broken, gt_Broken⟩
  t_BOUNDS := ⟨D_BOUNDS, es_BOUNDS, n_BOUNDS, PySem.W.mg_of X G ta_BOUNDS, ⟨tl_BOUNDS, tk_BOUNDS, tn_BOUNDS⟩, fun z o h => by
      unfold tab_BOUNDS at h
      rw [List.lookup_cons] at h; split at h; · (rename_i e; cases (eq_of_beq e); cases h; exact .inr ⟨_, _, (.ref p1), rfl, ti_BOUNDS_8, rfl, (.tup (xs := [(.ref p2), (.ref p5)]) (.inr ⟨_, _, _, pl1, rfl, rfl, (by rw [sizeLine_eq]; exact (by decide : 2 ≤ 16777216)), (.cons rfl (.cons rfl .nil))⟩) (.cons (.tup (xs := [(.int 0), (.int 6)]) (.inr ⟨_, _, _, pl2, rfl, rfl, (by rw [sizeLine_eq]; exact (by decide : 2 ≤ 16777216)), (.cons ⟨_, rfl⟩ (.cons ⟨_, rfl⟩ .nil))⟩) (.cons (.int _) (.cons (.int _) .nil))) (.cons (.tup (xs := [(.int 1), (.int 6)]) (.inr ⟨_, _, _, pl5, rfl, rfl, (by rw [sizeLine_eq]; exact (by decide : 2 ≤ 16777216)), (.cons ⟨_, rfl⟩ (.cons ⟨_, rfl⟩ .nil))⟩) (.cons (.int _) (.cons (.int _) .nil))) .nil)))⟩)
      rw [List.lookup_cons] at h; split at h; · (rename_i e; cases (eq_of_beq e); cases h; exact .inr ⟨_, _, (.ref p9), rfl, ti_BOUNDS_13, rfl, (.tup (xs := [(.ref p10)]) (.inr ⟨_, _, _, pl9, rfl, rfl, (by rw [sizeLine_eq]; exact (by decide : 1 ≤ 16777216)), (.cons rfl .nil)⟩) (.cons (.tup (xs := [(.int 0), (.int 5)]) (.inr ⟨_, _, _, pl10, rfl, rfl, (by rw [sizeLine_eq]; exact (by decide : 2 ≤ 16777216)), (.cons ⟨_, rfl⟩ (.cons ⟨_, rfl⟩ .nil))⟩) (.cons (.int _) (.cons (.int _) .nil))) .nil))⟩)
      rw [List.lookup_cons] at h; split at h; · (rename_i e; cases (eq_of_beq e); cases h; exact .inr ⟨_, _, (.ref p14), rfl, ti_BOUNDS_18, rfl, (.tup (xs := [(.ref p15)]) (.inr ⟨_, _, _, pl14, rfl, rfl, (by rw [sizeLine_eq]; exact (by decide : 1 ≤ 16777216)), (.cons rfl .nil)⟩) (.cons (.tup (xs := [(.int 1), (.int 5)]) (.inr ⟨_, _, _, pl15, rfl, rfl, (by rw [sizeLine_eq]; exact (by decide : 2 ≤ 16777216)), (.cons ⟨_, rfl⟩ (.cons ⟨_, rfl⟩ .nil))⟩) (.cons (.int _) (.cons (.int _) .nil))) .nil))⟩)
      rw [List.lookup_cons] at h; split at h; · (rename_i e; cases (eq_of_beq e); cases h; exact .inr ⟨_, _, (.ref p19), rfl, ti_BOUNDS_26, rfl, (.tup (xs := [(.ref p20), (.ref p23)]) (.inr ⟨_, _, _, pl19, rfl, rfl, (by rw [sizeLine_eq]; exact (by decide : 2 ≤ 16777216)), (.cons rfl (.cons rfl .nil))⟩) (.cons (.tup (xs := [(.int 0), (.int 5)]) (.inr ⟨_, _, _, pl20, rfl, rfl, (by rw [sizeLine_eq]; exact (by decide : 2 ≤ 16777216)), (.cons ⟨_, rfl⟩ (.cons ⟨_, rfl⟩ .nil))⟩) (.cons (.int _) (.cons (.int _) .nil))) (.cons (.tup (xs := [(.int 1), (.int 5)]) (.inr ⟨_, _, _, pl23, rfl, rfl, (by rw [sizeLine_eq]; exact (by decide : 2 ≤ 16777216)), (.cons ⟨_, rfl⟩ (.cons ⟨_, rfl⟩ .nil))⟩) (.cons (.int _) (.cons (.int _) .nil))) .nil)))⟩)
      rw [List.lookup_cons] at h; split at h; · (rename_i e; cases (eq_of_beq e); cases h; exact .inl ⟨rfl, ti_BOUNDS_27⟩)
      cases h⟩
  try__law_error := ⟨by
      refine ⟨C_StayError, PySem.W.mg_of X G ga_StayError, fun c hc => ?_⟩
      simp only [List.mem_cons, List.not_mem_nil, or_false] at hc
      rcases hc with rfl | rfl | rfl
      · refine ⟨C_InvalidBook, PySem.W.mg_of X G ga_InvalidBook, ⟨hg_InvalidBook, hk_InvalidBook, gs_InvalidBook, hd_InvalidBook, ha_InvalidBook, hn_1, ht_1, hm_InvalidBook⟩, PySem.W.exm_ref gs_StayError hd_StayError gt_StayError hb_InvalidBook, fun c2 hc2 => ?_⟩
        simp only [List.mem_cons, List.not_mem_nil, or_false] at hc2
        rcases hc2 with rfl | rfl | rfl
        · exact ⟨C_InvalidBook, PySem.W.mg_of X G ga_InvalidBook, kit_self⟩
        · exact ⟨C_InvalidCalendar, PySem.W.mg_of X G ga_InvalidCalendar, kit_other hi_InvalidCalendar_InvalidCalendar hi_InvalidBook_InvalidCalendar gt_InvalidCalendar hd_InvalidCalendar⟩
        · exact ⟨C_Broken, PySem.W.mg_of X G ga_Broken, kit_other hi_Broken_Broken hi_InvalidBook_Broken gt_Broken hd_Broken⟩
      · refine ⟨C_InvalidCalendar, PySem.W.mg_of X G ga_InvalidCalendar, ⟨hg_InvalidCalendar, hk_InvalidCalendar, gs_InvalidCalendar, hd_InvalidCalendar, ha_InvalidCalendar, hn_1, ht_1, hm_InvalidCalendar⟩, PySem.W.exm_ref gs_StayError hd_StayError gt_StayError hb_InvalidCalendar, fun c2 hc2 => ?_⟩
        simp only [List.mem_cons, List.not_mem_nil, or_false] at hc2
        rcases hc2 with rfl | rfl | rfl
        · exact ⟨C_InvalidBook, PySem.W.mg_of X G ga_InvalidBook, kit_other hi_InvalidBook_InvalidBook hi_InvalidCalendar_InvalidBook gt_InvalidBook hd_InvalidBook⟩
        · exact ⟨C_InvalidCalendar, PySem.W.mg_of X G ga_InvalidCalendar, kit_self⟩
        · exact ⟨C_Broken, PySem.W.mg_of X G ga_Broken, kit_other hi_Broken_Broken hi_InvalidCalendar_Broken gt_Broken hd_Broken⟩
      · refine ⟨C_Broken, PySem.W.mg_of X G ga_Broken, ⟨hg_Broken, hk_Broken, gs_Broken, hd_Broken, ha_Broken, hn_1, ht_1, hm_Broken⟩, PySem.W.exm_ref gs_StayError hd_StayError gt_StayError hb_Broken, fun c2 hc2 => ?_⟩
        simp only [List.mem_cons, List.not_mem_nil, or_false] at hc2
        rcases hc2 with rfl | rfl | rfl
        · exact ⟨C_InvalidBook, PySem.W.mg_of X G ga_InvalidBook, kit_other hi_InvalidBook_InvalidBook hi_Broken_InvalidBook gt_InvalidBook hd_InvalidBook⟩
        · exact ⟨C_InvalidCalendar, PySem.W.mg_of X G ga_InvalidCalendar, kit_other hi_InvalidCalendar_InvalidCalendar hi_Broken_InvalidCalendar gt_InvalidCalendar hd_InvalidCalendar⟩
        · exact ⟨C_Broken, PySem.W.mg_of X G ga_Broken, kit_self⟩⟩
  z_all := PySem.W.mg_none_of X G z_all
  z_any := PySem.W.mg_none_of X G z_any
  z_bool := PySem.W.mg_none_of X G z_bool
  z_enumerate := PySem.W.mg_none_of X G z_enumerate
  z_int := PySem.W.mg_none_of X G z_int
  z_isinstance := PySem.W.mg_none_of X G z_isinstance
  z_len := PySem.W.mg_none_of X G z_len
  z_range := PySem.W.mg_none_of X G z_range
  z_str := PySem.W.mg_none_of X G z_str
  z_sum := PySem.W.mg_none_of X G z_sum
  z_tuple := PySem.W.mg_none_of X G z_tuple
  z_zip := PySem.W.mg_none_of X G z_zip
theorem all_mk {P : Program} {w : World} {K : PySem.W.Frag} {h : Heap} {mg : Str → Option Value} {fa : Addr} (X : K.In h) (G : h.Ns mainGlobals mg) (hfa : mg "law" = some (.ref fa))
    {f_is_book : Addr} {od_is_book an_is_book : Option Addr} {sl_is_book : Array (Option Value)} {oc_is_book kV_is_book dc_is_book pm_is_book cd_is_book ct_is_book : Value}
    {f_is_calendar : Addr} {od_is_calendar an_is_calendar : Option Addr} {sl_is_calendar : Array (Option Value)} {oc_is_calendar kV_is_calendar dc_is_calendar pm_is_calendar cd_is_calendar ct_is_calendar : Value}
    {f_check_book : Addr} {od_check_book an_check_book : Option Addr} {sl_check_book : Array (Option Value)} {oc_check_book kV_check_book dc_check_book pm_check_book cd_check_book ct_check_book : Value}
    {f_check_calendar : Addr} {od_check_calendar an_check_calendar : Option Addr} {sl_check_calendar : Array (Option Value)} {oc_check_calendar kV_check_calendar dc_check_calendar pm_check_calendar cd_check_calendar ct_check_calendar : Value}
    {f_day_letters : Addr} {od_day_letters an_day_letters : Option Addr} {sl_day_letters : Array (Option Value)} {oc_day_letters kV_day_letters dc_day_letters pm_day_letters cd_day_letters ct_day_letters : Value}
    {f_is_text_of : Addr} {od_is_text_of an_is_text_of : Option Addr} {sl_is_text_of : Array (Option Value)} {oc_is_text_of kV_is_text_of dc_is_text_of pm_is_text_of cd_is_text_of ct_is_text_of : Value}
    {f_is_pair : Addr} {od_is_pair an_is_pair : Option Addr} {sl_is_pair : Array (Option Value)} {oc_is_pair kV_is_pair dc_is_pair pm_is_pair cd_is_pair ct_is_pair : Value}
    {f_is_between : Addr} {od_is_between an_is_between : Option Addr} {sl_is_between : Array (Option Value)} {oc_is_between kV_is_between dc_is_between pm_is_between cd_is_between ct_is_between : Value}
    {f__limit_zones : Addr} {od__limit_zones an__limit_zones : Option Addr} {sl__limit_zones : Array (Option Value)} {oc__limit_zones kV__limit_zones dc__limit_zones pm__limit_zones cd__limit_zones ct__limit_zones : Value}
    {f__is_limit_within : Addr} {od__is_limit_within an__is_limit_within : Option Addr} {sl__is_limit_within : Array (Option Value)} {oc__is_limit_within kV__is_limit_within dc__is_limit_within pm__is_limit_within cd__is_limit_within ct__is_limit_within : Value}
    {f_is_allowed : Addr} {od_is_allowed an_is_allowed : Option Addr} {sl_is_allowed : Array (Option Value)} {oc_is_allowed kV_is_allowed dc_is_allowed pm_is_allowed cd_is_allowed ct_is_allowed : Value}
    {f_first_broken : Addr} {od_first_broken an_first_broken : Option Addr} {sl_first_broken : Array (Option Value)} {oc_first_broken kV_first_broken dc_first_broken pm_first_broken cd_first_broken ct_first_broken : Value}
    {f_past_of : Addr} {od_past_of an_past_of : Option Addr} {sl_past_of : Array (Option Value)} {oc_past_of kV_past_of dc_past_of pm_past_of cd_past_of ct_past_of : Value}
    {f_next_days : Addr} {od_next_days an_next_days : Option Addr} {sl_next_days : Array (Option Value)} {oc_next_days kV_next_days dc_next_days pm_next_days cd_next_days ct_next_days : Value}
    {f_check_allowed : Addr} {od_check_allowed an_check_allowed : Option Addr} {sl_check_allowed : Array (Option Value)} {oc_check_allowed kV_check_allowed dc_check_allowed pm_check_allowed cd_check_allowed ct_check_allowed : Value}
    {f_days_behind : Addr} {od_days_behind an_days_behind : Option Addr} {sl_days_behind : Array (Option Value)} {oc_days_behind kV_days_behind dc_days_behind pm_days_behind cd_days_behind ct_days_behind : Value}
    {f_limit_broken : Addr} {od_limit_broken an_limit_broken : Option Addr} {sl_limit_broken : Array (Option Value)} {oc_limit_broken kV_limit_broken dc_limit_broken pm_limit_broken cd_limit_broken ct_limit_broken : Value}
    {f__breaks : Addr} {od__breaks an__breaks : Option Addr} {sl__breaks : Array (Option Value)} {oc__breaks kV__breaks dc__breaks pm__breaks cd__breaks ct__breaks : Value}
    {f__law_drawn : Addr} {od__law_drawn an__law_drawn : Option Addr} {sl__law_drawn : Array (Option Value)} {oc__law_drawn kV__law_drawn dc__law_drawn pm__law_drawn cd__law_drawn ct__law_drawn : Value}
    {f__law_limit : Addr} {od__law_limit an__law_limit : Option Addr} {sl__law_limit : Array (Option Value)} {oc__law_limit kV__law_limit dc__law_limit pm__law_limit cd__law_limit ct__law_limit : Value}
    {f__law_breaks : Addr} {od__law_breaks an__law_breaks : Option Addr} {sl__law_breaks : Array (Option Value)} {oc__law_breaks kV__law_breaks dc__law_breaks pm__law_breaks cd__law_breaks ct__law_breaks : Value}
    {f__law_broken : Addr} {od__law_broken an__law_broken : Option Addr} {sl__law_broken : Array (Option Value)} {oc__law_broken kV__law_broken dc__law_broken pm__law_broken cd__law_broken ct__law_broken : Value}
    {f__law_days : Addr} {od__law_days an__law_days : Option Addr} {sl__law_days : Array (Option Value)} {oc__law_days kV__law_days dc__law_days pm__law_days cd__law_days ct__law_days : Value}
    {f__law_badbook : Addr} {od__law_badbook an__law_badbook : Option Addr} {sl__law_badbook : Array (Option Value)} {oc__law_badbook kV__law_badbook dc__law_badbook pm__law_badbook cd__law_badbook ct__law_badbook : Value}
    {f__law_badcalendar : Addr} {od__law_badcalendar an__law_badcalendar : Option Addr} {sl__law_badcalendar : Array (Option Value)} {oc__law_badcalendar kV__law_badcalendar dc__law_badcalendar pm__law_badcalendar cd__law_badcalendar ct__law_badcalendar : Value}
    {f__law_error : Addr} {od__law_error an__law_error : Option Addr} {sl__law_error : Array (Option Value)} {oc__law_error kV__law_error dc__law_error pm__law_error cd__law_error ct__law_error : Value}
    {f__law_whole : Addr} {od__law_whole an__law_whole : Option Addr} {sl__law_whole : Array (Option Value)} {oc__law_whole kV__law_whole dc__law_whole pm__law_whole cd__law_whole ct__law_whole : Value}
    {f__law_raw : Addr} {od__law_raw an__law_raw : Option Addr} {sl__law_raw : Array (Option Value)} {oc__law_raw kV__law_raw dc__law_raw pm__law_raw cd__law_raw ct__law_raw : Value}
    {f_law : Addr} {od_law an_law : Option Addr} {sl_law : Array (Option Value)} {oc_law kV_law dc_law pm_law cd_law ct_law : Value}
    {t_AWAY : Tok}
    {t_MOST_DAYS : Tok}
    {t_MOST_LIMITS : Tok}
    {t_PAST_DAYS : Tok}
    {t_FIRST_PAST : Tok}
    {C_StayError : Addr}
    {C_InvalidBook : Addr}
    {C_InvalidCalendar : Addr}
    {C_Broken : Addr}
    {D_BOUNDS : Addr} {es_BOUNDS : Array DictEntry} {n_BOUNDS : Nat}
    {u3 : Tok}
    {u4 : Tok}
    {p2 : Addr} {pd2 : Option Addr} {pn2 : Nat} {ps2 : Array (Option Value)}
    {u6 : Tok}
    {u7 : Tok}
    {p5 : Addr} {pd5 : Option Addr} {pn5 : Nat} {ps5 : Array (Option Value)}
    {p1 : Addr} {pd1 : Option Addr} {pn1 : Nat} {ps1 : Array (Option Value)}
    {u11 : Tok}
    {u12 : Tok}
    {p10 : Addr} {pd10 : Option Addr} {pn10 : Nat} {ps10 : Array (Option Value)}
    {p9 : Addr} {pd9 : Option Addr} {pn9 : Nat} {ps9 : Array (Option Value)}
    {u16 : Tok}
    {u17 : Tok}
    {p15 : Addr} {pd15 : Option Addr} {pn15 : Nat} {ps15 : Array (Option Value)}
    {p14 : Addr} {pd14 : Option Addr} {pn14 : Nat} {ps14 : Array (Option Value)}
    {u21 : Tok}
    {u22 : Tok}
    {p20 : Addr} {pd20 : Option Addr} {pn20 : Nat} {ps20 : Array (Option Value)}
    {u24 : Tok}
    {u25 : Tok}
    {p23 : Addr} {pd23 : Option Addr} {pn23 : Nat} {ps23 : Array (Option Value)}
    {p19 : Addr} {pd19 : Option Addr} {pn19 : Nat} {ps19 : Array (Option Value)}
    (a_is_book : PySem.W.nsIn K mainGlobals "is_book" = some (some (.ref f_is_book)))
    (l_is_book : K.lookup f_is_book = some ⟨oc_is_book, od_is_book, .func (PySem.W.fnOf "is_book" "is_book" (defArgs st_is_book) (defBody st_is_book) (defScope st_is_book) .none kV_is_book dc_is_book pm_is_book an_is_book cd_is_book ct_is_book), sl_is_book⟩)
    (c_is_book : PySem.W.codeIn K cd_is_book "is_book" = true)
    (k_is_book : PySem.W.keepIn K (.ref f_is_book) = true)
    (a_is_calendar : PySem.W.nsIn K mainGlobals "is_calendar" = some (some (.ref f_is_calendar)))
    (l_is_calendar : K.lookup f_is_calendar = some ⟨oc_is_calendar, od_is_calendar, .func (PySem.W.fnOf "is_calendar" "is_calendar" (defArgs st_is_calendar) (defBody st_is_calendar) (defScope st_is_calendar) .none kV_is_calendar dc_is_calendar pm_is_calendar an_is_calendar cd_is_calendar ct_is_calendar), sl_is_calendar⟩)
    (c_is_calendar : PySem.W.codeIn K cd_is_calendar "is_calendar" = true)
    (k_is_calendar : PySem.W.keepIn K (.ref f_is_calendar) = true)
    (a_check_book : PySem.W.nsIn K mainGlobals "check_book" = some (some (.ref f_check_book)))
    (l_check_book : K.lookup f_check_book = some ⟨oc_check_book, od_check_book, .func (PySem.W.fnOf "check_book" "check_book" (defArgs st_check_book) (defBody st_check_book) (defScope st_check_book) .none kV_check_book dc_check_book pm_check_book an_check_book cd_check_book ct_check_book), sl_check_book⟩)
    (c_check_book : PySem.W.codeIn K cd_check_book "check_book" = true)
    (k_check_book : PySem.W.keepIn K (.ref f_check_book) = true)
    (a_check_calendar : PySem.W.nsIn K mainGlobals "check_calendar" = some (some (.ref f_check_calendar)))
    (l_check_calendar : K.lookup f_check_calendar = some ⟨oc_check_calendar, od_check_calendar, .func (PySem.W.fnOf "check_calendar" "check_calendar" (defArgs st_check_calendar) (defBody st_check_calendar) (defScope st_check_calendar) .none kV_check_calendar dc_check_calendar pm_check_calendar an_check_calendar cd_check_calendar ct_check_calendar), sl_check_calendar⟩)
    (c_check_calendar : PySem.W.codeIn K cd_check_calendar "check_calendar" = true)
    (k_check_calendar : PySem.W.keepIn K (.ref f_check_calendar) = true)
    (a_day_letters : PySem.W.nsIn K mainGlobals "day_letters" = some (some (.ref f_day_letters)))
    (l_day_letters : K.lookup f_day_letters = some ⟨oc_day_letters, od_day_letters, .func (PySem.W.fnOf "day_letters" "day_letters" (defArgs st_day_letters) (defBody st_day_letters) (defScope st_day_letters) .none kV_day_letters dc_day_letters pm_day_letters an_day_letters cd_day_letters ct_day_letters), sl_day_letters⟩)
    (c_day_letters : PySem.W.codeIn K cd_day_letters "day_letters" = true)
    (k_day_letters : PySem.W.keepIn K (.ref f_day_letters) = true)
    (a_is_text_of : PySem.W.nsIn K mainGlobals "is_text_of" = some (some (.ref f_is_text_of)))
    (l_is_text_of : K.lookup f_is_text_of = some ⟨oc_is_text_of, od_is_text_of, .func (PySem.W.fnOf "is_text_of" "is_text_of" (defArgs st_is_text_of) (defBody st_is_text_of) (defScope st_is_text_of) .none kV_is_text_of dc_is_text_of pm_is_text_of an_is_text_of cd_is_text_of ct_is_text_of), sl_is_text_of⟩)
    (c_is_text_of : PySem.W.codeIn K cd_is_text_of "is_text_of" = true)
    (k_is_text_of : PySem.W.keepIn K (.ref f_is_text_of) = true)
    (a_is_pair : PySem.W.nsIn K mainGlobals "is_pair" = some (some (.ref f_is_pair)))
    (l_is_pair : K.lookup f_is_pair = some ⟨oc_is_pair, od_is_pair, .func (PySem.W.fnOf "is_pair" "is_pair" (defArgs st_is_pair) (defBody st_is_pair) (defScope st_is_pair) .none kV_is_pair dc_is_pair pm_is_pair an_is_pair cd_is_pair ct_is_pair), sl_is_pair⟩)
    (c_is_pair : PySem.W.codeIn K cd_is_pair "is_pair" = true)
    (k_is_pair : PySem.W.keepIn K (.ref f_is_pair) = true)
    (a_is_between : PySem.W.nsIn K mainGlobals "is_between" = some (some (.ref f_is_between)))
    (l_is_between : K.lookup f_is_between = some ⟨oc_is_between, od_is_between, .func (PySem.W.fnOf "is_between" "is_between" (defArgs st_is_between) (defBody st_is_between) (defScope st_is_between) .none kV_is_between dc_is_between pm_is_between an_is_between cd_is_between ct_is_between), sl_is_between⟩)
    (c_is_between : PySem.W.codeIn K cd_is_between "is_between" = true)
    (k_is_between : PySem.W.keepIn K (.ref f_is_between) = true)
    (a__limit_zones : PySem.W.nsIn K mainGlobals "_limit_zones" = some (some (.ref f__limit_zones)))
    (l__limit_zones : K.lookup f__limit_zones = some ⟨oc__limit_zones, od__limit_zones, .func (PySem.W.fnOf "_limit_zones" "_limit_zones" (defArgs st__limit_zones) (defBody st__limit_zones) (defScope st__limit_zones) .none kV__limit_zones dc__limit_zones pm__limit_zones an__limit_zones cd__limit_zones ct__limit_zones), sl__limit_zones⟩)
    (c__limit_zones : PySem.W.codeIn K cd__limit_zones "_limit_zones" = true)
    (k__limit_zones : PySem.W.keepIn K (.ref f__limit_zones) = true)
    (a__is_limit_within : PySem.W.nsIn K mainGlobals "_is_limit_within" = some (some (.ref f__is_limit_within)))
    (l__is_limit_within : K.lookup f__is_limit_within = some ⟨oc__is_limit_within, od__is_limit_within, .func (PySem.W.fnOf "_is_limit_within" "_is_limit_within" (defArgs st__is_limit_within) (defBody st__is_limit_within) (defScope st__is_limit_within) .none kV__is_limit_within dc__is_limit_within pm__is_limit_within an__is_limit_within cd__is_limit_within ct__is_limit_within), sl__is_limit_within⟩)
    (c__is_limit_within : PySem.W.codeIn K cd__is_limit_within "_is_limit_within" = true)
    (k__is_limit_within : PySem.W.keepIn K (.ref f__is_limit_within) = true)
    (a_is_allowed : PySem.W.nsIn K mainGlobals "is_allowed" = some (some (.ref f_is_allowed)))
    (l_is_allowed : K.lookup f_is_allowed = some ⟨oc_is_allowed, od_is_allowed, .func (PySem.W.fnOf "is_allowed" "is_allowed" (defArgs st_is_allowed) (defBody st_is_allowed) (defScope st_is_allowed) .none kV_is_allowed dc_is_allowed pm_is_allowed an_is_allowed cd_is_allowed ct_is_allowed), sl_is_allowed⟩)
    (c_is_allowed : PySem.W.codeIn K cd_is_allowed "is_allowed" = true)
    (k_is_allowed : PySem.W.keepIn K (.ref f_is_allowed) = true)
    (a_first_broken : PySem.W.nsIn K mainGlobals "first_broken" = some (some (.ref f_first_broken)))
    (l_first_broken : K.lookup f_first_broken = some ⟨oc_first_broken, od_first_broken, .func (PySem.W.fnOf "first_broken" "first_broken" (defArgs st_first_broken) (defBody st_first_broken) (defScope st_first_broken) .none kV_first_broken dc_first_broken pm_first_broken an_first_broken cd_first_broken ct_first_broken), sl_first_broken⟩)
    (c_first_broken : PySem.W.codeIn K cd_first_broken "first_broken" = true)
    (k_first_broken : PySem.W.keepIn K (.ref f_first_broken) = true)
    (a_past_of : PySem.W.nsIn K mainGlobals "past_of" = some (some (.ref f_past_of)))
    (l_past_of : K.lookup f_past_of = some ⟨oc_past_of, od_past_of, .func (PySem.W.fnOf "past_of" "past_of" (defArgs st_past_of) (defBody st_past_of) (defScope st_past_of) .none kV_past_of dc_past_of pm_past_of an_past_of cd_past_of ct_past_of), sl_past_of⟩)
    (c_past_of : PySem.W.codeIn K cd_past_of "past_of" = true)
    (k_past_of : PySem.W.keepIn K (.ref f_past_of) = true)
    (a_next_days : PySem.W.nsIn K mainGlobals "next_days" = some (some (.ref f_next_days)))
    (l_next_days : K.lookup f_next_days = some ⟨oc_next_days, od_next_days, .func (PySem.W.fnOf "next_days" "next_days" (defArgs st_next_days) (defBody st_next_days) (defScope st_next_days) .none kV_next_days dc_next_days pm_next_days an_next_days cd_next_days ct_next_days), sl_next_days⟩)
    (c_next_days : PySem.W.codeIn K cd_next_days "next_days" = true)
    (k_next_days : PySem.W.keepIn K (.ref f_next_days) = true)
    (a_check_allowed : PySem.W.nsIn K mainGlobals "check_allowed" = some (some (.ref f_check_allowed)))
    (l_check_allowed : K.lookup f_check_allowed = some ⟨oc_check_allowed, od_check_allowed, .func (PySem.W.fnOf "check_allowed" "check_allowed" (defArgs st_check_allowed) (defBody st_check_allowed) (defScope st_check_allowed) .none kV_check_allowed dc_check_allowed pm_check_allowed an_check_allowed cd_check_allowed ct_check_allowed), sl_check_allowed⟩)
    (c_check_allowed : PySem.W.codeIn K cd_check_allowed "check_allowed" = true)
    (k_check_allowed : PySem.W.keepIn K (.ref f_check_allowed) = true)
    (a_days_behind : PySem.W.nsIn K mainGlobals "days_behind" = some (some (.ref f_days_behind)))
    (l_days_behind : K.lookup f_days_behind = some ⟨oc_days_behind, od_days_behind, .func (PySem.W.fnOf "days_behind" "days_behind" (defArgs st_days_behind) (defBody st_days_behind) (defScope st_days_behind) .none kV_days_behind dc_days_behind pm_days_behind an_days_behind cd_days_behind ct_days_behind), sl_days_behind⟩)
    (c_days_behind : PySem.W.codeIn K cd_days_behind "days_behind" = true)
    (k_days_behind : PySem.W.keepIn K (.ref f_days_behind) = true)
    (a_limit_broken : PySem.W.nsIn K mainGlobals "limit_broken" = some (some (.ref f_limit_broken)))
    (l_limit_broken : K.lookup f_limit_broken = some ⟨oc_limit_broken, od_limit_broken, .func (PySem.W.fnOf "limit_broken" "limit_broken" (defArgs st_limit_broken) (defBody st_limit_broken) (defScope st_limit_broken) .none kV_limit_broken dc_limit_broken pm_limit_broken an_limit_broken cd_limit_broken ct_limit_broken), sl_limit_broken⟩)
    (c_limit_broken : PySem.W.codeIn K cd_limit_broken "limit_broken" = true)
    (k_limit_broken : PySem.W.keepIn K (.ref f_limit_broken) = true)
    (a__breaks : PySem.W.nsIn K mainGlobals "_breaks" = some (some (.ref f__breaks)))
    (l__breaks : K.lookup f__breaks = some ⟨oc__breaks, od__breaks, .func (PySem.W.fnOf "_breaks" "_breaks" (defArgs st__breaks) (defBody st__breaks) (defScope st__breaks) .none kV__breaks dc__breaks pm__breaks an__breaks cd__breaks ct__breaks), sl__breaks⟩)
    (c__breaks : PySem.W.codeIn K cd__breaks "_breaks" = true)
    (k__breaks : PySem.W.keepIn K (.ref f__breaks) = true)
    (a__law_drawn : PySem.W.nsIn K mainGlobals "_law_drawn" = some (some (.ref f__law_drawn)))
    (l__law_drawn : K.lookup f__law_drawn = some ⟨oc__law_drawn, od__law_drawn, .func (PySem.W.fnOf "_law_drawn" "_law_drawn" (defArgs st__law_drawn) (defBody st__law_drawn) (defScope st__law_drawn) .none kV__law_drawn dc__law_drawn pm__law_drawn an__law_drawn cd__law_drawn ct__law_drawn), sl__law_drawn⟩)
    (c__law_drawn : PySem.W.codeIn K cd__law_drawn "_law_drawn" = true)
    (k__law_drawn : PySem.W.keepIn K (.ref f__law_drawn) = true)
    (a__law_limit : PySem.W.nsIn K mainGlobals "_law_limit" = some (some (.ref f__law_limit)))
    (l__law_limit : K.lookup f__law_limit = some ⟨oc__law_limit, od__law_limit, .func (PySem.W.fnOf "_law_limit" "_law_limit" (defArgs st__law_limit) (defBody st__law_limit) (defScope st__law_limit) .none kV__law_limit dc__law_limit pm__law_limit an__law_limit cd__law_limit ct__law_limit), sl__law_limit⟩)
    (c__law_limit : PySem.W.codeIn K cd__law_limit "_law_limit" = true)
    (k__law_limit : PySem.W.keepIn K (.ref f__law_limit) = true)
    (a__law_breaks : PySem.W.nsIn K mainGlobals "_law_breaks" = some (some (.ref f__law_breaks)))
    (l__law_breaks : K.lookup f__law_breaks = some ⟨oc__law_breaks, od__law_breaks, .func (PySem.W.fnOf "_law_breaks" "_law_breaks" (defArgs st__law_breaks) (defBody st__law_breaks) (defScope st__law_breaks) .none kV__law_breaks dc__law_breaks pm__law_breaks an__law_breaks cd__law_breaks ct__law_breaks), sl__law_breaks⟩)
    (c__law_breaks : PySem.W.codeIn K cd__law_breaks "_law_breaks" = true)
    (k__law_breaks : PySem.W.keepIn K (.ref f__law_breaks) = true)
    (a__law_broken : PySem.W.nsIn K mainGlobals "_law_broken" = some (some (.ref f__law_broken)))
    (l__law_broken : K.lookup f__law_broken = some ⟨oc__law_broken, od__law_broken, .func (PySem.W.fnOf "_law_broken" "_law_broken" (defArgs st__law_broken) (defBody st__law_broken) (defScope st__law_broken) .none kV__law_broken dc__law_broken pm__law_broken an__law_broken cd__law_broken ct__law_broken), sl__law_broken⟩)
    (c__law_broken : PySem.W.codeIn K cd__law_broken "_law_broken" = true)
    (k__law_broken : PySem.W.keepIn K (.ref f__law_broken) = true)
    (a__law_days : PySem.W.nsIn K mainGlobals "_law_days" = some (some (.ref f__law_days)))
    (l__law_days : K.lookup f__law_days = some ⟨oc__law_days, od__law_days, .func (PySem.W.fnOf "_law_days" "_law_days" (defArgs st__law_days) (defBody st__law_days) (defScope st__law_days) .none kV__law_days dc__law_days pm__law_days an__law_days cd__law_days ct__law_days), sl__law_days⟩)
    (c__law_days : PySem.W.codeIn K cd__law_days "_law_days" = true)
    (k__law_days : PySem.W.keepIn K (.ref f__law_days) = true)
    (a__law_badbook : PySem.W.nsIn K mainGlobals "_law_badbook" = some (some (.ref f__law_badbook)))
    (l__law_badbook : K.lookup f__law_badbook = some ⟨oc__law_badbook, od__law_badbook, .func (PySem.W.fnOf "_law_badbook" "_law_badbook" (defArgs st__law_badbook) (defBody st__law_badbook) (defScope st__law_badbook) .none kV__law_badbook dc__law_badbook pm__law_badbook an__law_badbook cd__law_badbook ct__law_badbook), sl__law_badbook⟩)
    (c__law_badbook : PySem.W.codeIn K cd__law_badbook "_law_badbook" = true)
    (k__law_badbook : PySem.W.keepIn K (.ref f__law_badbook) = true)
    (a__law_badcalendar : PySem.W.nsIn K mainGlobals "_law_badcalendar" = some (some (.ref f__law_badcalendar)))
    (l__law_badcalendar : K.lookup f__law_badcalendar = some ⟨oc__law_badcalendar, od__law_badcalendar, .func (PySem.W.fnOf "_law_badcalendar" "_law_badcalendar" (defArgs st__law_badcalendar) (defBody st__law_badcalendar) (defScope st__law_badcalendar) .none kV__law_badcalendar dc__law_badcalendar pm__law_badcalendar an__law_badcalendar cd__law_badcalendar ct__law_badcalendar), sl__law_badcalendar⟩)
    (c__law_badcalendar : PySem.W.codeIn K cd__law_badcalendar "_law_badcalendar" = true)
    (k__law_badcalendar : PySem.W.keepIn K (.ref f__law_badcalendar) = true)
    (a__law_error : PySem.W.nsIn K mainGlobals "_law_error" = some (some (.ref f__law_error)))
    (l__law_error : K.lookup f__law_error = some ⟨oc__law_error, od__law_error, .func (PySem.W.fnOf "_law_error" "_law_error" (defArgs st__law_error) (defBody st__law_error) (defScope st__law_error) .none kV__law_error dc__law_error pm__law_error an__law_error cd__law_error ct__law_error), sl__law_error⟩)
    (c__law_error : PySem.W.codeIn K cd__law_error "_law_error" = true)
    (k__law_error : PySem.W.keepIn K (.ref f__law_error) = true)
    (a__law_whole : PySem.W.nsIn K mainGlobals "_law_whole" = some (some (.ref f__law_whole)))
    (l__law_whole : K.lookup f__law_whole = some ⟨oc__law_whole, od__law_whole, .func (PySem.W.fnOf "_law_whole" "_law_whole" (defArgs st__law_whole) (defBody st__law_whole) (defScope st__law_whole) .none kV__law_whole dc__law_whole pm__law_whole an__law_whole cd__law_whole ct__law_whole), sl__law_whole⟩)
    (c__law_whole : PySem.W.codeIn K cd__law_whole "_law_whole" = true)
    (k__law_whole : PySem.W.keepIn K (.ref f__law_whole) = true)
    (a__law_raw : PySem.W.nsIn K mainGlobals "_law_raw" = some (some (.ref f__law_raw)))
    (l__law_raw : K.lookup f__law_raw = some ⟨oc__law_raw, od__law_raw, .func (PySem.W.fnOf "_law_raw" "_law_raw" (defArgs st__law_raw) (defBody st__law_raw) (defScope st__law_raw) .none kV__law_raw dc__law_raw pm__law_raw an__law_raw cd__law_raw ct__law_raw), sl__law_raw⟩)
    (c__law_raw : PySem.W.codeIn K cd__law_raw "_law_raw" = true)
    (k__law_raw : PySem.W.keepIn K (.ref f__law_raw) = true)
    (a_law : PySem.W.nsIn K mainGlobals "law" = some (some (.ref f_law)))
    (l_law : K.lookup f_law = some ⟨oc_law, od_law, .func (PySem.W.fnOf "law" "law" (defArgs st_law) (defBody st_law) (defScope st_law) .none kV_law dc_law pm_law an_law cd_law ct_law), sl_law⟩)
    (c_law : PySem.W.codeIn K cd_law "law" = true)
    (k_law : PySem.W.keepIn K (.ref f_law) = true)
    (q_AWAY : PySem.W.nsIn K mainGlobals "AWAY" = some (some (.str "." t_AWAY)))
    (q_MOST_DAYS : PySem.W.nsIn K mainGlobals "MOST_DAYS" = some (some (.int 60 t_MOST_DAYS)))
    (q_MOST_LIMITS : PySem.W.nsIn K mainGlobals "MOST_LIMITS" = some (some (.int 4 t_MOST_LIMITS)))
    (q_PAST_DAYS : PySem.W.nsIn K mainGlobals "PAST_DAYS" = some (some (.int 5 t_PAST_DAYS)))
    (q_FIRST_PAST : PySem.W.nsIn K mainGlobals "FIRST_PAST" = some (some (.str "....." t_FIRST_PAST)))
    (ga_StayError : PySem.W.nsIn K mainGlobals "StayError" = some (some (.ref C_StayError)))
    (ge_StayError : PySem.W.excIn K C_StayError [.type "ValueError", .type "Exception", .type "BaseException", .type "object"] "ValueError.__new__" = true)
    (gk_StayError : PySem.W.keepIn K (.ref C_StayError) = true)
    (gs_StayError : PySem.W.subIn K (.ref C_StayError) (.type "BaseException") = some true)
    (gt_StayError : PySem.W.typeIn K (.ref C_StayError) = some (.type "type"))
    (ga_InvalidBook : PySem.W.nsIn K mainGlobals "InvalidBook" = some (some (.ref C_InvalidBook)))
    (ge_InvalidBook : PySem.W.excIn K C_InvalidBook [.type "ValueError", .type "Exception", .type "BaseException", .type "object"] "ValueError.__new__" = true)
    (gk_InvalidBook : PySem.W.keepIn K (.ref C_InvalidBook) = true)
    (gs_InvalidBook : PySem.W.subIn K (.ref C_InvalidBook) (.type "BaseException") = some true)
    (gt_InvalidBook : PySem.W.typeIn K (.ref C_InvalidBook) = some (.type "type"))
    (ga_InvalidCalendar : PySem.W.nsIn K mainGlobals "InvalidCalendar" = some (some (.ref C_InvalidCalendar)))
    (ge_InvalidCalendar : PySem.W.excIn K C_InvalidCalendar [.type "ValueError", .type "Exception", .type "BaseException", .type "object"] "ValueError.__new__" = true)
    (gk_InvalidCalendar : PySem.W.keepIn K (.ref C_InvalidCalendar) = true)
    (gs_InvalidCalendar : PySem.W.subIn K (.ref C_InvalidCalendar) (.type "BaseException") = some true)
    (gt_InvalidCalendar : PySem.W.typeIn K (.ref C_InvalidCalendar) = some (.type "type"))
    (ga_Broken : PySem.W.nsIn K mainGlobals "Broken" = some (some (.ref C_Broken)))
    (ge_Broken : PySem.W.excIn K C_Broken [.type "ValueError", .type "Exception", .type "BaseException", .type "object"] "ValueError.__new__" = true)
    (gk_Broken : PySem.W.keepIn K (.ref C_Broken) = true)
    (gs_Broken : PySem.W.subIn K (.ref C_Broken) (.type "BaseException") = some true)
    (gt_Broken : PySem.W.typeIn K (.ref C_Broken) = some (.type "type"))
    (ta_BOUNDS : PySem.W.nsIn K mainGlobals "BOUNDS" = some (some (.ref D_BOUNDS)))
    (tl_BOUNDS : K.lookup D_BOUNDS = some ⟨.type "dict", none, .dict es_BOUNDS n_BOUNDS, #[]⟩)
    (tk_BOUNDS : PySem.W.KeysLit w.params es_BOUNDS.toList)
    (tn_BOUNDS : (D_BOUNDS == sysModules) = false)
    (ti_BOUNDS_8 : PySem.W.nsIn K D_BOUNDS "most" = some (some (.ref p1)))
    (pl1 : K.lookup p1 = some ⟨.type "tuple", pd1, .seq #[.ref p2, .ref p5] pn1, ps1⟩)
    (pl2 : K.lookup p2 = some ⟨.type "tuple", pd2, .seq #[.int 0 u3, .int 6 u4] pn2, ps2⟩)
    (pl5 : K.lookup p5 = some ⟨.type "tuple", pd5, .seq #[.int 1 u6, .int 6 u7] pn5, ps5⟩)
    (ti_BOUNDS_13 : PySem.W.nsIn K D_BOUNDS "row" = some (some (.ref p9)))
    (pl9 : K.lookup p9 = some ⟨.type "tuple", pd9, .seq #[.ref p10] pn9, ps9⟩)
    (pl10 : K.lookup p10 = some ⟨.type "tuple", pd10, .seq #[.int 0 u11, .int 5 u12] pn10, ps10⟩)
    (ti_BOUNDS_18 : PySem.W.nsIn K D_BOUNDS "gap" = some (some (.ref p14)))
    (pl14 : K.lookup p14 = some ⟨.type "tuple", pd14, .seq #[.ref p15] pn14, ps14⟩)
    (pl15 : K.lookup p15 = some ⟨.type "tuple", pd15, .seq #[.int 1 u16, .int 5 u17] pn15, ps15⟩)
    (ti_BOUNDS_26 : PySem.W.nsIn K D_BOUNDS "starts" = some (some (.ref p19)))
    (pl19 : K.lookup p19 = some ⟨.type "tuple", pd19, .seq #[.ref p20, .ref p23] pn19, ps19⟩)
    (pl20 : K.lookup p20 = some ⟨.type "tuple", pd20, .seq #[.int 0 u21, .int 5 u22] pn20, ps20⟩)
    (pl23 : K.lookup p23 = some ⟨.type "tuple", pd23, .seq #[.int 1 u24, .int 5 u25] pn23, ps23⟩)
    (ti_BOUNDS_27 : PySem.W.nsIn K D_BOUNDS "stay" = some none)
    (hg_InvalidBook : PySem.W.findIn K (.ref C_InvalidBook) "__getattribute__" = some (some (.builtin "BaseException.__getattribute__")))
    (hk_InvalidBook : PySem.W.findIn K (.ref C_InvalidBook) "__getattr__" = some none)
    (hd_InvalidBook : PySem.W.hasDictIn K C_InvalidBook = true)
    (ha_InvalidBook : PySem.W.findIn K (.ref C_InvalidBook) "__class__" = some (some (.builtin "object.__class__")))
    (hm_InvalidBook : PySem.W.mroIn K C_InvalidBook (.type "object") = some true)
    (hb_InvalidBook : PySem.W.subIn K (.ref C_InvalidBook) (.ref C_StayError) = some true)
    (hi_InvalidBook_InvalidBook : PySem.W.subIn K (.ref C_InvalidBook) (.ref C_InvalidBook) = some true)
    (hi_InvalidBook_InvalidCalendar : PySem.W.subIn K (.ref C_InvalidBook) (.ref C_InvalidCalendar) = some false)
    (hi_InvalidBook_Broken : PySem.W.subIn K (.ref C_InvalidBook) (.ref C_Broken) = some false)
    (hg_InvalidCalendar : PySem.W.findIn K (.ref C_InvalidCalendar) "__getattribute__" = some (some (.builtin "BaseException.__getattribute__")))
    (hk_InvalidCalendar : PySem.W.findIn K (.ref C_InvalidCalendar) "__getattr__" = some none)
    (hd_InvalidCalendar : PySem.W.hasDictIn K C_InvalidCalendar = true)
    (ha_InvalidCalendar : PySem.W.findIn K (.ref C_InvalidCalendar) "__class__" = some (some (.builtin "object.__class__")))
    (hm_InvalidCalendar : PySem.W.mroIn K C_InvalidCalendar (.type "object") = some true)
    (hb_InvalidCalendar : PySem.W.subIn K (.ref C_InvalidCalendar) (.ref C_StayError) = some true)
    (hi_InvalidCalendar_InvalidBook : PySem.W.subIn K (.ref C_InvalidCalendar) (.ref C_InvalidBook) = some false)
    (hi_InvalidCalendar_InvalidCalendar : PySem.W.subIn K (.ref C_InvalidCalendar) (.ref C_InvalidCalendar) = some true)
    (hi_InvalidCalendar_Broken : PySem.W.subIn K (.ref C_InvalidCalendar) (.ref C_Broken) = some false)
    (hg_Broken : PySem.W.findIn K (.ref C_Broken) "__getattribute__" = some (some (.builtin "BaseException.__getattribute__")))
    (hk_Broken : PySem.W.findIn K (.ref C_Broken) "__getattr__" = some none)
    (hd_Broken : PySem.W.hasDictIn K C_Broken = true)
    (ha_Broken : PySem.W.findIn K (.ref C_Broken) "__class__" = some (some (.builtin "object.__class__")))
    (hm_Broken : PySem.W.mroIn K C_Broken (.type "object") = some true)
    (hb_Broken : PySem.W.subIn K (.ref C_Broken) (.ref C_StayError) = some true)
    (hi_Broken_InvalidBook : PySem.W.subIn K (.ref C_Broken) (.ref C_InvalidBook) = some false)
    (hi_Broken_InvalidCalendar : PySem.W.subIn K (.ref C_Broken) (.ref C_InvalidCalendar) = some false)
    (hi_Broken_Broken : PySem.W.subIn K (.ref C_Broken) (.ref C_Broken) = some true)
    (hd_StayError : PySem.W.hasDictIn K C_StayError = true)
    (hn_1 : PySem.W.specialIn K (.builtin "object.__class__") "__get__" = some (some (.builtin "getset_descriptor.__get__")))
    (ht_1 : PySem.W.takesIn K (.builtin "object.__class__") = some true)
    (z_all : PySem.W.nsIn K mainGlobals "all" = some none)
    (z_any : PySem.W.nsIn K mainGlobals "any" = some none)
    (z_bool : PySem.W.nsIn K mainGlobals "bool" = some none)
    (z_enumerate : PySem.W.nsIn K mainGlobals "enumerate" = some none)
    (z_int : PySem.W.nsIn K mainGlobals "int" = some none)
    (z_isinstance : PySem.W.nsIn K mainGlobals "isinstance" = some none)
    (z_len : PySem.W.nsIn K mainGlobals "len" = some none)
    (z_range : PySem.W.nsIn K mainGlobals "range" = some none)
    (z_str : PySem.W.nsIn K mainGlobals "str" = some none)
    (z_sum : PySem.W.nsIn K mainGlobals "sum" = some none)
    (z_tuple : PySem.W.nsIn K mainGlobals "tuple" = some none)
    (z_zip : PySem.W.nsIn K mainGlobals "zip" = some none) :
    ∃ fd : FuncData, (∀ (s : Shared) (v : Value), BindsTo s fd ⟨[v], []⟩ [("_law_script", v)]) ∧ ∀ base : Heap, K.In base → base.Ns mainGlobals mg → FnOk P w K mg base (L2.CX P w) 12 fa fd ["_law_script"] (spLaw K) := by
  have e := hfa.symm.trans (PySem.W.mg_of X G a_law)
  cases e
  have T : Top K w mg := top_mk X G a_is_book l_is_book c_is_book k_is_book a_is_calendar l_is_calendar c_is_calendar k_is_calendar a_check_book l_check_book c_check_book k_check_book a_check_calendar l_check_calendar c_check_calendar k_check_calendar a_day_letters l_day_letters c_day_letters k_day_letters a_is_text_of l_is_text_of c_is_text_of k_is_text_of a_is_pair l_is_pair c_is_pair k_is_pair a_is_between l_is_between c_is_between k_is_between a__limit_zones l__limit_zones c__limit_zones k__limit_zones a__is_limit_within l__is_limit_within c__is_limit_within k__is_limit_within a_is_allowed l_is_allowed c_is_allowed k_is_allowed a_first_broken l_first_broken c_first_broken k_first_broken a_past_of l_past_of c_past_of k_past_of a_next_days l_next_days c_next_days k_next_days a_check_allowed l_check_allowed c_check_allowed k_check_allowed a_days_behind l_days_behind c_days_behind k_days_behind a_limit_broken l_limit_broken c_limit_broken k_limit_broken a__breaks l__breaks c__breaks k__breaks a__law_drawn l__law_drawn c__law_drawn k__law_drawn a__law_limit l__law_limit c__law_limit k__law_limit a__law_breaks l__law_breaks c__law_breaks k__law_breaks a__law_broken l__law_broken c__law_broken k__law_broken a__law_days l__law_days c__law_days k__law_days a__law_badbook l__law_badbook c__law_badbook k__law_badbook a__law_badcalendar l__law_badcalendar c__law_badcalendar k__law_badcalendar a__law_error l__law_error c__law_error k__law_error a__law_whole l__law_whole c__law_whole k__law_whole a__law_raw l__law_raw c__law_raw k__law_raw a_law l_law c_law k_law q_AWAY q_MOST_DAYS q_MOST_LIMITS q_PAST_DAYS q_FIRST_PAST ga_StayError ge_StayError gk_StayError gs_StayError gt_StayError ga_InvalidBook ge_InvalidBook gk_InvalidBook gs_InvalidBook gt_InvalidBook ga_InvalidCalendar ge_InvalidCalendar gk_InvalidCalendar gs_InvalidCalendar gt_InvalidCalendar ga_Broken ge_Broken gk_Broken gs_Broken gt_Broken ta_BOUNDS tl_BOUNDS tk_BOUNDS tn_BOUNDS ti_BOUNDS_8 pl1 pl2 pl5 ti_BOUNDS_13 pl9 pl10 ti_BOUNDS_18 pl14 pl15 ti_BOUNDS_26 pl19 pl20 pl23 ti_BOUNDS_27 hg_InvalidBook hk_InvalidBook hd_InvalidBook ha_InvalidBook hm_InvalidBook hb_InvalidBook hi_InvalidBook_InvalidBook hi_InvalidBook_InvalidCalendar hi_InvalidBook_Broken hg_InvalidCalendar hk_InvalidCalendar hd_InvalidCalendar ha_InvalidCalendar hm_InvalidCalendar hb_InvalidCalendar hi_InvalidCalendar_InvalidBook hi_InvalidCalendar_InvalidCalendar hi_InvalidCalendar_Broken hg_Broken hk_Broken hd_Broken ha_Broken hm_Broken hb_Broken hi_Broken_InvalidBook hi_Broken_InvalidCalendar hi_Broken_Broken hd_StayError hn_1 ht_1 z_all z_any z_bool z_enumerate z_int z_isinstance z_len z_range z_str z_sum z_tuple z_zip
  exact ⟨_, fun s v => .of_eq rfl, fun base _ _ => law_imp (fn_law T (fun_mk (st := st_law) l_law c_law k_law)) law_true⟩
end K03
open PySem PySem.W PyProof.Rows
set_option maxHeartbeats 0 in
theorem PySem.Challenge.cw_staybounds_k03_judging_holds : PySem.Challenge.rw_staybounds_k03_judging.Holds := by
  w_on; o_law; k_head; (case hw => w_witness2)
  k_fill
  refine L2.walk_of (l := PySem.Challenge.rw_staybounds_k03_judging) (n := 63) (k := 12) (x := "_law_script") (CX := fun w => L2.CX PySem.Challenge.pw_staybounds_k03_judging w) (sp := fun w => Mir.spLaw _) rfl (by decide) rfl ⟨rfl, by decide, by decide⟩ (fun w h Y => PySem.W.kIn_of Y) ?F (fun _ _ a ns hl _ hS => ⟨a, ns, rfl, hS, hl, fun _ => rfl⟩) (fun w H s e s' h => by obtain ⟨_, _, _, _, _, _, _, _, _, _, _, _, z⟩ := h; exact z)
  case F =>
    intro w mg fa h KX G hmg
    refine' K03.all_mk KX G hmg ?a_is_book ?l_is_book ?c_is_book ?k_is_book ?a_is_calendar ?l_is_calendar ?c_is_calendar ?k_is_calendar ?a_check_book ?l_check_book ?c_check_book ?k_check_book ?a_check_calendar ?l_check_calendar ?c_check_calendar ?k_check_calendar ?a_day_letters ?l_day_letters ?c_day_letters ?k_day_letters ?a_is_text_of ?l_is_text_of ?c_is_text_of ?k_is_text_of ?a_is_pair ?l_is_pair ?c_is_pair ?k_is_pair ?a_is_between ?l_is_between ?c_is_between ?k_is_between ?a__limit_zones ?l__limit_zones ?c__limit_zones ?k__limit_zones ?a__is_limit_within ?l__is_limit_within ?c__is_limit_within ?k__is_limit_within ?a_is_allowed ?l_is_allowed ?c_is_allowed ?k_is_allowed ?a_first_broken ?l_first_broken ?c_first_broken ?k_first_broken ?a_past_of ?l_past_of ?c_past_of ?k_past_of ?a_next_days ?l_next_days ?c_next_days ?k_next_days ?a_check_allowed ?l_check_allowed ?c_check_allowed ?k_check_allowed ?a_days_behind ?l_days_behind ?c_days_behind ?k_days_behind ?a_limit_broken ?l_limit_broken ?c_limit_broken ?k_limit_broken ?a__breaks ?l__breaks ?c__breaks ?k__breaks ?a__law_drawn ?l__law_drawn ?c__law_drawn ?k__law_drawn ?a__law_limit ?l__law_limit ?c__law_limit ?k__law_limit ?a__law_breaks ?l__law_breaks ?c__law_breaks ?k__law_breaks ?a__law_broken ?l__law_broken ?c__law_broken ?k__law_broken ?a__law_days ?l__law_days ?c__law_days ?k__law_days ?a__law_badbook ?l__law_badbook ?c__law_badbook ?k__law_badbook ?a__law_badcalendar ?l__law_badcalendar ?c__law_badcalendar ?k__law_badcalendar ?a__law_error ?l__law_error ?c__law_error ?k__law_error ?a__law_whole ?l__law_whole ?c__law_whole ?k__law_whole ?a__law_raw ?l__law_raw ?c__law_raw ?k__law_raw ?a_law ?l_law ?c_law ?k_law ?q_AWAY ?q_MOST_DAYS ?q_MOST_LIMITS ?q_PAST_DAYS ?q_FIRST_PAST ?ga_StayError ?ge_StayError ?gk_StayError ?gs_StayError ?gt_StayError ?ga_InvalidBook ?ge_InvalidBook ?gk_InvalidBook ?gs_InvalidBook ?gt_InvalidBook ?ga_InvalidCalendar ?ge_InvalidCalendar ?gk_InvalidCalendar ?gs_InvalidCalendar ?gt_InvalidCalendar ?ga_Broken ?ge_Broken ?gk_Broken ?gs_Broken ?gt_Broken ?ta_BOUNDS ?tl_BOUNDS ?tk_BOUNDS ?tn_BOUNDS ?ti_BOUNDS_8 ?pl1 ?pl2 ?pl5 ?ti_BOUNDS_13 ?pl9 ?pl10 ?ti_BOUNDS_18 ?pl14 ?pl15 ?ti_BOUNDS_26 ?pl19 ?pl20 ?pl23 ?ti_BOUNDS_27 ?hg_InvalidBook ?hk_InvalidBook ?hd_InvalidBook ?ha_InvalidBook ?hm_InvalidBook ?hb_InvalidBook ?hi_InvalidBook_InvalidBook ?hi_InvalidBook_InvalidCalendar ?hi_InvalidBook_Broken ?hg_InvalidCalendar ?hk_InvalidCalendar ?hd_InvalidCalendar ?ha_InvalidCalendar ?hm_InvalidCalendar ?hb_InvalidCalendar ?hi_InvalidCalendar_InvalidBook ?hi_InvalidCalendar_InvalidCalendar ?hi_InvalidCalendar_Broken ?hg_Broken ?hk_Broken ?hd_Broken ?ha_Broken ?hm_Broken ?hb_Broken ?hi_Broken_InvalidBook ?hi_Broken_InvalidCalendar ?hi_Broken_Broken ?hd_StayError ?hn_1 ?ht_1 ?z_all ?z_any ?z_bool ?z_enumerate ?z_int ?z_isinstance ?z_len ?z_range ?z_str ?z_sum ?z_tuple ?z_zip
    (case a_is_book => k_is)
    (case l_is_book => k_is)
    (case c_is_book => k_is)
    (case k_is_book => k_is)
    (case a_is_calendar => k_is)
    (case l_is_calendar => k_is)
    (case c_is_calendar => k_is)
    (case k_is_calendar => k_is)
    (case a_check_book => k_is)
    (case l_check_book => k_is)
    (case c_check_book => k_is)
    (case k_check_book => k_is)
    (case a_check_calendar => k_is)
    (case l_check_calendar => k_is)
    (case c_check_calendar => k_is)
    (case k_check_calendar => k_is)
    (case a_day_letters => k_is)
    (case l_day_letters => k_is)
    (case c_day_letters => k_is)
    (case k_day_letters => k_is)
    (case a_is_text_of => k_is)
    (case l_is_text_of => k_is)
    (case c_is_text_of => k_is)
    (case k_is_text_of => k_is)
    (case a_is_pair => k_is)
    (case l_is_pair => k_is)
    (case c_is_pair => k_is)
    (case k_is_pair => k_is)
    (case a_is_between => k_is)
    (case l_is_between => k_is)
    (case c_is_between => k_is)
    (case k_is_between => k_is)
    (case a__limit_zones => k_is)
    (case l__limit_zones => k_is)
    (case c__limit_zones => k_is)
    (case k__limit_zones => k_is)
    (case a__is_limit_within => k_is)
    (case l__is_limit_within => k_is)
    (case c__is_limit_within => k_is)
    (case k__is_limit_within => k_is)
    (case a_is_allowed => k_is)
    (case l_is_allowed => k_is)
    (case c_is_allowed => k_is)
    (case k_is_allowed => k_is)
    (case a_first_broken => k_is)
    (case l_first_broken => k_is)
    (case c_first_broken => k_is)
    (case k_first_broken => k_is)
    (case a_past_of => k_is)
    (case l_past_of => k_is)
    (case c_past_of => k_is)
    (case k_past_of => k_is)
    (case a_next_days => k_is)
    (case l_next_days => k_is)
    (case c_next_days => k_is)
    (case k_next_days => k_is)
    (case a_check_allowed => k_is)
    (case l_check_allowed => k_is)
    (case c_check_allowed => k_is)
    (case k_check_allowed => k_is)
    (case a_days_behind => k_is)
    (case l_days_behind => k_is)
    (case c_days_behind => k_is)
    (case k_days_behind => k_is)
    (case a_limit_broken => k_is)
    (case l_limit_broken => k_is)
    (case c_limit_broken => k_is)
    (case k_limit_broken => k_is)
    (case a__breaks => k_is)
    (case l__breaks => k_is)
    (case c__breaks => k_is)
    (case k__breaks => k_is)
    (case a__law_drawn => k_is)
    (case l__law_drawn => k_is)
    (case c__law_drawn => k_is)
    (case k__law_drawn => k_is)
    (case a__law_limit => k_is)
    (case l__law_limit => k_is)
    (case c__law_limit => k_is)
    (case k__law_limit => k_is)
    (case a__law_breaks => k_is)
    (case l__law_breaks => k_is)
    (case c__law_breaks => k_is)
    (case k__law_breaks => k_is)
    (case a__law_broken => k_is)
    (case l__law_broken => k_is)
    (case c__law_broken => k_is)
    (case k__law_broken => k_is)
    (case a__law_days => k_is)
    (case l__law_days => k_is)
    (case c__law_days => k_is)
    (case k__law_days => k_is)
    (case a__law_badbook => k_is)
    (case l__law_badbook => k_is)
    (case c__law_badbook => k_is)
    (case k__law_badbook => k_is)
    (case a__law_badcalendar => k_is)
    (case l__law_badcalendar => k_is)
    (case c__law_badcalendar => k_is)
    (case k__law_badcalendar => k_is)
    (case a__law_error => k_is)
    (case l__law_error => k_is)
    (case c__law_error => k_is)
    (case k__law_error => k_is)
    (case a__law_whole => k_is)
    (case l__law_whole => k_is)
    (case c__law_whole => k_is)
    (case k__law_whole => k_is)
    (case a__law_raw => k_is)
    (case l__law_raw => k_is)
    (case c__law_raw => k_is)
    (case k__law_raw => k_is)
    (case a_law => k_is)
    (case l_law => k_is)
    (case c_law => k_is)
    (case k_law => k_is)
    (case q_AWAY => k_is)
    (case q_MOST_DAYS => k_is)
    (case q_MOST_LIMITS => k_is)
    (case q_PAST_DAYS => k_is)
    (case q_FIRST_PAST => k_is)
    (case ga_StayError => k_is)
    (case ge_StayError => k_exc)
    (case gk_StayError => k_is)
    (case gs_StayError => k_is)
    (case gt_StayError => k_is)
    (case ga_InvalidBook => k_is)
    (case ge_InvalidBook => k_exc)
    (case gk_InvalidBook => k_is)
    (case gs_InvalidBook => k_is)
    (case gt_InvalidBook => k_is)
    (case ga_InvalidCalendar => k_is)
    (case ge_InvalidCalendar => k_exc)
    (case gk_InvalidCalendar => k_is)
    (case gs_InvalidCalendar => k_is)
    (case gt_InvalidCalendar => k_is)
    (case ga_Broken => k_is)
    (case ge_Broken => k_exc)
    (case gk_Broken => k_is)
    (case gs_Broken => k_is)
    (case gt_Broken => k_is)
    (case ta_BOUNDS => k_is)
    (case tl_BOUNDS => k_is)
    (case tk_BOUNDS => first | exact ⟨⟨_, _, rfl, rfl⟩, ⟨_, _, rfl, rfl⟩, ⟨_, _, rfl, rfl⟩, ⟨_, _, rfl, rfl⟩, trivial⟩ | (repeat (first | trivial | exact ⟨_, _, rfl, rfl⟩ | constructor)))
    (case tn_BOUNDS => rfl)
    (case ti_BOUNDS_8 => k_is)
    (case pl1 => k_is)
    (case pl2 => k_is)
    (case pl5 => k_is)
    (case ti_BOUNDS_13 => k_is)
    (case pl9 => k_is)
    (case pl10 => k_is)
    (case ti_BOUNDS_18 => k_is)
    (case pl14 => k_is)
    (case pl15 => k_is)
    (case ti_BOUNDS_26 => k_is)
    (case pl19 => k_is)
    (case pl20 => k_is)
    (case pl23 => k_is)
    (case ti_BOUNDS_27 => k_is)
    (case hg_InvalidBook => k_is)
    (case hk_InvalidBook => k_is)
    (case hd_InvalidBook => k_is)
    (case ha_InvalidBook => k_is)
    (case hm_InvalidBook => k_is)
    (case hb_InvalidBook => k_is)
    (case hi_InvalidBook_InvalidBook => k_is)
    (case hi_InvalidBook_InvalidCalendar => k_is)
    (case hi_InvalidBook_Broken => k_is)
    (case hg_InvalidCalendar => k_is)
    (case hk_InvalidCalendar => k_is)
    (case hd_InvalidCalendar => k_is)
    (case ha_InvalidCalendar => k_is)
    (case hm_InvalidCalendar => k_is)
    (case hb_InvalidCalendar => k_is)
    (case hi_InvalidCalendar_InvalidBook => k_is)
    (case hi_InvalidCalendar_InvalidCalendar => k_is)
    (case hi_InvalidCalendar_Broken => k_is)
    (case hg_Broken => k_is)
    (case hk_Broken => k_is)
    (case hd_Broken => k_is)
    (case ha_Broken => k_is)
    (case hm_Broken => k_is)
    (case hb_Broken => k_is)
    (case hi_Broken_InvalidBook => k_is)
    (case hi_Broken_InvalidCalendar => k_is)
    (case hi_Broken_Broken => k_is)
    (case hd_StayError => k_is)
    (case hn_1 => k_is)
    (case ht_1 => k_is)
    (case z_all => k_is)
    (case z_any => k_is)
    (case z_bool => k_is)
    (case z_enumerate => k_is)
    (case z_int => k_is)
    (case z_isinstance => k_is)
    (case z_len => k_is)
    (case z_range => k_is)
    (case z_str => k_is)
    (case z_sum => k_is)
    (case z_tuple => k_is)
    (case z_zip => k_is)