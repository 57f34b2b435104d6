import PyProof.Rows.All
import Wide.All
import OpenK.AllK
import Wide.FinOn
import HandS.TupMul
import HandS.ForMost
import HandS.ForExc
import HandS.IsInst
import HandS.Deep
import HandS.Wide
import HandS.Style
import HandS.Zip
import HandS.Walk
import HandS.Conv
import HandS.More
import HandS.Records
import HandS.TupAny
import KE.GoesEnum
import KE.GoesMore
import HandS.ExcIs
import KE.KDictZip
import HandS.ListItems
import PyProof.WalksS
import HandS.Small
import HandS.DictComp
import HandS.SortInts
import KE.DataMinMax
import HandS.Iter
import KE.GoesNew
import HandS.Set
import HandS.SetTxt0
import HandS.SetBool
import HandS.Strs
import PyProof.Rows.SortShellAny
import PyProof.Rows.SetFrom
import KE.DatumOrd
import PyProof.Claim2Refuses
import PySem.Challenge.RW_staybounds_k52_whole_thinned
set_option Elab.async false
set_option linter.all false
set_option maxRecDepth 100000
set_option maxHeartbeats 4000000
namespace L2
open PySem PySem.Spec PyProof.Rows
theorem tuple_mul0W (l : Addr) (n : Nat) (dd : Option Addr) (sl : Array (Option Value)) (x : Int) (u : Tok) (c0 : (decide (x < -(2 ^ 63)) || decide (x ≥ 2 ^ 63)) = false) :
    Meets (Builtin.«tuple.__mul__» ⟨[.ref l, .int x u], []⟩) (fun _ R s => s.heap.get? l = some { cls := .type "tuple", dict := dd, data := .seq #[] n, slots := sl } ∧ R (.ok (.ret (.ref l))) s) :=
  .of_wp fun prog w A R s h => by
    obtain ⟨hp, g, d, tk, os⟩ := s
    obtain ⟨hl, h⟩ := h
    have f1 := AutoSeq1.idx_int
    wp_walk using wpAny_loadPart' hl
    repeat (first
      | (refine wpAny_ite_false (decide_eq_false (by rw [c0]; exact Bool.false_ne_true)) ?_; wp_walk using wpAny_loadPart' hl))
    exact ⟨_, rfl, h⟩
def rMulT0 (K : PySem.W.Frag) : R2 := fun x y H Q => ∃ l k, x = .ref l ∧ y = .int k ∧ SqT K H l [] ∧ 2 ≤ k ∧ k ≤ 1000 ∧ Q (.ref l) H
section
variable {X : Cx}
theorem op_mulT0 : OpR X (binaryOp .Mult) (rMulT0 X.K) := by
  intro pins s σ H x y v u Q I rx ry h
  obtain ⟨l, k, rfl, rfl, hT, h1, h2, q⟩ := h
  cases rx
  obtain ⟨t, rfl⟩ := ry
  obtain ⟨its, r, ⟨⟨cls, dd, data, sl⟩, ho, hc, n, hd⟩, hs⟩ := I.tuple hT
  simp only at hc hd
  subst hc hd
  cases r
  have c0 : (decide (k < -(2 ^ 63)) || decide (k ≥ 2 ^ 63)) = false := by
    rw [decide_eq_false (by omega), decide_eq_false (by omega)] <;> rfl
  refine wpAny_binaryOp_repeat_ref (T := "tuple") (U := "int") (by decide) ⟨_, ho, rfl⟩ (fun s' => typeIs_int s' k t) noFill_tuple_mul F.fills_int_mul F.slot_int_rmul repeat_tuple F.slot_int_index.lookup
    (call_meets F.slot_int_rmul (typeIs_int s k t) F.entry_int_rmul (F.args_int_rmul_2 _ _) (int_rmul_tuple k t l #[] n dd sl)
      ⟨ho, rfl, ⟨_, ho, rfl⟩, call_meets F.slot_tuple_mul ⟨_, ho, rfl⟩ F.entry_tuple_mul (F.args_tuple_mul_2 _ _) (tuple_mul0W l n dd sl k t c0) ⟨ho, ?_⟩⟩)
  exact ⟨.ref l, H, I, rfl, q⟩
end
end L2
/-! A layer over the hand layer: a def is told by a plain function over data trees (a mirror); one rule a construct, from mirror to reading. -/
namespace Mir
open PySem PySem.Spec PyProof.Rows L2

/-! ### data -/
inductive D where
  | non | bl (b : Bool) | int (i : Int) | str (s : Str) | lst (ds : List D) | tup (ds : List D) | rol (ds : List D) | dic (ks : List Key) (ds : List D) | fn (a : Addr) | ty (n : String)

mutual
/-- the value v is the data d, by the frozen part F (and the written part K) alone -/
inductive Dv (K : PySem.W.Frag) (F : Hp) : V → D → Prop
  | non : Dv K F .non .non
  | bl (b : Bool) : Dv K F (.bl b) (.bl b)
  | int (i : Int) : Dv K F (.int i) (.int i)
  | str (s : Str) : Dv K F (.str s) (.str s)
  | lst {a : Addr} {xs : List V} {ds : List D} : F a = some (.lst xs) → DvAll K F xs ds → Dv K F (.ref a) (.lst ds)
  | tup {a : Addr} {xs : List V} {ds : List D} : SqT K F a xs → DvAll K F xs ds → Dv K F (.ref a) (.tup ds)
  | rol {a : Addr} {xs : List V} {ds : List D} : SqL K F a xs → DvAll K F xs ds → Dv K F (.ref a) (.rol ds)
  | dic {a : Addr} {o : Obj} {kvs : List (Key × V)} {ks : List Key} {ds : List D} : F a = some (.frz o (.dK kvs)) → kvs.map (·.1) = ks → DvAll K F (kvs.map (·.2)) ds → Dv K F (.ref a) (.dic ks ds)
  | fn (a : Addr) : Dv K F (.ref a) (.fn a)
  | ty (n : String) : Dv K F (.ty n) (.ty n)
inductive DvAll (K : PySem.W.Frag) (F : Hp) : List V → List D → Prop
  | nil : DvAll K F [] []
  | cons {v : V} {vs : List V} {d : D} {ds : List D} : Dv K F v d → DvAll K F vs ds → DvAll K F (v :: vs) (d :: ds)
end
theorem _root_.L2.Same.tup {K : PySem.W.Frag} {H H' : Hp} {a : Addr} {xs : List V} (e : Same H H') (h : SqT K H a xs) : SqT K H' a xs := by
  rcases h with (h | ⟨o, h⟩) | h
  · exact .inl (.inl (e _ _ h))
  · exact .inl (.inr ⟨o, e _ _ h⟩)
  · exact .inr h
mutual
theorem Dv.mono {K : PySem.W.Frag} {F F' : Hp} (e : Same F F') : ∀ {v : V} {d : D}, Dv K F v d → Dv K F' v d
  | _, _, .non => .non
  | _, _, .bl b => .bl b
  | _, _, .int i => .int i
  | _, _, .str s => .str s
  | _, _, .lst h r => .lst (e _ _ h) (DvAll.mono e r)
  | _, _, .tup h r => .tup (Same.tup e h) (DvAll.mono e r)
  | _, _, .rol h r => .rol (e.seq h) (DvAll.mono e r)
  | _, _, .dic h k r => .dic (e _ _ h) k (DvAll.mono e r)
  | _, _, .fn a => .fn a
  | _, _, .ty a => .ty a
theorem DvAll.mono {K : PySem.W.Frag} {F F' : Hp} (e : Same F F') : ∀ {vs : List V} {ds : List D}, DvAll K F vs ds → DvAll K F' vs ds
  | _, _, .nil => .nil
  | _, _, .cons h r => .cons (Dv.mono e h) (DvAll.mono e r)
end
section
variable {K : PySem.W.Frag} {F : Hp}
theorem DvAll.length : ∀ {vs : List V} {ds : List D}, DvAll K F vs ds → vs.length = ds.length
  | _, _, .nil => rfl
  | _, _, .cons _ r => congrArg (· + 1) r.length
theorem DvAll.get : ∀ {vs : List V} {ds : List D} {i : Nat} {v : V}, DvAll K F vs ds → vs[i]? = some v → ∃ d, ds[i]? = some d ∧ Dv K F v d
  | _, _, _, _, .nil, e => by simp at e
  | _, _, 0, _, .cons h _, e => by simp at e; subst e; exact ⟨_, rfl, h⟩
  | _, _, i + 1, v, .cons _ r, e => by
    obtain ⟨d, h1, h2⟩ := DvAll.get (i := i) (v := v) r (by simpa using e)
    exact ⟨d, by simpa using h1, h2⟩
theorem DvAll.get' : ∀ {vs : List V} {ds : List D} {i : Nat} {d : D}, DvAll K F vs ds → ds[i]? = some d → ∃ v, vs[i]? = some v ∧ Dv K F v d
  | _, _, _, _, .nil, e => by simp at e
  | _, _, 0, _, .cons h _, e => by simp at e; subst e; exact ⟨_, rfl, h⟩
  | _, _, i + 1, v, .cons _ r, e => by
    obtain ⟨d, h1, h2⟩ := DvAll.get' (i := i) (d := v) r (by simpa using e)
    exact ⟨d, by simpa using h1, h2⟩
theorem DvAll.append : ∀ {vs ws : List V} {ds es : List D}, DvAll K F vs ds → DvAll K F ws es → DvAll K F (vs ++ ws) (ds ++ es)
  | _, _, _, _, .nil, s => s
  | _, _, _, _, .cons r t, s => .cons r (DvAll.append t s)
theorem DvAll.take : ∀ {vs : List V} {ds : List D} (n : Nat), DvAll K F vs ds → DvAll K F (vs.take n) (ds.take n)
  | _, _, 0, _ => .nil
  | _, _, _ + 1, .nil => .nil
  | _, _, n + 1, .cons r t => .cons r (DvAll.take n t)
theorem DvAll.drop : ∀ {vs : List V} {ds : List D} (n : Nat), DvAll K F vs ds → DvAll K F (vs.drop n) (ds.drop n)
  | _, _, 0, r => r
  | _, _, _ + 1, .nil => .nil
  | _, _, n + 1, .cons _ t => DvAll.drop n t
theorem DvAll.set {v : V} {d : D} (r : Dv K F v d) : ∀ {vs : List V} {ds : List D} (i : Nat), DvAll K F vs ds → DvAll K F (vs.set i v) (ds.set i d)
  | _, _, _, .nil => .nil
  | _, _, 0, .cons _ t => .cons r t
  | _, _, i + 1, .cons q t => .cons q (DvAll.set r i t)
end

/-! ### results -/
inductive R (α : Type) where
  | ok (a : α) | exc (c : Str) | bad
def R.bind {α β : Type} (r : R α) (f : α → R β) : R β := match r with
  | .ok a => f a
  | .exc c => .exc c
  | .bad => .bad

/-! ### heaps: F is frozen in H -/
structure Grow (F H F' H' : Hp) : Prop where
  h : Same H H'
  f : Same F F'
  s : Same F' H'
  o : ∀ a u, H a = some u → F' a = F a
theorem Grow.refl {F H : Hp} (s : Same F H) : Grow F H F H := ⟨Same.refl H, Same.refl F, s, fun _ _ _ => rfl⟩
theorem Grow.trans {F H F1 H1 F2 H2 : Hp} (a : Grow F H F1 H1) (b : Grow F1 H1 F2 H2) : Grow F H F2 H2 :=
  ⟨a.h.trans b.h, a.f.trans b.f, b.s, fun x u e => (b.o x u (a.h x u e)).trans (a.o x u e)⟩
theorem free_sub {F H : Hp} (s : Same F H) {p : Addr} (hp : H p = none) : F p = none := s.free hp
theorem _root_.L2.Same.upd_new {H : Hp} {p : Addr} {o : HO} (hp : H p = none) : Same H (upd H p o) := fun b x e => by
  rw [upd_ne (ne_of_none e hp)]; exact e
theorem _root_.L2.Same.upd_both {F H : Hp} (s : Same F H) {p : Addr} {o : HO} : Same (upd F p o) (upd H p o) := fun b x e => by
  by_cases hb : b = p
  · subst hb; rw [upd_same] at e ⊢; exact e
  · rw [upd_ne hb] at e ⊢; exact s b x e
theorem _root_.L2.Same.upd_out {F H : Hp} (s : Same F H) {p : Addr} {o : HO} (hp : F p = none) : Same F (upd H p o) := fun b x e => by
  rw [upd_ne (ne_of_none e hp)]; exact s b x e
theorem Grow.new {F H : Hp} (s : Same F H) {p : Addr} {o : HO} (hp : H p = none) : Grow F H (upd F p o) (upd H p o) :=
  ⟨Same.upd_new hp, Same.upd_new (s.free hp), s.upd_both, fun a u e => upd_ne (ne_of_none e hp)⟩
theorem Grow.own {F H : Hp} (s : Same F H) {p : Addr} {o : HO} (hp : H p = none) : Grow F H F (upd H p o) :=
  ⟨Same.upd_new hp, Same.refl F, s.upd_out (s.free hp), fun a u e => rfl⟩

/-! ### slots -/
/-- a deque of these -/
def DqO (a : Addr) (xs : List V) : HO := .ext fun h => ∃ (vs : List Value) (n : Int), xs.length ≤ sizeLine ∧ Vals xs vs ∧ h.get? a = some (recObj "collections.deque" (#[Value.none, rawInt n] ++ vs.toArray))
inductive Slot where
  | un | fz (d : D) | ol (ds : List D) | od (es : List (Key × D)) | oq (ds : List D) | rg (n : Nat)
abbrev Env := List Slot
def Slot.own : Slot → Bool
  | .ol _ => true
  | .od _ => true
  | .oq _ => true
  | _ => false
def Slot.peek : Slot → Slot
  | .ol ds => .fz (.lst ds)
  | s => s
def SlotOk (K : PySem.W.Frag) (F H : Hp) : Option V → Slot → Prop
  | _, .un => True
  | some v, .fz d => Dv K F v d
  | some v, .ol ds => ∃ a xs, v = .ref a ∧ H a = some (.lst xs) ∧ F a = none ∧ DvAll K F xs ds
  | some v, .od es => ∃ a kvs, v = .ref a ∧ H a = some (.dK kvs) ∧ F a = none ∧ kvs.map (·.1) = es.map (·.1) ∧ DvAll K F (kvs.map (·.2)) (es.map (·.2))
  | some v, .oq ds => ∃ a xs, v = .ref a ∧ H a = some (DqO a xs) ∧ F a = none ∧ DvAll K F xs ds
  | some v, .rg n => ∃ a, v = .ref a ∧ F a = some (.rng 0 (n : Nat))
  | none, _ => False
structure Sl (K : PySem.W.Frag) (ρ : Env) (σ : L2.St) (F H : Hp) : Prop where
  sub : Same F H
  len : σ.length = ρ.length
  ok : ∀ (i : Nat) (s : Slot) (x : Option V), ρ[i]? = some s → σ[i]? = some x → SlotOk K F H x s
  apart : ∀ (i j : Nat) (s t : Slot) (a : Addr), ρ[i]? = some s → ρ[j]? = some t → s.own = true → t.own = true → σ[i]? = some (some (.ref a)) → σ[j]? = some (some (.ref a)) → i = j
section
variable {K : PySem.W.Frag} {ρ : Env} {σ : L2.St} {F H F' H' : Hp}
theorem SlotOk.grow {x : Option V} {s : Slot} (h : SlotOk K F H x s) (g : Grow F H F' H') : SlotOk K F' H' x s := by
  cases s with
  | un => cases x <;> trivial
  | fz d =>
    cases x with
    | none => exact h.elim
    | some v => exact Dv.mono g.f h
  | ol ds =>
    cases x with
    | none => exact h.elim
    | some v =>
      obtain ⟨a, xs, rfl, h1, h2, h3⟩ := h
      exact ⟨a, xs, rfl, g.h _ _ h1, (g.o _ _ h1).trans h2, h3.mono g.f⟩
  | od es =>
    cases x with
    | none => exact h.elim
    | some v =>
      obtain ⟨a, xs, rfl, h1, h2, h3, h4⟩ := h
      exact ⟨a, xs, rfl, g.h _ _ h1, (g.o _ _ h1).trans h2, h3, h4.mono g.f⟩
  | oq ds =>
    cases x with
    | none => exact h.elim
    | some v =>
      obtain ⟨a, xs, rfl, h1, h2, h3⟩ := h
      exact ⟨a, xs, rfl, g.h _ _ h1, (g.o _ _ h1).trans h2, h3.mono g.f⟩
  | rg n =>
    cases x with
    | none => exact h.elim
    | some v =>
      obtain ⟨a, rfl, h1⟩ := h
      exact ⟨a, rfl, g.f _ _ h1⟩
theorem Sl.grow (S : Sl K ρ σ F H) (g : Grow F H F' H') : Sl K ρ σ F' H' := ⟨g.s, S.len, fun i s x h1 h2 => (S.ok i s x h1 h2).grow g, S.apart⟩
theorem Sl.get (S : Sl K ρ σ F H) {i : Nat} {d : D} (h : ρ[i]? = some (.fz d)) : ∃ v, σ[i]? = some (some v) ∧ Dv K F v d := by
  have hi : i < σ.length := by
    have := (List.getElem?_eq_some_iff.mp h).1
    rw [S.len]; exact this
  have e := List.getElem?_eq_getElem hi
  have q := S.ok i _ _ h e
  cases z : σ[i] with
  | none => rw [z] at q; exact q.elim
  | some v => rw [z] at q e; exact ⟨v, e, q⟩
theorem Sl.getOl (S : Sl K ρ σ F H) {i : Nat} {ds : List D} (h : ρ[i]? = some (.ol ds)) : ∃ a xs, σ[i]? = some (some (.ref a)) ∧ H a = some (.lst xs) ∧ F a = none ∧ DvAll K F xs ds := by
  have hi : i < σ.length := by
    have := (List.getElem?_eq_some_iff.mp h).1
    rw [S.len]; exact this
  have e := List.getElem?_eq_getElem hi
  have q := S.ok i _ _ h e
  cases z : σ[i] with
  | none => rw [z] at q; exact q.elim
  | some v =>
    rw [z] at q e
    obtain ⟨a, xs, rfl, h1, h2, h3⟩ := q
    exact ⟨a, xs, e, h1, h2, h3⟩
theorem Sl.getOd (S : Sl K ρ σ F H) {i : Nat} {es : List (Key × D)} (h : ρ[i]? = some (.od es)) : ∃ a kvs, σ[i]? = some (some (.ref a)) ∧ H a = some (.dK kvs) ∧ F a = none ∧ kvs.map (·.1) = es.map (·.1) ∧ DvAll K F (kvs.map (·.2)) (es.map (·.2)) := by
  have hi : i < σ.length := by
    have := (List.getElem?_eq_some_iff.mp h).1
    rw [S.len]; exact this
  have e := List.getElem?_eq_getElem hi
  have q := S.ok i _ _ h e
  cases z : σ[i] with
  | none => rw [z] at q; exact q.elim
  | some v =>
    rw [z] at q e
    obtain ⟨a, xs, rfl, h1, h2, h3⟩ := q
    exact ⟨a, xs, e, h1, h2, h3⟩
theorem Sl.getRg (S : Sl K ρ σ F H) {i : Nat} {n : Nat} (h : ρ[i]? = some (.rg n)) : ∃ a, σ[i]? = some (some (.ref a)) ∧ F a = some (.rng 0 (n : Nat)) := by
  have hi : i < σ.length := by
    have := (List.getElem?_eq_some_iff.mp h).1
    rw [S.len]; exact this
  have e := List.getElem?_eq_getElem hi
  have q := S.ok i _ _ h e
  cases z : σ[i] with
  | none => rw [z] at q; exact q.elim
  | some v =>
    rw [z] at q e
    obtain ⟨a, rfl, h1⟩ := q
    exact ⟨a, e, h1⟩
theorem Sl.getOq (S : Sl K ρ σ F H) {i : Nat} {ds : List D} (h : ρ[i]? = some (.oq ds)) : ∃ a xs, σ[i]? = some (some (.ref a)) ∧ H a = some (DqO a xs) ∧ F a = none ∧ DvAll K F xs ds := by
  have hi : i < σ.length := by
    have := (List.getElem?_eq_some_iff.mp h).1
    rw [S.len]; exact this
  have e := List.getElem?_eq_getElem hi
  have q := S.ok i _ _ h e
  cases z : σ[i] with
  | none => rw [z] at q; exact q.elim
  | some v =>
    rw [z] at q e
    obtain ⟨a, xs, rfl, h1, h2, h3⟩ := q
    exact ⟨a, xs, e, h1, h2, h3⟩
theorem get_set {α : Type} {l : List α} {i j : Nat} {x y : α} (h : (l.set i x)[j]? = some y) : (j = i ∧ y = x) ∨ (j ≠ i ∧ l[j]? = some y) := by
  by_cases hj : j = i
  · subst hj
    have hl : j < (l.set j x).length := (List.getElem?_eq_some_iff.mp h).1
    rw [List.length_set] at hl
    rw [List.getElem?_set_self hl] at h
    exact .inl ⟨rfl, (Option.some.inj h).symm⟩
  · rw [List.getElem?_set_ne (Ne.symm hj)] at h
    exact .inr ⟨hj, h⟩
/-- a slot is given data -/
theorem Sl.setFz (S : Sl K ρ σ F H) {v : V} {d : D} (h : Dv K F v d) (i : Nat) : Sl K (ρ.set i (.fz d)) (σ.set i (some v)) F H := by
  refine ⟨S.sub, by rw [List.length_set, List.length_set]; exact S.len, fun j s x h1 h2 => ?_, fun j k s t a h1 h2 h3 h4 h5 h6 => ?_⟩
  · rcases get_set h1 with ⟨e, rfl⟩ | ⟨n, e⟩
    · rcases get_set h2 with ⟨_, rfl⟩ | ⟨n, _⟩
      · exact h
      · exact absurd e n
    · rcases get_set h2 with ⟨z, _⟩ | ⟨_, e2⟩
      · exact absurd z n
      · exact S.ok j s x e e2
  · rcases get_set h1 with ⟨_, rfl⟩ | ⟨n, e⟩
    · cases h3
    · rcases get_set h2 with ⟨_, rfl⟩ | ⟨n2, e2⟩
      · cases h4
      · rcases get_set h5 with ⟨z, _⟩ | ⟨_, e5⟩
        · exact absurd z n
        · rcases get_set h6 with ⟨z, _⟩ | ⟨_, e6⟩
          · exact absurd z n2
          · exact S.apart j k s t a e e2 h3 h4 e5 e6
/-- a slot is forgotten -/
theorem Sl.setRg (S : Sl K ρ σ F H) {a : Addr} {n : Nat} (h : F a = some (.rng 0 (n : Nat))) (i : Nat) : Sl K (ρ.set i (.rg n)) (σ.set i (some (.ref a))) F H := by
  refine ⟨S.sub, by rw [List.length_set, List.length_set]; exact S.len, fun j s x h1 h2 => ?_, fun j k s t b h1 h2 h3 h4 h5 h6 => ?_⟩
  · rcases get_set h1 with ⟨e, rfl⟩ | ⟨n, e⟩
    · rcases get_set h2 with ⟨_, rfl⟩ | ⟨n, _⟩
      · exact ⟨a, rfl, h⟩
      · exact absurd e n
    · rcases get_set h2 with ⟨z, _⟩ | ⟨_, e2⟩
      · exact absurd z n
      · exact S.ok j s x e e2
  · rcases get_set h1 with ⟨_, rfl⟩ | ⟨n, e⟩
    · cases h3
    · rcases get_set h2 with ⟨_, rfl⟩ | ⟨n2, e2⟩
      · cases h4
      · rcases get_set h5 with ⟨z, _⟩ | ⟨_, e5⟩
        · exact absurd z n
        · rcases get_set h6 with ⟨z, _⟩ | ⟨_, e6⟩
          · exact absurd z n2
          · exact S.apart j k s t b e e2 h3 h4 e5 e6
theorem Sl.setUn (S : Sl K ρ σ F H) (x : Option V) (i : Nat) : Sl K (ρ.set i .un) (σ.set i x) F H := by
  refine ⟨S.sub, by rw [List.length_set, List.length_set]; exact S.len, fun j s y h1 h2 => ?_, fun j k s t a h1 h2 h3 h4 h5 h6 => ?_⟩
  · rcases get_set h1 with ⟨e, rfl⟩ | ⟨n, e⟩
    · cases y <;> trivial
    · rcases get_set h2 with ⟨z, _⟩ | ⟨_, e2⟩
      · exact absurd z n
      · exact S.ok j s y e e2
  · rcases get_set h1 with ⟨_, rfl⟩ | ⟨n, e⟩
    · cases h3
    · rcases get_set h2 with ⟨_, rfl⟩ | ⟨n2, e2⟩
      · cases h4
      · rcases get_set h5 with ⟨z, _⟩ | ⟨_, e5⟩
        · exact absurd z n
        · rcases get_set h6 with ⟨z, _⟩ | ⟨_, e6⟩
          · exact absurd z n2
          · exact S.apart j k s t a e e2 h3 h4 e5 e6
/-- a slot is given a thing of its own, new or its own already -/
theorem Sl.setOwn (S : Sl K ρ σ F H) {a : Addr} {s : Slot} {o : HO} (i : Nat) (hF : F a = none) (ho : s.own = true) (hok : SlotOk K F (upd H a o) (some (.ref a)) s)
    (hn : ∀ (j : Nat) (t : Slot), j ≠ i → ρ[j]? = some t → t.own = true → σ[j]? ≠ some (some (.ref a))) : Sl K (ρ.set i s) (σ.set i (some (.ref a))) F (upd H a o) := by
  refine ⟨S.sub.upd_out hF, by rw [List.length_set, List.length_set]; exact S.len, fun j t y h1 h2 => ?_, fun j k s t b h1 h2 h3 h4 h5 h6 => ?_⟩
  · rcases get_set h1 with ⟨e, rfl⟩ | ⟨n, e⟩
    · rcases get_set h2 with ⟨_, rfl⟩ | ⟨n, _⟩
      · exact hok
      · exact absurd e n
    · rcases get_set h2 with ⟨z, _⟩ | ⟨_, e2⟩
      · exact absurd z n
      · have q := S.ok j t y e e2
        cases t with
        | un => cases y <;> trivial
        | fz d =>
          cases y with
          | none => exact q.elim
          | some v => exact q
        | ol ds =>
          cases y with
          | none => exact q.elim
          | some v =>
            obtain ⟨b, xs, rfl, q1, q2, q3⟩ := q
            have hb : b ≠ a := fun z => by subst z; exact hn j _ n e rfl e2
            exact ⟨b, xs, rfl, by rw [upd_ne hb]; exact q1, q2, q3⟩
        | od es =>
          cases y with
          | none => exact q.elim
          | some v =>
            obtain ⟨b, xs, rfl, q1, q2, q3⟩ := q
            have hb : b ≠ a := fun z => by subst z; exact hn j _ n e rfl e2
            exact ⟨b, xs, rfl, by rw [upd_ne hb]; exact q1, q2, q3⟩
        | oq ds =>
          cases y with
          | none => exact q.elim
          | some v =>
            obtain ⟨b, xs, rfl, q1, q2, q3⟩ := q
            have hb : b ≠ a := fun z => by subst z; exact hn j _ n e rfl e2
            exact ⟨b, xs, rfl, by rw [upd_ne hb]; exact q1, q2, q3⟩
        | rg n =>
          cases y with
          | none => exact q.elim
          | some v => exact q
  · rcases get_set h1 with ⟨e1, _⟩ | ⟨n1, e1⟩
    · rcases get_set h2 with ⟨e2, _⟩ | ⟨n2, e2⟩
      · rw [e1, e2]
      · rcases get_set h5 with ⟨_, z5⟩ | ⟨z5, _⟩
        · rcases get_set h6 with ⟨z6, _⟩ | ⟨_, z6⟩
          · exact absurd z6 n2
          · cases z5
            exact absurd z6 (hn k t n2 e2 h4)
        · exact absurd e1 z5
    · rcases get_set h2 with ⟨e2, _⟩ | ⟨n2, e2⟩
      · rcases get_set h6 with ⟨_, z6⟩ | ⟨z6, _⟩
        · rcases get_set h5 with ⟨z5, _⟩ | ⟨_, z5⟩
          · exact absurd z5 n1
          · cases z6
            exact absurd z5 (hn j s n1 e1 h3)
        · exact absurd e2 z6
      · rcases get_set h5 with ⟨z, _⟩ | ⟨_, e5⟩
        · exact absurd z n1
        · rcases get_set h6 with ⟨z, _⟩ | ⟨_, e6⟩
          · exact absurd z n2
          · exact S.apart j k s t b e1 e2 h3 h4 e5 e6
/-- the lists are frozen for a look -/
def peekF (F H : Hp) : Hp := fun a => match F a with
  | some u => some u
  | none => match H a with
    | some (.lst xs) => some (.lst xs)
    | _ => none
theorem peekF_some {F H : Hp} {a : Addr} {u : HO} (h : F a = some u) : peekF F H a = some u := by unfold peekF; rw [h]
theorem peekF_lst {F H : Hp} {a : Addr} {xs : List V} (h : F a = none) (h2 : H a = some (.lst xs)) : peekF F H a = some (.lst xs) := by unfold peekF; rw [h, h2]
theorem peekF_none {F H : Hp} {a : Addr} {u : HO} (h : F a = none) (h2 : H a = some u) (hu : ∀ xs, u ≠ .lst xs) : peekF F H a = none := by
  unfold peekF
  rw [h, h2]
  cases u with
  | lst xs => exact absurd rfl (hu xs)
  | _ => rfl
theorem peekF_same (F H : Hp) : Same F (peekF F H) := fun a u h => peekF_some h
theorem peekF_sub {F H : Hp} (s : Same F H) : Same (peekF F H) H := fun a u h => by
  cases e : F a with
  | some y =>
    rw [peekF_some e] at h
    rw [h] at e
    exact s a u e
  | none =>
    unfold peekF at h
    rw [e] at h
    cases z : H a with
    | none => rw [z] at h; cases h
    | some y =>
      rw [z] at h
      cases y with
      | lst xs => exact h
      | _ => cases h
theorem Sl.peek (S : Sl K ρ σ F H) : Sl K (ρ.map Slot.peek) σ (peekF F H) H := by
  have sm := peekF_same F H
  have ga : ∀ {i : Nat} {s : Slot}, (ρ.map Slot.peek)[i]? = some s → s.own = true → ρ[i]? = some s := fun {i s} h1 h3 => by
    rw [List.getElem?_map] at h1
    cases e : ρ[i]? with
    | none => rw [e] at h1; cases h1
    | some t =>
      rw [e] at h1
      cases h1
      cases t <;> first | rfl | cases h3
  refine ⟨peekF_sub S.sub, by rw [List.length_map]; exact S.len, fun i s x h1 h2 => ?_, fun i j s t a h1 h2 h3 h4 h5 h6 => S.apart i j s t a (ga h1 h3) (ga h2 h4) h3 h4 h5 h6⟩
  rw [List.getElem?_map] at h1
  cases e : ρ[i]? with
  | none => rw [e] at h1; cases h1
  | some t =>
    rw [e] at h1
    have q := S.ok i t x e h2
    cases h1
    cases t with
    | un => cases x <;> trivial
    | fz d =>
      cases x with
      | none => exact q.elim
      | some v => exact Dv.mono sm q
    | ol ds =>
      cases x with
      | none => exact q.elim
      | some v =>
        obtain ⟨a, xs, rfl, q1, q2, q3⟩ := q
        exact Dv.lst (peekF_lst q2 q1) (q3.mono sm)
    | od es =>
      cases x with
      | none => exact q.elim
      | some v =>
        obtain ⟨a, xs, rfl, q1, q2, q3, q4⟩ := q
        exact ⟨a, xs, rfl, q1, peekF_none q2 q1 (fun _ z => nomatch z), q3, q4.mono sm⟩
    | oq ds =>
      cases x with
      | none => exact q.elim
      | some v =>
        obtain ⟨a, xs, rfl, q1, q2, q3⟩ := q
        exact ⟨a, xs, rfl, q1, peekF_none q2 q1 (fun _ z => nomatch z), q3.mono sm⟩
    | rg n =>
      cases x with
      | none => exact q.elim
      | some v =>
        obtain ⟨a, rfl, q1⟩ := q
        exact ⟨a, rfl, sm _ _ q1⟩
/-- what was grown while lists were frozen -/
theorem Grow.unpeek (s : Same F H) (g : Grow (peekF F H) H F' H') : ∃ F'', Grow F H F'' H' := by
  refine ⟨fun a => if (H a).isSome = true ∧ F a = none then none else F' a, g.h, fun a u e => ?_, fun a u e => ?_, fun a u e => ?_⟩
  · show (if (H a).isSome = true ∧ F a = none then none else F' a) = some u
    rw [if_neg (fun z => by rw [e] at z; exact absurd z.2 (by simp))]
    exact g.f a u (peekF_some e)
  · have e' : (if (H a).isSome = true ∧ F a = none then none else F' a) = some u := e
    split at e'
    · cases e'
    · exact g.s a u e'
  · show (if (H a).isSome = true ∧ F a = none then none else F' a) = F a
    cases q : F a with
    | none => rw [if_pos ⟨by rw [e]; rfl, rfl⟩]
    | some y => rw [if_neg (fun z => by cases z.2), g.o a u e, peekF_some q]
end
end Mir
namespace Mir
open PySem PySem.Spec PyProof.Rows L2

/-! ### judgements -/
structure Gm where
  K : PySem.W.Frag
  mg : Str → Option Value
  E : XK
def PostR {α β : Type} (G : Gm) (rel : Hp → β → α → Prop) (F H : Hp) (r : R α) (Q : β → Hp → Prop) : Prop := match r with
  | .ok a => ∀ b F' H', Grow F H F' H' → rel F' b a → Q b H'
  | .exc c => ∀ C F' H', G.mg c = some (.ref C) → Grow F H F' H' → G.E (.ref C) none H'
  | .bad => False
section
variable {G : Gm} {α β α' β' : Type} {rel : Hp → β → α → Prop} {rel' : Hp → β' → α' → Prop} {F H F1 H1 : Hp} {r : R α}
theorem PostR.grow {Q : β → Hp → Prop} (h : PostR G rel F H r Q) (g : Grow F H F1 H1) : PostR G rel F1 H1 r Q := by
  cases r with
  | ok a => exact fun b F' H' g' q => h b F' H' (g.trans g') q
  | exc c => exact fun C F' H' m g' => h C F' H' m (g.trans g')
  | bad => exact h
theorem PostR.imp {Q Q' : β → Hp → Prop} (h : PostR G rel F H r Q) (k : ∀ a b F' H', r = .ok a → Grow F H F' H' → rel F' b a → Q b H' → Q' b H') : PostR G rel F H r Q' := by
  cases r with
  | ok a => exact fun b F' H' g' q => k a b F' H' rfl g' q (h b F' H' g' q)
  | exc c => exact h
  | bad => exact h
theorem PostR.bind {f : α → R α'} {Q : β' → Hp → Prop} (h : PostR G rel' F H (r.bind f) Q) : PostR G rel F H r (fun b H1 => ∃ F1 a, r = .ok a ∧ Grow F H F1 H1 ∧ rel F1 b a ∧ PostR G rel' F1 H1 (f a) Q) := by
  cases r with
  | ok a => exact fun b F' H' g' q => ⟨F', a, rfl, g', q, PostR.grow (show PostR G rel' F H (f a) Q from h) g'⟩
  | exc c => exact h
  | bad => exact h
theorem PostR.go {a : α} {Q : β → Hp → Prop} (h : PostR G rel F H (.ok a) Q) (s : Same F H) {b : β} (q : rel F b a) : Q b H := h b F H (Grow.refl s) q
end
abbrev DvR (G : Gm) : Hp → V → D → Prop := fun F v d => Dv G.K F v d
abbrev DvsR (G : Gm) : Hp → List V → List D → Prop := fun F v d => DvAll G.K F v d
abbrev EqR {α : Type} : Hp → α → α → Prop := fun _ b a => b = a
def tOf (G : Gm) (m : Env → R D) : TE := fun σ H Q => ∃ ρ F, Sl G.K ρ σ F H ∧ PostR G (DvR G) F H (m ρ) Q
def ttOf (G : Gm) (m : Env → R Bool) : TT := fun σ H Q => ∃ ρ F, Sl G.K ρ σ F H ∧ PostR G EqR F H (m ρ) Q
def taOf (G : Gm) (m : Env → R (List D)) : TA := fun σ H Q => ∃ ρ F, Sl G.K ρ σ F H ∧ PostR G (DvsR G) F H (m ρ) Q
def toOf (G : Gm) (m : Env → R (Option Int)) : TO := fun σ H Q => ∃ ρ F, Sl G.K ρ σ F H ∧ PostR G EqR F H (m ρ) Q
/-- a fresh list -/
def PostF (G : Gm) (F H : Hp) (r : R (List D)) (Q : VK) : Prop := match r with
  | .ok ds => ∀ p xs F' H', Grow F H F' H' → H p = none → F' p = none → H' p = some (.lst xs) → DvAll G.K F' xs ds → Q (.ref p) H'
  | .exc c => ∀ C F' H', G.mg c = some (.ref C) → Grow F H F' H' → G.E (.ref C) none H'
  | .bad => False
def tfOf (G : Gm) (m : Env → R (List D)) : TE := fun σ H Q => ∃ ρ F, Sl G.K ρ σ F H ∧ PostF G F H (m ρ) Q
theorem PostF.grow {G : Gm} {F H F1 H1 : Hp} {r : R (List D)} {Q : VK} (h : PostF G F H r Q) (g : Grow F H F1 H1) : PostF G F1 H1 r Q := by
  cases r with
  | ok a => exact fun p xs F' H' g' n f o q => h p xs F' H' (g.trans g') (g.h.free n) f o q
  | exc c => exact fun C F' H' m g' => h C F' H' m (g.trans g')
  | bad => exact h
theorem PostF.bind {G : Gm} {α β : Type} {rel : Hp → β → α → Prop} {F H : Hp} {r : R α} {f : α → R (List D)} {Q : VK} (h : PostF G F H (r.bind f) Q) :
    PostR G rel F H r (fun b H1 => ∃ F1 a, r = .ok a ∧ Grow F H F1 H1 ∧ rel F1 b a ∧ PostF G F1 H1 (f a) Q) := by
  cases r with
  | ok a => exact fun b F' H' g' q => ⟨F', a, rfl, g', q, PostF.grow (show PostF G F H (f a) Q from h) g'⟩
  | exc c => exact h
  | bad => exact h

abbrev ME (X : Cx) (G : Gm) (e : Expr) (m : Env → R D) : Prop := PE X e (tOf G m)
abbrev MF (X : Cx) (G : Gm) (e : Expr) (m : Env → R (List D)) : Prop := PE X e (tfOf G m)
abbrev MT (X : Cx) (G : Gm) (e : Expr) (m : Env → R Bool) : Prop := PT X e (ttOf G m)
abbrev MW (X : Cx) (G : Gm) (e : Expr) (m : Env → R Bool) : Prop := PW X e (ttOf G m)
abbrev MA (X : Cx) (G : Gm) (es : List Expr) (m : Env → R (List D)) : Prop := PA X es (taOf G m)
abbrev MO (X : Cx) (G : Gm) (e : Option Expr) (m : Env → R (Option Int)) : Prop := PO X e (toOf G m)

theorem weakE {X : Cx} {e : Expr} {t t' : TE} (h : PE X e t) (k : ∀ σ H Q, t' σ H Q → t σ H Q) : PE X e t' := ⟨fun pins s σ H Q I q => h.run pins s σ H Q I (k σ H Q q)⟩
theorem weakT {X : Cx} {e : Expr} {t t' : TT} (h : PT X e t) (k : ∀ σ H Q, t' σ H Q → t σ H Q) : PT X e t' := ⟨fun pins s σ H Q I q => h.run pins s σ H Q I (k σ H Q q)⟩
theorem weakW {X : Cx} {e : Expr} {t t' : TT} (h : PW X e t) (k : ∀ σ H Q, t' σ H Q → t σ H Q) : PW X e t' := ⟨fun wh pins s σ H Q I q => h.run wh pins s σ H Q I (k σ H Q q)⟩
theorem weakA {X : Cx} {e : List Expr} {t t' : TA} (h : PA X e t) (k : ∀ σ H Q, t' σ H Q → t σ H Q) : PA X e t' := ⟨fun pos pins s σ H Q I q => h.run pos pins s σ H Q I (k σ H Q q)⟩
theorem weakO {X : Cx} {e : Option Expr} {t t' : TO} (h : PO X e t) (k : ∀ σ H Q, t' σ H Q → t σ H Q) : PO X e t' := ⟨fun pins s σ H Q I q => h.run pins s σ H Q I (k σ H Q q)⟩

/-! ### mirrors -/
def mVar (i : Nat) : Env → R D := fun ρ => match ρ[i]? with
  | some (.fz d) => .ok d
  | _ => .bad
def mC (d : D) : Env → R D := fun _ => .ok d
def mB (f : D → D → R D) (a b : Env → R D) : Env → R D := fun ρ => (a ρ).bind fun x => (b ρ).bind fun y => f x y
def mU (f : D → R D) (a : Env → R D) : Env → R D := fun ρ => (a ρ).bind f
def mBT (f : D → D → R Bool) (a b : Env → R D) : Env → R Bool := fun ρ => (a ρ).bind fun x => (b ρ).bind fun y => f x y
def mUT (f : D → R Bool) (a : Env → R D) : Env → R Bool := fun ρ => (a ρ).bind f
def blOf (d : D) : R Bool := match d with
  | .bl b => .ok b
  | _ => .bad
def mNil : Env → R (List D) := fun _ => .ok []
def mCons (a : Env → R D) (r : Env → R (List D)) : Env → R (List D) := fun ρ => (a ρ).bind fun x => (r ρ).bind fun xs => .ok (x :: xs)
def mTest (a : Env → R D) : Env → R Bool := fun ρ => (a ρ).bind blOf
def mVal (a : Env → R Bool) : Env → R D := fun ρ => (a ρ).bind fun b => .ok (.bl b)
def mAnd (a b : Env → R Bool) : Env → R Bool := fun ρ => (a ρ).bind fun x => if x = true then b ρ else .ok false
def mOr (a b : Env → R Bool) : Env → R Bool := fun ρ => (a ρ).bind fun x => if x = true then .ok true else b ρ
def mNot (a : Env → R Bool) : Env → R Bool := fun ρ => (a ρ).bind fun x => .ok (!x)
def mIf (c : Env → R Bool) (a b : Env → R D) : Env → R D := fun ρ => (c ρ).bind fun x => if x = true then a ρ else b ρ
def mPeekT (a : Env → R Bool) : Env → R Bool := fun ρ => a (ρ.map Slot.peek)
def flat : D → Bool
  | .non => true
  | .bl _ => true
  | .int _ => true
  | .str _ => true
  | _ => false
def mPeek (a : Env → R D) : Env → R D := fun ρ => (a (ρ.map Slot.peek)).bind fun d => if flat d = true then .ok d else .bad

section
variable {X : Cx} {G : Gm} {a b c e : Expr} {es : List Expr} {ma mb : Env → R D} {pos : Pos} {F H : Hp}
/-- an operator by data: how its reading follows from f -/
def OpM (G : Gm) (r : R2) (f : D → D → R D) : Prop := ∀ (F H : Hp) (x y : V) (d e : D) (Q : VK), Same F H → Dv G.K F x d → Dv G.K F y e → PostR G (DvR G) F H (f d e) Q → r x y H Q
def OpMF (G : Gm) (r : R2) (f : D → D → R (List D)) : Prop := ∀ (F H : Hp) (x y : V) (d e : D) (Q : VK), Same F H → Dv G.K F x d → Dv G.K F y e → PostF G F H (f d e) Q → r x y H Q
theorem op2 {ta tb : TE} {f : D → D → R D} {r : R2} (hm : OpM G r f) : ∀ σ H Q, tOf G (mB f ma mb) σ H Q → tOp r (tOf G ma) (tOf G mb) σ H Q := by
  intro σ H Q ⟨ρ, F, S, P⟩
  refine ⟨ρ, F, S, (PostR.bind (rel := DvR G) P).imp fun d x F1 H1 e1 g1 q1 ⟨F1', d', e1', g1', q1', P1⟩ => ?_⟩
  refine ⟨ρ, F1', S.grow g1', (PostR.bind (rel := DvR G) P1).imp fun d2 y F2 H2 e2 g2 q2 ⟨F2', d2', e2', g2', q2', P2⟩ => ?_⟩
  exact hm F2' H2 x y d' d2' Q g2'.s (q1'.mono g2'.f) q2' P2
theorem op2F {ta tb : TE} {f : D → D → R (List D)} {r : R2} (hm : OpMF G r f) : ∀ σ H Q, tfOf G (fun ρ => (ma ρ).bind fun x => (mb ρ).bind fun y => f x y) σ H Q → tOp r (tOf G ma) (tOf G mb) σ H Q := by
  intro σ H Q ⟨ρ, F, S, P⟩
  refine ⟨ρ, F, S, (PostF.bind (rel := DvR G) P).imp fun d x F1 H1 e1 g1 q1 ⟨F1', d', e1', g1', q1', P1⟩ => ?_⟩
  refine ⟨ρ, F1', S.grow g1', (PostF.bind (rel := DvR G) P1).imp fun d2 y F2 H2 e2 g2 q2 ⟨F2', d2', e2', g2', q2', P2⟩ => ?_⟩
  exact hm F2' H2 x y d' d2' Q g2'.s (q1'.mono g2'.f) q2' P2

theorem me_var (i : Nat) {x : Str} (hN : X.N[i]? = some x := by rfl) (hv : Vis X.env.scope x := by first | exact Or.inl rfl | exact Or.inr (Or.inl rfl) | exact Or.inr (Or.inr rfl)) (hd : (x == ("__debug__" : Str)) = false := by decide)
    (hcd : (x == ("__classdict__" : Str)) = false := by decide) : ME X G (.Name x pos) (mVar i) := weakE (pe_var hN hv hd hcd) fun σ H Q ⟨ρ, F, S, P⟩ => by
  unfold mVar at P
  split at P
  · rename_i d hd
    obtain ⟨v, e, q⟩ := S.get hd
    exact ⟨v, e, P.go S.sub q⟩
  · exact P.elim
theorem me_c {t : TE} {v : V} {d : D} (h : PE X e (tC v)) (hd : ∀ F, Dv G.K F v d) : ME X G e (mC d) := weakE h fun σ H Q ⟨ρ, F, S, P⟩ => PostR.go P S.sub (hd F)
theorem me_int {i j} : ME X G (.Constant (.int i) j pos) (mC (.int i)) := me_c (t := tC .non) pe_int fun _ => .int _
theorem me_bl {i j} : ME X G (.Constant (.bool i) j pos) (mC (.bl i)) := me_c (t := tC .non) pe_bl fun _ => .bl _
theorem me_non {j} : ME X G (.Constant .none j pos) (mC .non) := me_c (t := tC .non) pe_non fun _ => .non
theorem me_str {i j} : ME X G (.Constant (.str i) j pos) (mC (.str i)) := me_c (t := tC .non) pe_str fun _ => .str _
theorem me_gInt {x : Str} {i : Int} (hm : ∃ t, X.mg x = some (.int i t)) (hg : Gl X x := by rfl) (hd : (x == ("__debug__" : Str)) = false := by decide) : ME X G (.Name x pos) (mC (.int i)) := by
  obtain ⟨t, hm⟩ := hm
  exact me_c (t := tC .non) (pe_glob (v := .int i) hg hm ⟨_, rfl⟩ hd) fun _ => .int _
theorem me_gStr {x : Str} {i : Str} (hm : ∃ t, X.mg x = some (.str i t)) (hg : Gl X x := by rfl) (hd : (x == ("__debug__" : Str)) = false := by decide) : ME X G (.Name x pos) (mC (.str i)) := by
  obtain ⟨t, hm⟩ := hm
  exact me_c (t := tC .non) (pe_glob (v := .str i) hg hm ⟨_, rfl⟩ hd) fun _ => .str _
theorem me_ty {x : Str} {n : String} (hm : X.mg x = none) (hv : bootBuiltins x = some (.type n)) (hg : Gl X x := by rfl) (hn : x ≠ "__name__" := by decide) (hd : (x == ("__debug__" : Str)) = false := by decide) : ME X G (.Name x pos) (mC (.ty n)) := me_c (t := tC .non) (pe_bltn (v := .ty n) hg hm hv rfl hn hd) fun _ => .ty _
theorem me_gFn {x : Str} {f : Addr} (hm : X.mg x = some (.ref f)) (hg : Gl X x := by rfl) (hd : (x == ("__debug__" : Str)) = false := by decide) : ME X G (.Name x pos) (mC (.fn f)) := me_c (t := tC .non) (pe_glob (v := .ref f) hg hm rfl hd) fun _ => .fn _

theorem me_bin {op : Operator} {r : R2} {f : D → D → R D} (ho : OpR X (binaryOp op) r) (hm : OpM G r f) (ha : ME X G a ma) (hb : ME X G b mb) : ME X G (.BinOp a op b pos) (mB f ma mb) :=
  weakE (pe_op ho ha hb) (op2 (ta := tC .non) (tb := tC .non) hm)
theorem mf_bin {op : Operator} {r : R2} {f : D → D → R (List D)} (ho : OpR X (binaryOp op) r) (hm : OpMF G r f) (ha : ME X G a ma) (hb : ME X G b mb) : MF X G (.BinOp a op b pos) (fun ρ => (ma ρ).bind fun x => (mb ρ).bind fun y => f x y) :=
  weakE (pe_op ho ha hb) (op2F (ta := tC .non) (tb := tC .non) hm)
theorem me_cmp {op : CmpOp} {r : R2} {f : D → D → R D} (ho : OpR X (compareOp op) r) (hm : OpM G r f) (ha : ME X G a ma) (hb : ME X G b mb) (hk : behindInMarks op b = false) : ME X G (.Compare a [op] [b] pos) (mB f ma mb) :=
  weakE (pe_cmpR ho ha hb hk) (op2 (ta := tC .non) (tb := tC .non) hm)
/-- a value that is a bool, as a test -/
theorem tt_of {te : TE} {m : Env → R D} (h : ∀ σ H Q, tOf G m σ H Q → te σ H Q) : ∀ σ H Q, ttOf G (mTest m) σ H Q → tTest te σ H Q := fun σ H Q ⟨ρ, F, S, P⟩ => by
  refine h σ H _ ⟨ρ, F, S, (PostR.bind (rel := DvR G) P).imp fun d x F1 H1 e1 g1 q1 ⟨F1', d', e1', g1', q1', P1⟩ => ?_⟩
  unfold blOf at P1
  split at P1
  · cases q1'
    exact ⟨_, rfl, P1.go g1'.s rfl⟩
  · exact P1.elim
theorem mt_cmp {op : CmpOp} {r : R2} {f : D → D → R D} (ho : OpR X (compareOp op) r) (hm : OpM G r f) (ha : ME X G a ma) (hb : ME X G b mb) (hk : behindInMarks op b = false) : MT X G (.Compare a [op] [b] pos) (mTest (mB f ma mb)) :=
  weakT (pt_cmpR ho ha hb hk) (tt_of (op2 (ta := tC .non) (tb := tC .non) hm))
/-- a call or the like whose value is a bool, as a test -/
theorem mt_val (ha : ME X G a ma) (he : ∀ whole, isTrue a X.env whole = (do let v ← whole; standAt a.pos; holding [v] (truthy v)) := by intro _; rfl) : MT X G a (mTest ma) :=
  weakT (pt_val ha he) (tt_of (te := tOf G ma) fun _ _ _ q => q)
/-- truth of any data -/
def truth : D → R Bool
  | .non => .ok false
  | .bl b => .ok b
  | .int i => .ok (i != 0)
  | .str y => if y.length ≤ sizeLine then .ok ((y.length : Int) != 0) else .bad
  | .lst ds => .ok (!ds.isEmpty)
  | .rol ds => .ok (!ds.isEmpty)
  | .tup ds => .ok (!ds.isEmpty)
  | _ => .bad
theorem isEmpty_of {K : PySem.W.Frag} {xs : List V} {ds : List D} (h : DvAll K F xs ds) : xs.isEmpty = ds.isEmpty := by cases h <;> rfl
theorem mt_truth (ha : ME X G a ma) (hK : X.K = G.K := by rfl) (he : ∀ whole, isTrue a X.env whole = (do let v ← whole; standAt a.pos; holding [v] (truthy v)) := by intro _; rfl) : MT X G a (mUT truth ma) :=
  weakT (pt_truth ha he) fun σ H Q ⟨ρ, F, S, P⟩ => by
    refine ⟨ρ, F, S, (PostR.bind (rel := DvR G) P).imp fun d x F1 H1 e1 g1 q1 ⟨F1', d', e1', g1', q1', P1⟩ => ?_⟩
    rw [hK]
    cases q1' with
    | non => exact ⟨_, rfl, P1.go g1'.s rfl⟩
    | bl b => exact ⟨_, rfl, P1.go g1'.s rfl⟩
    | int i => exact ⟨_, rfl, P1.go g1'.s rfl⟩
    | str y =>
      unfold truth at P1
      dsimp only at P1
      split at P1
      · exact ⟨_, ⟨by assumption, rfl⟩, P1.go g1'.s rfl⟩
      · exact P1.elim
    | lst h r => exact ⟨_, .inl ⟨_, SqL.of (g1'.s _ _ h), rfl⟩, P1.go g1'.s (by rw [isEmpty_of r])⟩
    | rol h r => exact ⟨_, .inl ⟨_, g1'.s.seq h, rfl⟩, P1.go g1'.s (by rw [isEmpty_of r])⟩
    | tup h r => exact ⟨_, .inr (.inl ⟨_, Same.tup g1'.s h, rfl⟩), P1.go g1'.s (by rw [isEmpty_of r])⟩
    | dic h k r => exact P1.elim
    | fn => exact P1.elim
    | ty => exact P1.elim
theorem mt_peek {m : Env → R Bool} (h : MT X G a m) : MT X G a (mPeekT m) := weakT h fun σ H Q ⟨ρ, F, S, P⟩ => by
  refine ⟨_, peekF F H, S.peek, ?_⟩
  unfold mPeekT at P
  cases e : m (ρ.map Slot.peek) with
  | ok b =>
    rw [e] at P
    intro b' F' H' g q
    obtain ⟨F'', g'⟩ := g.unpeek S.sub
    exact P b' F'' H' g' q
  | exc c =>
    rw [e] at P
    intro C F' H' hm g
    obtain ⟨F'', g'⟩ := g.unpeek S.sub
    exact P C F'' H' hm g'
  | bad => rw [e] at P; exact P.elim
theorem me_peek (h : ME X G a ma) : ME X G a (mPeek ma) := weakE h fun σ H Q ⟨ρ, F, S, P⟩ => by
  refine ⟨_, peekF F H, S.peek, ?_⟩
  unfold mPeek at P
  cases e : ma (ρ.map Slot.peek) with
  | ok d =>
    rw [e] at P
    intro b' F' H' g q
    obtain ⟨F'', g'⟩ := g.unpeek S.sub
    have P' : PostR G (DvR G) F H (if flat d = true then .ok d else .bad) Q := P
    by_cases hf : flat d = true
    · rw [if_pos hf] at P'
      refine P' b' F'' H' g' ?_
      cases q with
      | non => exact .non
      | bl b => exact .bl b
      | int b => exact .int b
      | str b => exact .str b
      | lst => cases hf
      | tup => cases hf
      | rol => cases hf
      | dic => cases hf
      | fn => cases hf
      | ty => cases hf
    · rw [if_neg hf] at P'
      exact P'.elim
  | exc c =>
    rw [e] at P
    intro C F' H' hm g
    obtain ⟨F'', g'⟩ := g.unpeek S.sub
    exact P C F'' H' hm g'
  | bad => rw [e] at P; exact P.elim

/-! and, or, not, if -/
variable {m m' : Env → R Bool} {rest : List Expr}
theorem mw_and1 (h : MT X G a m) : MW X G (.BoolOp .And [a] pos) m := pw_and1 h
theorem mw_or1 (h : MT X G a m) : MW X G (.BoolOp .Or [a] pos) m := pw_or1 h
theorem mw_and (ha : MT X G a m) (hb : MW X G (.BoolOp .And (b :: rest) pos) m') : MW X G (.BoolOp .And (a :: b :: rest) pos) (mAnd m m') :=
  weakW (pw_and ha hb) fun σ H Q ⟨ρ, F, S, P⟩ => by
    refine ⟨ρ, F, S, (PostR.bind (rel := EqR) P).imp fun d x F1 H1 e1 g1 q1 ⟨F1', d', e1', g1', q1', P1⟩ => ?_⟩
    have q : x = d' := q1'
    subst q
    cases x with
    | true => rw [if_pos rfl] at P1 ⊢; exact ⟨ρ, F1', S.grow g1', P1⟩
    | false => rw [if_neg Bool.false_ne_true] at P1 ⊢; exact P1.go g1'.s rfl
theorem mw_or (ha : MT X G a m) (hb : MW X G (.BoolOp .Or (b :: rest) pos) m') : MW X G (.BoolOp .Or (a :: b :: rest) pos) (mOr m m') :=
  weakW (pw_or ha hb) fun σ H Q ⟨ρ, F, S, P⟩ => by
    refine ⟨ρ, F, S, (PostR.bind (rel := EqR) P).imp fun d x F1 H1 e1 g1 q1 ⟨F1', d', e1', g1', q1', P1⟩ => ?_⟩
    have q : x = d' := q1'
    subst q
    cases x with
    | true => rw [if_pos rfl] at P1 ⊢; exact P1.go g1'.s rfl
    | false => rw [if_neg Bool.false_ne_true] at P1 ⊢; exact ⟨ρ, F1', S.grow g1', P1⟩
theorem mt_not (h : MT X G a m) : MT X G (.UnaryOp .Not a pos) (mNot m) := weakT (pt_not h) fun σ H Q ⟨ρ, F, S, P⟩ => by
  refine ⟨ρ, F, S, (PostR.bind (rel := EqR) P).imp fun d x F1 H1 e1 g1 q1 ⟨F1', d', e1', g1', q1', P1⟩ => ?_⟩
  have q : x = d' := q1'
  subst q
  exact P1.go g1'.s rfl
theorem me_if (hc : MT X G c m) (ha : ME X G a ma) (hb : ME X G b mb) : ME X G (.IfExp c a b pos) (mIf m ma mb) := weakE (pe_ifExp hc ha hb) fun σ H Q ⟨ρ, F, S, P⟩ => by
  refine ⟨ρ, F, S, (PostR.bind (rel := EqR) P).imp fun d x F1 H1 e1 g1 q1 ⟨F1', d', e1', g1', q1', P1⟩ => ?_⟩
  have q : x = d' := q1'
  subst q
  cases x with
  | true => rw [if_pos rfl] at P1 ⊢; exact ⟨ρ, F1', S.grow g1', P1⟩
  | false => rw [if_neg Bool.false_ne_true] at P1 ⊢; exact ⟨ρ, F1', S.grow g1', P1⟩
/-- and, or, not as values of bools -/
def mAndV (a b : Env → R D) : Env → R D := fun ρ => (a ρ).bind fun x => (blOf x).bind fun k => if k = true then b ρ else .ok (.bl false)
def mOrV (a b : Env → R D) : Env → R D := fun ρ => (a ρ).bind fun x => (blOf x).bind fun k => if k = true then .ok (.bl true) else b ρ
def mNotV (a : Env → R D) : Env → R D := fun ρ => (a ρ).bind fun x => (blOf x).bind fun k => .ok (.bl (!k))
theorem me_one {op} (h : ME X G a ma) : ME X G (.BoolOp op [a] pos) ma := pe_one h
theorem me_and (ha : ME X G a ma) (hb : ME X G (.BoolOp .And (b :: rest) pos) mb) : ME X G (.BoolOp .And (a :: b :: rest) pos) (mAndV ma mb) := weakE (pe_and ha hb) fun σ H Q ⟨ρ, F, S, P⟩ => by
  refine ⟨ρ, F, S, (PostR.bind (rel := DvR G) P).imp fun d x F1 H1 e1 g1 q1 ⟨F1', d', e1', g1', q1', P1⟩ => ?_⟩
  cases q1' with
  | bl k =>
    refine ⟨k, rfl, ?_⟩
    have P1 : PostR G (DvR G) F1' H1 (if k = true then mb ρ else .ok (.bl false)) Q := P1
    cases k with
    | true => rw [if_pos rfl] at P1 ⊢; exact ⟨ρ, F1', S.grow g1', P1⟩
    | false => rw [if_neg Bool.false_ne_true] at P1 ⊢; exact P1.go g1'.s (.bl _)
  | _ => exact P1.elim
theorem me_or (ha : ME X G a ma) (hb : ME X G (.BoolOp .Or (b :: rest) pos) mb) : ME X G (.BoolOp .Or (a :: b :: rest) pos) (mOrV ma mb) := weakE (pe_or ha hb) fun σ H Q ⟨ρ, F, S, P⟩ => by
  refine ⟨ρ, F, S, (PostR.bind (rel := DvR G) P).imp fun d x F1 H1 e1 g1 q1 ⟨F1', d', e1', g1', q1', P1⟩ => ?_⟩
  cases q1' with
  | bl k =>
    refine ⟨k, rfl, ?_⟩
    have P1 : PostR G (DvR G) F1' H1 (if k = true then .ok (.bl true) else mb ρ) Q := P1
    cases k with
    | true => rw [if_pos rfl] at P1 ⊢; exact P1.go g1'.s (.bl _)
    | false => rw [if_neg Bool.false_ne_true] at P1 ⊢; exact ⟨ρ, F1', S.grow g1', P1⟩
  | _ => exact P1.elim
theorem me_not (ha : ME X G a ma) : ME X G (.UnaryOp .Not a pos) (mNotV ma) := weakE (pe_not ha) fun σ H Q ⟨ρ, F, S, P⟩ => by
  refine ⟨ρ, F, S, (PostR.bind (rel := DvR G) P).imp fun d x F1 H1 e1 g1 q1 ⟨F1', d', e1', g1', q1', P1⟩ => ?_⟩
  cases q1' with
  | bl k =>
    exact ⟨k, rfl, PostR.go (G := G) (rel := DvR G) P1 g1'.s (Dv.bl _)⟩
  | _ => exact P1.elim

/-! arguments, displays -/
theorem ma_nil : MA X G [] mNil := weakA pa_nil fun σ H Q ⟨ρ, F, S, P⟩ => PostR.go P S.sub .nil
theorem ma_cons {mr : Env → R (List D)} (ha : ME X G e ma) (hr : MA X G es mr) (hs : starEach (e :: es) X.env = (false, eval e X.env) :: starEach es X.env := by rfl) : MA X G (e :: es) (mCons ma mr) :=
  weakA (pa_cons ha hr hs) fun σ H Q ⟨ρ, F, S, P⟩ => by
    refine ⟨ρ, F, S, (PostR.bind (rel := DvR G) P).imp fun d x F1 H1 e1 g1 q1 ⟨F1', d', e1', g1', q1', P1⟩ => ?_⟩
    refine ⟨ρ, F1', S.grow g1', (PostR.bind (rel := DvsR G) P1).imp fun d2 y F2 H2 e2 g2 q2 ⟨F2', d2', e2', g2', q2', P2⟩ => ?_⟩
    exact P2.go g2'.s (.cons (q1'.mono g2'.f) q2')
def mTup (m : Env → R (List D)) : Env → R D := fun ρ => (m ρ).bind fun ds => if ds.length ≤ sizeLine then .ok (.tup ds) else .bad
def mLst (m : Env → R (List D)) : Env → R (List D) := fun ρ => (m ρ).bind fun ds => if ds.length ≤ sizeLine then .ok ds else .bad
theorem me_tup {mr : Env → R (List D)} {x1} (h : MA X G es mr) : ME X G (.Tuple es x1 pos) (mTup mr) := weakE (pe_tup h) fun σ H Q ⟨ρ, F, S, P⟩ => by
  refine ⟨ρ, F, S, (PostR.bind (rel := DvsR G) P).imp fun d x F1 H1 e1 g1 q1 ⟨F1', d', e1', g1', q1', P1⟩ => ?_⟩
  split at P1
  · rename_i hl
    refine ⟨by rw [q1'.length]; exact hl, fun p hp => ?_⟩
    have g2 : Grow F1' H1 (upd F1' p (.tup x)) (upd H1 p (.tup x)) := Grow.new g1'.s hp
    exact P1 _ _ _ g2 (.tup (SqT.of upd_same) (q1'.mono g2.f))
  · exact P1.elim
theorem mf_lst {mr : Env → R (List D)} (h : MA X G es mr) : MF X G (.List es pos) (mLst mr) := weakE (pe_lst h) fun σ H Q ⟨ρ, F, S, P⟩ => by
  refine ⟨ρ, F, S, (PostF.bind (rel := DvsR G) P).imp fun d x F1 H1 e1 g1 q1 ⟨F1', d', e1', g1', q1', P1⟩ => ?_⟩
  split at P1
  · rename_i hl
    refine ⟨by rw [q1'.length]; exact hl, fun p hp => ?_⟩
    have g2 : Grow F1' H1 F1' (upd H1 p (.lst x)) := Grow.own g1'.s hp
    exact P1 p x _ _ g2 hp (g1'.s.free hp) upd_same q1'
  · exact P1.elim
/-- a fresh list, frozen at once -/
def mFz (m : Env → R (List D)) : Env → R D := fun ρ => (m ρ).bind fun ds => .ok (.lst ds)
theorem post_fz {F H : Hp} {r : R (List D)} {Q : VK} (P : PostR G (DvR G) F H (r.bind fun ds => .ok (.lst ds)) Q) : PostF G F H r Q := by
  cases r with
  | ok ds =>
    intro p xs F' H' g n f o q
    have s2 : Same F' (upd F' p (.lst xs)) := Same.upd_new f
    have g2 : Grow F H (upd F' p (.lst xs)) H' := ⟨g.h, g.f.trans s2, fun b u e => by
      by_cases hb : b = p
      · subst hb; rw [upd_same] at e; cases e; exact o
      · rw [upd_ne hb] at e; exact g.s b u e, fun b u e => by rw [upd_ne (ne_of_none e n)]; exact g.o b u e⟩
    exact P _ _ _ g2 (.lst upd_same (q.mono s2))
  | exc c => exact P
  | bad => exact P
theorem me_fz {m : Env → R (List D)} (h : MF X G e m) : ME X G e (mFz m) := weakE h fun σ H Q ⟨ρ, F, S, P⟩ => ⟨ρ, F, S, post_fz P⟩
end
end Mir
namespace Mir
open PySem PySem.Spec PyProof.Rows L2

/-! ### data of the library -/
mutual
def toPy : D → PyData
  | .non => .none
  | .bl b => .bool b
  | .int i => .int i
  | .str s => .str s
  | .lst ds => .list (toPyAll ds)
  | .rol ds => .list (toPyAll ds)
  | .tup ds => .tuple (toPyAll ds)
  | _ => .dict []
def toPyAll : List D → List PyData
  | [] => []
  | d :: ds => toPy d :: toPyAll ds
end
theorem toPyAll_map : ∀ ds : List D, toPyAll ds = ds.map toPy
  | [] => by rw [toPyAll]; rfl
  | d :: ds => by rw [toPyAll, toPyAll_map ds]; rfl
section
variable {K : PySem.W.Frag} {F H : Hp}
mutual
theorem dp_of (s : Same F H) : ∀ (d : D) (v : V), Dv K F v d → (toPy d).canLay0 = true → Dp K H v (toPy d)
  | .non, _, h, _ => by cases h; rw [toPy]; exact .non
  | .bl b, _, h, _ => by cases h; rw [toPy]; exact .bl b
  | .int b, _, h, _ => by cases h; rw [toPy]; exact .int b
  | .str b, _, h, _ => by cases h; rw [toPy]; exact .str b
  | .lst ds, _, h, c => by
    cases h with
    | lst e r =>
      rw [toPy] at c ⊢
      exact .lst (SqL.of (s _ _ e)) (dp_all s ds _ r (by rw [PyData.canLay0] at c; exact c))
  | .rol ds, _, h, c => by
    cases h with
    | rol e r =>
      rw [toPy] at c ⊢
      exact .lst (s.seq e) (dp_all s ds _ r (by rw [PyData.canLay0] at c; exact c))
  | .tup ds, _, h, c => by
    cases h with
    | tup e r =>
      rw [toPy] at c ⊢
      exact .tup (Same.tup s e) (dp_all s ds _ r (by rw [PyData.canLay0] at c; exact c))
  | .dic _ _, _, _, c => by simp [toPy, PyData.canLay0] at c
  | .fn _, _, _, c => by simp [toPy, PyData.canLay0] at c
  | .ty _, _, _, c => by simp [toPy, PyData.canLay0] at c
theorem dp_all (s : Same F H) : ∀ (ds : List D) (vs : List V), DvAll K F vs ds → PyData.canLayAll0 (toPyAll ds) = true → DpAll K H vs (toPyAll ds)
  | [], _, h, _ => by cases h; rw [toPyAll]; exact .nil
  | d :: ds, _, h, c => by
    cases h with
    | cons h1 h2 =>
      rw [toPyAll] at c ⊢
      rw [PyData.canLayAll0] at c
      have c2 := Bool.and_eq_true_iff.mp c
      exact .cons (dp_of s d _ h1 c2.1) (dp_all s ds _ h2 c2.2)
end
end
def shp (d : D) : Bool := SeqAt.shaped (toPy d)
theorem dp_shp {K : PySem.W.Frag} {F H : Hp} {d : D} {v : V} (s : Same F H) (h : Dv K F v d) (c : shp d = true) : Dp K H v (toPy d) := dp_of s d v h (SeqAt.canLay_of_shaped c)
/-- == of data -/
def eqv (x y : D) : Bool := PyData.eqv (toPy x) (toPy y)
def eqD (x y : D) : R D := if shp x = true ∧ shp y = true then .ok (.bl (eqv x y)) else .bad
def neD (x y : D) : R D := if shp x = true ∧ shp y = true then .ok (.bl (!eqv x y)) else .bad

def addD (x y : D) : R D := match x, y with
  | .int i, .int j => .ok (.int (i + j))
  | .str s, .str t => if s.length + t.length ≤ sizeLine then .ok (.str (s ++ t)) else .bad
  | .lst a, .lst b => if a.length + b.length ≤ sizeLine then .ok (.lst (a ++ b)) else .bad
  | .tup a, .tup b => if a.length + b.length ≤ sizeLine then .ok (.tup (a ++ b)) else .bad
  | _, _ => .bad
section
variable {X : Cx} {G : Gm}
theorem postD {F H : Hp} {d : D} {v : V} {Q : VK} (P : PostR G (DvR G) F H (.ok d) Q) (s : Same F H) (h : Dv G.K F v d) : Q v H := PostR.go (G := G) (rel := DvR G) P s h
theorem postNew {F H : Hp} {d : D} {o : HO} {Q : VK} (P : PostR G (DvR G) F H (.ok d) Q) (s : Same F H) {p : Addr} (hp : H p = none) (h : Dv G.K (upd F p o) (.ref p) d) : Q (.ref p) (upd H p o) := P _ _ _ (Grow.new s hp) h
theorem DvAll.nil_iff {K : PySem.W.Frag} {F : Hp} {xs : List V} {ds : List D} (h : DvAll K F xs ds) : xs = [] ↔ ds = [] := by cases h <;> simp

/-! + -/
def rAddA (K : PySem.W.Frag) : R2 := fun x y H Q => rI0 (fun i j => .int (i + j)) x y H Q ∨ (∃ i j, x = .str i ∧ y = .str j ∧ i.length + j.length ≤ sizeLine ∧ Q (.str (i ++ j)) H) ∨ rCat x y H Q ∨ rCatA K x y H Q
theorem op_addA : OpR X (binaryOp .Add) (rAddA X.K) := op_add.or (op_add_str.or (op_cat.or op_catA))
theorem om_add : OpM G (rAddA G.K) addD := by
  intro F H x y d e Q s hx hy P
  cases hx with
  | int i =>
    cases hy with
    | int j => exact .inl ⟨i, j, rfl, rfl, postD P s (.int _)⟩
    | _ => exact P.elim
  | str i =>
    cases hy with
    | str j =>
      have P : PostR G (DvR G) F H (if i.length + j.length ≤ sizeLine then .ok (.str (i ++ j)) else .bad) Q := P
      by_cases hl : i.length + j.length ≤ sizeLine
      · rw [if_pos hl] at P
        exact .inr (.inl ⟨i, j, rfl, rfl, hl, postD P s (.str _)⟩)
      · rw [if_neg hl] at P
        exact P.elim
    | _ => exact P.elim
  | @lst a xs ds e r =>
    cases hy with
    | @lst b ys es e2 r2 =>
      have P : PostR G (DvR G) F H (if ds.length + es.length ≤ sizeLine then .ok (.lst (ds ++ es)) else .bad) Q := P
      by_cases hl : ds.length + es.length ≤ sizeLine
      · rw [if_pos hl] at P
        refine .inr (.inr (.inl ⟨a, b, xs, ys, rfl, rfl, s _ _ e, s _ _ e2, by rw [r.length, r2.length]; exact hl, fun p hp => ?_⟩))
        exact postNew P s hp (.lst upd_same ((r.append r2).mono (Same.upd_new (s.free hp))))
      · rw [if_neg hl] at P
        exact P.elim
    | _ => exact P.elim
  | @tup a xs ds e r =>
    cases hy with
    | @tup b ys es e2 r2 =>
      have P : PostR G (DvR G) F H (if ds.length + es.length ≤ sizeLine then .ok (.tup (ds ++ es)) else .bad) Q := P
      by_cases hl : ds.length + es.length ≤ sizeLine
      · rw [if_pos hl] at P
        refine .inr (.inr (.inr ⟨a, b, xs, ys, rfl, rfl, Same.tup s e, Same.tup s e2, by rw [r.length, r2.length]; exact hl, fun z => ?_, fun _ z => ?_, fun _ _ p hp => ?_⟩))
        · have h3 : ds = [] := r.nil_iff.mp z
          rw [h3, List.nil_append] at P
          exact postD P s (.tup e2 r2)
        · have h3 : es = [] := r2.nil_iff.mp z
          rw [h3, List.append_nil] at P
          exact postD P s (.tup e r)
        · exact postNew P s hp (.tup (SqT.of upd_same) ((r.append r2).mono (Same.upd_new (s.free hp))))
      · rw [if_neg hl] at P
        exact P.elim
    | _ => exact P.elim
  | _ => exact P.elim

/-! -, *, //, %, ** -/
def subD (x y : D) : R D := match x, y with
  | .int i, .int j => .ok (.int (i - j))
  | _, _ => .bad
theorem om_sub : OpM G (rI0 fun i j => .int (i - j)) subD := by
  intro F H x y d e Q s hx hy P
  cases hx with
  | int i =>
    cases hy with
    | int j => exact ⟨i, j, rfl, rfl, postD P s (.int _)⟩
    | _ => exact P.elim
  | _ => exact P.elim
def mulD (x y : D) : R D := match x, y with
  | .int i, .int j => if (-(2 ^ 64) < i ∧ i < 2 ^ 64) ∨ (-(2 ^ 64) < j ∧ j < 2 ^ 64) then .ok (.int (i * j)) else .bad
  | .str z, .int k => if z.length ≤ 16 ∧ 0 ≤ k ∧ k ≤ 1000 then .ok (.str (Txt.mul z k)) else .bad
  | .lst a, .int k => if 0 ≤ k ∧ k ≤ 1000 ∧ a.length ≤ 1000 then .ok (.lst (List.replicate k.toNat a).flatten) else .bad
  | .tup a, .int k => if a ≠ [] ∧ 2 ≤ k ∧ k ≤ 1000 ∧ a.length ≤ 1000 then .ok (.tup (List.replicate k.toNat a).flatten) else if a = [] ∧ 2 ≤ k ∧ k ≤ 1000 then .ok (.tup []) else .bad
  | _, _ => .bad
def rMulS : R2 := fun x y H Q => ∃ z k, x = .str z ∧ y = .int k ∧ (z.length ≤ 16 ∧ 0 ≤ k ∧ k ≤ 1000) ∧ Q (.str (Txt.mul z k)) H
theorem op_mulS : OpR X (binaryOp .Mult) rMulS := by
  intro pins s σ H x y v u Q I rx ry h
  obtain ⟨z, k, rfl, rfl, ⟨h1, h2, h3⟩, q⟩ := h
  obtain ⟨t, rfl⟩ := rx
  obtain ⟨t', rfl⟩ := ry
  exact SB.mul (mulOk_of 16 1000 h1 (by omega) (by omega) (by decide) (by decide)) fun t' tk => ⟨.str _, H, I.tok tk, ⟨_, rfl⟩, q⟩
def rMulA (K : PySem.W.Frag) : R2 := fun x y H Q => rI CMul (fun i j => .int (i * j)) x y H Q ∨ rMulS x y H Q ∨ rRep x y H Q ∨ rRepT K x y H Q ∨ rMulT0 K x y H Q
theorem op_mulA : OpR X (binaryOp .Mult) (rMulA X.K) := op_mul.or (op_mulS.or (op_rep.or (op_repT.or op_mulT0)))
theorem dv_rep {K : PySem.W.Frag} {F : Hp} {xs : List V} {ds : List D} (h : DvAll K F xs ds) : ∀ n : Nat, DvAll K F (List.replicate n xs).flatten (List.replicate n ds).flatten
  | 0 => .nil
  | n + 1 => by
    rw [List.replicate_succ, List.replicate_succ, List.flatten_cons, List.flatten_cons]
    exact h.append (dv_rep h n)
theorem om_mul : OpM G (rMulA G.K) mulD := by
  intro F H x y d e Q s hx hy P
  cases hx with
  | int i =>
    cases hy with
    | int j =>
      have P : PostR G (DvR G) F H (if (-(2 ^ 64) < i ∧ i < 2 ^ 64) ∨ (-(2 ^ 64) < j ∧ j < 2 ^ 64) then .ok (.int (i * j)) else .bad) Q := P
      split at P
      · rename_i c
        exact .inl ⟨i, j, rfl, rfl, c, postD P s (.int _)⟩
      · exact P.elim
    | _ => exact P.elim
  | str z =>
    cases hy with
    | int k =>
      have P : PostR G (DvR G) F H (if z.length ≤ 16 ∧ 0 ≤ k ∧ k ≤ 1000 then .ok (.str (Txt.mul z k)) else .bad) Q := P
      split at P
      · rename_i c
        exact .inr (.inl ⟨z, k, rfl, rfl, c, postD P s (.str _)⟩)
      · exact P.elim
    | _ => exact P.elim
  | @lst a xs ds e r =>
    cases hy with
    | int k =>
      have P : PostR G (DvR G) F H (if 0 ≤ k ∧ k ≤ 1000 ∧ ds.length ≤ 1000 then .ok (.lst (List.replicate k.toNat ds).flatten) else .bad) Q := P
      split at P
      · rename_i c
        refine .inr (.inr (.inl ⟨a, k, xs, rfl, rfl, s _ _ e, by omega, by omega, ?_, fun p hp => ?_⟩))
        · rw [r.length]
          have h1 : ds.length * k.toNat ≤ 1000 * 1000 := Nat.mul_le_mul c.2.2 (by omega)
          rw [sizeLine_eq]
          omega
        · exact postNew P s hp (.lst upd_same ((dv_rep r _).mono (Same.upd_new (s.free hp))))
      · exact P.elim
    | _ => exact P.elim
  | @tup a xs ds e r =>
    cases hy with
    | int k =>
      have P : PostR G (DvR G) F H (if ds ≠ [] ∧ 2 ≤ k ∧ k ≤ 1000 ∧ ds.length ≤ 1000 then .ok (.tup (List.replicate k.toNat ds).flatten) else if ds = [] ∧ 2 ≤ k ∧ k ≤ 1000 then .ok (.tup []) else .bad) Q := P
      split at P
      · rename_i c
        refine .inr (.inr (.inr (.inl ⟨a, k, xs, rfl, rfl, Same.tup s e, fun z => c.1 (r.nil_iff.mp z), c.2.1, c.2.2.1, by rw [r.length]; exact c.2.2.2, fun p hp => ?_⟩)))
        exact postNew P s hp (.tup (SqT.of upd_same) ((dv_rep r _).mono (Same.upd_new (s.free hp))))
      · split at P
        · rename_i c
          have ex : xs = [] := r.nil_iff.mpr c.1
          subst ex
          exact .inr (.inr (.inr (.inr ⟨a, k, rfl, rfl, Same.tup s e, c.2.1, c.2.2, postD P s (.tup e .nil)⟩)))
        · exact P.elim
    | _ => exact P.elim
  | _ => exact P.elim
def fdivD (x y : D) : R D := match x, y with
  | .int i, .int j => if 0 < j ∧ j < 2 ^ 64 then .ok (.int (i / j)) else .bad
  | _, _ => .bad
theorem om_fdiv : OpM G (rI CDivW fun i j => .int (i / j)) fdivD := by
  intro F H x y d e Q s hx hy P
  cases hx with
  | int i =>
    cases hy with
    | int j =>
      have P : PostR G (DvR G) F H (if 0 < j ∧ j < 2 ^ 64 then .ok (.int (i / j)) else .bad) Q := P
      split at P
      · rename_i c
        exact ⟨i, j, rfl, rfl, wide_div (b := 64) c.1 (by omega) (by decide) (by decide), postD P s (.int _)⟩
      · exact P.elim
    | _ => exact P.elim
  | _ => exact P.elim
def modD (x y : D) : R D := match x, y with
  | .int i, .int j => if 0 < j then .ok (.int (i % j)) else .bad
  | _, _ => .bad
theorem om_mod : OpM G (rI (fun _ j => 0 < j) fun i j => .int (i % j)) modD := by
  intro F H x y d e Q s hx hy P
  cases hx with
  | int i =>
    cases hy with
    | int j =>
      have P : PostR G (DvR G) F H (if 0 < j then .ok (.int (i % j)) else .bad) Q := P
      split at P
      · rename_i c
        exact ⟨i, j, rfl, rfl, c, postD P s (.int _)⟩
      · exact P.elim
    | _ => exact P.elim
  | _ => exact P.elim
def powD (x y : D) : R D := match x, y with
  | .int i, .int j => if 0 ≤ j ∧ j ≤ 64 ∧ -(2 ^ 63) ≤ i ∧ i ≤ 2 ^ 63 then .ok (.int (i ^ j.toNat)) else .bad
  | _, _ => .bad
theorem om_pow : OpM G (rI CPow fun i j => .int (i ^ j.toNat)) powD := by
  intro F H x y d e Q s hx hy P
  cases hx with
  | int i =>
    cases hy with
    | int j =>
      have P : PostR G (DvR G) F H (if 0 ≤ j ∧ j ≤ 64 ∧ -(2 ^ 63) ≤ i ∧ i ≤ 2 ^ 63 then .ok (.int (i ^ j.toNat)) else .bad) Q := P
      split at P
      · rename_i c
        exact ⟨i, j, rfl, rfl, ⟨c.1, by omega, by omega⟩, postD P s (.int _)⟩
      · exact P.elim
    | _ => exact P.elim
  | _ => exact P.elim
theorem me_add {a b : Expr} {ma mb : Env → R D} {pos : Pos} (ha : ME X G a ma) (hb : ME X G b mb) (hK : X.K = G.K := by rfl) : ME X G (.BinOp a .Add b pos) (mB addD ma mb) := me_bin op_addA (by rw [hK]; exact om_add) ha hb
theorem me_sub {a b : Expr} {ma mb : Env → R D} {pos : Pos} (ha : ME X G a ma) (hb : ME X G b mb) : ME X G (.BinOp a .Sub b pos) (mB subD ma mb) := me_bin op_sub om_sub ha hb
theorem me_mul {a b : Expr} {ma mb : Env → R D} {pos : Pos} (ha : ME X G a ma) (hb : ME X G b mb) (hK : X.K = G.K := by rfl) : ME X G (.BinOp a .Mult b pos) (mB mulD ma mb) := me_bin op_mulA (by rw [hK]; exact om_mul) ha hb
theorem me_fdiv {a b : Expr} {ma mb : Env → R D} {pos : Pos} (ha : ME X G a ma) (hb : ME X G b mb) : ME X G (.BinOp a .FloorDiv b pos) (mB fdivD ma mb) := me_bin op_fdivW om_fdiv ha hb
theorem me_mod {a b : Expr} {ma mb : Env → R D} {pos : Pos} (ha : ME X G a ma) (hb : ME X G b mb) : ME X G (.BinOp a .Mod b pos) (mB modD ma mb) := me_bin op_mod om_mod ha hb
theorem me_pow {a b : Expr} {ma mb : Env → R D} {pos : Pos} (ha : ME X G a ma) (hb : ME X G b mb) : ME X G (.BinOp a .Pow b pos) (mB powD ma mb) := me_bin op_pow om_pow ha hb
/-- -x -/
def negD : D → R D
  | .int i => .ok (.int (-i))
  | _ => .bad
theorem me_neg {a : Expr} {ma : Env → R D} {pos : Pos} (ha : ME X G a ma) : ME X G (.UnaryOp .USub a pos) (mU negD ma) := weakE (pe_un un_neg ha) fun σ H Q ⟨ρ, F, S, P⟩ => by
  refine ⟨ρ, F, S, (PostR.bind (rel := DvR G) P).imp fun d x F1 H1 e1 g1 q1 ⟨F1', d', e1', g1', q1', P1⟩ => ?_⟩
  cases q1' with
  | int i => exact ⟨i, rfl, postD P1 g1'.s (.int _)⟩
  | _ => exact P1.elim

/-! comparisons -/
theorem om_eq : OpM G (rEqD G.K) eqD := by
  intro F H x y d e Q s hx hy P
  unfold eqD at P
  split at P
  · rename_i c
    exact ⟨_, _, dp_shp s hx c.1, dp_shp s hy c.2, c.1, c.2, postD P s (.bl _)⟩
  · exact P.elim
theorem om_ne : OpM G (rNeD G.K) neD := by
  intro F H x y d e Q s hx hy P
  unfold neD at P
  split at P
  · rename_i c
    exact ⟨_, _, dp_shp s hx c.1, dp_shp s hy c.2, c.1, c.2, postD P s (.bl _)⟩
  · exact P.elim
def cmpI (p : Int → Int → Bool) (x y : D) : R D := match x, y with
  | .int i, .int j => .ok (.bl (p i j))
  | _, _ => .bad
theorem om_int {p : Int → Int → Bool} : OpM G (rI0 fun i j => .bl (p i j)) (cmpI p) := by
  intro F H x y d e Q s hx hy P
  cases hx with
  | int i =>
    cases hy with
    | int j => exact ⟨i, j, rfl, rfl, postD P s (.bl _)⟩
    | _ => exact P.elim
  | _ => exact P.elim
def ltD : D → D → R D := cmpI fun i j => decide (i < j)
def leD : D → D → R D := cmpI fun i j => decide (i ≤ j)
def gtD : D → D → R D := cmpI fun i j => decide (j < i)
def geD : D → D → R D := cmpI fun i j => decide (j ≤ i)
def isNon : D → Bool
  | .non => true
  | _ => false
theorem isNon_of {K : PySem.W.Frag} {F : Hp} {v : V} {d : D} (h : Dv K F v d) : decide (v = .non) = isNon d := by
  cases h <;> first | rfl | exact decide_eq_false (fun z => by cases z)
def isD (x y : D) : R D := match y with
  | .non => .ok (.bl (isNon x))
  | .bl b => match x with
    | .bl a => .ok (.bl (decide (a = b)))
    | _ => .bad
  | _ => .bad
def isnD (x y : D) : R D := match y with
  | .non => .ok (.bl (!isNon x))
  | .bl b => match x with
    | .bl a => .ok (.bl (!decide (a = b)))
    | _ => .bad
  | _ => .bad
theorem om_is : OpM G (fun x y H Q => (y = .non ∧ Q (.bl (decide (x = .non))) H) ∨ rIsB x y H Q) isD := by
  intro F H x y d e Q s hx hy P
  cases hy with
  | non => exact .inl ⟨rfl, by rw [isNon_of hx]; exact postD P s (.bl _)⟩
  | bl b =>
    cases hx with
    | bl a => exact .inr ⟨a, b, rfl, rfl, postD P s (.bl _)⟩
    | _ => exact P.elim
  | _ => exact P.elim
theorem om_isn : OpM G (fun x y H Q => (y = .non ∧ Q (.bl (!decide (x = .non))) H) ∨ rNotB x y H Q) isnD := by
  intro F H x y d e Q s hx hy P
  cases hy with
  | non => exact .inl ⟨rfl, by rw [isNon_of hx]; exact postD P s (.bl _)⟩
  | bl b =>
    cases hx with
    | bl a => exact .inr ⟨a, b, rfl, rfl, postD P s (.bl _)⟩
    | _ => exact P.elim
  | _ => exact P.elim
/-- in: a sign in a text, data in a list or a tuple -/
def inB (x y : D) : R Bool := match x, y with
  | .str c, .str z => match c.cps.toList with
    | [n] => .ok (decide (n ∈ z.cps.toList))
    | _ => .ok (!(Builtin.Str.occurrences z c 0 z.length 1).isEmpty)
  | x, .lst ds => if shp x = true ∧ shp (.lst ds) = true then .ok (ds.any fun z => eqv z x) else .bad
  | x, .rol ds => if shp x = true ∧ shp (.rol ds) = true then .ok (ds.any fun z => eqv z x) else .bad
  | x, .tup ds => if shp x = true ∧ shp (.tup ds) = true then .ok (ds.any fun z => eqv z x) else .bad
  | _, _ => .bad
def inD (x y : D) : R D := (inB x y).bind fun b => .ok (.bl b)
def ninD (x y : D) : R D := (inB x y).bind fun b => .ok (.bl (!b))
def rInT (K : PySem.W.Frag) (neg : Bool) : R2 := fun x y H Q => ∃ d ds, Dp K H x d ∧ Dp K H y (.tuple ds) ∧ SeqAt.shaped d = true ∧ SeqAt.shaped (.tuple ds) = true ∧ Q (.bl (if neg then !(ds.any fun z => PyData.eqv z d) else ds.any fun z => PyData.eqv z d)) H
theorem op_inT (hu : X.A.units + 65 < cLine) : OpR X (compareOp .In) (rInT X.K false) := by
  intro pins s σ H x y v u Q I rx ry h
  obtain ⟨d, ds, hd, he, sd, se, q⟩ := h
  obtain ⟨as, r1⟩ := Dp.reads I d x v hd rx
  obtain ⟨bs, r2⟩ := Dp.reads I (.tuple ds) y u he ry
  exact SeqAt.in_tuple_reads r2 r1 (SeqAt.canLay_of_shaped se) (SeqAt.canLay_of_shaped sd) (room_in_shaped sd hu) ⟨.bl _, H, I, rfl, q⟩
theorem op_ninT (hu : X.A.units + 65 < cLine) : OpR X (compareOp .NotIn) (rInT X.K true) := by
  intro pins s σ H x y v u Q I rx ry h
  obtain ⟨d, ds, hd, he, sd, se, q⟩ := h
  obtain ⟨as, r1⟩ := Dp.reads I d x v hd rx
  obtain ⟨bs, r2⟩ := Dp.reads I (.tuple ds) y u he ry
  exact SeqAt.notIn_tuple_reads r2 r1 (SeqAt.canLay_of_shaped se) (SeqAt.canLay_of_shaped sd) (room_in_shaped sd hu) ⟨.bl _, H, I, rfl, q⟩
def rInSt (neg : Bool) : R2 := fun x y H Q => ∃ i j, x = .str i ∧ y = .str j ∧ Q (.bl (if neg then !(!(Builtin.Str.occurrences j i 0 j.length 1).isEmpty) else !(Builtin.Str.occurrences j i 0 j.length 1).isEmpty)) H
def rInA (K : PySem.W.Frag) : R2 := fun x y H Q => (rInD K x y H Q ∨ rInT K false x y H Q) ∨ ((∃ (c : Nat) (z : Str), x = .str ⟨#[c]⟩ ∧ y = .str z ∧ Q (.bl (decide (c ∈ z.cps.toList))) H) ∨ (∃ i j, x = .str i ∧ y = .str j ∧ Q (.bl (!(Builtin.Str.occurrences j i 0 j.length 1).isEmpty)) H))
def rNinA (K : PySem.W.Frag) : R2 := fun x y H Q => (rNotInD K x y H Q ∨ rInT K true x y H Q) ∨ ((∃ (c : Nat) (z : Str), x = .str ⟨#[c]⟩ ∧ y = .str z ∧ Q (.bl (!decide (c ∈ z.cps.toList))) H) ∨ (∃ i j, x = .str i ∧ y = .str j ∧ Q (.bl (!(!(Builtin.Str.occurrences j i 0 j.length 1).isEmpty))) H))
theorem op_inA (hu : X.A.units + 65 < cLine) : OpR X (compareOp .In) (rInA X.K) := ((op_inD hu).or (op_inT hu)).or (op_in_sign.or op_in_str)
theorem op_ninA (hu : X.A.units + 65 < cLine) : OpR X (compareOp .NotIn) (rNinA X.K) := ((op_notInD hu).or (op_ninT hu)).or (op_notIn_sign.or L2.op_notin_str)
theorem any_py (x : D) : ∀ ds : List D, ((toPyAll ds).any fun z => PyData.eqv z (toPy x)) = ds.any fun z => eqv z x
  | [] => by rw [toPyAll]; rfl
  | d :: ds => by rw [toPyAll, List.any_cons, List.any_cons, any_py x ds]; rfl
theorem str_one {c : Str} {n : Nat} (h : c.cps.toList = [n]) : c = ⟨#[n]⟩ := by
  obtain ⟨⟨l⟩⟩ := c
  have e : l = [n] := h
  rw [e]
theorem om_in : OpM G (rInA G.K) inD := by
  intro F H x y d e Q s hx hy P
  unfold inD at P
  cases hy with
  | str z =>
    cases hx with
    | str c =>
      unfold inB at P
      dsimp only at P
      split at P
      · rename_i n hn
        rw [str_one hn]
        exact .inr (.inl ⟨n, z, rfl, rfl, postD P s (.bl _)⟩)
      · exact .inr (.inr ⟨c, z, rfl, rfl, postD P s (.bl _)⟩)
    | _ => exact P.elim
  | @lst a xs ds e2 r2 =>
    have P : PostR G (DvR G) F H (R.bind (if shp d = true ∧ shp (.lst ds) = true then .ok (ds.any fun z => eqv z d) else .bad) fun b => .ok (.bl b)) Q := by cases d <;> exact P
    split at P
    · rename_i c
      have c2 : SeqAt.shaped (.list (toPyAll ds)) = true := by have q := c.2; unfold shp at q; rw [toPy] at q; exact q
      refine .inl (.inl ⟨toPy d, toPyAll ds, dp_shp s hx c.1, ?_, c.1, c2, by rw [any_py]; exact postD P s (.bl _)⟩)
      have q := dp_shp s (.lst e2 r2) c.2
      rw [toPy] at q
      exact q
    · exact P.elim
  | @rol a xs ds e2 r2 =>
    have P : PostR G (DvR G) F H (R.bind (if shp d = true ∧ shp (.rol ds) = true then .ok (ds.any fun z => eqv z d) else .bad) fun b => .ok (.bl b)) Q := by cases d <;> exact P
    split at P
    · rename_i c
      have c2 : SeqAt.shaped (.list (toPyAll ds)) = true := by have q := c.2; unfold shp at q; rw [toPy] at q; exact q
      refine .inl (.inl ⟨toPy d, toPyAll ds, dp_shp s hx c.1, ?_, c.1, c2, by rw [any_py]; exact postD P s (.bl _)⟩)
      have q := dp_shp s (.rol e2 r2) c.2
      rw [toPy] at q
      exact q
    · exact P.elim
  | @tup a xs ds e2 r2 =>
    have P : PostR G (DvR G) F H (R.bind (if shp d = true ∧ shp (.tup ds) = true then .ok (ds.any fun z => eqv z d) else .bad) fun b => .ok (.bl b)) Q := by cases d <;> exact P
    split at P
    · rename_i c
      have c2 : SeqAt.shaped (.tuple (toPyAll ds)) = true := by have q := c.2; unfold shp at q; rw [toPy] at q; exact q
      refine .inl (.inr ⟨toPy d, toPyAll ds, dp_shp s hx c.1, ?_, c.1, c2, by rw [if_neg Bool.false_ne_true, any_py]; exact postD P s (.bl _)⟩)
      have q := dp_shp s (.tup e2 r2) c.2
      rw [toPy] at q
      exact q
    · exact P.elim
  | _ => cases d <;> exact P.elim
theorem om_nin : OpM G (rNinA G.K) ninD := by
  intro F H x y d e Q s hx hy P
  unfold ninD at P
  cases hy with
  | str z =>
    cases hx with
    | str c =>
      unfold inB at P
      dsimp only at P
      split at P
      · rename_i n hn
        rw [str_one hn]
        exact .inr (.inl ⟨n, z, rfl, rfl, postD P s (.bl _)⟩)
      · exact .inr (.inr ⟨c, z, rfl, rfl, postD P s (.bl _)⟩)
    | _ => exact P.elim
  | @lst a xs ds e2 r2 =>
    have P : PostR G (DvR G) F H (R.bind (if shp d = true ∧ shp (.lst ds) = true then .ok (ds.any fun z => eqv z d) else .bad) fun b => .ok (.bl (!b))) Q := by cases d <;> exact P
    split at P
    · rename_i c
      have c2 : SeqAt.shaped (.list (toPyAll ds)) = true := by have q := c.2; unfold shp at q; rw [toPy] at q; exact q
      refine .inl (.inl ⟨toPy d, toPyAll ds, dp_shp s hx c.1, ?_, c.1, c2, by rw [any_py]; exact postD P s (.bl _)⟩)
      have q := dp_shp s (.lst e2 r2) c.2
      rw [toPy] at q
      exact q
    · exact P.elim
  | @rol a xs ds e2 r2 =>
    have P : PostR G (DvR G) F H (R.bind (if shp d = true ∧ shp (.rol ds) = true then .ok (ds.any fun z => eqv z d) else .bad) fun b => .ok (.bl (!b))) Q := by cases d <;> exact P
    split at P
    · rename_i c
      have c2 : SeqAt.shaped (.list (toPyAll ds)) = true := by have q := c.2; unfold shp at q; rw [toPy] at q; exact q
      refine .inl (.inl ⟨toPy d, toPyAll ds, dp_shp s hx c.1, ?_, c.1, c2, by rw [any_py]; exact postD P s (.bl _)⟩)
      have q := dp_shp s (.rol e2 r2) c.2
      rw [toPy] at q
      exact q
    · exact P.elim
  | @tup a xs ds e2 r2 =>
    have P : PostR G (DvR G) F H (R.bind (if shp d = true ∧ shp (.tup ds) = true then .ok (ds.any fun z => eqv z d) else .bad) fun b => .ok (.bl (!b))) Q := by cases d <;> exact P
    split at P
    · rename_i c
      have c2 : SeqAt.shaped (.tuple (toPyAll ds)) = true := by have q := c.2; unfold shp at q; rw [toPy] at q; exact q
      refine .inl (.inr ⟨toPy d, toPyAll ds, dp_shp s hx c.1, ?_, c.1, c2, by rw [if_pos rfl, any_py]; exact postD P s (.bl _)⟩)
      have q := dp_shp s (.tup e2 r2) c.2
      rw [toPy] at q
      exact q
    · exact P.elim
  | _ => cases d <;> exact P.elim
/-- the function of a comparison sign -/
def cmpF : CmpOp → D → D → R D
  | .Eq => eqD
  | .NotEq => neD
  | .Lt => ltD
  | .LtE => leD
  | .Gt => gtD
  | .GtE => geD
  | .Is => isD
  | .IsNot => isnD
  | .In => inD
  | .NotIn => ninD
def cmpRd (K : PySem.W.Frag) : CmpOp → R2
  | .Eq => rEqD K
  | .NotEq => rNeD K
  | .Lt => rI0 fun i j => .bl (decide (i < j))
  | .LtE => rI0 fun i j => .bl (decide (i ≤ j))
  | .Gt => rI0 fun i j => .bl (decide (j < i))
  | .GtE => rI0 fun i j => .bl (decide (j ≤ i))
  | .Is => fun x y H Q => (y = .non ∧ Q (.bl (decide (x = .non))) H) ∨ rIsB x y H Q
  | .IsNot => fun x y H Q => (y = .non ∧ Q (.bl (!decide (x = .non))) H) ∨ rNotB x y H Q
  | .In => rInA K
  | .NotIn => rNinA K
theorem op_cmpA (hu : X.A.units + 65 < cLine) : ∀ op : CmpOp, OpR X (compareOp op) (cmpRd X.K op)
  | .Eq => op_eqD (by omega)
  | .NotEq => op_neD (by omega)
  | .Lt => op_lt
  | .LtE => op_le
  | .Gt => op_gt
  | .GtE => op_ge
  | .Is => op_isN.or op_isBl
  | .IsNot => op_notN.or op_notBl
  | .In => op_inA hu
  | .NotIn => op_ninA hu
theorem om_cmpA : ∀ op : CmpOp, OpM G (cmpRd G.K op) (cmpF op)
  | .Eq => om_eq
  | .NotEq => om_ne
  | .Lt => om_int
  | .LtE => om_int
  | .Gt => om_int
  | .GtE => om_int
  | .Is => om_is
  | .IsNot => om_isn
  | .In => om_in
  | .NotIn => om_nin
section
variable {a b c : Expr} {ma mb mc : Env → R D} {pos : Pos} {op op' : CmpOp} {k : Nat}
theorem room65 {A : Around} (hr : Room k A) : A.units + 65 < cLine := by have := hr.un; omega
theorem me_cm (hr : Room k X.A) (ha : ME X G a ma) (hb : ME X G b mb) (hK : X.K = G.K := by rfl) (hk : behindInMarks op b = false := by with_unfolding_all rfl) : ME X G (.Compare a [op] [b] pos) (mB (cmpF op) ma mb) :=
  me_cmp (op_cmpA (room65 hr) op) (by rw [hK]; exact om_cmpA op) ha hb hk
theorem mt_cm (hr : Room k X.A) (ha : ME X G a ma) (hb : ME X G b mb) (hK : X.K = G.K := by rfl) (hk : behindInMarks op b = false := by with_unfolding_all rfl) : MT X G (.Compare a [op] [b] pos) (mTest (mB (cmpF op) ma mb)) :=
  mt_cmp (op_cmpA (room65 hr) op) (by rw [hK]; exact om_cmpA op) ha hb hk
def mCh (f g : D → D → R D) (a b c : Env → R D) : Env → R D := fun ρ => (a ρ).bind fun x => (b ρ).bind fun y => (f x y).bind fun k => (blOf k).bind fun k => if k = true then (c ρ).bind fun z => g y z else .ok (.bl false)
theorem chA {r r' : R2} {f g : D → D → R D} (hm : OpM G r f) (hm' : OpM G r' g) : ∀ σ H Q, tOf G (mCh f g ma mb mc) σ H Q → tChain r r' (tOf G ma) (tOf G mb) (tOf G mc) σ H Q := by
  intro σ H Q ⟨ρ, F, S, P⟩
  refine ⟨ρ, F, S, (PostR.bind (rel := DvR G) P).imp fun d x F1 H1 e1 g1 q1 ⟨F1', d', e1', g1', q1', P1⟩ => ?_⟩
  refine ⟨ρ, F1', S.grow g1', (PostR.bind (rel := DvR G) P1).imp fun d2 y F2 H2 e2 g2 q2 ⟨F2', d2', e2', g2', q2', P2⟩ => ?_⟩
  have P2 : PostR G (DvR G) F2' H2 ((f d' d2').bind fun k => (blOf k).bind fun k => if k = true then (mc ρ).bind fun z => g d2' z else .ok (.bl false)) Q := P2
  refine hm F2' H2 x y d' d2' _ g2'.s (q1'.mono g2'.f) q2' ((PostR.bind (rel := DvR G) P2).imp fun d3 z F3 H3 e3 g3 q3 ⟨F3', d3', e3', g3', q3', P3⟩ => ?_)
  cases q3' with
  | bl k =>
    refine ⟨k, rfl, ?_⟩
    have P3 : PostR G (DvR G) F3' H3 (if k = true then (mc ρ).bind fun z => g d2' z else .ok (.bl false)) Q := P3
    cases k with
    | true =>
      rw [if_pos rfl] at P3 ⊢
      refine ⟨ρ, F3', ((S.grow g1').grow g2').grow g3', (PostR.bind (rel := DvR G) P3).imp fun d4 w F4 H4 e4 g4 q4 ⟨F4', d4', e4', g4', q4', P4⟩ => ?_⟩
      exact hm' F4' H4 y w d2' d4' Q g4'.s (q2'.mono (g3'.f.trans g4'.f)) q4' P4
    | false => rw [if_neg Bool.false_ne_true] at P3 ⊢; exact postD P3 g3'.s (.bl _)
  | _ => exact P3.elim
theorem me_ch (hr : Room k X.A) (ha : ME X G a ma) (hb : ME X G b mb) (hc : ME X G c mc) (hK : X.K = G.K := by rfl) (hm : lastMarks [op, op'] [b, c] = false := by with_unfolding_all rfl) : ME X G (.Compare a [op, op'] [b, c] pos) (mCh (cmpF op) (cmpF op') ma mb mc) :=
  weakE (pe_chain (op_cmpA (room65 hr) op) (op_cmpA (room65 hr) op') ha hb hc hm) (by rw [hK]; exact chA (om_cmpA op) (om_cmpA op'))
theorem mt_ch (hr : Room k X.A) (ha : ME X G a ma) (hb : ME X G b mb) (hc : ME X G c mc) (hK : X.K = G.K := by rfl) (hm : lastMarks [op, op'] [b, c] = false := by with_unfolding_all rfl) : MT X G (.Compare a [op, op'] [b, c] pos) (mTest (mCh (cmpF op) (cmpF op') ma mb mc)) :=
  weakT (pt_chain (op_cmpA (room65 hr) op) (op_cmpA (room65 hr) op') ha hb hc hm) (tt_of (by rw [hK]; exact chA (om_cmpA op) (om_cmpA op')))
end
end
end Mir
/-! enumerate of a text and of a tuple, as walks -/
namespace Mir
open PySem PySem.Spec PyProof.Rows L2

/-! ### a new pair at each turn -/
def EnS (z : Str) : It where
  go i _ := i < z.cps.size
  yld i H v H' := ∃ T c, v = .ref T ∧ H T = none ∧ z.cps[i]? = some c ∧ H' = upd H T (.tup [.int (i : Nat), .str ⟨#[c]⟩])
  stop i _ := i = z.cps.size
def EnT (K : PySem.W.Frag) (a : Addr) : It where
  go i H := ∃ xs : List V, SqT K H a xs ∧ i < xs.length
  yld i H v H' := ∃ T x, v = .ref T ∧ H T = none ∧ (∀ xs, SqT K H a xs → xs[i]? = some x) ∧ H' = upd H T (.tup [.int (i : Nat), x])
  stop i H := ∃ xs : List V, SqT K H a xs ∧ i = xs.length
section
variable {P : Program} {w : World} {K : PySem.W.Frag} {elts : List Expr} {kk : Nat} {tpos : Pos}
/-- what both have in common: one more pair -/
theorem en_pair {X : Cx} {pins : List (Addr × Obj)} {s : Shared} {σ : L2.St} {H : Hp} {E : Value → Shared → Prop} {e it : Addr} {i : Nat} {x : V} {u : Value} {h' : Heap} {tk : Nat} {St : Heap → Prop} (I : Inv X pins σ H s) (hf : ∀ b ∈ [e, it], FpOk X pins H b)
    (hne : e ≠ it) (hel : e < s.heap.objs.size) (hil : it < s.heap.objs.size) (ru : RelV x u) (ho : IsEnumOut h' e it ((i : Int) + 1) u s.heap.objs.size) (hst : ∀ h2, (∀ o, h'.get? it = some o → h2.get? it = some o) → St h2)
    (hT : h'.get? s.heap.objs.size = some { cls := .type "tuple", data := .seq #[.int i tk, u] }) (hk : ∀ b o, b ≠ e → b ≠ it → s.heap.get? b = some o → h'.get? b = some o) :
    wpAny (model X.prog X.w) X.A (letOwnedTupleGo (.Tuple elts kk tpos) (.ref e) (.ref s.heap.objs.size))
      (fun _ s2 => Inv X pins σ (upd H s.heap.objs.size (.tup [.int (i : Nat), x])) s2 ∧ H s.heap.objs.size = none ∧ (∃ old, IsEnum s2.heap e it ((i + 1 : Nat) : Int) old) ∧ St s2.heap ∧ ∀ b ∈ [e, it], upd H s.heap.objs.size (.tup [.int (i : Nat), x]) b = none) E { s with heap := h', toks := tk + 1 } := by
  refine wpAny_letOwnedTupleGo_enum (s := ⟨h', s.gens, s.drawn, tk + 1, s.os⟩) ho fun h2 he2 sb => ?_
  have g1 : h2.get? s.heap.objs.size = some { cls := .type "tuple", data := .seq #[.int i tk, u] } := by rw [sb.2 _ (Nat.ne_of_gt hel)]; exact hT
  have ok : ObjOk X.prog X.w (upd H s.heap.objs.size (.tup [.int (i : Nat), x])) h2 s.heap.objs.size (.tup [.int (i : Nat), x]) :=
    ⟨by rw [sizeLine_eq]; exact (by decide : 2 ≤ 16777216), [.int i tk, u], .cons ⟨tk, rfl⟩ (.cons ru .nil), _, g1, rfl, _, rfl⟩
  have old : ∀ b o, b ∉ [e, it] → s.heap.get? b = some o → h2.get? b = some o := fun b o hb q => by
    have n1 : b ≠ e := fun z => hb (by rw [z]; exact List.mem_cons_self)
    have n2 : b ≠ it := fun z => hb (by rw [z]; simp)
    rw [sb.2 b n1]
    exact hk b o n1 n2 q
  refine ⟨I.turnedNew (t' := tk + 1) (ch := [e, it]) old hf (Nat.le_refl _) ok, I.hok.fresh (Nat.le_refl _), ⟨u, ?_⟩, hst h2 (fun o q => by rw [sb.2 it (Ne.symm hne)]; exact q), fun b hb => ?_⟩
  · rw [show (((i + 1 : Nat) : Int)) = (i : Int) + 1 by omega]
    exact he2
  · have lt : b < s.heap.objs.size := by
      rcases List.mem_cons.mp hb with z | z
      · rw [z]; exact hel
      · rw [List.mem_singleton.mp z]; exact hil
    rw [upd_ne (Nat.ne_of_lt lt)]
    exact (hf b hb).1
theorem turn_ens (e it : Addr) (z : Str) (t : Tok) :
    Turn P w K (.Tuple elts kk tpos) (EnS z) [e, it] e (fun i h => (∃ old, IsEnum h e it ((i : Nat) : Int) old) ∧ h.IsStrIter it (strIterType z) z t i ∧ e ≠ it) where
  mem := List.mem_cons_self
  obj i h st b hb := by
    obtain ⟨⟨old, he⟩, ⟨o, ho, hc, hd⟩, _⟩ := st
    rcases List.mem_cons.mp hb with q | q
    · subst q
      exact ⟨_, he, fun v q => nomatch q⟩
    · cases List.mem_singleton.mp q
      exact ⟨o, ho, fun v q => by rw [hd] at q; cases q⟩
  keep i h h' st k := by
    obtain ⟨⟨old, he⟩, ⟨o, ho, r⟩, hne⟩ := st
    exact ⟨⟨old, k e List.mem_cons_self _ he⟩, ⟨o, k it (by simp) o ho, r⟩, hne⟩
  item := by
    intro X hP hw hK hc i pins s σ H E I hf st hg
    subst hP hw hK
    obtain ⟨⟨old, he⟩, hit, hne⟩ := st
    have hel : e < s.heap.objs.size := Heap.lt_size he
    have hil : it < s.heap.objs.size := by obtain ⟨o, q, _⟩ := hit; exact Heap.lt_size q
    have DD := Draws.text (prog := X.prog) (w := X.w) (A := X.A.in1) (I.ok.hd hc) it z t
    refine wpAny_pyNext_enum_itemD DD he hit hg hne (fun q => hne (List.mem_singleton.mp q)) fun u h' tk hP ho hs' hT hsz hk => ?_
    obtain ⟨c, tu, hcx, rfl⟩ := hP
    refine ⟨_, rfl, ?_⟩
    refine thn (en_pair (St := fun h2 => h2.IsStrIter it (strIterType z) z t (i + 1)) I hf hne hel hil (x := .str ⟨#[c]⟩) ⟨tu, rfl⟩ ho (fun h2 q => by obtain ⟨o, ho, r⟩ := hs'; exact ⟨o, q o ho, r⟩) hT hk) fun _ s2 ⟨I2, n2, e2, st2, f2⟩ => ?_
    exact ⟨.ref s.heap.objs.size, _, I2, rfl, ⟨_, c, rfl, n2, hcx, rfl⟩, ⟨e2, st2, hne⟩, f2⟩
  done := by
    intro X hP hw hK hc i pins s σ H E I hf st hg
    subst hP hw hK
    obtain ⟨⟨old, he⟩, hit, hne⟩ := st
    obtain ⟨f0, f1, f2, f3, f4, f5⟩ := hf it (by simp)
    cases hg
    exact wpAny_pyNext_enum_endD (Draws.text (prog := X.prog) (w := X.w) (A := X.A.in1) (I.ok.hd hc) it z t) he hit fun h' eb => ⟨rfl, I.turned (t' := s.toks) (fun b o hb q => eb b o hb q) f0 f1 f3 f4 f5⟩
  self A i s Q E st h := wpAny_pyIter_enum st.1.choose_spec h
theorem turn_ent (a e it : Addr) :
    Turn P w K (.Tuple elts kk tpos) (EnT K a) [e, it] e (fun i h => (∃ old, IsEnum h e it ((i : Nat) : Int) old) ∧ h.IsTupleIter it a i ∧ e ≠ it) where
  mem := List.mem_cons_self
  obj i h st b hb := by
    obtain ⟨⟨old, he⟩, ⟨o, ho, hc, hd⟩, _⟩ := st
    rcases List.mem_cons.mp hb with q | q
    · subst q
      exact ⟨_, he, fun v q => nomatch q⟩
    · cases List.mem_singleton.mp q
      exact ⟨o, ho, fun v q => by rw [hd] at q; cases q⟩
  keep i h h' st k := by
    obtain ⟨⟨old, he⟩, ⟨o, ho, r⟩, hne⟩ := st
    exact ⟨⟨old, k e List.mem_cons_self _ he⟩, ⟨o, k it (by simp) o ho, r⟩, hne⟩
  item := by
    intro X hP hw hK hc i pins s σ H E I hf st hg
    subst hP hw hK
    obtain ⟨⟨old, he⟩, hit, hne⟩ := st
    obtain ⟨xs, hq, hi⟩ := hg
    obtain ⟨its, rv, ht, hz⟩ := I.tuple hq
    have hlen := rv.length
    obtain ⟨fi0, fi1, fi2, fi3, fi4, fi5⟩ := hf it (by simp)
    obtain ⟨fe0, fe1, fe2, fe3, fe4, fe5⟩ := hf e (by simp)
    have hel : e < s.heap.objs.size := Heap.lt_size he
    have hil : it < s.heap.objs.size := by obtain ⟨o, q, _⟩ := hit; exact Heap.lt_size q
    obtain ⟨ot, hot, hotc, nt, hotd⟩ := id ht
    have nai : a ≠ it := fun z => by
      subst z
      obtain ⟨o2, q2, c2, d2⟩ := hit
      rw [hot] at q2; cases q2
      rw [hotd] at d2; cases d2
    have nae : a ≠ e := fun z => by
      subst z
      have q2 := hot.symm.trans he
      cases q2
      cases hotd
    have DD := Draws.tuple (prog := X.prog) (w := X.w) (A := X.A.in1) (I.ok.hd hc) it a nai its.toArray
    refine wpAny_pyNext_enum_itemD DD he (i := i) ⟨hit, ht⟩ (by rw [List.size_toArray]; omega) hne (fun q => ?_) fun u h' tk hP ho hs' hT hsz hk => ?_
    · rcases List.mem_cons.mp q with q | q
      · exact hne q
      · exact nae (List.mem_singleton.mp q).symm
    have hxi : xs[i]? = some xs[i] := List.getElem?_eq_getElem hi
    obtain ⟨u', hu', ru⟩ := rv.get hxi
    have eu : u' = u := by
      have q : its[i]? = some u := by simpa using hP
      rw [hu'] at q; exact Option.some.inj q
    subst eu
    refine ⟨_, rfl, ?_⟩
    refine thn (en_pair (St := fun h2 => h2.IsTupleIter it a (i + 1)) I hf hne hel hil (x := xs[i]) ru ho (fun h2 q => hs'.1.at q) hT hk) fun _ s2 ⟨I2, n2, e2, st2, f2⟩ => ?_
    exact ⟨.ref s.heap.objs.size, _, I2, rfl, ⟨_, xs[i], rfl, n2, fun ys hy => by rw [I.tuple_inj hy hq]; exact hxi, rfl⟩, ⟨e2, st2, hne⟩, f2⟩
  done := by
    intro X hP hw hK hc i pins s σ H E I hf st hg
    subst hP hw hK
    obtain ⟨⟨old, he⟩, hit, hne⟩ := st
    obtain ⟨xs, hq, hi⟩ := hg
    obtain ⟨its, rv, ht, hz⟩ := I.tuple hq
    obtain ⟨f0, f1, f2, f3, f4, f5⟩ := hf it (by simp)
    obtain ⟨ot, hot, hotc, nt, hotd⟩ := id ht
    have nai : a ≠ it := fun z => by
      subst z
      obtain ⟨o2, q2, c2, d2⟩ := hit
      rw [hot] at q2; cases q2
      rw [hotd] at d2; cases d2
    have hlen := rv.length
    have ei : i = its.toArray.size := by rw [List.size_toArray]; omega
    subst ei
    exact wpAny_pyNext_enum_endD (Draws.tuple (prog := X.prog) (w := X.w) (A := X.A.in1) (I.ok.hd hc) it a nai its.toArray) he ⟨hit, ht⟩ fun h' eb => ⟨rfl, I.turned (t' := s.toks) (fun b o hb q => eb b o hb q) f0 f1 f3 f4 f5⟩
  self A i s Q E st h := wpAny_pyIter_enum st.1.choose_spec h

/-! ### enumerate(v) begins, v a text or a tuple -/
set_option maxHeartbeats 4000000 in
theorem en_new {v : Value} {o : Obj} {HB : Heap → Prop} (B : Begins v o HB) :
    Meets (Builtin.«enumerate.__new__» ⟨[.type "enumerate", v], []⟩) (fun _ R s => HB s.heap ∧
      R (.ok (.ret (.ref (s.heap.push o).objs.size))) { s with heap := (s.heap.push o).push { cls := .type "enumerate", data := .fields #[.none, .bool false, .ref s.heap.objs.size, rawInt 0, .none, .none] } }) :=
  .of_wp fun pr wo A0 R0 s0 hh => by
    obtain ⟨hp, gn, dr, tk0, os0⟩ := s0
    obtain ⟨hB, hR⟩ := hh
    have subE := sub_enumerate
    have itB : ∀ {A1 : Around} {E1 : Value → Shared → Prop} {Q1 : Value → Shared → Prop}, Q1 (.ref hp.objs.size) ⟨hp.push o, gn, dr, tk0, os0⟩ → wpAny (model pr wo) A1 (pyIter v) Q1 E1 ⟨hp, gn, dr, tk0, os0⟩ :=
      fun qq => B.iter pr wo _ _ ⟨hp, gn, dr, tk0, os0⟩ _ hB qq
    wp_walk using itB
    refine wpAny_stack_any fun _ => wpAny_pure ?_
    split
    · rename_i cc _ _ _ _ _
      cases (cc == Value.type "enumerate") <;> (wp_walk using itB; exact ⟨_, rfl, hR⟩)
    · wp_walk using itB
      exact ⟨_, rfl, hR⟩
section
variable {prog : Program} {w : World} {A : Around} {E : Value → Shared → Prop} {s : Shared}
theorem en_call {v : Value} {o : Obj} {HB : Heap → Prop} {Q : Value → Shared → Prop} (B : Begins v o HB) (h1 : HB s.heap)
    (h : ∀ h', IsEnum h' (s.heap.objs.size + 1) s.heap.objs.size 0 .none → h'.get? s.heap.objs.size = some o → (∀ b u, s.heap.get? b = some u → h'.get? b = some u) → Q (.ref (s.heap.objs.size + 1)) { s with heap := h' }) :
    wpAny (model prog w) A (call (.type "enumerate") [v]) Q E s := by
  refine callType_new F.called_enumerate (by decide) (F.typeCall_enumerate_1 _) (F.newCall_enumerate_1 _) (fun obj => F.args_object_init_2 obj _) F.entry_enumerate_new (en_new B) ⟨h1, ?_⟩
  have z1 : (s.heap.push o).objs.size = s.heap.objs.size + 1 := Heap.size_push ..
  have he : IsEnum ((s.heap.push o).push { cls := .type "enumerate", data := .fields #[.none, .bool false, .ref s.heap.objs.size, rawInt 0, .none, .none] }) (s.heap.objs.size + 1) s.heap.objs.size 0 .none := by
    have q := Heap.get?_push_size (s.heap.push o) (o := { cls := .type "enumerate", data := .fields #[.none, .bool false, .ref s.heap.objs.size, rawInt 0, .none, .none] }) rfl
    rw [z1] at q
    exact q
  rw [z1]
  exact ⟨⟨_, he, rfl⟩, h _ he (Heap.get?_push_of_some _ (Heap.get?_push_size _ B.free)) fun b u q => Heap.get?_push_of_some _ (Heap.get?_push_of_some _ q)⟩
end
section
variable {X : Cx} {e : Expr} {ta : TA} {p pos : Pos}
def iEnA (K : PySem.W.Frag) (ta : TA) : TI := fun σ H R => ta σ H fun vs H1 => (∃ z : Str, vs = [.str z] ∧ R (EnS z) H1) ∨ (∃ a xs, vs = [.ref a] ∧ SqT K H1 a xs ∧ R (EnT K a) H1) ∨ (∃ a xs, vs = [.ref a] ∧ SqL K H1 a xs ∧ R (Ite K a) H1)
theorem pi_enumA (hg : Gl X "enumerate") (hm : X.mg "enumerate" = none) (ha : PA X [e] ta) (hs : starEach [e] X.env = [(false, eval e X.env)] := by rfl) :
    PI X (.Tuple elts kk tpos) (.Call (.Name "enumerate" p) [e] [] pos) (iEnA X.K ta) := by
  refine ⟨fun pins s σ H R0 I h => ?_⟩
  refine Call_ (ld_blt I hg hm boot_enumerate (PyProof.Rows.callWith_type1 (thn (ha.run pos pins s σ H _ I h) fun us s1 ⟨vs, H1, I1, r1, q1⟩ => ?_) hs rfl))
  have fp2 : ∀ b ∈ [s1.heap.objs.size + 1, s1.heap.objs.size], FpOk X pins H1 b := fun b hb => by
    have hle : s1.heap.objs.size ≤ b := by
      rcases List.mem_cons.mp hb with z | z
      · omega
      · have := List.mem_singleton.mp z
        omega
    exact I1.fpOk hle (I1.hok.fresh hle)
  rcases q1 with ⟨z, ev, q⟩ | ⟨a, xs, ev, hq, q⟩ | ⟨a, xs, ev, hq, q⟩
  · subst ev
    cases r1 with
    | cons r rr =>
      cases rr
      obtain ⟨t, rfl⟩ := r
      refine call_enumerate_str fun h' he hit hsz hk => wpAny_pyIter_enum he ?_
      exact ⟨s1.heap.objs.size + 1, [s1.heap.objs.size + 1, s1.heap.objs.size], _, EnS z, H1, rfl, I1.kept (t' := s1.toks) hk, turn_ens _ _ z t, ⟨⟨.none, he⟩, hit, Nat.succ_ne_self _⟩, fp2, q⟩
  · subst ev
    cases r1 with
    | cons r rr =>
      cases rr
      cases r
      obtain ⟨its, rv, ht, hz⟩ := I1.tuple hq
      refine en_call (begins_tuple a its.toArray) (show s1.heap.IsTuple a its.toArray from ht) fun h' he ho hk => wpAny_pyIter_enum he ?_
      exact ⟨s1.heap.objs.size + 1, [s1.heap.objs.size + 1, s1.heap.objs.size], _, EnT X.K a, H1, rfl, I1.kept (t' := s1.toks) hk, turn_ent a _ _, ⟨⟨.none, he⟩, ⟨_, ho, rfl, rfl⟩, Nat.succ_ne_self _⟩, fp2, q⟩
  · subst ev
    cases r1 with
    | cons r rr =>
      cases rr
      cases r
      obtain ⟨its, rv, pl, hz⟩ := I1.list hq
      refine call_enumerate_list pl.isList fun h' he hit hsz hk => wpAny_pyIter_enum he ?_
      exact ⟨s1.heap.objs.size + 1, [s1.heap.objs.size + 1, s1.heap.objs.size], _, Ite X.K a, H1, rfl, I1.kept (t' := s1.toks) hk, turn_enum a _ _, ⟨⟨.none, he⟩, hit, Nat.succ_ne_self _⟩, fp2, q⟩
end
end
end Mir
namespace Mir
open PySem PySem.Spec PyProof.Rows L2

/-! ### subscripts -/
def ofO {α β : Type} (o : Option α) (f : α → R β) : R β := match o with
  | some a => f a
  | none => .bad
def ixD (x y : D) : R D := match x, y with
  | .lst ds, .int k => ofO (atI ds k) .ok
  | .rol ds, .int k => ofO (atI ds k) .ok
  | .tup ds, .int k => ofO (atI ds k) .ok
  | .str z, .int k => if z.length ≤ sizeLine then ofO (atI z.cps.toList k) fun c => .ok (.str ⟨#[c]⟩) else .bad
  | _, _ => .bad
theorem dv_at {K : PySem.W.Frag} {F : Hp} {xs : List V} {ds : List D} {k : Int} {d : D} (h : DvAll K F xs ds) (e : atI ds k = some d) : ∃ v, atI xs k = some v ∧ Dv K F v d := by
  unfold atI at e ⊢
  rw [h.length]
  cases q : ixN ds.length k with
  | none => rw [q] at e; cases e
  | some j =>
    rw [q] at e
    exact h.get' (show ds[j]? = some d from e)
section
variable {X : Cx} {G : Gm} {a b e : Expr} {es : List Expr} {ma mb : Env → R D} {pos : Pos}
theorem om_ix : OpM G (rIx G.K) ixD := by
  intro F H x y d e Q s hx hy P
  have go : ∀ {xs : List V} {ds : List D} {k : Int}, DvAll G.K F xs ds → PostR G (DvR G) F H (ofO (atI ds k) .ok) Q → ∃ v, atI xs k = some v ∧ Q v H := by
    intro xs ds k r P
    cases q : atI ds k with
    | none => rw [q] at P; exact P.elim
    | some z =>
      rw [q] at P
      obtain ⟨v, e1, e2⟩ := dv_at r q
      exact ⟨v, e1, postD P s e2⟩
  cases hy with
  | int k =>
    cases hx with
    | lst e r =>
      obtain ⟨v, e1, q⟩ := go r P
      exact .inl ⟨_, _, k, v, rfl, rfl, SqL.of (s _ _ e), e1, q⟩
    | rol e r =>
      obtain ⟨v, e1, q⟩ := go r P
      exact .inl ⟨_, _, k, v, rfl, rfl, s.seq e, e1, q⟩
    | tup e r =>
      obtain ⟨v, e1, q⟩ := go r P
      exact .inr (.inl ⟨_, _, k, v, rfl, rfl, Same.tup s e, e1, q⟩)
    | str z =>
      have P : PostR G (DvR G) F H (if z.length ≤ sizeLine then ofO (atI z.cps.toList k) fun c => .ok (.str ⟨#[c]⟩) else .bad) Q := P
      split at P
      · rename_i hz
        cases q : atI z.cps.toList k with
        | none => rw [q] at P; exact P.elim
        | some c =>
          rw [q] at P
          exact .inr (.inr ⟨z, k, c, rfl, rfl, hz, q, postD P s (.str _)⟩)
      · exact P.elim
    | _ => exact P.elim
  | _ => cases hx <;> exact P.elim
theorem me_ix (ha : ME X G a ma) (hb : ME X G b mb) (hK : X.K = G.K := by rfl) (hs : PlainIx b := by exact fun _ _ => rfl) : ME X G (.Subscript a b pos) (mB ixD ma mb) :=
  weakE (pe_ix ix_seq ha hb hs) (by rw [hK]; exact op2 (ta := tC .non) (tb := tC .non) om_ix)
/-- an item of a list of the def's own -/
def mIxO (i : Nat) (mb : Env → R D) : Env → R D := fun ρ => match ρ[i]? with
  | some (.ol ds) => (mb ρ).bind fun y => match y with
    | .int k => ofO (atI ds k) .ok
    | _ => .bad
  | _ => .bad
theorem me_ixO (i : Nat) {x : Str} {p : Pos} (hb : ME X G b mb) (hN : X.N[i]? = some x := by rfl) (hv : Vis X.env.scope x := by first | exact Or.inl rfl | exact Or.inr (Or.inl rfl) | exact Or.inr (Or.inr rfl)) (hd : (x == ("__debug__" : Str)) = false := by decide)
    (hcd : (x == ("__classdict__" : Str)) = false := by decide) (hs : PlainIx b := by exact fun _ _ => rfl) : ME X G (.Subscript (.Name x p) b pos) (mIxO i mb) :=
  weakE (pe_ix ix_list (pe_var hN hv hd hcd) hb hs) fun σ H Q ⟨ρ, F, S, P⟩ => by
    unfold mIxO at P
    split at P
    · rename_i ds hρ
      obtain ⟨l, xs, e1, e2, e3, e4⟩ := S.getOl hρ
      refine ⟨.ref l, e1, ρ, F, S, (PostR.bind (rel := DvR G) P).imp fun d x F1 H1 _ g1 q1 ⟨F1', d', e1', g1', q1', P1⟩ => ?_⟩
      cases q1' with
      | int k =>
        have P1 : PostR G (DvR G) F1' H1 (ofO (atI ds k) .ok) Q := P1
        cases q : atI ds k with
        | none => rw [q] at P1; exact P1.elim
        | some z =>
          rw [q] at P1
          obtain ⟨v, e5, e6⟩ := dv_at (e4.mono g1'.f) q
          exact ⟨l, xs, k, v, rfl, rfl, SqL.of (g1'.h _ _ e2), e5, postD P1 g1'.s e6⟩
      | _ => exact P1.elim
    · exact P.elim

/-! slices -/
def cutD {α : Type} (xs : List α) (lo hi : Option Int) : List α := (xs.drop (HT.sIx xs.length 0 lo)).take (HT.sIx xs.length xs.length hi - HT.sIx xs.length 0 lo)
theorem dv_cut {K : PySem.W.Frag} {F : Hp} {xs : List V} {ds : List D} (h : DvAll K F xs ds) (lo hi : Option Int) : DvAll K F (cutV xs lo hi) (cutD ds lo hi) := by
  unfold cutV cutD
  rw [h.length]
  exact (h.drop _).take _
theorem cut_whole {α : Type} {xs : List α} {lo hi : Option Int} (h : HT.sIx xs.length 0 lo = 0 ∧ HT.sIx xs.length xs.length hi = xs.length) : cutD xs lo hi = xs := by
  unfold cutD
  rw [h.1, h.2, List.drop_zero, Nat.sub_zero, List.take_length]
def slD (x : D) (lo hi : Option Int) : R D := match x with
  | .lst ds => .ok (.lst (cutD ds lo hi))
  | .rol ds => .ok (.lst (cutD ds lo hi))
  | .tup ds => .ok (.tup (cutD ds lo hi))
  | .str z => if z.length ≤ sizeLine then .ok (.str (cutS z lo hi)) else .bad
  | _ => .bad
def mSl (a : Env → R D) (lo hi : Env → R (Option Int)) : Env → R D := fun ρ => (a ρ).bind fun x => (lo ρ).bind fun l => (hi ρ).bind fun h => slD x l h
def mNo : Env → R (Option Int) := fun _ => .ok none
def mSome (a : Env → R D) : Env → R (Option Int) := fun ρ => (a ρ).bind fun x => match x with
  | .int i => .ok (some i)
  | _ => .bad
theorem mo_none : MO X G none mNo := weakO po_none fun σ H Q ⟨ρ, F, S, P⟩ => P.go S.sub rfl
theorem mo_some (h : ME X G e ma) : MO X G (some e) (mSome ma) := weakO (po_some h) fun σ H Q ⟨ρ, F, S, P⟩ => by
  refine ⟨ρ, F, S, (PostR.bind (rel := DvR G) P).imp fun d x F1 H1 e1 g1 q1 ⟨F1', d', e1', g1', q1', P1⟩ => ?_⟩
  cases q1' with
  | int k => exact ⟨k, rfl, PostR.go (G := G) (rel := EqR) P1 g1'.s rfl⟩
  | _ => exact P1.elim
def rSlAll (K : PySem.W.Frag) : V → Option Int → Option Int → Hp → VK → Prop := fun x lo hi H Q => rSlL K x lo hi H Q ∨ rSlA K x lo hi H Q ∨ rSlS x lo hi H Q
theorem sl_all : SlR X (rSlAll X.K) := sl_list.or (sl_tupA.or sl_str)
theorem me_sl {lo hi : Option Expr} {ml mh : Env → R (Option Int)} {p2 : Pos} (he : ME X G e ma) (hl : MO X G lo ml) (hh : MO X G hi mh) (hK : X.K = G.K := by rfl) : ME X G (.Subscript e (.Slice lo hi none p2) pos) (mSl ma ml mh) :=
  weakE (pe_slice sl_all he hl hh) fun σ H Q ⟨ρ, F, S, P⟩ => by
    refine ⟨ρ, F, S, (PostR.bind (rel := DvR G) P).imp fun d x F1 H1 e1 g1 q1 ⟨F1', d', e1', g1', q1', P1⟩ => ?_⟩
    refine ⟨ρ, F1', S.grow g1', (PostR.bind (rel := EqR) P1).imp fun d2 l F2 H2 e2 g2 q2 ⟨F2', d2', e2', g2', q2', P2⟩ => ?_⟩
    refine ⟨ρ, F2', (S.grow g1').grow g2', (PostR.bind (rel := EqR) P2).imp fun d3 h F3 H3 e3 g3 q3 ⟨F3', d3', e3', g3', q3', P3⟩ => ?_⟩
    have e2 : l = d2' := q2'
    have e3 : h = d3' := q3'
    subst e2 e3
    have q := q1'.mono (g2'.f.trans g3'.f)
    rw [hK]
    cases q with
    | lst z r => exact .inl ⟨_, _, rfl, SqL.of (g3'.s _ _ z), fun p hp => postNew P3 g3'.s hp (.lst upd_same ((dv_cut r l h).mono (Same.upd_new (g3'.s.free hp))))⟩
    | rol z r => exact .inl ⟨_, _, rfl, g3'.s.seq z, fun p hp => postNew P3 g3'.s hp (.lst upd_same ((dv_cut r l h).mono (Same.upd_new (g3'.s.free hp))))⟩
    | @tup a xs ds z r =>
      refine .inr (.inl ⟨_, _, rfl, Same.tup g3'.s z, fun hw => ?_, fun _ p hp => postNew P3 g3'.s hp (.tup (SqT.of upd_same) ((dv_cut r l h).mono (Same.upd_new (g3'.s.free hp))))⟩)
      have P3 : PostR G (DvR G) F3' H3 (.ok (.tup (cutD ds l h))) Q := P3
      rw [r.length] at hw
      rw [cut_whole hw] at P3
      exact postD P3 g3'.s (.tup z r)
    | str z =>
      have P3 : PostR G (DvR G) F3' H3 (if z.length ≤ sizeLine then .ok (.str (cutS z l h)) else .bad) Q := P3
      split at P3
      · rename_i hz
        exact .inr (.inr ⟨z, rfl, hz, postD P3 g3'.s (.str _)⟩)
      · exact P3.elim
    | _ => exact P3.elim

/-! ### built-ins by name -/
def CallM (G : Gm) (r : List V → Hp → VK → Prop) (f : List D → R D) : Prop := ∀ (F H : Hp) (vs : List V) (ds : List D) (Q : VK), Same F H → DvAll G.K F vs ds → PostR G (DvR G) F H (f ds) Q → r vs H Q
def mCall (f : List D → R D) (m : Env → R (List D)) : Env → R D := fun ρ => (m ρ).bind f
theorem callB {r : List V → Hp → VK → Prop} {f : List D → R D} {m : Env → R (List D)} (hm : CallM G r f) : ∀ σ H Q, tOf G (mCall f m) σ H Q → tCB r (taOf G m) σ H Q := fun σ H Q ⟨ρ, F, S, P⟩ =>
  ⟨ρ, F, S, (PostR.bind (rel := DvsR G) P).imp fun d x F1 H1 e1 g1 q1 ⟨F1', d', e1', g1', q1', P1⟩ => hm F1' H1 x d' Q g1'.s q1' P1⟩
theorem me_callB {r : List V → Hp → VK → Prop} {f : List D → R D} {m : Env → R (List D)} {id : String} {x : Str} {p : Pos} (hc : CallR X (.builtin id) r) (hm : CallM G r f) (ha : MA X G (e :: es) m) (hx : X.mg x = none) (hv : bootBuiltins x = some (.builtin id)) (hg : Gl X x := by rfl) (hn : x ≠ "__name__" := by decide) (hdb : (x == ("__debug__" : Str)) = false := by decide)
    (he : starEach (e :: es) X.env = (false, eval e X.env) :: starEach es X.env := by rfl) (hpl : (backTo pos (starEach es X.env)).any (·.1) = false := by rfl) : ME X G (.Call (.Name x p) (e :: es) [] pos) (mCall f m) :=
  weakE (pe_callB hc hg hx hv ha hn hdb he hpl) (callB hm)
theorem me_callTy {r : List V → Hp → VK → Prop} {f : List D → R D} {m : Env → R (List D)} {T : String} {x : Str} {p : Pos} (hc : CallR X (.type T) r) (hm : CallM G r f) (ha : MA X G (e :: es) m) (hx : X.mg x = none) (hv : bootBuiltins x = some (.type T)) (hg : Gl X x := by rfl) (hn : x ≠ "__name__" := by decide) (hdb : (x == ("__debug__" : Str)) = false := by decide)
    (he : starEach (e :: es) X.env = (false, eval e X.env) :: starEach es X.env := by rfl) (hpl : (backTo pos (starEach es X.env)).any (·.1) = false := by rfl) : ME X G (.Call (.Name x p) (e :: es) [] pos) (mCall f m) :=
  weakE (pe_callTy hc hg hx hv ha hn hdb he hpl) (callB hm)

def lenF : List D → R D
  | [.str z] => if z.length ≤ sizeLine then .ok (.int z.length) else .bad
  | [.lst ds] => .ok (.int ds.length)
  | [.rol ds] => .ok (.int ds.length)
  | [.tup ds] => .ok (.int ds.length)
  | _ => .bad
def rLenA (K : PySem.W.Frag) : List V → Hp → VK → Prop := fun xs H Q => (∃ p ys, xs = [.ref p] ∧ (SqL K H p ys ∨ SqT K H p ys) ∧ Q (.int ys.length) H) ∨ (∃ z, xs = [.str z] ∧ z.length ≤ sizeLine ∧ Q (.int z.length) H)
theorem cr_lenA : CallR X (.builtin "len") (rLenA X.K) := call_len_seq.or call_len_str
theorem one_of {K : PySem.W.Frag} {F : Hp} {vs : List V} {d : D} (h : DvAll K F vs [d]) : ∃ v, vs = [v] ∧ Dv K F v d := by
  cases h with
  | cons h r => cases r; exact ⟨_, rfl, h⟩
theorem cm_len : CallM G (rLenA G.K) lenF := by
  intro F H vs ds Q s h P
  unfold lenF at P
  split at P
  · obtain ⟨v, rfl, q⟩ := one_of h
    cases q
    split at P
    · exact .inr ⟨_, rfl, by assumption, postD P s (.int _)⟩
    · exact P.elim
  · obtain ⟨v, rfl, q⟩ := one_of h
    cases q with
    | lst e r => exact .inl ⟨_, _, rfl, .inl (SqL.of (s _ _ e)), by rw [r.length]; exact postD P s (.int _)⟩
  · obtain ⟨v, rfl, q⟩ := one_of h
    cases q with
    | rol e r => exact .inl ⟨_, _, rfl, .inl (s.seq e), by rw [r.length]; exact postD P s (.int _)⟩
  · obtain ⟨v, rfl, q⟩ := one_of h
    cases q with
    | tup e r => exact .inl ⟨_, _, rfl, .inr (Same.tup s e), by rw [r.length]; exact postD P s (.int _)⟩
  · exact P.elim
theorem me_len {m : Env → R (List D)} {p : Pos} (ha : MA X G [e] m) (hx : X.mg "len" = none) (hK : X.K = G.K := by rfl) (hg : Gl X "len" := by rfl) (he : starEach [e] X.env = (false, eval e X.env) :: starEach [] X.env := by rfl) (hpl : (backTo pos (starEach [] X.env)).any (·.1) = false := by rfl) :
    ME X G (.Call (.Name "len" p) [e] [] pos) (mCall lenF m) := me_callB cr_lenA (by rw [hK]; exact cm_len) ha hx PySem.boot_len hg (by decide) (by decide) he hpl
/-- all, any over bools -/
def boolsOf : List D → Option (List Bool)
  | [] => some []
  | .bl b :: r => (boolsOf r).map (b :: ·)
  | _ => none
theorem bools_v {K : PySem.W.Frag} {F : Hp} : ∀ {ds : List D} {vs : List V} {bs : List Bool}, DvAll K F vs ds → boolsOf ds = some bs → vs = bs.map V.bl
  | [], _, _, h, e => by cases h; cases e; rfl
  | d :: ds, _, bs, h, e => by
    cases h with
    | cons h r =>
      cases h with
      | bl b =>
        unfold boolsOf at e
        cases q : boolsOf ds with
        | none => rw [q] at e; cases e
        | some bs2 =>
          rw [q] at e
          cases e
          rw [bools_v r q, List.map_cons]
      | _ => cases e
def allF : List D → R D
  | [.lst ds] => ofO (boolsOf ds) fun bs => .ok (.bl (bs.all id))
  | _ => .bad
def anyF : List D → R D
  | [.lst ds] => ofO (boolsOf ds) fun bs => .ok (.bl (bs.any id))
  | _ => .bad
theorem cm_all : CallM G (rAll G.K) allF := by
  intro F H vs ds Q s h P
  unfold allF at P
  split at P
  · rename_i es
    obtain ⟨v, rfl, q⟩ := one_of h
    cases q with
    | lst e r =>
      cases z : boolsOf es with
      | none => rw [z] at P; exact P.elim
      | some bs =>
        rw [z] at P
        have ev := bools_v r z
        subst ev
        exact ⟨_, bs, rfl, SqL.of (s _ _ e), postD P s (.bl _)⟩
  · exact P.elim
theorem cm_any : CallM G (rAny G.K) anyF := by
  intro F H vs ds Q s h P
  unfold anyF at P
  split at P
  · rename_i es
    obtain ⟨v, rfl, q⟩ := one_of h
    cases q with
    | lst e r =>
      cases z : boolsOf es with
      | none => rw [z] at P; exact P.elim
      | some bs =>
        rw [z] at P
        have ev := bools_v r z
        subst ev
        exact ⟨_, bs, rfl, SqL.of (s _ _ e), postD P s (.bl _)⟩
  · exact P.elim
theorem me_all {m : Env → R (List D)} {p : Pos} (ha : MA X G [e] m) (hx : X.mg "all" = none) (hK : X.K = G.K := by rfl) (hc : X.calm = true := by rfl) (hg : Gl X "all" := by rfl) (he : starEach [e] X.env = (false, eval e X.env) :: starEach [] X.env := by rfl) (hpl : (backTo pos (starEach [] X.env)).any (·.1) = false := by rfl) :
    ME X G (.Call (.Name "all" p) [e] [] pos) (mCall allF m) := me_callB (cr_all hc) (by rw [hK]; exact cm_all) ha hx (by decide +kernel) hg (by decide) (by decide) he hpl
theorem me_any {m : Env → R (List D)} {p : Pos} (ha : MA X G [e] m) (hx : X.mg "any" = none) (hK : X.K = G.K := by rfl) (hc : X.calm = true := by rfl) (hg : Gl X "any" := by rfl) (he : starEach [e] X.env = (false, eval e X.env) :: starEach [] X.env := by rfl) (hpl : (backTo pos (starEach [] X.env)).any (·.1) = false := by rfl) :
    ME X G (.Call (.Name "any" p) [e] [] pos) (mCall anyF m) := me_callB (cr_any hc) (by rw [hK]; exact cm_any) ha hx (by decide +kernel) hg (by decide) (by decide) he hpl
/-- isinstance(x, T), T a built-in class -/
def tyN : D → String
  | .non => "NoneType"
  | .bl _ => "bool"
  | .int _ => "int"
  | .str _ => "str"
  | .lst _ => "list"
  | .rol _ => "list"
  | .tup _ => "tuple"
  | .dic _ _ => "dict"
  | .fn _ => ""
  | .ty _ => ""
def isF : List D → R D
  | [x, .ty n] => ofO (kitB (tyN x) n) fun b => if tyN x = "" then .bad else .ok (.bl b)
  | _ => .bad
theorem tyx_of {K : PySem.W.Frag} {F H : Hp} {v : V} {d : D} (s : Same F H) (h : Dv K F v d) (hn : ¬ tyN d = "") : TyX K H v (.type (tyN d)) := by
  cases h with
  | non => exact .base .non
  | bl b => exact .base (.bl b)
  | int b => exact .base (.int b)
  | str b => exact .base (.str b)
  | lst e r => exact .base (.lst (s _ _ e))
  | rol e r =>
    rcases s.seq e with (e | ⟨o, e⟩) | ⟨o, its, n, e, c, _⟩
    · exact .base (.lst e)
    · exact .base (.frz e)
    · exact .kList e c
  | tup e r =>
    rcases Same.tup s e with (e | ⟨o, e⟩) | ⟨o, its, n, e, c, _⟩
    · exact .base (.tup e)
    · exact .fTuple e
    · exact .kTuple e c
  | dic e k r => exact .fDict (s _ _ e)
  | fn => exact absurd rfl hn
  | ty => exact absurd rfl hn
theorem cm_isi : CallM G (rIsi G.K) isF := by
  intro F H vs ds Q s h P
  unfold isF at P
  split at P
  · rename_i x n
    cases h with
    | cons h1 r =>
      obtain ⟨v2, rfl, q2⟩ := one_of r
      cases q2
      cases z : kitB (tyN x) n with
      | none => rw [z] at P; exact P.elim
      | some b =>
        rw [z] at P
        have P : PostR G (DvR G) F H (if tyN x = "" then .bad else .ok (.bl b)) Q := P
        split at P
        · exact P.elim
        · rename_i hn
          exact ⟨_, _, _, _, b, rfl, .ty n, tyx_of s h1 hn, kit_ty z, postD P s (.bl _)⟩
  · exact P.elim
theorem me_isi {e2 : Expr} {m : Env → R (List D)} {p : Pos} (ha : MA X G [e, e2] m) (hx : X.mg "isinstance" = none) (hK : X.K = G.K := by rfl) (hg : Gl X "isinstance" := by rfl) (he : starEach [e, e2] X.env = (false, eval e X.env) :: starEach [e2] X.env := by rfl) (hpl : (backTo pos (starEach [e2] X.env)).any (·.1) = false := by rfl) :
    ME X G (.Call (.Name "isinstance" p) [e, e2] [] pos) (mCall isF m) := me_callB call_isi (by rw [hK]; exact cm_isi) ha hx (by decide +kernel) hg (by decide) (by decide) he hpl
/-- int(n), int(flag) -/
def intF : List D → R D
  | [.int i] => .ok (.int i)
  | [.bl k] => .ok (.int (if k then 1 else 0))
  | _ => .bad
theorem cm_int : CallM G (fun xs H Q => (∃ i, xs = [.int i] ∧ Q (.int i) H) ∨ ∃ k, xs = [.bl k] ∧ Q (.int (if k then 1 else 0)) H) intF := by
  intro F H vs ds Q s h P
  unfold intF at P
  split at P
  · obtain ⟨v, rfl, q⟩ := one_of h
    cases q
    exact .inl ⟨_, rfl, postD P s (.int _)⟩
  · obtain ⟨v, rfl, q⟩ := one_of h
    cases q
    exact .inr ⟨_, rfl, postD P s (.int _)⟩
  · exact P.elim
theorem me_int1 {m : Env → R (List D)} {p : Pos} (ha : MA X G [e] m) (hx : X.mg "int" = none) (hg : Gl X "int" := by rfl) (he : starEach [e] X.env = (false, eval e X.env) :: starEach [] X.env := by rfl) (hpl : (backTo pos (starEach [] X.env)).any (·.1) = false := by rfl) :
    ME X G (.Call (.Name "int" p) [e] [] pos) (mCall intF m) := me_callTy call_int1 cm_int ha hx (by decide +kernel) hg (by decide) (by decide) he hpl
/-- tuple(xs) -/
def tupF : List D → R D
  | [.lst ds] => .ok (.tup ds)
  | [.rol ds] => .ok (.tup ds)
  | [.tup ds] => .ok (.tup ds)
  | _ => .bad
theorem cm_tup : CallM G (fun xs H Q => ∃ p ys, xs = [.ref p] ∧ ((SqL G.K H p ys ∧ ∀ l, H l = none → Q (.ref l) (upd H l (.tup ys))) ∨ (SqT G.K H p ys ∧ Q (.ref p) H))) tupF := by
  intro F H vs ds Q s h P
  unfold tupF at P
  split at P
  · obtain ⟨v, rfl, q⟩ := one_of h
    cases q with
    | lst e r => exact ⟨_, _, rfl, .inl ⟨SqL.of (s _ _ e), fun p hp => postNew P s hp (.tup (SqT.of upd_same) (r.mono (Same.upd_new (s.free hp))))⟩⟩
  · obtain ⟨v, rfl, q⟩ := one_of h
    cases q with
    | rol e r => exact ⟨_, _, rfl, .inl ⟨s.seq e, fun p hp => postNew P s hp (.tup (SqT.of upd_same) (r.mono (Same.upd_new (s.free hp))))⟩⟩
  · obtain ⟨v, rfl, q⟩ := one_of h
    cases q with
    | tup e r => exact ⟨_, _, rfl, .inr ⟨Same.tup s e, postD P s (.tup e r)⟩⟩
  · exact P.elim
theorem me_tuple {m : Env → R (List D)} {p : Pos} (ha : MA X G [e] m) (hx : X.mg "tuple" = none) (hK : X.K = G.K := by rfl) (hg : Gl X "tuple" := by rfl) (he : starEach [e] X.env = (false, eval e X.env) :: starEach [] X.env := by rfl) (hpl : (backTo pos (starEach [] X.env)).any (·.1) = false := by rfl) :
    ME X G (.Call (.Name "tuple" p) [e] [] pos) (mCall tupF m) := me_callTy call_tuple_of (by rw [hK]; exact cm_tup) ha hx (by decide +kernel) hg (by decide) (by decide) he hpl
/-- list(xs) -/
def lstF : List D → R D
  | [.lst ds] => .ok (.lst ds)
  | [.rol ds] => .ok (.lst ds)
  | [.tup ds] => .ok (.lst ds)
  | _ => .bad
theorem cm_list : CallM G (fun xs H Q => ∃ p ys, xs = [.ref p] ∧ (SqL G.K H p ys ∨ SqT G.K H p ys) ∧ ∀ l, H l = none → Q (.ref l) (upd H l (.lst ys))) lstF := by
  intro F H vs ds Q s h P
  unfold lstF at P
  split at P
  · obtain ⟨v, rfl, q⟩ := one_of h
    cases q with
    | lst e r => exact ⟨_, _, rfl, .inl (SqL.of (s _ _ e)), fun p hp => postNew P s hp (.lst upd_same (r.mono (Same.upd_new (s.free hp))))⟩
  · obtain ⟨v, rfl, q⟩ := one_of h
    cases q with
    | rol e r => exact ⟨_, _, rfl, .inl (s.seq e), fun p hp => postNew P s hp (.lst upd_same (r.mono (Same.upd_new (s.free hp))))⟩
  · obtain ⟨v, rfl, q⟩ := one_of h
    cases q with
    | tup e r => exact ⟨_, _, rfl, .inr (Same.tup s e), fun p hp => postNew P s hp (.lst upd_same (r.mono (Same.upd_new (s.free hp))))⟩
  · exact P.elim
theorem me_list {m : Env → R (List D)} {p : Pos} (ha : MA X G [e] m) (hx : X.mg "list" = none) (hK : X.K = G.K := by rfl) (hg : Gl X "list" := by rfl) (he : starEach [e] X.env = (false, eval e X.env) :: starEach [] X.env := by rfl) (hpl : (backTo pos (starEach [] X.env)).any (·.1) = false := by rfl) :
    ME X G (.Call (.Name "list" p) [e] [] pos) (mCall lstF m) := me_callTy call_list_of (by rw [hK]; exact cm_list) ha hx (by decide +kernel) hg (by decide) (by decide) he hpl
/-- sep.join(texts) -/
def strsOf : List D → Option (List Str)
  | [] => some []
  | .str b :: r => (strsOf r).map (b :: ·)
  | _ => none
theorem strs_v {K : PySem.W.Frag} {F : Hp} : ∀ {ds : List D} {vs : List V} {bs : List Str}, DvAll K F vs ds → strsOf ds = some bs → vs = bs.map V.str
  | [], _, _, h, e => by cases h; cases e; rfl
  | d :: ds, _, bs, h, e => by
    cases h with
    | cons h r =>
      cases h with
      | str b =>
        unfold strsOf at e
        cases q : strsOf ds with
        | none => rw [q] at e; cases e
        | some bs2 =>
          rw [q] at e
          cases e
          rw [strs_v r q, List.map_cons]
      | _ => cases e
def joinD (x y : D) : R D := match x, y with
  | .str a, .lst ds => ofO (strsOf ds) fun ys => if (ys.map (·.length)).sum + ys.length * a.length ≤ 16777216 then .ok (.str (Txt.join a ys)) else .bad
  | .str a, .tup ds => ofO (strsOf ds) fun ys => if (ys.map (·.length)).sum + ys.length * a.length ≤ 16777216 then .ok (.str (Txt.join a ys)) else .bad
  | _, _ => .bad
def mJoin (o a : Env → R D) : Env → R D := fun ρ => (o ρ).bind fun x => match x with
  | .str z => (a ρ).bind fun y => joinD (.str z) y
  | _ => .bad
theorem me_join {o : Expr} {mo : Env → R D} {apos : Pos} (ho : ME X G o mo) (he : ME X G e ma) (hK : X.K = G.K := by rfl) (hs : starEach [e] X.env = [(false, eval e X.env)] := by rfl) (hbase : attributeBase o "join" X.env (eval o X.env) = eval o X.env := by rfl) (hline : (apos.endLine == pos.line) = true := by rfl) :
    ME X G (.Call (.Attribute o "join" apos) [e] [] pos) (mJoin mo ma) := weakE (pe_join ho he hs hbase hline) fun σ H Q ⟨ρ, F, S, P⟩ => by
  refine ⟨ρ, F, S, (PostR.bind (rel := DvR G) P).imp fun d x F1 H1 e1 g1 q1 ⟨F1', d', e1', g1', q1', P1⟩ => ?_⟩
  cases q1' with
  | str a =>
    refine ⟨⟨a, rfl⟩, ρ, F1', S.grow g1', (PostR.bind (rel := DvR G) P1).imp fun d2 y F2 H2 e2 g2 q2 ⟨F2', d2', e2', g2', q2', P2⟩ => ?_⟩
    rw [hK]
    cases q2' with
    | @lst p xs ds z r =>
      have P2 : PostR G (DvR G) F2' H2 (ofO (strsOf ds) fun ys => if (ys.map (·.length)).sum + ys.length * a.length ≤ 16777216 then .ok (.str (Txt.join a ys)) else .bad) Q := P2
      cases w : strsOf ds with
      | none => rw [w] at P2; exact P2.elim
      | some ys =>
        rw [w] at P2
        have P2 : PostR G (DvR G) F2' H2 (if (ys.map (·.length)).sum + ys.length * a.length ≤ 16777216 then .ok (.str (Txt.join a ys)) else .bad) Q := P2
        have ev := strs_v r w
        subst ev
        split at P2
        · exact ⟨a, p, ys, rfl, rfl, .inl (SqL.of (g2'.s _ _ z)), by assumption, postD P2 g2'.s (.str _)⟩
        · exact P2.elim
    | @tup p xs ds z r =>
      have P2 : PostR G (DvR G) F2' H2 (ofO (strsOf ds) fun ys => if (ys.map (·.length)).sum + ys.length * a.length ≤ 16777216 then .ok (.str (Txt.join a ys)) else .bad) Q := P2
      cases w : strsOf ds with
      | none => rw [w] at P2; exact P2.elim
      | some ys =>
        rw [w] at P2
        have P2 : PostR G (DvR G) F2' H2 (if (ys.map (·.length)).sum + ys.length * a.length ≤ 16777216 then .ok (.str (Txt.join a ys)) else .bad) Q := P2
        have ev := strs_v r w
        subst ev
        split at P2
        · exact ⟨a, p, ys, rfl, rfl, .inr (Same.tup g2'.s z), by assumption, postD P2 g2'.s (.str _)⟩
        · exact P2.elim
    | _ => exact P2.elim
  | _ => exact P1.elim
end
end Mir
namespace Mir
open PySem PySem.Spec PyProof.Rows L2 RZ

/-! ### a def by its mirror -/
def spM (K : PySem.W.Frag) (mg : Str → Option Value) (n : Nat) (f : List D → R D) : Sp := fun vs H Q E =>
  ∃ F ds, Same F H ∧ DvAll K F vs ds ∧ ds.length = n ∧ PostR ⟨K, mg, E⟩ (DvR ⟨K, mg, E⟩) F H (f ds) Q
abbrev FnM (P : Program) (w : World) (K : PySem.W.Frag) (mg : Str → Option Value) (base : Heap) (k : Nat) (f : Addr) (fd : FuncData) (ps : List Str) (m : List D → R D) : Prop :=
  FnOk P w K mg base (L2.CX P w) k f fd ps (spM K mg ps.length m)
section
variable {X : Cx} {G : Gm} {a b e : Expr} {es : List Expr} {ma mb : Env → R D} {pos : Pos} {k : Nat} {f : Addr} {fd : FuncData} {ps : List Str} {m : List D → R D} {mr : Env → R (List D)} {x : Str} {p : Pos}
def mFn (n : Nat) (f : List D → R D) (m : Env → R (List D)) : Env → R D := fun ρ => (m ρ).bind fun ds => if ds.length = n then f ds else .bad
theorem me_fn (F : FnOk X.prog X.w X.K X.mg X.base (L2.CX X.prog X.w) k f fd ps (spM X.K X.mg ps.length m)) (hr : Room k X.A) (hm : X.mg x = some (.ref f)) (hk : PySem.W.keepIn X.K (.ref f) = true) (hb : Binds X.K fd ps []) (hx : Passes (L2.CX X.prog X.w) X G.E) (ha : MA X G (e :: es) mr)
    (hK : X.K = G.K := by rfl) (hmg : X.mg = G.mg := by rfl) (hg : Gl X x := by rfl) (hdb : (x == ("__debug__" : Str)) = false := by decide) (he : starEach (e :: es) X.env = (false, eval e X.env) :: starEach es X.env := by rfl) (hpl : (backTo pos (starEach es X.env)).any (·.1) = false := by rfl) :
    ME X G (.Call (.Name x p) (e :: es) [] pos) (mFn ps.length m mr) := weakE (pe_call F hr hg hm hk hb .nil hx ha hdb he hpl) fun σ H Q ⟨ρ, F', S, P⟩ => by
  refine ⟨ρ, F', S, (PostR.bind (rel := DvsR G) P).imp fun d x F1 H1 e1 g1 q1 ⟨F1', d', e1', g1', q1', P1⟩ => ?_⟩
  rw [List.append_nil]
  split at P1
  · rename_i hl
    rw [hK, hmg]
    exact ⟨F1', d', g1'.s, q1', hl, P1⟩
  · exact P1.elim
theorem me_fn0 (F : FnOk X.prog X.w X.K X.mg X.base (L2.CX X.prog X.w) k f fd [] (spM X.K X.mg 0 m)) (hr : Room k X.A) (hm : X.mg x = some (.ref f)) (hk : PySem.W.keepIn X.K (.ref f) = true) (hb : Binds X.K fd [] []) (hx : Passes (L2.CX X.prog X.w) X G.E)
    (hK : X.K = G.K := by rfl) (hmg : X.mg = G.mg := by rfl) (hg : Gl X x := by rfl) (hdb : (x == ("__debug__" : Str)) = false := by decide) :
    ME X G (.Call (.Name x p) [] [] pos) (fun _ => m []) := weakE (pe_call0 F hr hg hm hk hb .nil hx hdb) fun σ H Q ⟨ρ, F', S, P⟩ => by
  show spM X.K X.mg 0 m ([] ++ []) H Q G.E
  rw [hK, hmg]
  exact ⟨F', [], S.sub, .nil, rfl, P⟩
end

/-! ### what is walked -/
structure WalkD (K : PySem.W.Frag) (J : It) (ds : List D) (F1 : Hp) : Prop where
  go : ∀ i F H, Same F1 F → Same F H → i < ds.length → J.go i H
  stop : ∀ F H, Same F1 F → Same F H → J.stop ds.length H
  yld : ∀ i F H x H', Same F1 F → Same F H → i < ds.length → J.yld i H x H' → ∃ F' d, ds[i]? = some d ∧ Grow F H F' H' ∧ Dv K F' x d
def PostI (G : Gm) (F H : Hp) (r : R (List D)) (Q : It → Hp → Prop) : Prop := match r with
  | .ok ds => ∀ J F' H', Grow F H F' H' → WalkD G.K J ds F' → Q J H'
  | .exc c => ∀ C F' H', G.mg c = some (.ref C) → Grow F H F' H' → G.E (.ref C) none H'
  | .bad => False
def tiOf (G : Gm) (m : Env → R (List D)) : TI := fun σ H Q => ∃ ρ F, Sl G.K ρ σ F H ∧ PostI G F H (m ρ) Q
abbrev MI (X : Cx) (G : Gm) (tg e : Expr) (m : Env → R (List D)) : Prop := PI X tg e (tiOf G m)
theorem weakI {X : Cx} {tg e : Expr} {t t' : TI} (h : PI X tg e t) (k : ∀ σ H Q, t' σ H Q → t σ H Q) : PI X tg e t' := ⟨fun pins s σ H Q I q => h.run pins s σ H Q I (k σ H Q q)⟩
theorem PostI.grow {G : Gm} {F H F1 H1 : Hp} {r : R (List D)} {Q : It → Hp → Prop} (h : PostI G F H r Q) (g : Grow F H F1 H1) : PostI G F1 H1 r Q := by
  cases r with
  | ok a => exact fun J F' H' g' q => h J F' H' (g.trans g') q
  | exc c => exact fun C F' H' m g' => h C F' H' m (g.trans g')
  | bad => exact h
theorem PostI.bind {G : Gm} {α β : Type} {rel : Hp → β → α → Prop} {F H : Hp} {r : R α} {f : α → R (List D)} {Q : It → Hp → Prop} (h : PostI G F H (r.bind f) Q) :
    PostR G rel F H r (fun b H1 => ∃ F1 a, r = .ok a ∧ Grow F H F1 H1 ∧ rel F1 b a ∧ PostI G F1 H1 (f a) Q) := by
  cases r with
  | ok a => exact fun b F' H' g' q => ⟨F', a, rfl, g', q, PostI.grow (show PostI G F H (f a) Q from h) g'⟩
  | exc c => exact h
  | bad => exact h
section
variable {K : PySem.W.Frag} {F : Hp} {a b : Addr} {xs ys : List V} {ds es : List D}
theorem wd_list (h : SqL K F a xs) (r : DvAll K F xs ds) : WalkD K (Itl K a) ds F := by
  refine ⟨fun i F1 H s1 s2 hi => ?_, fun F1 H s1 s2 => ⟨xs, (s1.trans s2).seq h, by rw [r.length]; exact Nat.le_refl _⟩, fun i F1 H x H' s1 s2 hi y => ?_⟩
  · rw [← r.length] at hi
    exact ⟨xs, xs[i], (s1.trans s2).seq h, List.getElem?_eq_getElem hi⟩
  · obtain ⟨rfl, q⟩ := y
    obtain ⟨d, e1, e2⟩ := r.get (q xs ((s1.trans s2).seq h))
    exact ⟨F1, d, e1, Grow.refl s2, e2.mono s1⟩
theorem wd_tup (h : SqT K F a xs) (r : DvAll K F xs ds) : WalkD K (Itt K a) ds F := by
  refine ⟨fun i F1 H s1 s2 hi => ?_, fun F1 H s1 s2 => ⟨xs, Same.tup (s1.trans s2) h, by rw [r.length]; exact Nat.le_refl _⟩, fun i F1 H x H' s1 s2 hi y => ?_⟩
  · rw [← r.length] at hi
    exact ⟨xs, xs[i], Same.tup (s1.trans s2) h, List.getElem?_eq_getElem hi⟩
  · obtain ⟨rfl, q⟩ := y
    obtain ⟨d, e1, e2⟩ := r.get (q xs (Same.tup (s1.trans s2) h))
    exact ⟨F1, d, e1, Grow.refl s2, e2.mono s1⟩
def rangeD (lo : Int) (n : Nat) : List D := (List.range n).map fun i => .int (lo + (i : Nat))
theorem rangeD_len (lo : Int) (n : Nat) : (rangeD lo n).length = n := by unfold rangeD; rw [List.length_map, List.length_range]
theorem wd_range {lo : Int} {n : Nat} : WalkD K (Itr lo n) (rangeD lo n) F := by
  refine ⟨fun i F1 H s1 s2 hi => ?_, fun F1 H s1 s2 => ?_, fun i F1 H x H' s1 s2 hi y => ?_⟩
  · rw [rangeD_len] at hi; exact hi
  · show n ≤ (rangeD lo n).length
    rw [rangeD_len]; exact Nat.le_refl _
  · rw [rangeD_len] at hi
    obtain ⟨rfl, rfl⟩ := y
    refine ⟨F1, .int (lo + (i : Nat)), ?_, Grow.refl s2, .int _⟩
    unfold rangeD
    rw [List.getElem?_map, List.getElem?_range hi]
    rfl
def signsD (z : Str) : List D := z.cps.toList.map fun c => .str ⟨#[c]⟩
theorem signsD_len (z : Str) : (signsD z).length = z.cps.size := by unfold signsD; rw [List.length_map, Array.length_toList]
theorem signsD_at {z : Str} {i c : Nat} (h : z.cps[i]? = some c) : (signsD z)[i]? = some (.str ⟨#[c]⟩) := by
  unfold signsD
  rw [List.getElem?_map, Array.getElem?_toList, h]
  rfl
theorem wd_str {z : Str} : WalkD K (Its z) (signsD z) F := by
  refine ⟨fun i F1 H s1 s2 hi => ?_, fun F1 H s1 s2 => ?_, fun i F1 H x H' s1 s2 hi y => ?_⟩
  · rw [signsD_len] at hi; exact hi
  · show z.cps.size ≤ (signsD z).length
    rw [signsD_len]; exact Nat.le_refl _
  · obtain ⟨rfl, c, e, rfl⟩ := y
    exact ⟨F1, _, signsD_at e, Grow.refl s2, .str _⟩
def enumD (ds : List D) : List D := (List.range ds.length).zipWith (fun i d => .tup [.int (i : Nat), d]) ds
theorem enumD_len (ds : List D) : (enumD ds).length = ds.length := by unfold enumD; rw [List.length_zipWith, List.length_range, Nat.min_self]
theorem enumD_at {ds : List D} {i : Nat} {d : D} (h : ds[i]? = some d) : (enumD ds)[i]? = some (.tup [.int (i : Nat), d]) := by
  have hi := (List.getElem?_eq_some_iff.mp h).1
  unfold enumD
  rw [List.getElem?_zipWith, List.getElem?_range hi, h]
theorem pair_new {F1 H : Hp} {T : Addr} {x y : V} {d e : D} (s : Same F1 H) (hT : H T = none) (h1 : Dv K F1 x d) (h2 : Dv K F1 y e) : ∃ F', Grow F1 H F' (upd H T (.tup [x, y])) ∧ Dv K F' (.ref T) (.tup [d, e]) :=
  ⟨_, Grow.new s hT, .tup (SqT.of upd_same) (.cons (h1.mono (Same.upd_new (s.free hT))) (.cons (h2.mono (Same.upd_new (s.free hT))) .nil))⟩
theorem wd_enumS {z : Str} : WalkD K (EnS z) (enumD (signsD z)) F := by
  refine ⟨fun i F1 H s1 s2 hi => ?_, fun F1 H s1 s2 => ?_, fun i F1 H x H' s1 s2 hi y => ?_⟩
  · rw [enumD_len, signsD_len] at hi; exact hi
  · show (enumD (signsD z)).length = z.cps.size
    rw [enumD_len, signsD_len]
  · obtain ⟨T, c, rfl, hT, e, rfl⟩ := y
    obtain ⟨F', g, q⟩ := pair_new (K := K) s2 hT (.int (i : Nat)) (.str ⟨#[c]⟩)
    exact ⟨F', _, enumD_at (signsD_at e), g, q⟩
theorem wd_enumT (h : SqT K F a xs) (r : DvAll K F xs ds) : WalkD K (EnT K a) (enumD ds) F := by
  refine ⟨fun i F1 H s1 s2 hi => ?_, fun F1 H s1 s2 => ?_, fun i F1 H x H' s1 s2 hi y => ?_⟩
  · rw [enumD_len, ← r.length] at hi
    exact ⟨xs, Same.tup (s1.trans s2) h, hi⟩
  · exact ⟨xs, Same.tup (s1.trans s2) h, by rw [enumD_len, r.length]⟩
  · obtain ⟨T, v, rfl, hT, e, rfl⟩ := y
    obtain ⟨d, e1, e2⟩ := r.get (e xs (Same.tup (s1.trans s2) h))
    obtain ⟨F', g, q⟩ := pair_new (K := K) s2 hT (.int (i : Nat)) (e2.mono s1)
    exact ⟨F', _, enumD_at e1, g, q⟩
theorem wd_enumL (h : SqL K F a xs) (r : DvAll K F xs ds) : WalkD K (Ite K a) (enumD ds) F := by
  refine ⟨fun i F1 H s1 s2 hi => ?_, fun F1 H s1 s2 => ?_, fun i F1 H x H' s1 s2 hi y => ?_⟩
  · rw [enumD_len, ← r.length] at hi
    exact ⟨xs, xs[i], (s1.trans s2).seq h, List.getElem?_eq_getElem hi⟩
  · exact ⟨xs, (s1.trans s2).seq h, by rw [enumD_len, r.length]; exact Nat.le_refl _⟩
  · obtain ⟨T, v, rfl, hT, rfl, e⟩ := y
    obtain ⟨d, e1, e2⟩ := r.get (e xs ((s1.trans s2).seq h))
    obtain ⟨F', g, q⟩ := pair_new (K := K) s2 hT (.int (i : Nat)) (e2.mono s1)
    exact ⟨F', _, enumD_at e1, g, q⟩
def zipD (ds es : List D) : List D := ds.zipWith (fun d e => .tup [d, e]) es
theorem zipD_len (ds es : List D) : (zipD ds es).length = min ds.length es.length := by unfold zipD; rw [List.length_zipWith]
theorem zipD_at {ds es : List D} {i : Nat} {d e : D} (h : ds[i]? = some d) (h2 : es[i]? = some e) : (zipD ds es)[i]? = some (.tup [d, e]) := by
  unfold zipD
  rw [List.getElem?_zipWith, h, h2]
theorem wd_zipL (h : SqL K F a xs) (r : DvAll K F xs ds) (h2 : SqL K F b ys) (r2 : DvAll K F ys es) : WalkD K (Itz K a b) (zipD ds es) F := by
  refine ⟨fun i F1 H s1 s2 hi => ?_, fun F1 H s1 s2 => ?_, fun i F1 H x H' s1 s2 hi y => ?_⟩
  · rw [zipD_len, ← r.length, ← r2.length] at hi
    have i1 : i < xs.length := by omega
    have i2 : i < ys.length := by omega
    exact ⟨xs, ys, xs[i], ys[i], (s1.trans s2).seq h, (s1.trans s2).seq h2, List.getElem?_eq_getElem i1, List.getElem?_eq_getElem i2⟩
  · refine ⟨xs, ys, (s1.trans s2).seq h, (s1.trans s2).seq h2, ?_⟩
    rw [zipD_len, ← r.length, ← r2.length]
    omega
  · obtain ⟨T, u, v, rfl, hT, rfl, e1, e2⟩ := y
    obtain ⟨d, q1, q2⟩ := r.get (e1 xs ((s1.trans s2).seq h))
    obtain ⟨d', q3, q4⟩ := r2.get (e2 ys ((s1.trans s2).seq h2))
    obtain ⟨F', g, q⟩ := pair_new (K := K) s2 hT (q2.mono s1) (q4.mono s1)
    exact ⟨F', _, zipD_at q1 q3, g, q⟩
theorem wd_zipT (h : SqT K F a xs) (r : DvAll K F xs ds) (h2 : SqT K F b ys) (r2 : DvAll K F ys es) : WalkD K (ItzT K a b) (zipD ds es) F := by
  refine ⟨fun i F1 H s1 s2 hi => ?_, fun F1 H s1 s2 => ?_, fun i F1 H x H' s1 s2 hi y => ?_⟩
  · rw [zipD_len, ← r.length, ← r2.length] at hi
    have i1 : i < xs.length := by omega
    have i2 : i < ys.length := by omega
    exact ⟨xs, ys, xs[i], ys[i], Same.tup (s1.trans s2) h, Same.tup (s1.trans s2) h2, List.getElem?_eq_getElem i1, List.getElem?_eq_getElem i2⟩
  · refine ⟨xs, ys, Same.tup (s1.trans s2) h, Same.tup (s1.trans s2) h2, ?_⟩
    rw [zipD_len, ← r.length, ← r2.length]
    omega
  · obtain ⟨T, u, v, rfl, hT, rfl, e1, e2⟩ := y
    obtain ⟨d, q1, q2⟩ := r.get (e1 xs (Same.tup (s1.trans s2) h))
    obtain ⟨d', q3, q4⟩ := r2.get (e2 ys (Same.tup (s1.trans s2) h2))
    obtain ⟨F', g, q⟩ := pair_new (K := K) s2 hT (q2.mono s1) (q4.mono s1)
    exact ⟨F', _, zipD_at q1 q3, g, q⟩
end
section
variable {X : Cx} {G : Gm} {tg a b e : Expr} {es : List Expr} {ma mb : Env → R D} {pos p : Pos} {mr : Env → R (List D)}
/-- a list, a tuple, a text as what is walked: which of them, one must say -/
def seqOf : D → R (List D)
  | .lst ds => .ok ds
  | .rol ds => .ok ds
  | _ => .bad
def mSeq (f : D → R (List D)) (m : Env → R D) : Env → R (List D) := fun ρ => (m ρ).bind f
theorem mi_list (h : ME X G e ma) (hK : X.K = G.K := by rfl) : MI X G tg e (mSeq seqOf ma) := weakI (pi_list h) fun σ H Q ⟨ρ, F, S, P⟩ => by
  refine ⟨ρ, F, S, (PostI.bind (rel := DvR G) P).imp fun d x F1 H1 e1 g1 q1 ⟨F1', d', e1', g1', q1', P1⟩ => ?_⟩
  rw [hK]
  cases q1' with
  | lst z r => exact ⟨_, rfl, ⟨_, SqL.of (g1'.s _ _ z)⟩, P1 _ _ _ (Grow.refl g1'.s) (wd_list (SqL.of z) r)⟩
  | rol z r => exact ⟨_, rfl, ⟨_, g1'.s.seq z⟩, P1 _ _ _ (Grow.refl g1'.s) (wd_list z r)⟩
  | _ => exact P1.elim
def tupOf : D → R (List D)
  | .tup ds => .ok ds
  | _ => .bad
theorem mi_tup (h : ME X G e ma) (hK : X.K = G.K := by rfl) : MI X G tg e (mSeq tupOf ma) := weakI (pi_tup h) fun σ H Q ⟨ρ, F, S, P⟩ => by
  refine ⟨ρ, F, S, (PostI.bind (rel := DvR G) P).imp fun d x F1 H1 e1 g1 q1 ⟨F1', d', e1', g1', q1', P1⟩ => ?_⟩
  rw [hK]
  cases q1' with
  | tup z r => exact ⟨_, rfl, ⟨_, Same.tup g1'.s z⟩, P1 _ _ _ (Grow.refl g1'.s) (wd_tup z r)⟩
  | _ => exact P1.elim
def strOf : D → R (List D)
  | .str z => .ok (signsD z)
  | _ => .bad
theorem mi_str (h : ME X G e ma) : MI X G tg e (mSeq strOf ma) := weakI (pi_str h) fun σ H Q ⟨ρ, F, S, P⟩ => by
  refine ⟨ρ, F, S, (PostI.bind (rel := DvR G) P).imp fun d x F1 H1 e1 g1 q1 ⟨F1', d', e1', g1', q1', P1⟩ => ?_⟩
  cases q1' with
  | str z => exact ⟨_, rfl, P1 _ _ _ (Grow.refl g1'.s) wd_str⟩
  | _ => exact P1.elim
def rng1 : List D → R (List D)
  | [.int n] => if -(2 ^ 62) ≤ n ∧ n < 2 ^ 62 then .ok (rangeD 0 n.toNat) else .bad
  | _ => .bad
def rng2 : List D → R (List D)
  | [.int i, .int j] => if -(2 ^ 62) ≤ i ∧ i < 2 ^ 62 ∧ -(2 ^ 62) ≤ j ∧ j < 2 ^ 62 then .ok (rangeD i (j - i).toNat) else .bad
  | _ => .bad
def mSeqs (f : List D → R (List D)) (m : Env → R (List D)) : Env → R (List D) := fun ρ => (m ρ).bind f
theorem mi_range1 (ha : MA X G [a] mr) (hx : X.mg "range" = none) (hg : Gl X "range" := by rfl) (hs : starEach [a] X.env = [(false, eval a X.env)] := by rfl) : MI X G tg (.Call (.Name "range" p) [a] [] pos) (mSeqs rng1 mr) := weakI (pi_range1 hg hx ha hs) fun σ H Q ⟨ρ, F, S, P⟩ => by
  refine ⟨ρ, F, S, (PostI.bind (rel := DvsR G) P).imp fun d x F1 H1 e1 g1 q1 ⟨F1', d', e1', g1', q1', P1⟩ => ?_⟩
  unfold rng1 at P1
  split at P1
  · obtain ⟨v, rfl, q⟩ := one_of q1'
    cases q
    split at P1
    · rename_i c
      exact ⟨_, rfl, c.1, c.2, P1 _ _ _ (Grow.refl g1'.s) wd_range⟩
    · exact P1.elim
  · exact P1.elim
theorem mi_range2 (ha : MA X G [a, b] mr) (hx : X.mg "range" = none) (hg : Gl X "range" := by rfl) (hs : starEach [a, b] X.env = [(false, eval a X.env), (false, eval b X.env)] := by rfl) (hs2 : starEach [b] X.env = [(false, eval b X.env)] := by rfl) :
    MI X G tg (.Call (.Name "range" p) [a, b] [] pos) (mSeqs rng2 mr) := weakI (pi_range2 hg hx ha hs hs2) fun σ H Q ⟨ρ, F, S, P⟩ => by
  refine ⟨ρ, F, S, (PostI.bind (rel := DvsR G) P).imp fun d x F1 H1 e1 g1 q1 ⟨F1', d', e1', g1', q1', P1⟩ => ?_⟩
  unfold rng2 at P1
  split at P1
  · cases q1' with
    | cons h r =>
      obtain ⟨v, rfl, q⟩ := one_of r
      cases q
      cases h
      split at P1
      · rename_i c
        exact ⟨_, _, rfl, ⟨c.1, c.2.1, c.2.2.1, c.2.2.2⟩, P1 _ _ _ (Grow.refl g1'.s) wd_range⟩
      · exact P1.elim
  · exact P1.elim
variable {elts : List Expr} {kk : Nat} {tpos : Pos}
def enF : List D → R (List D)
  | [.str z] => .ok (enumD (signsD z))
  | [.tup ds] => .ok (enumD ds)
  | [.lst ds] => .ok (enumD ds)
  | [.rol ds] => .ok (enumD ds)
  | _ => .bad
theorem mi_enum (ha : MA X G [e] mr) (hx : X.mg "enumerate" = none) (hK : X.K = G.K := by rfl) (hg : Gl X "enumerate" := by rfl) (hs : starEach [e] X.env = [(false, eval e X.env)] := by rfl) :
    MI X G (.Tuple elts kk tpos) (.Call (.Name "enumerate" p) [e] [] pos) (mSeqs enF mr) := weakI (pi_enumA hg hx ha hs) fun σ H Q ⟨ρ, F, S, P⟩ => by
  refine ⟨ρ, F, S, (PostI.bind (rel := DvsR G) P).imp fun d x F1 H1 e1 g1 q1 ⟨F1', d', e1', g1', q1', P1⟩ => ?_⟩
  rw [hK]
  unfold enF at P1
  split at P1
  · obtain ⟨v, rfl, q⟩ := one_of q1'
    cases q
    exact .inl ⟨_, rfl, P1 _ _ _ (Grow.refl g1'.s) wd_enumS⟩
  · obtain ⟨v, rfl, q⟩ := one_of q1'
    cases q with
    | tup z r => exact .inr (.inl ⟨_, _, rfl, Same.tup g1'.s z, P1 _ _ _ (Grow.refl g1'.s) (wd_enumT z r)⟩)
  · obtain ⟨v, rfl, q⟩ := one_of q1'
    cases q with
    | lst z r => exact .inr (.inr ⟨_, _, rfl, SqL.of (g1'.s _ _ z), P1 _ _ _ (Grow.refl g1'.s) (wd_enumL (SqL.of z) r)⟩)
  · obtain ⟨v, rfl, q⟩ := one_of q1'
    cases q with
    | rol z r => exact .inr (.inr ⟨_, _, rfl, g1'.s.seq z, P1 _ _ _ (Grow.refl g1'.s) (wd_enumL z r)⟩)
  · exact P1.elim
def zipF : List D → R (List D)
  | [.lst ds, .lst es] => .ok (zipD ds es)
  | [.tup ds, .tup es] => .ok (zipD ds es)
  | _ => .bad
theorem mi_zip (ha : MA X G [a, b] mr) (hx : X.mg "zip" = none) (hK : X.K = G.K := by rfl) (hg : Gl X "zip" := by rfl) (hs : starEach [a, b] X.env = (false, eval a X.env) :: starEach [b] X.env := by rfl) (hpl : (backTo pos (starEach [b] X.env)).any (·.1) = false := by rfl) :
    MI X G (.Tuple elts kk tpos) (.Call (.Name "zip" p) [a, b] [] pos) (mSeqs zipF mr) := weakI (pi_zipA hg hx ha hs hpl) fun σ H Q ⟨ρ, F, S, P⟩ => by
  refine ⟨ρ, F, S, (PostI.bind (rel := DvsR G) P).imp fun d x F1 H1 e1 g1 q1 ⟨F1', d', e1', g1', q1', P1⟩ => ?_⟩
  rw [hK]
  unfold zipF at P1
  split at P1
  · cases q1' with
    | cons h r =>
      obtain ⟨v, rfl, q⟩ := one_of r
      cases q with
      | lst z2 r2 =>
        cases h with
        | lst z r => exact ⟨_, _, _, _, rfl, .inl ⟨SqL.of (g1'.s _ _ z), SqL.of (g1'.s _ _ z2), P1 _ _ _ (Grow.refl g1'.s) (wd_zipL (SqL.of z) r (SqL.of z2) r2)⟩⟩
  · cases q1' with
    | cons h r =>
      obtain ⟨v, rfl, q⟩ := one_of r
      cases q with
      | tup z2 r2 =>
        cases h with
        | tup z r => exact ⟨_, _, _, _, rfl, .inr ⟨Same.tup g1'.s z, Same.tup g1'.s z2, P1 _ _ _ (Grow.refl g1'.s) (wd_zipT z r z2 r2)⟩⟩
  · exact P1.elim
end
end Mir
namespace Mir
open PySem PySem.Spec PyProof.Rows L2

/-! ### targets -/
/-- what is the def's own ahead and behind is the same -/
def Own (ρ ρ' : Env) (σ σ' : L2.St) : Prop := ∀ (i : Nat) (s : Slot), ρ'[i]? = some s → s.own = true → ρ[i]? = some s ∧ σ'[i]? = σ[i]?
theorem Own.refl (ρ : Env) (σ : L2.St) : Own ρ ρ σ σ := fun _ _ h _ => ⟨h, rfl⟩
theorem Own.trans {ρ ρ1 ρ2 : Env} {σ σ1 σ2 : L2.St} (a : Own ρ ρ1 σ σ1) (b : Own ρ1 ρ2 σ1 σ2) : Own ρ ρ2 σ σ2 := fun i s h o => by
  obtain ⟨h1, e1⟩ := b i s h o
  obtain ⟨h2, e2⟩ := a i s h1 o
  exact ⟨h2, e1.trans e2⟩
theorem Own.setFz (ρ : Env) (σ : L2.St) (i : Nat) (d : D) (x : Option V) : Own ρ (ρ.set i (.fz d)) σ (σ.set i x) := fun j s h o => by
  rcases get_set h with ⟨_, rfl⟩ | ⟨n, e⟩
  · cases o
  · exact ⟨e, List.getElem?_set_ne (Ne.symm n)⟩
/-- a target's mirror: data and slots to slots -/
abbrev TgF := D → Env → R Env
def TgOk (K : PySem.W.Frag) (vs : List Nat) (g : TG) (mt : TgF) : Prop := ∀ (ρ ρ' : Env) (σ : L2.St) (F H : Hp) (v : V) (d : D) (Q : L2.St → Hp → Prop), Sl K ρ σ F H → Dv K F v d → mt d ρ = .ok ρ' →
  (∀ σ', Sl K ρ' σ' F H → σ'.length = σ.length → Own ρ ρ' σ σ' → (∀ j, j ∉ vs → σ'[j]? = σ[j]?) → Q σ' H) → g v σ H Q
abbrev TgsF := List D → Env → R Env
def TgsOk (K : PySem.W.Frag) (vs : List Nat) (g : TGs) (mt : TgsF) : Prop := ∀ (ρ ρ' : Env) (σ : L2.St) (F H : Hp) (xs : List V) (ds : List D) (Q : L2.St → Hp → Prop), Sl K ρ σ F H → DvAll K F xs ds → mt ds ρ = .ok ρ' →
  (∀ σ', Sl K ρ' σ' F H → σ'.length = σ.length → Own ρ ρ' σ σ' → (∀ j, j ∉ vs → σ'[j]? = σ[j]?) → Q σ' H) → g xs σ H Q
def tgName (i : Nat) : TgF := fun d ρ => .ok (ρ.set i (.fz d))
def tgTup (n : Nat) (m : TgsF) : TgF := fun d ρ => match d with
  | .tup ds => if ds.length = n then m ds ρ else .bad
  | _ => .bad
def tgNil : TgsF := fun ds ρ => match ds with
  | [] => .ok ρ
  | _ => .bad
def tgCons (m : TgF) (r : TgsF) : TgsF := fun ds ρ => match ds with
  | [] => .bad
  | d :: ds => (m d ρ).bind fun ρ1 => r ds ρ1
section
variable {K : PySem.W.Frag} {vs : List Nat}
theorem tg_name {i : Nat} (h : i ∈ vs) : TgOk K vs (gName i) (tgName i) := fun ρ ρ' σ F H v d Q S r e q => by
  cases e
  refine q _ (S.setFz r i) (List.length_set ..) (Own.setFz ρ σ i d _) fun j hj => ?_
  rw [List.getElem?_set_ne (fun z => hj (by rw [← z]; exact h))]
theorem tg_tup {n : Nat} {t : TGs} {m : TgsF} (h : TgsOk K vs t m) : TgOk K vs (gTup K n t) (tgTup n m) := fun ρ ρ' σ F H v d Q S r e q => by
  unfold tgTup at e
  split at e
  · cases r with
    | tup z r =>
      split at e
      · rename_i hl
        exact ⟨_, _, rfl, Same.tup S.sub z, by rw [r.length]; exact hl, h _ _ _ _ _ _ _ _ S r e q⟩
      · cases e
  · cases e
theorem tg_nil : TgsOk K vs gNil tgNil := fun ρ ρ' σ F H v d Q S r e q => by
  unfold tgNil at e
  split at e
  · cases r
    cases e
    exact ⟨rfl, q _ S rfl (Own.refl _ _) fun _ _ => rfl⟩
  · cases e
theorem tg_cons {t : TG} {u : TGs} {m : TgF} {r : TgsF} (h1 : TgOk K vs t m) (h2 : TgsOk K vs u r) : TgsOk K vs (gCons t u) (tgCons m r) := fun ρ ρ' σ F H v d Q S rr e q => by
  unfold tgCons at e
  split at e
  · cases e
  · rename_i d ds
    cases rr with
    | cons z rr =>
      cases e1 : m d ρ with
      | ok ρ1 =>
        rw [e1] at e
        refine ⟨_, _, rfl, h1 _ _ _ _ _ _ _ _ S z e1 fun σ1 S1 l1 o1 a1 => h2 _ _ _ _ _ _ _ _ S1 rr e fun σ2 S2 l2 o2 a2 => q σ2 S2 (l2.trans l1) (o1.trans o2) fun j hj => (a2 j hj).trans (a1 j hj)⟩
      | exc c => rw [e1] at e; cases e
      | bad => rw [e1] at e; cases e
end

/-! ### comprehensions -/
def wipeE (ρ : Env) : List Nat → Env
  | [] => ρ
  | v :: vs => (wipeE ρ vs).set v .un
theorem Sl.wipe {K : PySem.W.Frag} {ρ : Env} {σ : L2.St} {F H : Hp} (S : Sl K ρ σ F H) : ∀ vs : List Nat, Sl K (wipeE ρ vs) (L2.wipe σ vs) F H
  | [] => S
  | v :: vs => (Sl.wipe S vs).setUn none v
theorem wipe_get {σ : L2.St} : ∀ {vs : List Nat} (j : Nat), (L2.wipe σ vs)[j]? = if j ∈ vs then (if j < σ.length then some none else none) else σ[j]?
  | [], j => by simp [L2.wipe]
  | v :: vs, j => by
    unfold L2.wipe
    by_cases hj : j = v
    · subst hj
      rw [if_pos List.mem_cons_self]
      by_cases hl : j < σ.length
      · rw [if_pos hl, List.getElem?_set_self (by rw [wipe_length]; exact hl)]
      · rw [if_neg hl, List.getElem?_eq_none (by rw [List.length_set, wipe_length]; omega)]
    · rw [List.getElem?_set_ne (Ne.symm hj), wipe_get j]
      by_cases hm : j ∈ vs
      · rw [if_pos hm, if_pos (List.mem_cons_of_mem _ hm)]
      · rw [if_neg hm, if_neg (fun z => (List.mem_cons.mp z).elim hj hm)]
theorem wipe_eq {σ σ2 : L2.St} {vs : List Nat} (hl : σ2.length = σ.length) (h : ∀ j, j ∉ vs → σ2[j]? = (L2.wipe σ vs)[j]?) : L2.wipe σ2 vs = L2.wipe σ vs := by
  refine List.ext_getElem? fun j => ?_
  rw [wipe_get, wipe_get]
  by_cases hm : j ∈ vs
  · rw [if_pos hm, if_pos hm, hl]
  · rw [if_neg hm, if_neg hm, h j hm, wipe_get, if_neg hm]
/-- what raises nothing -/
def nx {α : Type} : R α → R α
  | .ok a => .ok a
  | _ => .bad
def lcGo (mt : TgF) (tt : Env → R Bool) (me : Env → R D) (ρ : Env) : List D → R (List D)
  | [] => .ok []
  | d :: ds => (nx (mt d ρ)).bind fun ρ1 => (nx (tt ρ1)).bind fun b => if b = true then (nx (me ρ1)).bind fun y => (lcGo mt tt me ρ ds).bind fun ys => .ok (y :: ys) else lcGo mt tt me ρ ds
def mLc (vs : List Nat) (mi : Env → R (List D)) (mt : TgF) (tt : Env → R Bool) (me : Env → R D) : Env → R (List D) := fun ρ => (mi ρ).bind fun ds => if ds.length ≤ 1000000 then nx (lcGo mt tt me (wipeE ρ vs) ds) else .bad
abbrev Gm.e0 (G : Gm) : Gm := { G with E := E0 }
theorem nx_ok {α : Type} {r : R α} {a : α} (h : nx r = .ok a) : r = .ok a := by
  cases r with
  | ok b => exact h
  | exc c => cases h
  | bad => cases h
theorem bind_ok {α β : Type} {r : R α} {f : α → R β} {b : β} (h : r.bind f = .ok b) : ∃ a, r = .ok a ∧ f a = .ok b := by
  cases r with
  | ok a => exact ⟨a, rfl, h⟩
  | exc c => cases h
  | bad => cases h
section
variable {X : Cx} {G : Gm} {mi : Env → R (List D)} {mt : TgF} {tt : Env → R Bool} {me : Env → R D} {wi : TI} {g : TG} {vs : List Nat}
/-- a comprehension's reading by its mirror -/
theorem lc_read (hg : TgOk G.K vs g mt) : ∀ σ H Q, tfOf G (mLc vs mi mt tt me) σ H Q → tLc (tiOf G mi) g (ttOf G.e0 tt) (tOf G.e0 me) vs σ H Q := by
  intro σ H Q ⟨ρ, F, S, P⟩
  refine ⟨ρ, F, S, ?_⟩
  unfold mLc at P
  cases e : mi ρ with
  | exc c => rw [e] at P; exact P
  | bad => rw [e] at P; exact P.elim
  | ok ds =>
    rw [e] at P
    have P : PostF G F H (if ds.length ≤ 1000000 then nx (lcGo mt tt me (wipeE ρ vs) ds) else .bad) Q := P
    intro J F1 H1 g1 W Dl hD
    have hl : ds.length ≤ 1000000 := Decidable.byContradiction fun z => by rw [if_neg z] at P; exact P.elim
    rw [if_pos hl] at P
    cases e2 : nx (lcGo mt tt me (wipeE ρ vs) ds) with
    | exc c => cases z : lcGo mt tt me (wipeE ρ vs) ds <;> (rw [z] at e2; cases e2)
    | bad => rw [e2] at P; exact P.elim
    | ok ys =>
      rw [e2] at P
      have e3 := nx_ok e2
      have fD : F1 Dl = none := g1.s.free hD
      refine ⟨fun i m Hc => m = ds.length - i ∧ i ≤ ds.length ∧ ∃ Fc acc dacc rest, Grow F1 H1 Fc Hc ∧ Fc Dl = none ∧ Hc Dl = some (.lst acc) ∧ DvAll G.K Fc acc dacc ∧ acc.length ≤ i ∧ lcGo mt tt me (wipeE ρ vs) (ds.drop i) = .ok rest ∧ dacc ++ rest = ys,
        ⟨ds.length, by rw [Nat.sub_zero], Nat.zero_le _, F1, [], [], ys, Grow.own g1.s hD, fD, upd_same, .nil, Nat.le_refl _, e3, rfl⟩, ?_⟩
      rintro i m Hc ⟨rfl, hi, Fc, acc, dacc, rest, gc, fc, hc, rc, lc, ec, er⟩
      by_cases hlt : i < ds.length
      · refine .inr ⟨W.go i Fc Hc gc.f gc.s hlt, fun H' => ∃ Fc acc dacc rest, Grow F1 H1 Fc H' ∧ Fc Dl = none ∧ H' Dl = some (.lst acc) ∧ DvAll G.K Fc acc dacc ∧ acc.length ≤ i + 1 ∧ lcGo mt tt me (wipeE ρ vs) (ds.drop (i + 1)) = .ok rest ∧ dacc ++ rest = ys,
          fun H' ⟨Fc, acc, dacc, rest, q⟩ => ⟨ds.length - (i + 1), by omega, rfl, hlt, Fc, acc, dacc, rest, q⟩, fun x H' y => ?_⟩
        obtain ⟨Fy, d, ed, gy, rd⟩ := W.yld i Fc Hc x H' gc.f gc.s hlt y
        have edrop : ds.drop i = d :: ds.drop (i + 1) := by
          rw [List.drop_eq_getElem_cons hlt]
          rw [List.getElem?_eq_getElem hlt] at ed
          rw [Option.some.inj ed]
        rw [edrop] at ec
        obtain ⟨ρ1, n1, ec⟩ := bind_ok (show (nx (mt d (wipeE ρ vs))).bind _ = _ from ec)
        obtain ⟨b, n2, ec⟩ := bind_ok ec
        have Sw := (((S.grow g1).grow ⟨gc.h, gc.f, gc.s, gc.o⟩).grow gy).wipe vs
        refine hg _ ρ1 _ Fy H' x d _ Sw rd (nx_ok n1) fun σ2 S2 len2 _ agree => ?_
        refine ⟨wipe_eq (len2.trans (wipe_length _ _)) agree, ρ1, Fy, S2, ?_⟩
        rw [nx_ok n2]
        intro b' F3 H3 g3 eb
        have eb : b' = b := eb
        subst eb
        have gy3 := gy.trans g3
        have h3 : H3 Dl = some (.lst acc) := gy3.h _ _ hc
        have f3 : F3 Dl = none := (gy3.o _ _ hc).trans fc
        cases b' with
        | false =>
          rw [if_neg Bool.false_ne_true] at ec ⊢
          exact ⟨F3, acc, dacc, rest, gc.trans gy3, f3, h3, rc.mono gy3.f, by omega, ec, er⟩
        | true =>
          rw [if_pos rfl] at ec ⊢
          obtain ⟨yd, n3, ec⟩ := bind_ok ec
          obtain ⟨ys2, n4, ec⟩ := bind_ok ec
          cases ec
          refine ⟨ρ1, F3, S2.grow g3, ?_⟩
          rw [nx_ok n3]
          intro yv F4 H4 g4 ry
          have g34 := gy3.trans g4
          have h4 : H4 Dl = some (.lst acc) := g34.h _ _ hc
          have f4 : F4 Dl = none := (g34.o _ _ hc).trans fc
          refine ⟨acc, h4, ?_, F4, acc ++ [yv], dacc ++ [yd], ys2, ?_, f4, upd_same, (rc.mono g34.f).append (.cons ry .nil), ?_, n4, ?_⟩
          · rw [sizeLine_eq]; omega
          · have gt := gc.trans g34
            exact ⟨fun b u q => by rw [upd_ne (ne_of_none q hD)]; exact gt.h b u q, gt.f, gt.s.upd_out f4, gt.o⟩
          · rw [List.length_append, List.length_singleton]; omega
          · rw [List.append_assoc]; exact er
      · have ei : i = ds.length := by omega
        subst ei
        refine .inl ⟨W.stop Fc Hc gc.f gc.s, ?_⟩
        rw [List.drop_length] at ec
        cases ec
        rw [List.append_nil] at er
        subst er
        exact P Dl acc Fc Hc (g1.trans gc) (g1.h.free hD) fc hc rc
variable {elt tg iter : Expr} {ifs : List Expr} {scope : Scope} {own : List (Str × Nat)} {pos : Pos}
theorem mf_lc (hN : X.N.Nodup) (hi : MI X G tg iter mi) (ok : BlkOk X.N X.env.scope scope own)
    (hp : ∀ (s : Shared) (H : Hp) (C : Addr) (cl : List (Str × Addr)) (fp : List Addr), PG (X.blk s H scope (compEnvC scope cl C X.env) fp) tg g) (hg : TgOk G.K (own.map (·.2)) g mt)
    (ht : ∀ (s : Shared) (H : Hp) (C : Addr) (cl : List (Str × Addr)) (fp : List Addr), PTs (X.blk s H scope (compEnvC scope cl C X.env) fp) ifs (ttOf G.e0 tt))
    (he : ∀ (s : Shared) (H : Hp) (C : Addr) (cl : List (Str × Addr)) (fp : List Addr), ME (X.blk s H scope (compEnvC scope cl C X.env) fp) G.e0 elt me) (hc : X.calm = true := by rfl) (hs : ∀ x, foldedSetIterable iter X.env x = pure x := by intro _; rfl) :
    MF X G (.ListComp elt [⟨tg, iter, ifs, 0⟩] scope pos) (mLc (own.map (·.2)) mi mt tt me) :=
  weakE (pe_lc hc hN hi ok hp ht he hs) (lc_read hg)
def mYes : Env → R Bool := fun _ => .ok true
theorem mts_nil : PTs X [] (ttOf G mYes) := ⟨fun pins s σ H Q I ⟨ρ, F, S, P⟩ => pts_nil.run pins s σ H Q I (PostR.go (G := G) (rel := EqR) P S.sub rfl)⟩
theorem mts_one {c : Expr} (h : MT X G c tt) : PTs X [c] (ttOf G tt) := pts_one h
end
end Mir
namespace Mir
open PySem PySem.Spec PyProof.Rows L2

/-! ### statements -/
structure SRel (K : PySem.W.Frag) (F0 H0 : Hp) (ρ : Env) (σ : L2.St) (F H : Hp) : Prop where
  sl : Sl K ρ σ F H
  gr : Grow F0 H0 F H
  nw : ∀ (i : Nat) (s : Slot) (a : Addr), ρ[i]? = some s → s.own = true → σ[i]? = some (some (.ref a)) → H0 a = none
inductive RS where
  | nx (ρ : Env) | ret (d : D) | brk (ρ : Env) | ct (ρ : Env) | exc (c : Str) | bad
def R.to {α : Type} (r : R α) (f : α → RS) : RS := match r with
  | .ok a => f a
  | .exc c => .exc c
  | .bad => .bad
def PostS (G : Gm) (F0 H0 F : Hp) (D : Ends) : RS → Prop
  | .nx ρ => ∀ σ' F' H', SRel G.K F0 H0 ρ σ' F' H' → Same F F' → D.nx σ' H'
  | .brk ρ => ∀ σ' F' H', SRel G.K F0 H0 ρ σ' F' H' → Same F F' → D.bk σ' H'
  | .ct ρ => ∀ σ' F' H', SRel G.K F0 H0 ρ σ' F' H' → Same F F' → D.ct σ' H'
  | .ret d => ∀ v F' H', Grow F0 H0 F' H' → Dv G.K F' v d → D.rt v H'
  | .exc c => ∀ C F' H', G.mg c = some (.ref C) → Grow F0 H0 F' H' → G.E (.ref C) none H'
  | .bad => False
def tsOf (G : Gm) (m : Env → RS) : TS := fun D σ H => ∃ ρ F F0 H0, SRel G.K F0 H0 ρ σ F H ∧ PostS G F0 H0 F D (m ρ)
abbrev MS (X : Cx) (G : Gm) (s : Stmt) (m : Env → RS) : Prop := PS X s (tsOf G m)
abbrev MSs (X : Cx) (G : Gm) (s : List Stmt) (m : Env → RS) : Prop := PSs X s (tsOf G m)
theorem weakS {X : Cx} {s : Stmt} {t t' : TS} (h : PS X s t) (k : ∀ D σ H, t' D σ H → t D σ H) : PS X s t' := ⟨fun pins s σ H D I q => h.run pins s σ H D I (k D σ H q)⟩
theorem weakSs {X : Cx} {s : List Stmt} {t t' : TS} (h : PSs X s t) (k : ∀ D σ H, t' D σ H → t D σ H) : PSs X s t' := ⟨fun pins s σ H D I q => h.run pins s σ H D I (k D σ H q)⟩
section
variable {G : Gm} {F0 H0 F H F' H' : Hp} {ρ ρ' : Env} {σ σ' : L2.St}
theorem SRel.grow (S : SRel G.K F0 H0 ρ σ F H) (g : Grow F H F' H') : SRel G.K F0 H0 ρ σ F' H' := ⟨S.sl.grow g, S.gr.trans g, S.nw⟩
theorem SRel.own (S : SRel G.K F0 H0 ρ σ F H) (S2 : Sl G.K ρ' σ' F H) (o : Own ρ ρ' σ σ') : SRel G.K F0 H0 ρ' σ' F H := ⟨S2, S.gr, fun i s a h1 h2 h3 => by
  obtain ⟨e1, e2⟩ := o i s h1 h2
  exact S.nw i s a e1 h2 (e2.symm.trans h3)⟩
theorem SRel.setFz (S : SRel G.K F0 H0 ρ σ F H) {v : V} {d : D} (h : Dv G.K F v d) (i : Nat) : SRel G.K F0 H0 (ρ.set i (.fz d)) (σ.set i (some v)) F H := S.own (S.sl.setFz h i) (Own.setFz ρ σ i d _)
theorem PostS.same {D : Ends} {r : RS} (h : PostS G F0 H0 F D r) (e : Same F F') : PostS G F0 H0 F' D r := by
  cases r with
  | nx ρ => exact fun σ' F2 H2 S q => h σ' F2 H2 S (e.trans q)
  | brk ρ => exact fun σ' F2 H2 S q => h σ' F2 H2 S (e.trans q)
  | ct ρ => exact fun σ' F2 H2 S q => h σ' F2 H2 S (e.trans q)
  | ret d => exact h
  | exc c => exact h
  | bad => exact h
/-- an expression's end, then the rest -/
theorem PostS.to {α β : Type} {rel : Hp → β → α → Prop} {r : R α} {f : α → RS} {D : Ends} (S : SRel G.K F0 H0 ρ σ F H) (h : PostS G F0 H0 F D (r.to f)) : PostR G rel F H r (fun b H1 => ∃ F1 a, r = .ok a ∧ Grow F H F1 H1 ∧ rel F1 b a ∧ PostS G F0 H0 F1 D (f a)) := by
  cases r with
  | ok a => exact fun b F' H' g q => ⟨F', a, rfl, g, q, PostS.same (show PostS G F0 H0 F D (f a) from h) g.f⟩
  | exc c => exact fun C F' H' m g => h C F' H' m (S.gr.trans g)
  | bad => exact h
theorem PostS.toF {r : R (List D)} {f : List D → RS} {D : Ends} (S : SRel G.K F0 H0 ρ σ F H) (h : PostS G F0 H0 F D (r.to f)) {Q : VK} (k : ∀ ds p xs F' H', Grow F H F' H' → H p = none → F' p = none → H' p = some (.lst xs) → DvAll G.K F' xs ds → PostS G F0 H0 F' D (f ds) → Q (.ref p) H') : PostF G F H r Q := by
  cases r with
  | ok a => exact fun p xs F' H' g n f o q => k a p xs F' H' g n f o q (PostS.same (show PostS G F0 H0 F D _ from h) g.f)
  | exc c => exact fun C F' H' m g => h C F' H' m (S.gr.trans g)
  | bad => exact h
end
/-! mirrors of statements -/
def sSkip : Env → RS := fun ρ => .nx ρ
def sSeq (a b : Env → RS) : Env → RS := fun ρ => match a ρ with
  | .nx ρ1 => b ρ1
  | r => r
def sSet (i : Nat) (m : Env → R D) : Env → RS := fun ρ => (m ρ).to fun d => .nx (ρ.set i (.fz d))
def sSetO (i : Nat) (m : Env → R (List D)) : Env → RS := fun ρ => (m ρ).to fun ds => .nx (ρ.set i (.ol ds))
def sRet (m : Env → R D) : Env → RS := fun ρ => (m ρ).to .ret
def sDrop (m : Env → R D) : Env → RS := fun ρ => (m ρ).to fun _ => .nx ρ
def sIf (c : Env → R Bool) (a b : Env → RS) : Env → RS := fun ρ => (c ρ).to fun k => if k = true then a ρ else b ρ
def sUnp (mt : TgF) (m : Env → R D) : Env → RS := fun ρ => (m ρ).to fun d => (nx (mt d ρ)).to .nx
def sPar (i j : Nat) (m : Env → R (List D)) : Env → RS := fun ρ => (m ρ).to fun ds => match ds with
  | [d, e] => .nx ((ρ.set i (.fz d)).set j (.fz e))
  | _ => .bad
def sApp (i : Nat) (m : Env → R D) : Env → RS := fun ρ => match ρ[i]? with
  | some (.ol ds) => (m ρ).to fun d => if ds.length < 16000000 then .nx (ρ.set i (.ol (ds ++ [d]))) else .bad
  | _ => .bad
def sSetI (i : Nat) (m k : Env → R D) : Env → RS := fun ρ => match ρ[i]? with
  | some (.ol ds) => (m ρ).to fun d => (k ρ).to fun x => match x with
    | .int z => match ixN ds.length z with
      | some j => .nx (ρ.set i (.ol (ds.set j d)))
      | none => .bad
    | _ => .bad
  | _ => .bad
section
variable {X : Cx} {G : Gm} {a b e c : Expr} {es : List Expr} {ma mb : Env → R D} {ms mu : Env → RS} {pos : Pos} {st : Stmt} {sts : List Stmt}
theorem ss_nil : MSs X G [] sSkip := weakSs pss_nil fun D σ H ⟨ρ, F, F0, H0, S, P⟩ => P σ F H S (Same.refl F)
theorem ss_cons (h1 : MS X G st ms) (h2 : MSs X G sts mu) : MSs X G (st :: sts) (sSeq ms mu) := weakSs (pss_cons h1 h2) fun D σ H ⟨ρ, F, F0, H0, S, P⟩ => by
  refine ⟨ρ, F, F0, H0, S, ?_⟩
  unfold sSeq at P
  cases e : ms ρ with
  | nx ρ1 =>
    rw [e] at P
    exact fun σ' F' H' S' q => ⟨ρ1, F', F0, H0, S', P.same q⟩
  | brk ρ1 => rw [e] at P; exact P
  | ct ρ1 => rw [e] at P; exact P
  | ret d => rw [e] at P; exact P
  | exc c => rw [e] at P; exact P
  | bad => rw [e] at P; exact P
theorem ss_one (h1 : MS X G st ms) : MSs X G [st] ms := pss_one h1
theorem ms_set {i : Nat} {x : Str} {pos' : Pos} (hN : X.N.Nodup) (he : ME X G e ma) (hi : X.N[i]? = some x := by rfl) (hx : Loc X.env.scope x := by first | exact Or.inl rfl | exact Or.inr rfl) (hs : swapsWith e (some (.Name x pos')) pos.line X.env = pure false := by rfl) (hf : X.fn x = true ∨ X.env.scope.names.lookup x = some .local := by first | exact .inl rfl | exact .inr rfl | assumption) :
    MS X G (.Assign [.Name x pos'] e pos) (sSet i ma) := weakS (ps_set hN hi hx he hs hf) fun D σ H ⟨ρ, F, F0, H0, S, P⟩ =>
  ⟨ρ, F, S.sl, (P.to (rel := DvR G) S).imp fun d x F1 H1 e1 g1 q1 ⟨F1', d', e1', g1', q1', P1⟩ => P1 _ F1' H1 ((S.grow g1').setFz q1' i) (Same.refl _)⟩
theorem SRel.newOwn {F0 H0 F H F' H' : Hp} {ρ : Env} {σ : L2.St} {p : Addr} {s : Slot} (S : SRel G.K F0 H0 ρ σ F H) (g : Grow F H F' H') (n : H p = none) (f : F' p = none) (i : Nat) (ho : s.own = true) (hok : SlotOk G.K F' H' (some (.ref p)) s) (o : HO) (hp : H' p = some o) :
    SRel G.K F0 H0 (ρ.set i s) (σ.set i (some (.ref p))) F' H' := by
  have S1 := S.grow g
  have e : upd H' p o = H' := by
    funext b
    by_cases hb : b = p
    · rw [hb, upd_same, hp]
    · rw [upd_ne hb]
  have hne : ∀ (j : Nat) (t : Slot), j ≠ i → ρ[j]? = some t → t.own = true → σ[j]? ≠ some (some (.ref p)) := fun j t _ h1 h2 h3 => by
    have q := S.sl.ok j t _ h1 h3
    cases t with
    | un => cases h2
    | fz d => cases h2
    | rg n => cases h2
    | ol ds =>
      obtain ⟨a, xs, ea, q1, _⟩ := q
      cases ea
      rw [n] at q1; cases q1
    | od es =>
      obtain ⟨a, xs, ea, q1, _⟩ := q
      cases ea
      rw [n] at q1; cases q1
    | oq ds =>
      obtain ⟨a, xs, ea, q1, _⟩ := q
      cases ea
      rw [n] at q1; cases q1
  refine ⟨?_, S1.gr, fun j t a h1 h2 h3 => ?_⟩
  · have q := S1.sl.setOwn (o := o) i f ho (by rw [e]; exact hok) hne
    rw [e] at q
    exact q
  · rcases get_set h1 with ⟨rfl, rfl⟩ | ⟨nj, e1⟩
    · rcases get_set h3 with ⟨_, z⟩ | ⟨z, _⟩
      · cases z
        exact S.gr.h.free n
      · exact absurd rfl z
    · rcases get_set h3 with ⟨z, _⟩ | ⟨_, e3⟩
      · exact absurd z nj
      · exact S.nw j t a e1 h2 e3
theorem ms_setO {i : Nat} {x : Str} {pos' : Pos} {m : Env → R (List D)} (hN : X.N.Nodup) (he : MF X G e m) (hi : X.N[i]? = some x := by rfl) (hx : Loc X.env.scope x := by first | exact Or.inl rfl | exact Or.inr rfl) (hs : swapsWith e (some (.Name x pos')) pos.line X.env = pure false := by rfl) (hf : X.fn x = true ∨ X.env.scope.names.lookup x = some .local := by first | exact .inl rfl | exact .inr rfl | assumption) :
    MS X G (.Assign [.Name x pos'] e pos) (sSetO i m) := weakS (ps_set hN hi hx he hs hf) fun D σ H ⟨ρ, F, F0, H0, S, P⟩ =>
  ⟨ρ, F, S.sl, P.toF S fun ds p xs F' H' g n f o q P1 => P1 _ F' H' (S.newOwn g n f i rfl ⟨p, xs, rfl, o, f, q⟩ _ o) (Same.refl _)⟩
theorem ms_ret (he : ME X G e ma) : MS X G (.Return (some e) pos) (sRet ma) := weakS (ps_ret he) fun D σ H ⟨ρ, F, F0, H0, S, P⟩ =>
  ⟨ρ, F, S.sl, (P.to (rel := DvR G) S).imp fun d x F1 H1 e1 g1 q1 ⟨F1', d', e1', g1', q1', P1⟩ => P1 x F1' H1 (S.gr.trans g1') q1'⟩
theorem ms_retN : MS X G (.Return none pos) (fun _ => .ret .non) := weakS ps_retN fun D σ H ⟨ρ, F, F0, H0, S, P⟩ => P .non F H S.gr .non
/-- the def's own list is handed back -/
def sRetO (i : Nat) : Env → RS := fun ρ => match ρ[i]? with
  | some (.ol ds) => .ret (.lst ds)
  | _ => .bad
theorem ms_retO (i : Nat) {x : Str} {p : Pos} (hN : X.N[i]? = some x := by rfl) (hv : Vis X.env.scope x := by first | exact Or.inl rfl | exact Or.inr (Or.inl rfl) | exact Or.inr (Or.inr rfl)) (hd : (x == ("__debug__" : Str)) = false := by decide)
    (hcd : (x == ("__classdict__" : Str)) = false := by decide) : MS X G (.Return (some (.Name x p)) pos) (sRetO i) := weakS (ps_ret (pe_var hN hv hd hcd)) fun D σ H ⟨ρ, F, F0, H0, S, P⟩ => by
  unfold sRetO at P
  split at P
  · rename_i ds hρ
    obtain ⟨l, xs, e1, e2, e3, e4⟩ := S.sl.getOl hρ
    have hn : H0 l = none := S.nw i _ l hρ rfl e1
    have s2 : Same F (upd F l (.lst xs)) := Same.upd_new e3
    have g : Grow F0 H0 (upd F l (.lst xs)) H := ⟨S.gr.h, S.gr.f.trans s2, fun b u q => by
      by_cases hb : b = l
      · subst hb; rw [upd_same] at q; cases q; exact e2
      · rw [upd_ne hb] at q; exact S.gr.s b u q, fun b u q => by rw [upd_ne (ne_of_none q hn)]; exact S.gr.o b u q⟩
    exact ⟨.ref l, e1, P (.ref l) _ H g (.lst upd_same (e4.mono s2))⟩
  · exact P.elim
theorem ms_expr (he : ME X G e ma) (hs : swapsWith e none pos.line X.env = pure false := by rfl) : MS X G (.Expr e pos) (sDrop ma) := weakS (ps_expr he hs) fun D σ H ⟨ρ, F, F0, H0, S, P⟩ =>
  ⟨ρ, F, S.sl, (P.to (rel := DvR G) S).imp fun d x F1 H1 e1 g1 q1 ⟨F1', d', e1', g1', q1', P1⟩ => P1 σ F1' H1 (S.grow g1') (Same.refl _)⟩
theorem ms_pass : MS X G (.Pass pos) sSkip := weakS ps_pass fun D σ H ⟨ρ, F, F0, H0, S, P⟩ => P σ F H S (Same.refl F)
theorem ms_break : MS X G (.Break pos) (fun ρ => .brk ρ) := weakS ps_break fun D σ H ⟨ρ, F, F0, H0, S, P⟩ => P σ F H S (Same.refl F)
theorem ms_continue : MS X G (.Continue pos) (fun ρ => .ct ρ) := weakS ps_continue fun D σ H ⟨ρ, F, F0, H0, S, P⟩ => P σ F H S (Same.refl F)
theorem ms_if {mc : Env → R Bool} {sa sb : List Stmt} (hc : MT X G c mc) (ha : MSs X G sa ms) (hb : MSs X G sb mu) : MS X G (.If c sa sb pos) (sIf mc ms mu) := weakS (ps_if hc ha hb) fun D σ H ⟨ρ, F, F0, H0, S, P⟩ =>
  ⟨ρ, F, S.sl, (P.to (rel := EqR) S).imp fun d x F1 H1 e1 g1 q1 ⟨F1', d', e1', g1', q1', P1⟩ => by
    have q : x = d' := q1'
    subst q
    cases x with
    | true => rw [if_pos rfl] at P1 ⊢; exact ⟨ρ, F1', F0, H0, S.grow g1', P1⟩
    | false => rw [if_neg Bool.false_ne_true] at P1 ⊢; exact ⟨ρ, F1', F0, H0, S.grow g1', P1⟩⟩
theorem ms_unp {tg : Expr} {g : TG} {mt : TgF} {vs : List Nat} (he : ME X G e ma) (hg : PG X tg g) (ht : TgOk G.K vs g mt) (hs : swapsWithSole [tg] e pos.line X.env = pure false := by rfl) (hw : swappedStores [tg] e X.env = pure none := by rfl) (h1 : (assignEach [tg] X.env).map (·.2) = [assign tg X.env] := by rfl) : MS X G (.Assign [tg] e pos) (sUnp mt ma) :=
  weakS (ps_asg he hg hs hw h1) fun D σ H ⟨ρ, F, F0, H0, S, P⟩ => ⟨ρ, F, S.sl, (P.to (rel := DvR G) S).imp fun d x F1 H1 e1 g1 q1 ⟨F1', d', e1', g1', q1', P1⟩ => by
    have S1 := S.grow g1'
    cases e2 : nx (mt d' ρ) with
    | ok ρ' =>
      rw [e2] at P1
      exact ht ρ ρ' σ F1' H1 x d' _ S1.sl q1' (nx_ok e2) fun σ' S2 _ o _ => P1 σ' F1' H1 (S1.own S2 o) (Same.refl _)
    | exc c => cases z : mt d' ρ <;> (rw [z] at e2; cases e2)
    | bad => rw [e2] at P1; exact P1.elim⟩
/-! lists of the def's own, changed -/
theorem SRel.putOwn {F0 H0 F H : Hp} {ρ : Env} {σ : L2.St} {l : Addr} {s t : Slot} {o : HO} (S : SRel G.K F0 H0 ρ σ F H) {i : Nat} (h1 : ρ[i]? = some s) (h2 : s.own = true) (h3 : σ[i]? = some (some (.ref l))) (f : F l = none) (ht : t.own = true) (hok : SlotOk G.K F (upd H l o) (some (.ref l)) t) :
    SRel G.K F0 H0 (ρ.set i t) σ F (upd H l o) := by
  have e : σ.set i (some (.ref l)) = σ := by
    refine List.ext_getElem? fun j => ?_
    by_cases hj : j = i
    · subst hj
      rw [List.getElem?_set_self (List.getElem?_eq_some_iff.mp h3).1, h3]
    · rw [List.getElem?_set_ne (Ne.symm hj)]
  have hn := S.nw i s l h1 h2 h3
  have q := S.sl.setOwn (o := o) i f ht hok fun j u nj k1 k2 k3 => nj (S.sl.apart j i u s l k1 h1 k2 h2 k3 h3)
  rw [e] at q
  refine ⟨q, ⟨fun b u z => by rw [upd_ne (ne_of_none z hn)]; exact S.gr.h b u z, S.gr.f, S.gr.s.upd_out f, S.gr.o⟩, fun j u a k1 k2 k3 => ?_⟩
  rcases get_set k1 with ⟨rfl, rfl⟩ | ⟨nj, e1⟩
  · rw [h3] at k3
    cases k3
    exact hn
  · exact S.nw j u a e1 k2 k3
theorem ms_app (i : Nat) {x : Str} {p apos cpos : Pos} (he : ME X G e ma) (hK : X.K = G.K := by rfl) (hN : X.N[i]? = some x := by rfl) (hv : Vis X.env.scope x := by first | exact Or.inl rfl | exact Or.inr (Or.inl rfl) | exact Or.inr (Or.inr rfl)) (hd : (x == ("__debug__" : Str)) = false := by decide)
    (hcd : (x == ("__classdict__" : Str)) = false := by decide)
    (hbase : attributeBase (.Name x p) "append" X.env (eval (.Name x p) X.env) = eval (.Name x p) X.env := by rfl)
    (hfew : ((backTo cpos (starEach [e] X.env)).all (fun x => !x.1) && (backToKw cpos (keywordEach [] X.env)).all (fun x => x.1.isSome)
      && decide ([e].length + ([] : List Keyword).length + (if ([] : List Keyword).isEmpty then 0 else 1) < 30)) = true := by rfl)
    (hline : (apos.endLine == cpos.line) = true := by rfl) (hst : starEach [e] X.env = (false, eval e X.env) :: starEach [] X.env := by rfl) (hplain : (backTo cpos (starEach [] X.env)).any (·.1) = false := by rfl)
    (hs : swapsWith (.Call (.Attribute (.Name x p) "append" apos) [e] [] cpos) none pos.line X.env = pure false := by rfl) :
    MS X G (.Expr (.Call (.Attribute (.Name x p) "append" apos) [e] [] cpos) pos) (sApp i ma) :=
  weakS (ps_expr (pe_bm PySem.F.plainAttrs_list PySem.F.slot_list_append PySem.F.type_list_append mt_append (pe_var hN hv hd hcd) (pa_cons he pa_nil hst) hbase hfew hline hst hplain) hs) fun D σ H ⟨ρ, F, F0, H0, S, P⟩ => by
    unfold sApp at P
    split at P
    · rename_i ds hρ
      obtain ⟨l, xs, k1, k2, k3, k4⟩ := S.sl.getOl hρ
      refine ⟨.ref l, k1, by rw [hK]; exact .inl ⟨rfl, xs, SqL.of k2⟩, ρ, F, S.sl, (P.to (rel := DvR G) S).imp fun d x F1 H1 e1 g1 q1 ⟨F1', d', e1', g1', q1', P1⟩ => ?_⟩
      split at P1
      · rename_i hl
        have S1 := S.grow g1'
        have k4' := k4.mono g1'.f
        have k3' : F1' l = none := (g1'.o _ _ k2).trans k3
        refine ⟨l, xs, x, rfl, rfl, g1'.h _ _ k2, by rw [k4.length, sizeLine_eq]; omega, ?_⟩
        exact P1 σ F1' _ (S1.putOwn hρ rfl k1 k3' rfl ⟨l, _, rfl, upd_same, k3', k4'.append (.cons q1' .nil)⟩) (Same.refl _)
      · exact P1.elim
    · exact P.elim
theorem dv_seti {xs : List V} {ds : List D} {K : PySem.W.Frag} {F : Hp} (h : DvAll K F xs ds) {z : Int} {j : Nat} (e : ixN ds.length z = some j) : ixN xs.length z = some j := by rw [h.length]; exact e
theorem ms_setI (i : Nat) {x : Str} {p tp : Pos} (he : ME X G e ma) (hb : ME X G b mb) (hN : X.N[i]? = some x := by rfl) (hv : Vis X.env.scope x := by first | exact Or.inl rfl | exact Or.inr (Or.inl rfl) | exact Or.inr (Or.inr rfl)) (hd : (x == ("__debug__" : Str)) = false := by decide)
    (hcd : (x == ("__classdict__" : Str)) = false := by decide) (hg : PG X (.Subscript (.Name x p) b tp) (gSub (tVar i) (tOf G mb) rSetL)) (hs : swapsWithSole [.Subscript (.Name x p) b tp] e pos.line X.env = pure false := by rfl) (hw : swappedStores [.Subscript (.Name x p) b tp] e X.env = pure none := by rfl)
    (h1 : (assignEach [.Subscript (.Name x p) b tp] X.env).map (·.2) = [assign (.Subscript (.Name x p) b tp) X.env] := by rfl) :
    MS X G (.Assign [.Subscript (.Name x p) b tp] e pos) (sSetI i ma mb) := weakS (ps_asg he hg hs hw h1) fun D σ H ⟨ρ, F, F0, H0, S, P⟩ => by
  unfold sSetI at P
  split at P
  · rename_i ds hρ
    obtain ⟨l, xs, k1, k2, k3, k4⟩ := S.sl.getOl hρ
    refine ⟨ρ, F, S.sl, (P.to (rel := DvR G) S).imp fun d x F1 H1 e1 g1 q1 ⟨F1', d', e1', g1', q1', P1⟩ => ?_⟩
    have S1 := S.grow g1'
    refine ⟨.ref l, k1, ρ, F1', S1.sl, (P1.to (rel := DvR G) S1).imp fun d2 y F2 H2 e2 g2 q2 ⟨F2', d2', e2', g2', q2', P2⟩ => ?_⟩
    cases q2' with
    | int z =>
      have g12 := g1'.trans g2'
      have S2 := S1.grow g2'
      have k4' := k4.mono g12.f
      have k3' : F2' l = none := (g12.o _ _ k2).trans k3
      dsimp only at P2
      split at P2
      · rename_i j hj
        refine ⟨l, xs, z, j, rfl, rfl, g12.h _ _ k2, dv_seti k4 hj, ?_⟩
        exact P2 σ F2' _ (S2.putOwn hρ rfl k1 k3' rfl ⟨l, _, rfl, upd_same, k3', k4'.set (q1'.mono g2'.f) j⟩) (Same.refl _)
      · exact P2.elim
    | _ => exact P2.elim
  · exact P.elim
end
end Mir
namespace Mir
open PySem PySem.Spec PyProof.Rows L2
section
variable {X : Cx} {G : Gm} {a b e c : Expr} {es : List Expr} {ma mb : Env → R D} {ms mu : Env → RS} {pos : Pos} {st : Stmt} {sts : List Stmt}
/-! ### a comprehension given to a name -/
section
variable {mi : Env → R (List D)} {mt : TgF} {tt : Env → R Bool} {me : Env → R D} {g : TG} {elt tg iter : Expr} {ifs : List Expr} {scope : Scope} {own : List (Str × Nat)} {i : Nat} {y : Str} {py spos : Pos}
theorem ms_setLcO (hN : X.N.Nodup) (hi : MI X G tg iter mi) (ok : BlkOk X.N X.env.scope scope own)
    (hp : ∀ (s : Shared) (H : Hp) (C : Addr) (cl : List (Str × Addr)) (fp : List Addr), PG (X.blk s H scope (compEnvC scope cl C X.env) fp) tg g) (hg : TgOk G.K (own.map (·.2)) g mt)
    (ht : ∀ (s : Shared) (H : Hp) (C : Addr) (cl : List (Str × Addr)) (fp : List Addr), PTs (X.blk s H scope (compEnvC scope cl C X.env) fp) ifs (ttOf G.e0 tt))
    (he : ∀ (s : Shared) (H : Hp) (C : Addr) (cl : List (Str × Addr)) (fp : List Addr), ME (X.blk s H scope (compEnvC scope cl C X.env) fp) G.e0 elt me)
    (hsw : swapsWith (.ListComp elt [⟨tg, iter, ifs, 0⟩] scope pos) (some (.Name y py)) spos.line X.env = pure true) (hy : X.N[i]? = some y := by rfl) (hyl : X.env.scope.names.lookup y = some .local := by rfl) (hc : X.calm = true := by rfl) (hs : ∀ x, foldedSetIterable iter X.env x = pure x := by intro _; rfl) :
    MS X G (.Assign [.Name y py] (.ListComp elt [⟨tg, iter, ifs, 0⟩] scope pos) spos) (sSetO i (mLc (own.map (·.2)) mi mt tt me)) :=
  weakS (ps_setLc hc hN hy hyl hsw hi ok hp ht he hs) fun D σ H ⟨ρ, F, F0, H0, S, P⟩ =>
    lc_read hg σ H _ ⟨ρ, F, S.sl, P.toF S fun ds p xs F' H' g n f o q P1 => P1 _ F' H' (S.newOwn g n f i rfl ⟨p, xs, rfl, o, f, q⟩ _ o) (Same.refl _)⟩
theorem ms_setLc (hN : X.N.Nodup) (hi : MI X G tg iter mi) (ok : BlkOk X.N X.env.scope scope own)
    (hp : ∀ (s : Shared) (H : Hp) (C : Addr) (cl : List (Str × Addr)) (fp : List Addr), PG (X.blk s H scope (compEnvC scope cl C X.env) fp) tg g) (hg : TgOk G.K (own.map (·.2)) g mt)
    (ht : ∀ (s : Shared) (H : Hp) (C : Addr) (cl : List (Str × Addr)) (fp : List Addr), PTs (X.blk s H scope (compEnvC scope cl C X.env) fp) ifs (ttOf G.e0 tt))
    (he : ∀ (s : Shared) (H : Hp) (C : Addr) (cl : List (Str × Addr)) (fp : List Addr), ME (X.blk s H scope (compEnvC scope cl C X.env) fp) G.e0 elt me)
    (hsw : swapsWith (.ListComp elt [⟨tg, iter, ifs, 0⟩] scope pos) (some (.Name y py)) spos.line X.env = pure true) (hy : X.N[i]? = some y := by rfl) (hyl : X.env.scope.names.lookup y = some .local := by rfl) (hc : X.calm = true := by rfl) (hs : ∀ x, foldedSetIterable iter X.env x = pure x := by intro _; rfl) :
    MS X G (.Assign [.Name y py] (.ListComp elt [⟨tg, iter, ifs, 0⟩] scope pos) spos) (sSet i (mFz (mLc (own.map (·.2)) mi mt tt me))) :=
  weakS (ps_setLc hc hN hy hyl hsw hi ok hp ht he hs) fun D σ H ⟨ρ, F, F0, H0, S, P⟩ =>
    lc_read hg σ H _ ⟨ρ, F, S.sl, post_fz ((P.to (rel := DvR G) S).imp fun d x F1 H1 e1 g1 q1 ⟨F1', d', e1', g1', q1', P1⟩ => P1 _ F1' H1 ((S.grow g1').setFz q1' i) (Same.refl _))⟩
end
/-! ### a, b = x, y -/
theorem ms_par {i j : Nat} {x y : Str} {m : Env → R (List D)} {px py pt : Pos} {kt k2 : Nat} {pt2 : Pos} (hN : X.N.Nodup) (ha : MA X G [a, b] m)
    (hw : swappedStores [.Tuple [.Name x px, .Name y py] kt pt] (.Tuple [a, b] k2 pt2) X.env = pure (some [x, y])) (hij : i ≠ j) (hi : X.N[i]? = some x := by rfl) (hj : X.N[j]? = some y := by rfl) (hx : X.env.scope.names.lookup x = some .local := by rfl) (hy : X.env.scope.names.lookup y = some .local := by rfl) (hc : X.calm = true := by rfl)
    (hs : swapsWithSole [.Tuple [.Name x px, .Name y py] kt pt] (.Tuple [a, b] k2 pt2) pos.line X.env = pure false := by rfl) :
    MS X G (.Assign [.Tuple [.Name x px, .Name y py] kt pt] (.Tuple [a, b] k2 pt2) pos) (sPar i j m) := weakS (ps_par hc hN hi hj hij hx hy ha hw hs) fun D σ H ⟨ρ, F, F0, H0, S, P⟩ => by
  refine ⟨ρ, F, S.sl, (P.to (rel := DvsR G) S).imp fun d x F1 H1 e1 g1 q1 ⟨F1', d', e1', g1', q1', P1⟩ => ?_⟩
  split at P1
  · cases q1' with
    | cons h r =>
      obtain ⟨w, rfl, h2⟩ := one_of r
      exact ⟨_, _, rfl, P1 _ F1' H1 (((S.grow g1').setFz h i).setFz h2 j) (Same.refl _)⟩
  · exact P1.elim

/-! ### loops -/
def forGo (mt : TgF) (mb : Env → RS) : List D → Env → RS
  | [], ρ => .nx ρ
  | d :: ds, ρ => (nx (mt d ρ)).to fun ρ1 => match mb ρ1 with
    | .nx ρ2 => forGo mt mb ds ρ2
    | .ct ρ2 => forGo mt mb ds ρ2
    | .brk ρ2 => .nx ρ2
    | r => r
def sFor (mi : Env → R (List D)) (mt : TgF) (mb : Env → RS) : Env → RS := fun ρ => (mi ρ).to fun ds => forGo mt mb ds ρ
theorem nx_cases {α : Type} (r : R α) : (∃ a, r = .ok a ∧ nx r = .ok a) ∨ nx r = .bad := by
  cases r with
  | ok a => exact .inl ⟨a, rfl, rfl⟩
  | exc c => exact .inr rfl
  | bad => exact .inr rfl
theorem ms_for {mi : Env → R (List D)} {mt : TgF} {tg iter : Expr} {g : TG} {vs : List Nat} {body : List Stmt} (hpo : PassesOwn (model X.prog X.w) X.A X.env X.xe) (hi : MI X G tg iter mi) (hp : PG X tg g) (ht : TgOk G.K vs g mt) (hb : MSs X G body ms) (hc : X.calm = true := by rfl)
    (hs : ∀ x, foldedSetIterable iter X.env x = pure x := by intro _; rfl) : MS X G (.For tg iter body [] pos) (sFor mi mt ms) := weakS (ps_for hpo hc hi hp hb hs) fun D σ H ⟨ρ, F, F0, H0, S, P⟩ => by
  refine ⟨ρ, F, S.sl, ?_⟩
  unfold sFor at P
  cases e : mi ρ with
  | exc c => rw [e] at P; exact fun C F' H' m g => P C F' H' m (S.gr.trans g)
  | bad => rw [e] at P; exact P.elim
  | ok ds =>
    rw [e] at P
    have P : PostS G F0 H0 F D (forGo mt ms ds ρ) := P
    intro J F1 H1 g1 W
    refine ⟨fun i m σ H => m = ds.length - i ∧ i ≤ ds.length ∧ ∃ ρi Fi, SRel G.K F0 H0 ρi σ Fi H ∧ Same F1 Fi ∧ PostS G F0 H0 Fi D (forGo mt ms (ds.drop i) ρi), ⟨ds.length, by rw [Nat.sub_zero], Nat.zero_le _, ρ, F1, S.grow g1, Same.refl _, P.same g1.f⟩, ?_⟩
    rintro i m σi Hi ⟨rfl, hi, ρi, Fi, Si, si, Pi⟩
    by_cases hlt : i < ds.length
    · refine .inr ⟨W.go i Fi Hi si Si.sl.sub hlt, fun σ' H' => ∃ ρi Fi, SRel G.K F0 H0 ρi σ' Fi H' ∧ Same F1 Fi ∧ PostS G F0 H0 Fi D (forGo mt ms (ds.drop (i + 1)) ρi), fun σ' H' q => ⟨ds.length - (i + 1), by omega, rfl, hlt, q⟩, fun x H' y => ?_⟩
      obtain ⟨Fy, d, ed, gy, rd⟩ := W.yld i Fi Hi x H' si Si.sl.sub hlt y
      have edrop : ds.drop i = d :: ds.drop (i + 1) := by
        rw [List.drop_eq_getElem_cons hlt]
        rw [List.getElem?_eq_getElem hlt] at ed
        rw [Option.some.inj ed]
      rw [edrop] at Pi
      have Pi : PostS G F0 H0 Fi D ((nx (mt d ρi)).to fun ρ1 => match ms ρ1 with
        | .nx ρ2 => forGo mt ms (ds.drop (i + 1)) ρ2
        | .ct ρ2 => forGo mt ms (ds.drop (i + 1)) ρ2
        | .brk ρ2 => .nx ρ2
        | r => r) := Pi
      rcases nx_cases (mt d ρi) with ⟨ρ1, e1, e2⟩ | e2
      · rw [e2] at Pi
        have Sy := Si.grow gy
        refine ht ρi ρ1 σi Fy H' x d _ Sy.sl rd e1 fun σ2 S2 _ o _ => ?_
        have S3 := Sy.own S2 o
        refine ⟨ρ1, Fy, F0, H0, S3, ?_⟩
        have Pi : PostS G F0 H0 Fi D (match ms ρ1 with
          | .nx ρ2 => forGo mt ms (ds.drop (i + 1)) ρ2
          | .ct ρ2 => forGo mt ms (ds.drop (i + 1)) ρ2
          | .brk ρ2 => .nx ρ2
          | r => r) := Pi
        have sy := si.trans gy.f
        cases em : ms ρ1 with
        | nx ρ2 =>
          rw [em] at Pi
          exact fun σ' F' H' S' q => ⟨ρ2, F', S', sy.trans q, Pi.same (gy.f.trans q)⟩
        | ct ρ2 =>
          rw [em] at Pi
          exact fun σ' F' H' S' q => ⟨ρ2, F', S', sy.trans q, Pi.same (gy.f.trans q)⟩
        | brk ρ2 =>
          rw [em] at Pi
          exact fun σ' F' H' S' q => Pi σ' F' H' S' (gy.f.trans q)
        | ret d => rw [em] at Pi; exact Pi
        | exc c => rw [em] at Pi; exact Pi
        | bad => rw [em] at Pi; exact Pi
      · rw [e2] at Pi
        exact Pi.elim
    · have ei : i = ds.length := by omega
      subst ei
      refine .inl ⟨W.stop Fi Hi si Si.sl.sub, ?_⟩
      rw [List.drop_length] at Pi
      exact Pi σi Fi Hi Si (Same.refl _)
def whGo (c : Env → R Bool) (mb : Env → RS) : Nat → Env → RS
  | 0, _ => .bad
  | n + 1, ρ => (c ρ).to fun k => if k = true then (match mb ρ with
    | .nx ρ2 => whGo c mb n ρ2
    | .ct ρ2 => whGo c mb n ρ2
    | .brk ρ2 => .nx ρ2
    | r => r) else .nx ρ
def sWhile (n : Env → Nat) (c : Env → R Bool) (mb : Env → RS) : Env → RS := fun ρ => whGo c mb (n ρ) ρ
theorem ms_while (n : Env → Nat) {mc : Env → R Bool} {body : List Stmt} (hpo : PassesOwn (model X.prog X.w) X.A X.env X.xe) (hc : MT X G c mc) (hb : MSs X G body ms) : MS X G (.While c body [] pos) (sWhile n mc ms) := weakS (ps_while hpo hc hb) fun D σ H ⟨ρ, F, F0, H0, S, P⟩ => by
  refine ⟨fun m σ H => ∃ ρi Fi, SRel G.K F0 H0 ρi σ Fi H ∧ PostS G F0 H0 Fi D (whGo mc ms m ρi), ⟨n ρ, ρ, F, S, P⟩, ?_⟩
  rintro m σi Hi ⟨ρi, Fi, Si, Pi⟩
  cases m with
  | zero => exact Pi.elim
  | succ m =>
    have Pi : PostS G F0 H0 Fi D ((mc ρi).to fun k => if k = true then (match ms ρi with
      | .nx ρ2 => whGo mc ms m ρ2
      | .ct ρ2 => whGo mc ms m ρ2
      | .brk ρ2 => .nx ρ2
      | r => r) else .nx ρi) := Pi
    refine ⟨ρi, Fi, Si.sl, (Pi.to (rel := EqR) Si).imp fun d x F1 H1 e1 g1 q1 ⟨F1', d', e1', g1', q1', P1⟩ => ?_⟩
    have q : x = d' := q1'
    subst q
    have S1 := Si.grow g1'
    cases x with
    | false => rw [if_neg Bool.false_ne_true] at P1 ⊢; exact P1 σi F1' H1 S1 (Same.refl _)
    | true =>
      rw [if_pos rfl] at P1 ⊢
      refine ⟨fun σ' H' => ∃ ρi Fi, SRel G.K F0 H0 ρi σ' Fi H' ∧ PostS G F0 H0 Fi D (whGo mc ms m ρi), fun σ' H' q => ⟨m, Nat.lt_succ_self m, q⟩, ρi, F1', F0, H0, S1, ?_⟩
      cases em : ms ρi with
      | nx ρ2 => rw [em] at P1; exact fun σ' F' H' S' q => ⟨ρ2, F', S', P1.same q⟩
      | ct ρ2 => rw [em] at P1; exact fun σ' F' H' S' q => ⟨ρ2, F', S', P1.same q⟩
      | brk ρ2 => rw [em] at P1; exact P1
      | ret d => rw [em] at P1; exact P1
      | exc c => rw [em] at P1; exact P1
      | bad => rw [em] at P1; exact P1
/-! ### raise -/
structure ExcT (K : PySem.W.Frag) (mg : Str → Option Value) (x : Str) (C : Addr) : Prop where
  g : mg x = some (.ref C)
  ex : PySem.W.excIn K C [.type "ValueError", .type "Exception", .type "BaseException", .type "object"] "ValueError.__new__" = true
  kp : PySem.W.keepIn K (.ref C) = true
  sub : PySem.W.subIn K (.ref C) (.type "BaseException") = some true
  ty : PySem.W.typeIn K (.ref C) = some (.type "type")
theorem ms_raise {x m : Str} {C : Addr} {j : Nat} {p p2 pos2 : Pos} (T : ExcT X.K X.mg x C) (tk : Takes X (fun cls d _ H => G.E cls d H)) (hmg : X.mg = G.mg := by rfl) (hc : X.calm = true := by rfl) (hg : Gl X x := by rfl) (hdb : (x == ("__debug__" : Str)) = false := by decide) :
    MS X G (.Raise (some (.Call (.Name x p) [.Constant (.str m) j p2] [] pos)) none pos2) (fun _ => .exc x) :=
  weakS (ps_raise hc tk (pmk_own PySem.F.excBase_ValueError T.ex T.g T.kp (raises_own T.sub T.ty) hg hdb)) fun D σ H ⟨ρ, F, F0, H0, S, P⟩ => P C F H (by rw [← hmg]; exact T.g) S.gr
end

/-! ### a def -/
def envOf (n : Nat) (ds : List D) : Env := ds.map .fz ++ List.replicate (n - ds.length) .un
def runD (n : Nat) (m : Env → RS) : List D → R D := fun ds => match m (envOf n ds) with
  | .nx _ => .ok .non
  | .ret d => .ok d
  | .exc c => .exc c
  | _ => .bad
theorem sl_start {K : PySem.W.Frag} {F H : Hp} {vs : List V} {ds : List D} {N : List Str} (s : Same F H) (h : DvAll K F vs ds) : Sl K (envOf N.length ds) (L2.start N vs) F H := by
  refine ⟨s, ?_, fun i sl x h1 h2 => ?_, fun i j sl t a h1 h2 h3 _ _ _ => ?_⟩
  · unfold L2.start envOf
    rw [List.length_append, List.length_append, List.length_map, List.length_map, List.length_replicate, List.length_replicate, h.length]
  · unfold L2.start at h2
    unfold envOf at h1
    by_cases hi : i < ds.length
    · rw [List.getElem?_append_left (by rw [List.length_map]; exact hi), List.getElem?_map] at h1
      rw [List.getElem?_append_left (by rw [List.length_map, h.length]; exact hi), List.getElem?_map] at h2
      cases e1 : ds[i]? with
      | none => rw [e1] at h1; cases h1
      | some d =>
        rw [e1] at h1
        cases h1
        obtain ⟨v, e2, q⟩ := h.get' e1
        rw [e2] at h2
        cases h2
        exact q
    · rw [List.getElem?_append_right (by rw [List.length_map]; omega), List.getElem?_replicate] at h1
      split at h1
      · cases h1
        cases x <;> trivial
      · cases h1
  · exfalso
    unfold envOf at h1
    by_cases hi : i < ds.length
    · rw [List.getElem?_append_left (by rw [List.length_map]; exact hi), List.getElem?_map] at h1
      cases e1 : ds[i]? with
      | none => rw [e1] at h1; cases h1
      | some d =>
        rw [e1] at h1
        cases h1
        cases h3
    · rw [List.getElem?_append_right (by rw [List.length_map]; omega), List.getElem?_replicate] at h1
      split at h1
      · cases h1
        cases h3
      · cases h1
section
variable {P : Program} {w : World} {K : PySem.W.Frag} {mg : Str → Option Value} {base : Heap}
theorem fn_mir {x qual : Str} {st : Stmt} {f : Addr} {fd : FuncData} {N ps : List Str} {k : Nat} {m : Env → RS} (F : Fun K x qual st f fd) (S : FnScope N ps (defScope st))
    (hbody : ∀ (cdv : Value) (A : Around) (outer : List PySem.Env) (s : Shared) (H : Hp) (E : XK), Room k (A.deeper (envOfC qual (defScope st) s.heap.objs.size f cdv)) →
      MSs (cxOf (L2.CX P w) P w K mg base N qual (defScope st) f cdv A outer s H E) ⟨K, mg, E⟩ (defBody st) m) : FnM P w K mg base (k + 1) f fd ps (runD N.length m) := by
  refine F.okX S (fun vs H Q E h => ?_) (fun cdv A outer s H vs Q E hr h => ?_)
  · obtain ⟨F1, ds, _, r, l, _⟩ := h
    rw [r.length, l]
  · obtain ⟨F1, ds, sm, r, l, q⟩ := h
    refine ⟨_, hbody cdv A outer s H E hr, envOf N.length ds, F1, F1, H, ⟨sl_start sm r, Grow.refl sm, fun i sl a h1 h2 h3 => ?_⟩, ?_⟩
    · exfalso
      have S0 := sl_start (N := N) sm r
      have q1 := S0.apart
      unfold envOf at h1
      by_cases hi : i < ds.length
      · rw [List.getElem?_append_left (by rw [List.length_map]; exact hi), List.getElem?_map] at h1
        cases e1 : ds[i]? with
        | none => rw [e1] at h1; cases h1
        | some d => rw [e1] at h1; cases h1; cases h2
      · rw [List.getElem?_append_right (by rw [List.length_map]; omega), List.getElem?_replicate] at h1
        split at h1
        · cases h1; cases h2
        · cases h1
    · unfold runD at q
      cases e : m (envOf N.length ds) with
      | nx ρ' => rw [e] at q; exact fun σ' F' H' S' _ => q .non F' H' S'.gr .non
      | ret d => rw [e] at q; exact fun v F' H' g z => q v F' H' g z
      | exc c => rw [e] at q; exact fun C F' H' m g => q C F' H' m g
      | brk ρ' => rw [e] at q; exact q.elim
      | ct ρ' => rw [e] at q; exact q.elim
      | bad => rw [e] at q; exact q.elim
end
end Mir
namespace Mir
open PySem PySem.Spec PyProof.Rows L2

/-! ### any sequence walked: a list, a tuple, a text -/
def iSeqA (K : PySem.W.Frag) (te : TE) : TI := fun σ H R => te σ H fun x H1 => (∃ a xs, x = .ref a ∧ SqL K H1 a xs ∧ R (Itl K a) H1) ∨ (∃ a xs, x = .ref a ∧ SqT K H1 a xs ∧ R (Itt K a) H1) ∨ (∃ z, x = .str z ∧ R (Its z) H1)
section
variable {X : Cx} {G : Gm} {tg e : Expr} {te : TE} {ma : Env → R D}
theorem pi_seqA (he : PE X e te) : PI X tg e (iSeqA X.K te) := by
  refine ⟨fun pins s σ H R0 I h => thn (he.run pins s σ H _ I h) fun v s1 ⟨x, H1, I1, r1, q1⟩ => ?_⟩
  rcases q1 with ⟨a, xs, ex, hq, q⟩ | ⟨a, xs, ex, hq, q⟩ | ⟨z, ex, q⟩
  · subst ex
    cases r1
    obtain ⟨its, rv, pl, hz⟩ := I1.list hq
    exact wpAny_pyIter_list pl.isList (pi_one (tk := s1.toks) I1 _ (turn_list a _) ⟨_, Heap.get?_push_size _ rfl, rfl, rfl⟩ q)
  · subst ex
    cases r1
    obtain ⟨its, rv, ht, hz⟩ := I1.tuple hq
    exact wpAny_pyIter_tuple (show s1.heap.IsTuple a its.toArray from ht) (pi_one (tk := s1.toks) I1 _ (turn_tuple a _) ⟨_, Heap.get?_push_size _ rfl, rfl, rfl⟩ q)
  · subst ex
    obtain ⟨t, rfl⟩ := r1
    cases ha : z.cps.all (· < 128)
    · exact wpAny_pyIter_wide ha (pi_one (tk := s1.toks) I1 _ (turn_str _ z t "str_iterator" (.inr rfl)) ⟨_, Heap.get?_push_size _ rfl, rfl, rfl⟩ q)
    · exact wpAny_pyIter_ascii ha (pi_one (tk := s1.toks) I1 _ (turn_str _ z t "str_ascii_iterator" (.inl rfl)) ⟨_, Heap.get?_push_size _ rfl, rfl, rfl⟩ q)
def anyOf : D → R (List D)
  | .lst ds => .ok ds
  | .rol ds => .ok ds
  | .tup ds => .ok ds
  | .str z => .ok (signsD z)
  | _ => .bad
theorem mi_any (h : ME X G e ma) (hK : X.K = G.K := by rfl) : MI X G tg e (mSeq anyOf ma) := weakI (pi_seqA h) fun σ H Q ⟨ρ, F, S, P⟩ => by
  refine ⟨ρ, F, S, (PostI.bind (rel := DvR G) P).imp fun d x F1 H1 e1 g1 q1 ⟨F1', d', e1', g1', q1', P1⟩ => ?_⟩
  rw [hK]
  cases q1' with
  | lst z r => exact .inl ⟨_, _, rfl, SqL.of (g1'.s _ _ z), P1 _ _ _ (Grow.refl g1'.s) (wd_list (SqL.of z) r)⟩
  | rol z r => exact .inl ⟨_, _, rfl, g1'.s.seq z, P1 _ _ _ (Grow.refl g1'.s) (wd_list z r)⟩
  | tup z r => exact .inr (.inl ⟨_, _, rfl, Same.tup g1'.s z, P1 _ _ _ (Grow.refl g1'.s) (wd_tup z r)⟩)
  | str z => exact .inr (.inr ⟨_, rfl, P1 _ _ _ (Grow.refl g1'.s) wd_str⟩)
  | _ => exact P1.elim
end

/-! ### a def of the top -/
structure DefT (K : PySem.W.Frag) (mg : Str → Option Value) (x : Str) (st : Stmt) (ps : List Str) : Prop where
  ex : ∃ f fd, Fun K x x st f fd ∧ Binds K fd ps [] ∧ mg x = some (.ref f)
structure Df (P : Program) (w : World) (K : PySem.W.Frag) (mg : Str → Option Value) (base : Heap) (k : Nat) (x : Str) (ps : List Str) (m : List D → R D) : Prop where
  ex : ∃ f fd, FnM P w K mg base k f fd ps m ∧ Binds K fd ps [] ∧ mg x = some (.ref f) ∧ PySem.W.keepIn K (.ref f) = true
section
variable {P : Program} {w : World} {K : PySem.W.Frag} {mg : Str → Option Value} {base : Heap}
theorem fn_mk2 {x : Str} {st : Stmt} {N ps : List Str} {k : Nat} {m : Env → RS} {f : Addr} {fd : FuncData} (F : Fun K x x st f fd) (S : FnScope N ps (defScope st))
    (hbody : ∀ (f : Addr) (cdv : Value) (A : Around) (outer : List PySem.Env) (s : Shared) (H : Hp) (E : XK), Room k (A.deeper (envOfC x (defScope st) s.heap.objs.size f cdv)) →
      Takes (cxOf (L2.CX P w) P w K mg base N x (defScope st) f cdv A outer s H E) (fun cls d _ H => E cls d H) → Passes (L2.CX P w) (cxOf (L2.CX P w) P w K mg base N x (defScope st) f cdv A outer s H E) E →
      PassesOwn (model P w) (A.deeper (envOfC x (defScope st) s.heap.objs.size f cdv)) (envOfC x (defScope st) s.heap.objs.size f cdv) (cxOf (L2.CX P w) P w K mg base N x (defScope st) f cdv A outer s H E).xe →
      MSs (cxOf (L2.CX P w) P w K mg base N x (defScope st) f cdv A outer s H E) ⟨K, mg, E⟩ (defBody st) m) : FnM P w K mg base (k + 1) f fd ps (runD N.length m) := by
  refine fn_mir F S fun cdv A outer s H E hr => ?_
  have tk : Takes (cxOf (L2.CX P w) P w K mg base N x (defScope st) f cdv A outer s H E) (fun cls d _ H => E cls d H) := takes_of rfl rfl rfl rfl
  exact hbody f cdv A outer s H E hr tk (passes_call tk fun _ _ _ _ h => h) (passes_of (X := cxOf (L2.CX P w) P w K mg base N x (defScope st) f cdv A outer s H E) rfl)
theorem df_mk {x : Str} {st : Stmt} {N ps : List Str} {k : Nat} {m : Env → RS} (D : DefT K mg x st ps) (S : FnScope N ps (defScope st))
    (hbody : ∀ (f : Addr) (cdv : Value) (A : Around) (outer : List PySem.Env) (s : Shared) (H : Hp) (E : XK), Room k (A.deeper (envOfC x (defScope st) s.heap.objs.size f cdv)) →
      Takes (cxOf (L2.CX P w) P w K mg base N x (defScope st) f cdv A outer s H E) (fun cls d _ H => E cls d H) → Passes (L2.CX P w) (cxOf (L2.CX P w) P w K mg base N x (defScope st) f cdv A outer s H E) E →
      PassesOwn (model P w) (A.deeper (envOfC x (defScope st) s.heap.objs.size f cdv)) (envOfC x (defScope st) s.heap.objs.size f cdv) (cxOf (L2.CX P w) P w K mg base N x (defScope st) f cdv A outer s H E).xe →
      MSs (cxOf (L2.CX P w) P w K mg base N x (defScope st) f cdv A outer s H E) ⟨K, mg, E⟩ (defBody st) m) : Df P w K mg base (k + 1) x ps (runD N.length m) := by
  obtain ⟨f, fd, F, B, g⟩ := D.ex
  exact ⟨f, fd, fn_mk2 F S hbody, B, g, F.kp⟩
theorem Df.to {x : Str} {ps : List Str} {k : Nat} {m m' : List D → R D} (h : Df P w K mg base k x ps m) (e : ∀ ds, ds.length = ps.length → m' ds ≠ .bad → m ds = m' ds) : Df P w K mg base k x ps m' := by
  obtain ⟨f, fd, F, r⟩ := h.ex
  refine ⟨f, fd, F.imp fun vs H Q E ⟨F1, ds, s, q, l, p⟩ => ⟨F1, ds, s, q, l, ?_⟩, r⟩
  rw [e ds l (fun z => by rw [z] at p; exact p)]
  exact p
end
section
variable {X : Cx} {G : Gm} {e : Expr} {es : List Expr} {pos p : Pos} {k j : Nat} {ps : List Str} {m : List D → R D} {mr : Env → R (List D)} {x : Str}
theorem me_df (D : Df X.prog X.w X.K X.mg X.base k x ps m) (hr : Room j X.A) (hkj : k ≤ j) (hx : Passes (L2.CX X.prog X.w) X G.E) (ha : MA X G (e :: es) mr)
    (hK : X.K = G.K := by rfl) (hmg : X.mg = G.mg := by rfl) (hg : Gl X x := by rfl) (hdb : (x == ("__debug__" : Str)) = false := by decide) (he : starEach (e :: es) X.env = (false, eval e X.env) :: starEach es X.env := by rfl) (hpl : (backTo pos (starEach es X.env)).any (·.1) = false := by rfl) :
    ME X G (.Call (.Name x p) (e :: es) [] pos) (mFn ps.length m mr) := by
  obtain ⟨f, fd, F, B, g, kp⟩ := D.ex
  exact me_fn F (hr.mono hkj) g kp B hx ha hK hmg hg hdb he hpl
theorem me_df0 (D : Df X.prog X.w X.K X.mg X.base k x [] m) (hr : Room j X.A) (hkj : k ≤ j) (hx : Passes (L2.CX X.prog X.w) X G.E)
    (hK : X.K = G.K := by rfl) (hmg : X.mg = G.mg := by rfl) (hg : Gl X x := by rfl) (hdb : (x == ("__debug__" : Str)) = false := by decide) : ME X G (.Call (.Name x p) [] [] pos) (fun _ => m []) := by
  obtain ⟨f, fd, F, B, g, kp⟩ := D.ex
  exact me_fn0 F (hr.mono hkj) g kp B hx hK hmg hg hdb
end

/-- what the law's own def promises -/
def spLaw (K : PySem.W.Frag) : Sp := fun vs H Q _ => ∃ (a : Addr) (ns : List Int), vs = [.ref a] ∧ SqL K H a (ns.map V.int) ∧ ns.length ≤ 63 ∧ ∀ H', Q (.bl true) H'
theorem dv_ints {K : PySem.W.Frag} {F : Hp} : ∀ ns : List Int, DvAll K F (ns.map V.int) (ns.map D.int)
  | [] => .nil
  | n :: ns => .cons (.int n) (dv_ints ns)
theorem law_imp {P : Program} {w : World} {K : PySem.W.Frag} {mg : Str → Option Value} {base : Heap} {k : Nat} {f : Addr} {fd : FuncData} {x : Str} {m : List D → R D} (F : FnM P w K mg base k f fd [x] m) (ht : ∀ ns : List Int, ns.length ≤ 63 → m [.rol (ns.map D.int)] = .ok (.bl true)) :
    FnOk P w K mg base (L2.CX P w) k f fd [x] (spLaw K) := F.imp fun vs H Q E ⟨a, ns, e, hS, hl, q⟩ => ⟨H, [.rol (ns.map D.int)], Same.refl H, by rw [e]; exact .cons (.rol hS (dv_ints ns)) .nil, rfl, by
  rw [ht ns hl]
  exact fun v F' H' g r => by cases r; exact q H'⟩

/-! ### a dict of the top, its keys texts -/
structure KTab (K : PySem.W.Frag) (w : World) (mg : Str → Option Value) (x : Str) (tb : List (Str × Option D)) : Prop where
  ex : ∃ d es n, mg x = some (.ref d) ∧ KDict K w d es n ∧ ∀ z o, tb.lookup z = some o → (o = none ∧ PySem.W.nsIn K d z = some none) ∨ ∃ dd u v, o = some dd ∧ PySem.W.nsIn K d z = some (some u) ∧ RelV v u ∧ Dv K (fun _ => none) v dd
theorem Same.nothing (F : Hp) : Same (fun _ => none) F := fun _ _ h => nomatch h
section
variable {X : Cx} {G : Gm} {a : Expr} {ma : Env → R D} {pos p : Pos} {x : Str} {tb : List (Str × Option D)}
def kHas (tb : List (Str × Option D)) (neg : Bool) (d : D) : R D := match d with
  | .str z => ofO (tb.lookup z) fun o => .ok (.bl (if neg then !o.isSome else o.isSome))
  | _ => .bad
def kGet (tb : List (Str × Option D)) (d : D) : R D := match d with
  | .str z => ofO (tb.lookup z) fun o => ofO o .ok
  | _ => .bad
theorem ktab_some {K : PySem.W.Frag} {w : World} {d : Addr} {z : Str} {o : Option D} (h : (o = none ∧ PySem.W.nsIn K d z = some none) ∨ ∃ dd u v, o = some dd ∧ PySem.W.nsIn K d z = some (some u) ∧ RelV v u ∧ Dv K (fun _ => none) v dd) : ∃ r, PySem.W.nsIn K d z = some r ∧ r.isSome = o.isSome := by
  rcases h with ⟨e, q⟩ | ⟨dd, u, v, e, q, _⟩
  · exact ⟨_, q, by rw [e]; rfl⟩
  · exact ⟨_, q, by rw [e]; rfl⟩
theorem me_kin (T : KTab X.K X.w X.mg x tb) (ha : ME X G a ma) (hg : Gl X x := by rfl) (hd : (x == ("__debug__" : Str)) = false := by decide) (hm : behindInMarks .In (.Name x p) = false := by with_unfolding_all rfl) : ME X G (.Compare a [.In] [.Name x p] pos) (mU (kHas tb false) ma) := by
  obtain ⟨d, es, n, g, kd, hT⟩ := T.ex
  refine weakE (pe_cmpR (op_in_kd kd) ha (pe_glob (v := .ref d) hg g rfl hd) hm) fun σ H Q ⟨ρ, F, S, P⟩ => ?_
  refine ⟨ρ, F, S, (PostR.bind (rel := DvR G) P).imp fun dd x F1 H1 e1 g1 q1 ⟨F1', d', e1', g1', q1', P1⟩ => ?_⟩
  cases q1' with
  | str z =>
    have P1 : PostR G (DvR G) F1' H1 (ofO (tb.lookup z) fun o => .ok (.bl o.isSome)) Q := P1
    cases w : tb.lookup z with
    | none => rw [w] at P1; exact P1.elim
    | some o =>
      rw [w] at P1
      obtain ⟨r, e2, e3⟩ := ktab_some (w := X.w) (hT z o w)
      exact ⟨z, r, rfl, rfl, e2, by rw [e3]; exact postD P1 g1'.s (.bl _)⟩
  | _ => exact P1.elim
theorem me_knin (T : KTab X.K X.w X.mg x tb) (ha : ME X G a ma) (hg : Gl X x := by rfl) (hd : (x == ("__debug__" : Str)) = false := by decide) (hm : behindInMarks .NotIn (.Name x p) = false := by with_unfolding_all rfl) : ME X G (.Compare a [.NotIn] [.Name x p] pos) (mU (kHas tb true) ma) := by
  obtain ⟨d, es, n, g, kd, hT⟩ := T.ex
  refine weakE (pe_cmpR (op_notIn_kd kd) ha (pe_glob (v := .ref d) hg g rfl hd) hm) fun σ H Q ⟨ρ, F, S, P⟩ => ?_
  refine ⟨ρ, F, S, (PostR.bind (rel := DvR G) P).imp fun dd x F1 H1 e1 g1 q1 ⟨F1', d', e1', g1', q1', P1⟩ => ?_⟩
  cases q1' with
  | str z =>
    have P1 : PostR G (DvR G) F1' H1 (ofO (tb.lookup z) fun o => .ok (.bl (!o.isSome))) Q := P1
    cases w : tb.lookup z with
    | none => rw [w] at P1; exact P1.elim
    | some o =>
      rw [w] at P1
      obtain ⟨r, e2, e3⟩ := ktab_some (w := X.w) (hT z o w)
      exact ⟨z, r, rfl, rfl, e2, by rw [e3]; exact postD P1 g1'.s (.bl _)⟩
  | _ => exact P1.elim
/-- the same as a test: pt_val of the value -/
theorem mt_knin (T : KTab X.K X.w X.mg x tb) (ha : ME X G a ma) (hg : Gl X x := by rfl) (hd : (x == ("__debug__" : Str)) = false := by decide) (hm : behindInMarks .NotIn (.Name x p) = false := by with_unfolding_all rfl) : MT X G (.Compare a [.NotIn] [.Name x p] pos) (mTest (mU (kHas tb true) ma)) := by
  obtain ⟨d, es, n, g, kd, hT⟩ := T.ex
  refine weakT (pt_cmpR (op_notIn_kd kd) ha (pe_glob (v := .ref d) hg g rfl hd) hm) fun σ H Q ⟨ρ, F, S, P⟩ => ?_
  have P' := PostR.bind (rel := DvR G) (show PostR G EqR F H ((mU (kHas tb true) ma ρ).bind blOf) Q from P)
  unfold mU at P'
  refine ⟨ρ, F, S, (PostR.bind (rel := DvR G) P').imp fun dd x F1 H1 e1 g1 q1 ⟨F1', d', e1', g1', q1', P1⟩ => ?_⟩
  cases q1' with
  | str z =>
    have P1 : PostR G (DvR G) F1' H1 (ofO (tb.lookup z) fun o => .ok (.bl (!o.isSome))) _ := P1
    cases w : tb.lookup z with
    | none => rw [w] at P1; exact P1.elim
    | some o =>
      rw [w] at P1
      obtain ⟨r, e2, e3⟩ := ktab_some (w := X.w) (hT z o w)
      refine ⟨z, r, rfl, rfl, e2, ?_⟩
      rw [e3]
      obtain ⟨F2, d2, k1, k2, k3, k4⟩ := postD P1 g1'.s (.bl _)
      cases k3
      exact ⟨_, rfl, PostR.go (G := G) (rel := EqR) k4 k2.s rfl⟩
  | _ => exact P1.elim
theorem me_kget (T : KTab X.K X.w X.mg x tb) (ha : ME X G a ma) (hK : X.K = G.K := by rfl) (hg : Gl X x := by rfl) (hd : (x == ("__debug__" : Str)) = false := by decide) (hs : PlainIx a := by exact fun _ _ => rfl) : ME X G (.Subscript (.Name x p) a pos) (mU (kGet tb) ma) := by
  obtain ⟨d, es, n, g, kd, hT⟩ := T.ex
  refine weakE (pe_ix ix_kdict (pe_glob (v := .ref d) hg g rfl hd) ha hs) fun σ H Q ⟨ρ, F, S, P⟩ => ?_
  refine ⟨ρ, F, S, (PostR.bind (rel := DvR G) P).imp fun dd x F1 H1 e1 g1 q1 ⟨F1', d', e1', g1', q1', P1⟩ => ?_⟩
  cases q1' with
  | str z =>
    have P1 : PostR G (DvR G) F1' H1 (ofO (tb.lookup z) fun o => ofO o .ok) Q := P1
    cases w : tb.lookup z with
    | none => rw [w] at P1; exact P1.elim
    | some o =>
      rw [w] at P1
      rcases hT z o w with ⟨e, _⟩ | ⟨dd, u, v, e, q, rv, dvv⟩
      · rw [e] at P1
        exact P1.elim
      · rw [e] at P1
        have P1 : PostR G (DvR G) F1' H1 (.ok dd) Q := P1
        exact ⟨d, z, v, rfl, rfl, ⟨es, n, u, kd.at_, kd.lit, q, rv⟩, postD P1 g1'.s (by rw [← hK]; exact dvv.mono (Same.nothing _))⟩
  | _ => exact P1.elim
end
end Mir
namespace Mir
open PySem PySem.Spec PyProof.Rows L2

/-! ### [f, g, ..][k](..), defs of the top -/
structure FnAt (P : Program) (w : World) (K : PySem.W.Frag) (mg : Str → Option Value) (base : Heap) (k : Nat) (n : Nat) (f : Addr) (m : List D → R D) : Prop where
  ex : ∃ fd ps, FnM P w K mg base k f fd ps m ∧ ps.length = n ∧ Binds K fd ps [] ∧ PySem.W.keepIn K (.ref f) = true
inductive FnsAt (P : Program) (w : World) (K : PySem.W.Frag) (mg : Str → Option Value) (base : Heap) (k : Nat) (n : Nat) : List Addr → List (List D → R D) → Prop where
  | nil : FnsAt P w K mg base k n [] []
  | cons {f : Addr} {m : List D → R D} {fs : List Addr} {ms : List (List D → R D)} : FnAt P w K mg base k n f m → FnsAt P w K mg base k n fs ms → FnsAt P w K mg base k n (f :: fs) (m :: ms)
theorem FnsAt.len {P : Program} {w : World} {K : PySem.W.Frag} {mg : Str → Option Value} {base : Heap} {k n : Nat} : ∀ {fs : List Addr} {ms : List (List D → R D)}, FnsAt P w K mg base k n fs ms → fs.length = ms.length
  | _, _, .nil => rfl
  | _, _, .cons _ t => congrArg (· + 1) t.len
theorem FnsAt.get {P : Program} {w : World} {K : PySem.W.Frag} {mg : Str → Option Value} {base : Heap} {k n : Nat} : ∀ {fs : List Addr} {ms : List (List D → R D)} {j : Nat} {m : List D → R D}, FnsAt P w K mg base k n fs ms → ms[j]? = some m → ∃ f, fs[j]? = some f ∧ FnAt P w K mg base k n f m
  | _, _, _, _, .nil, e => by simp at e
  | _, _, 0, _, .cons h _, e => by
    have e : some _ = some _ := e
    cases e
    exact ⟨_, rfl, h⟩
  | _, _, j + 1, _, .cons _ t, e => FnsAt.get (j := j) t e
/-- the list's items: names of defs -/
structure PFs (X : Cx) (es : List Expr) (fs : List Addr) : Prop where
  pa : PA X es (fun σ H Q => Q (fs.map V.ref) H)
section
variable {X : Cx} {G : Gm} {e b : Expr} {es fes : List Expr} {mb : Env → R D} {mr : Env → R (List D)} {pos : Pos} {k j n : Nat}
theorem pfs_nil : PFs X [] [] := ⟨pa_nil⟩
theorem pfs_cons {x : Str} {p : Pos} {f : Addr} {fs : List Addr} (hm : X.mg x = some (.ref f)) (h : PFs X es fs) (hg : Gl X x := by rfl) (hd : (x == ("__debug__" : Str)) = false := by decide)
    (hs : starEach (.Name x p :: es) X.env = (false, eval (.Name x p) X.env) :: starEach es X.env := by rfl) : PFs X (.Name x p :: es) (f :: fs) :=
  ⟨weakA (pa_cons (pe_glob (v := .ref f) hg hm rfl hd) h.pa hs) fun σ H Q q => q⟩
def mFnIx (n : Nat) (ms : List (List D → R D)) (mb : Env → R D) (mr : Env → R (List D)) : Env → R D := fun ρ => (mb ρ).bind fun x => match x with
  | .int z => ofO (atI ms z) fun m => (mr ρ).bind fun ds => if ds.length = n then m ds else .bad
  | _ => .bad
theorem me_fnIx {fs : List Addr} {ms : List (List D → R D)} {p1 p2 : Pos} (hf : PFs X fes fs) (F : FnsAt X.prog X.w X.K X.mg X.base k n fs ms) (hr : Room j X.A) (hkj : k ≤ j) (hx : Passes (L2.CX X.prog X.w) X G.E) (hb : ME X G b mb) (ha : MA X G (e :: es) mr) (hz : fs.length ≤ 1000)
    (hK : X.K = G.K := by rfl) (hmg : X.mg = G.mg := by rfl) (hpx : PlainIx b := by exact fun _ _ => rfl) (he : starEach (e :: es) X.env = (false, eval e X.env) :: starEach es X.env := by rfl) (hpl : (backTo pos (starEach es X.env)).any (·.1) = false := by rfl)
    (hc : eval (.Call (.Subscript (.List fes p1) b p2) (e :: es) [] pos) X.env = (eval (.Subscript (.List fes p1) b p2) X.env >>= fun f => callWith pos f [] (backTo pos (starEach (e :: es) X.env)) (backToKw pos (keywordEach [] X.env))) := by rfl) :
    ME X G (.Call (.Subscript (.List fes p1) b p2) (e :: es) [] pos) (mFnIx n ms mb mr) := by
  refine ⟨fun pins s σ H Q I ⟨ρ, F0, S, P⟩ => ?_⟩
  rw [hc]
  refine wpAny_bind ?_
  refine thn ((pe_ix ix_list (pe_lst (pos := p1) hf.pa) hb hpx).run pins s σ H (fun v H1 => ∃ (z : Int) (i : Nat) (f : Addr) (m : List D → R D) (F1 : Hp), v = .ref f ∧ fs[i]? = some f ∧ ms[i]? = some m ∧ Sl G.K ρ σ F1 H1 ∧ PostR G (DvR G) F1 H1 ((mr ρ).bind fun ds => if ds.length = n then m ds else .bad) Q) I ?_) fun u s1 ⟨v, H1, I1, r1, z, i, f, m, F1, ev, h1, h2, S1, P1⟩ => ?_
  · refine ⟨by rw [List.length_map, sizeLine_eq]; omega, fun p hp => ?_⟩
    have g0 : Grow F0 H F0 (upd H p (.lst (fs.map V.ref))) := Grow.own S.sub hp
    have P0 : PostR G (DvR G) F0 H ((mb ρ).bind fun x => match x with
      | .int z => ofO (atI ms z) fun m => (mr ρ).bind fun ds => if ds.length = n then m ds else .bad
      | _ => .bad) Q := P
    refine ⟨ρ, F0, S.grow g0, (PostR.bind (rel := DvR G) (P0.grow g0)).imp fun d x F1 H1 e1 g1 q1 ⟨F1', d', e1', g1', q1', P1⟩ => ?_⟩
    cases q1' with
    | int z =>
      have P1 : PostR G (DvR G) F1' H1 (ofO (atI ms z) fun m => (mr ρ).bind fun ds => if ds.length = n then m ds else .bad) Q := P1
      cases q : atI ms z with
      | none => rw [q] at P1; exact P1.elim
      | some m =>
        rw [q] at P1
        unfold atI at q
        cases q2 : ixN ms.length z with
        | none => rw [q2] at q; cases q
        | some i =>
          rw [q2] at q
          have q : ms[i]? = some m := q
          obtain ⟨f, hf2, _⟩ := F.get q
          refine ⟨p, fs.map V.ref, z, .ref f, rfl, rfl, SqL.of (g1'.h _ _ upd_same), ?_, z, i, f, m, F1', rfl, hf2, q, (S.grow g0).grow g1', P1⟩
          unfold atI
          rw [List.length_map, F.len, q2]
          show (fs.map V.ref)[i]? = _
          rw [List.getElem?_map, hf2]
          rfl
    | _ => exact P1.elim
  · subst ev
    cases r1
    obtain ⟨f', e', hfa⟩ := F.get h2
    rw [h1] at e'
    cases e'
    obtain ⟨fd, ps, Fm, hl, hbi, hkp⟩ := hfa.ex
    refine PySem.W.callWith_K (h₀ := X.base) I1.ok.mod.kin hkp (thn (ha.run pos pins s1 σ H1 (fun vs H2 => spM X.K X.mg ps.length m vs H2 Q G.E) I1 ⟨ρ, F1, S1, (PostR.bind (rel := DvsR G) P1).imp fun d x F2 H2 e2 g2 q2 ⟨F2', d', e2', g2', q2', P2⟩ => ?_⟩) fun us s2 ⟨vs, H2, I2, r2, q2⟩ => ⟨I2.kIn, ?_⟩) he hpl
    · split at P2
      · rename_i hdl
        rw [hK, hmg]
        exact ⟨F2', d', g2'.s, q2', by rw [hl]; exact hdl, P2⟩
      · exact P2.elim
    · exact run_fn (dvs := []) (ds := []) Fm (hr.mono hkj) hbi .nil hx I2 r2 (by rw [List.append_nil]; exact q2)
end
theorem Df.fnAt {P : Program} {w : World} {K : PySem.W.Frag} {mg : Str → Option Value} {base : Heap} {k j : Nat} {x : Str} {ps : List Str} {m : List D → R D} (h : Df P w K mg base k x ps m) (hk : k ≤ j) : ∃ f, mg x = some (.ref f) ∧ FnAt P w K mg base j ps.length f m := by
  obtain ⟨f, fd, F, B, g, kp⟩ := h.ex
  exact ⟨f, g, fd, ps, F.mono hk, rfl, B, kp⟩

theorem kit_self {K : PySem.W.Frag} {a : Addr} : PySem.W.kitOne K (.ref a) (.ref a) = some true := by
  unfold PySem.W.kitOne
  rw [if_pos (by simp)]
theorem kit_other {K : PySem.W.Frag} {a b : Addr} (h0 : PySem.W.subIn K (.ref b) (.ref b) = some true) (h1 : PySem.W.subIn K (.ref a) (.ref b) = some false) (ht : PySem.W.typeIn K (.ref b) = some (.type "type")) (hd : PySem.W.hasDictIn K b = true) : PySem.W.kitOne K (.ref a) (.ref b) = some false := by
  have hne : a ≠ b := fun e => by rw [e, h0] at h1; cases h1
  unfold PySem.W.kitOne PySem.W.kitCls
  rw [if_neg (by simpa using hne)]
  have hc : (PySem.W.clsIn K b).isSome = true := by
    unfold PySem.W.hasDictIn at hd
    cases e : PySem.W.clsIn K b with
    | none => rw [e] at hd; cases hd
    | some c => rfl
  dsimp only
  rw [hc, ht, if_pos (by rfl)]
  exact h1
/-! ### try: .. except Base as e: return [isinstance(e, C1), ..].index(True) -/
structure TryT (K : PySem.W.Frag) (mg : Str → Option Value) (B : Str) (cs : List Str) : Prop where
  ex : ∃ CB, mg B = some (.ref CB) ∧ ∀ c, c ∈ cs → ∃ C, mg c = some (.ref C) ∧ ExcC K C ∧ PySem.W.exmOne K (.ref C) (.ref CB) = some true ∧ ∀ c', c' ∈ cs → ∃ C', mg c' = some (.ref C') ∧ PySem.W.kitOne K (.ref C) (.ref C') = some (decide (c' = c))
/-- what the tests are worth for the exception of the class c, held in the slot i -/
def taI (K : PySem.W.Frag) (mg : Str → Option Value) (D a : Addr) (i : Nat) (c : Str) (cs : List Str) : TA := fun σ H Q => σ[i]? = some (some (.ref a)) ∧ (∀ c', c' ∈ cs → ∃ C', mg c' = some (.ref C') ∧ PySem.W.kitOne K (.ref D) (.ref C') = some (decide (c' = c))) ∧ Q (cs.map fun c' => .bl (decide (c' = c))) H
section
variable {Y : Cx} {K : PySem.W.Frag} {mg : Str → Option Value} {D a : Addr} {i : Nat} {c : Str} {cs : List Str} {es : List Expr}
theorem pi_nil : PA Y [] (taI K mg D a i c []) := weakA pa_nil fun σ H Q ⟨_, _, q⟩ => q
theorem pi_cons {X : Cx} {oe : Obj} {pn : List (Addr × Obj)} {x c1 : Str} {p p2 p3 cpos : Pos} (C : ExcC X.K D) (hz : Zc (.ref D) none oe) (hf : ∃ vs, oe.data = .fields vs) (hi : X.mg "isinstance" = none) (h : PA (X.suite a ((a, oe) :: pn)) es (taI X.K X.mg D a i c cs)) (hcm : ∃ C1, X.mg c1 = some (.ref C1))
    (hN : X.N[i]? = some x := by rfl) (hv : Vis X.env.scope x := by first | exact Or.inl rfl | exact Or.inr (Or.inl rfl)) (hd : (x == ("__debug__" : Str)) = false := by decide) (hcd : (x == ("__classdict__" : Str)) = false := by decide) (hg : Gl X "isinstance" := by rfl) (hg1 : Gl X c1 := by rfl) (hd1 : (c1 == ("__debug__" : Str)) = false := by decide)
    (hs : starEach (.Call (.Name "isinstance" p) [.Name x p2, .Name c1 p3] [] cpos :: es) (X.suite a ((a, oe) :: pn)).env = (false, eval (.Call (.Name "isinstance" p) [.Name x p2, .Name c1 p3] [] cpos) (X.suite a ((a, oe) :: pn)).env) :: starEach es (X.suite a ((a, oe) :: pn)).env := by rfl) :
    PA (X.suite a ((a, oe) :: pn)) (.Call (.Name "isinstance" p) [.Name x p2, .Name c1 p3] [] cpos :: es) (taI X.K X.mg D a i c (c1 :: cs)) := by
  obtain ⟨C1, hC1⟩ := hcm
  refine weakA (pa_cons (pe_callB (call_isE C hz hf) hg hi (by decide +kernel) (pa_cons (pe_var (i := i) hN hv hd hcd) (pa_cons (pe_glob (v := .ref C1) hg1 hC1 rfl hd1) pa_nil))) h hs) fun σ H Q ⟨h1, h2, q⟩ => ?_
  obtain ⟨C1', e1, e2⟩ := h2 c1 List.mem_cons_self
  rw [hC1] at e1
  cases e1
  exact ⟨.ref a, h1, .ref C1, .ref C1, decide (c1 = c), rfl, fun u r => r, e2, h1, fun c' hc' => h2 c' (List.mem_cons_of_mem _ hc'), q⟩
end
theorem idx_of {cs : List Str} {c : Str} (h : c ∈ cs) : ∃ j, (cs.map fun c' => V.bl (decide (c' = c)))[j]? = some (.bl true) ∧ (∀ (m : Nat) (z : V), m < j → (cs.map fun c' => V.bl (decide (c' = c)))[m]? = some z → eqV z (.bl true) = false) ∧ cs.findIdx (fun c' => decide (c' = c)) = j := by
  induction cs with
  | nil => cases h
  | cons d cs ih =>
    by_cases hd : d = c
    · refine ⟨0, by simp [hd], fun m z hm => absurd hm (Nat.not_lt_zero m), by simp [List.findIdx_cons, hd]⟩
    · have hc : c ∈ cs := (List.mem_cons.mp h).elim (fun z => absurd z.symm hd) id
      obtain ⟨j, h1, h2, h3⟩ := ih hc
      refine ⟨j + 1, by simpa using h1, fun m z hm e => ?_, by simp [List.findIdx_cons, hd, h3]⟩
      cases m with
      | zero =>
        have e : some (V.bl (decide (d = c))) = some z := e
        cases e
        simp [hd, eqV]
      | succ m => exact h2 m z (by omega) (by simpa using e)
theorem all_bl (cs : List Str) (f : Str → Bool) : (cs.map fun c' => V.bl (f c')).all flatV = true := by
  induction cs with
  | nil => rfl
  | cons d cs ih => rw [List.map_cons, List.all_cons, ih]; rfl
def sTry (cs : List Str) (mb : Env → RS) : Env → RS := fun ρ => match mb ρ with
  | .exc c => if c ∈ cs then .ret (.int ((cs.findIdx fun c' => decide (c' = c)) : Nat)) else .bad
  | r => r
section
variable {X : Cx} {G : Gm} {B x : Str} {i : Nat} {cs : List Str} {body : List Stmt} {mb : Env → RS} {elts : List Expr} {lp ap kp cp rp np pos' pos : Pos} {j0 : Nat}
theorem ms_try (T : TryT X.K X.mg B cs) (hN : X.N.Nodup) (tk : Takes X fun _ _ _ _ => False)
    (hb : ∀ (W : WX) (pn : List (Addr × Obj)) (xe : Value → Shared → Prop), Passes (L2.CX X.prog X.w) (X.tr pn xe) (fun cls d H => ∀ σ, σ.length = X.N.length → W cls d σ H) → PassesOwn (model X.prog X.w) X.A X.env xe → MSs (X.tr pn xe) ⟨G.K, G.mg, fun cls d H => ∀ σ, σ.length = X.N.length → W cls d σ H⟩ body mb)
    (hel : ∀ (a : Addr) (oe : Obj) (pn : List (Addr × Obj)) (D : Addr) (c : Str), ExcC X.K D → Zc (.ref D) none oe → (∃ vs, oe.data = .fields vs) → PA (X.suite a ((a, oe) :: pn)) elts (taI X.K X.mg D a i c cs))
    (hi : X.N[i]? = some x := by rfl) (hil : i < X.N.length := by first | decide | exact Nat.le_of_ble_eq_true rfl) (hcl : cs.length ≤ 1000 := by first | decide | exact Nat.le_of_ble_eq_true rfl) (hln : X.env.kindOf x = some .local := by rfl) (hs : X.stack = X.env :: X.outer := by rfl) (hf : X.env.frame = some X.env.locals := by rfl) (hg : Gl X B := by rfl) (hdb : (B == ("__debug__" : Str)) = false := by decide)
    (hmg : X.mg = G.mg := by rfl)
    (hbase : attributeBase (.List elts lp) "index" X.env (eval (.List elts lp) X.env) = eval (.List elts lp) X.env := by rfl)
    (hfew : ((backTo cp (starEach [.Constant (.bool true) j0 kp] X.env)).all (fun x => !x.1) && (backToKw cp (keywordEach [] X.env)).all (fun x => x.1.isSome)
      && decide ([Expr.Constant (.bool true) j0 kp].length + ([] : List Keyword).length + (if ([] : List Keyword).isEmpty then 0 else 1) < 30)) = true := by rfl)
    (hline : (ap.endLine == cp.line) = true := by rfl) (hst : starEach [.Constant (.bool true) j0 kp] X.env = (false, eval (.Constant (.bool true) j0 kp) X.env) :: starEach [] X.env := by rfl) (hpl : (backTo cp (starEach [] X.env)).any (·.1) = false := by rfl) :
    MS X G (.Try body [.ExceptHandler (some (.Name B np)) (some x) [.Return (some (.Call (.Attribute (.List elts lp) "index" ap) [.Constant (.bool true) j0 kp] [] cp)) rp] pos'] [] [] pos) (sTry cs mb) := by
  obtain ⟨CB, gB, hT⟩ := T.ex
  refine weakS (ps_try_as (i := i) (ts := fun a cls d => fun Dd σ H => ∃ c, c ∈ cs ∧ ∃ C, cls = .ref C ∧ d = none ∧ ExcC X.K C ∧ tRet (tBM X.K "list" (rIndex X.K) (tLst (taI X.K X.mg C a i c cs)) (tCons (tC (.bl true)) tNil)) Dd σ H)
    (tb := fun W => tsOf ⟨G.K, G.mg, fun cls d H => ∀ σ, σ.length = X.N.length → W cls d σ H⟩ mb) hs hf hN hi hln ⟨hg, hdb, .inl gB⟩ tk (fun W pn xe tkW hpo => ?_) (fun a oe cls d pn hz hfl => ?_)) fun Dd σ H ⟨ρ, F, F0, H0, S, P⟩ => ?_
  · exact hb W pn xe (fun pins σ H s e s' I c => tkW e s' (XE.of_call I (fun cls d H' h => h σ I.len) c)) hpo
  · refine ⟨fun pins s σ H Dd I ⟨c, hc, C, ec, ed, exc, q⟩ => ?_⟩
    subst ec ed
    exact (pss_one (ps_ret (pe_bm PySem.F.plainAttrs_list PySem.F.slot_list_index PySem.F.type_list_index mt_index (pe_lst (hel a oe pn C c exc hz hfl)) (pa_cons pe_bl pa_nil hst) hbase hfew hline hst hpl))).run pins s σ H Dd I q
  · refine ⟨ρ, F, F0, H0, ⟨S.sl, S.gr, S.nw⟩, ?_⟩
    unfold sTry at P
    cases e : mb ρ with
    | nx ρ' => rw [e] at P; exact P
    | brk ρ' => rw [e] at P; exact P
    | ct ρ' => rw [e] at P; exact P
    | ret d => rw [e] at P; exact P
    | bad => rw [e] at P; exact P
    | exc c =>
      rw [e] at P
      have P : PostS G F0 H0 F Dd (if c ∈ cs then .ret (.int ((cs.findIdx fun c' => decide (c' = c)) : Nat)) else .bad) := P
      intro C F' H' gC g
      by_cases hc : c ∈ cs
      · rw [if_pos hc] at P
        intro σ' hl
        obtain ⟨C', gC', exc, ex1, hk⟩ := hT c hc
        have eC : C' = C := by
          have z : X.mg c = some (.ref C) := by rw [hmg]; exact gC
          rw [gC'] at z
          cases z
          rfl
        subst eC
        refine ⟨true, ex1, fun _ a na => ⟨c, hc, C', rfl, rfl, exc, ?_⟩, fun z => nomatch z⟩
        obtain ⟨j, h1, h2, h3⟩ := idx_of hc
        refine ⟨by rw [List.getElem?_set_self (by rw [hl]; exact hil)], hk, by rw [List.length_map, sizeLine_eq]; omega, fun p hp => ⟨.inl ⟨rfl, _, SqL.of upd_same⟩, p, _, .bl true, j, .bl true, rfl, rfl, SqL.of upd_same, rfl, all_bl cs _, h1, rfl, h2, ?_⟩⟩
        rw [h3] at P
        exact P _ F' _ (g.trans (Grow.own g.s hp)) (.int _)
      · rw [if_neg hc] at P
        exact P.elim
end
end Mir
namespace Mir
open PySem PySem.Spec PyProof.Rows L2

/-! ### sum of ints and bools -/
def numD : D → Option Int
  | .int i => some i
  | .bl b => some (if b = true then 1 else 0)
  | _ => none
def numsD : List D → Option (List Int)
  | [] => some []
  | d :: ds => match numD d, numsD ds with
    | some n, some ns => some (n :: ns)
    | _, _ => none
def NumV (x : V) (n : Int) : Prop := x = .int n ∨ ∃ b : Bool, x = .bl b ∧ n = if b = true then 1 else 0
theorem nums_v {K : PySem.W.Frag} {F : Hp} : ∀ {ds : List D} {vs : List V} {ns : List Int}, DvAll K F vs ds → numsD ds = some ns → Paired NumV vs ns
  | [], _, _, h, e => by cases h; cases e; exact .nil
  | d :: ds, _, ns, h, e => by
    cases h with
    | cons h r =>
      unfold numsD at e
      cases q : numD d with
      | none => rw [q] at e; cases e
      | some n =>
        cases q2 : numsD ds with
        | none => rw [q, q2] at e; cases e
        | some ns2 =>
          rw [q, q2] at e
          cases e
          refine .cons ?_ (nums_v r q2)
          cases h with
          | int i => cases q; exact .inl rfl
          | bl b => cases q; exact .inr ⟨b, rfl, rfl⟩
          | _ => cases q
theorem pre_sum (ns : List Int) : ∀ k, k ≤ ns.length → preSum (fun i => ns.getD i 0) k = (ns.take k).sum
  | 0, _ => by rw [List.take_zero]; rfl
  | k + 1, h => by
    have e : ns[k]? = some (ns.getD k 0) := by
      rw [List.getD_eq_getElem?_getD, List.getElem?_eq_getElem (by omega)]
      rfl
    rw [sum_take e, ← pre_sum ns k (by omega)]
    rfl
def rSumN (K : PySem.W.Frag) : List V → Hp → VK → Prop := fun vs H Q => ∃ (a : Addr) (xs : List V) (ns : List Int), vs = [V.ref a] ∧ SqL K H a xs ∧ Paired NumV xs ns ∧ Q (.int ns.sum) H
section
variable {X : Cx} {G : Gm} {e : Expr} {pos p : Pos}
theorem cr_sumN (hc : X.calm = true) : CallR X (.builtin "sum") (rSumN X.K) := by
  intro pins s σ H vs us Q I r h
  obtain ⟨a, xs, ns, rfl, hs, hn, q⟩ := h
  obtain ⟨its, rv, hl, _⟩ := I.list hs
  rw [Vals.ref1 r]
  have hlt : a < s.heap.objs.size := by obtain ⟨o, ho, _⟩ := hl.isList; exact Heap.lt_size ho
  have hlen := rv.length
  have hln := Paired.length hn
  refine call_sum_walkAnyB (wpAny_pyIter_list hl.isList ?_)
  refine ⟨s.heap.objs.size, _, _, _, its.toArray.size, _, _, fun i => ns.getD i 0, rfl, (Walks.list (A := X.A.in1) (I.ok.hd hc) s.heap.objs.size a (Nat.ne_of_lt hlt) its.toArray).toS, ⟨⟨_, Heap.get?_push_size _ rfl, rfl, rfl⟩, hl.isList.push _⟩, fun b hb => ?_, fun i v hv => ?_, fun s' t' hm => ?_⟩
  · show b < (s.heap.push _).objs.size
    rw [Heap.size_push]
    rcases List.mem_cons.mp hb with z | z
    · rw [z]; exact Nat.lt_succ_self _
    · rw [List.mem_singleton.mp z]; exact Nat.lt_succ_of_lt hlt
  · have hv : its[i]? = some v := by simpa using hv
    have hi : i < xs.length := by rw [hlen]; exact (List.getElem?_eq_some_iff.mp hv).1
    obtain ⟨u, hu, ru⟩ := rv.get (List.getElem?_eq_getElem hi)
    rw [hv] at hu
    cases hu
    obtain ⟨n, e1, e2⟩ := paired_get hn (List.getElem?_eq_getElem hi)
    have e3 : ns.getD i 0 = n := by rw [List.getD_eq_getElem?_getD, e1]; rfl
    show NumOf (ns.getD i 0) v
    rw [e3]
    rcases e2 with e2 | ⟨b, e2, e4⟩
    · rw [e2] at ru
      obtain ⟨t, rfl⟩ := ru
      exact .inl ⟨t, rfl⟩
    · rw [e2] at ru
      cases (show v = Value.bool b from ru)
      exact .inr ⟨b, rfl, e4⟩
  · rw [Moved.eq_with hm]
    rw [pre_sum ns _ (by rw [List.size_toArray]; omega), List.take_of_length_le (by rw [List.size_toArray]; omega)]
    refine ⟨.int ns.sum, H, I.kept (t' := s'.toks) fun b o e => hm.heap b o (fun z => ?_) (Heap.get?_push_of_some _ e), ⟨t', rfl⟩, q⟩
    have h1 := Heap.lt_size e
    rw [List.mem_singleton.mp z] at h1
    exact absurd h1 (Nat.lt_irrefl _)
def sumF : List D → R D
  | [.lst ds] => ofO (numsD ds) fun ns => .ok (.int ns.sum)
  | _ => .bad
theorem cm_sum : CallM G (rSumN G.K) sumF := by
  intro F H vs ds Q s h P
  unfold sumF at P
  split at P
  · rename_i es
    obtain ⟨v, rfl, q⟩ := one_of h
    cases q with
    | lst e r =>
      cases z : numsD es with
      | none => rw [z] at P; exact P.elim
      | some ns =>
        rw [z] at P
        exact ⟨_, _, ns, rfl, SqL.of (s _ _ e), nums_v r z, postD P s (.int _)⟩
  · exact P.elim
theorem me_sum {m : Env → R (List D)} (ha : MA X G [e] m) (hx : X.mg "sum" = none) (hK : X.K = G.K := by rfl) (hc : X.calm = true := by rfl) (hg : Gl X "sum" := by rfl) (he : starEach [e] X.env = (false, eval e X.env) :: starEach [] X.env := by rfl) (hpl : (backTo pos (starEach [] X.env)).any (·.1) = false := by rfl) :
    ME X G (.Call (.Name "sum" p) [e] [] pos) (mCall sumF m) := me_callB (cr_sumN hc) (by rw [hK]; exact cm_sum) ha hx (by decide +kernel) hg (by decide) (by decide) he hpl
end
end Mir
/-! reckoning with mirrors: equations for simp -/
namespace Mir
open PySem PySem.Spec PyProof.Rows L2
section
variable {α β : Type}
@[simp] theorem R_bind_ok (a : α) (f : α → R β) : (R.ok a).bind f = f a := rfl
@[simp] theorem R_bind_exc (c : Str) (f : α → R β) : (R.exc c : R α).bind f = .exc c := rfl
@[simp] theorem R_bind_bad (f : α → R β) : (R.bad : R α).bind f = .bad := rfl
@[simp] theorem R_bind_ite {c : Prop} [Decidable c] (x y : R α) (f : α → R β) : (if c then x else y).bind f = if c then x.bind f else y.bind f := by split <;> rfl
@[simp] theorem R_to_ok (a : α) (f : α → RS) : (R.ok a).to f = f a := rfl
@[simp] theorem R_to_exc (c : Str) (f : α → RS) : (R.exc c : R α).to f = .exc c := rfl
@[simp] theorem R_to_bad (f : α → RS) : (R.bad : R α).to f = .bad := rfl
@[simp] theorem R_to_ite {c : Prop} [Decidable c] (x y : R α) (f : α → RS) : (if c then x else y).to f = if c then x.to f else y.to f := by split <;> rfl
@[simp] theorem nx_ok' (a : α) : nx (R.ok a) = .ok a := rfl
@[simp] theorem ofO_some (a : α) (f : α → R β) : ofO (some a) f = f a := rfl
@[simp] theorem ofO_none (f : α → R β) : ofO (none : Option α) f = .bad := rfl
end
def slotD : Option Slot → R D
  | some (.fz d) => .ok d
  | _ => .bad
@[simp] theorem slotD_fz (d : D) : slotD (some (.fz d)) = .ok d := rfl
section
variable (ρ : Env) (a b c : Env → R D) (t u : Env → R Bool) (m r : Env → R (List D)) (s v : Env → RS)
@[simp] theorem mVar_eq (i : Nat) : mVar i ρ = slotD ρ[i]? := by unfold mVar slotD; rfl
@[simp] theorem mC_eq (d : D) : mC d ρ = .ok d := rfl
@[simp] theorem mB_eq (f : D → D → R D) : mB f a b ρ = (a ρ).bind fun x => (b ρ).bind fun y => f x y := rfl
@[simp] theorem mU_eq (f : D → R D) : mU f a ρ = (a ρ).bind f := rfl
@[simp] theorem mUT_eq (f : D → R Bool) : mUT f a ρ = (a ρ).bind f := rfl
@[simp] theorem mBT_eq (f : D → D → R Bool) : mBT f a b ρ = (a ρ).bind fun x => (b ρ).bind fun y => f x y := rfl
@[simp] theorem mNil_eq : mNil ρ = .ok [] := rfl
@[simp] theorem mCons_eq : mCons a m ρ = (a ρ).bind fun x => (m ρ).bind fun xs => .ok (x :: xs) := rfl
@[simp] theorem mTest_eq : mTest a ρ = (a ρ).bind blOf := rfl
@[simp] theorem mAnd_eq : mAnd t u ρ = (t ρ).bind fun x => if x = true then u ρ else .ok false := rfl
@[simp] theorem mOr_eq : mOr t u ρ = (t ρ).bind fun x => if x = true then .ok true else u ρ := rfl
@[simp] theorem mNot_eq : mNot t ρ = (t ρ).bind fun x => .ok (!x) := rfl
@[simp] theorem mIf_eq : mIf t a b ρ = (t ρ).bind fun x => if x = true then a ρ else b ρ := rfl
@[simp] theorem mAndV_eq : mAndV a b ρ = (a ρ).bind fun x => (blOf x).bind fun k => if k = true then b ρ else .ok (.bl false) := rfl
@[simp] theorem mOrV_eq : mOrV a b ρ = (a ρ).bind fun x => (blOf x).bind fun k => if k = true then .ok (.bl true) else b ρ := rfl
@[simp] theorem mNotV_eq : mNotV a ρ = (a ρ).bind fun x => (blOf x).bind fun k => .ok (.bl (!k)) := rfl
@[simp] theorem mTup_eq : mTup m ρ = (m ρ).bind fun ds => if ds.length ≤ sizeLine then .ok (.tup ds) else .bad := rfl
@[simp] theorem mLst_eq : mLst m ρ = (m ρ).bind fun ds => if ds.length ≤ sizeLine then .ok ds else .bad := rfl
@[simp] theorem mFz_eq : mFz m ρ = (m ρ).bind fun ds => .ok (.lst ds) := rfl
@[simp] theorem mCall_eq (f : List D → R D) : mCall f m ρ = (m ρ).bind f := rfl
@[simp] theorem mFn_eq (n : Nat) (f : List D → R D) : mFn n f m ρ = (m ρ).bind fun ds => if ds.length = n then f ds else .bad := rfl
@[simp] theorem mCh_eq (f g : D → D → R D) : mCh f g a b c ρ = (a ρ).bind fun x => (b ρ).bind fun y => (f x y).bind fun k => (blOf k).bind fun k => if k = true then (c ρ).bind fun z => g y z else .ok (.bl false) := rfl
@[simp] theorem mSl_eq (lo hi : Env → R (Option Int)) : mSl a lo hi ρ = (a ρ).bind fun x => (lo ρ).bind fun l => (hi ρ).bind fun h => slD x l h := rfl
@[simp] theorem mNo_eq : mNo ρ = .ok none := rfl
def intO : D → R (Option Int)
  | .int i => .ok (some i)
  | _ => .bad
@[simp] theorem intO_int (i : Int) : intO (.int i) = .ok (some i) := rfl
@[simp] theorem mSome_eq : mSome a ρ = (a ρ).bind intO := by unfold mSome intO; rfl
@[simp] theorem mSeq_eq (f : D → R (List D)) : mSeq f a ρ = (a ρ).bind f := rfl
@[simp] theorem mSeqs_eq (f : List D → R (List D)) : mSeqs f m ρ = (m ρ).bind f := rfl
@[simp] theorem mPeekT_eq : mPeekT t ρ = t (ρ.map Slot.peek) := rfl
@[simp] theorem peek_fz (d : D) : Slot.peek (.fz d) = .fz d := rfl
@[simp] theorem peek_un : Slot.peek .un = .un := rfl
@[simp] theorem peek_ol (ds : List D) : Slot.peek (.ol ds) = .fz (.lst ds) := rfl
@[simp] theorem blOf_bl (k : Bool) : blOf (.bl k) = .ok k := rfl
@[simp] theorem truth_bl (k : Bool) : truth (.bl k) = .ok k := rfl
@[simp] theorem truth_lst (ds : List D) : truth (.lst ds) = .ok (!ds.isEmpty) := rfl
@[simp] theorem truth_tup (ds : List D) : truth (.tup ds) = .ok (!ds.isEmpty) := rfl
@[simp] theorem mLc_eq (vs : List Nat) (mt : TgF) : mLc vs m mt t a ρ = (m ρ).bind fun ds => if ds.length ≤ 1000000 then nx (lcGo mt t a (wipeE ρ vs) ds) else .bad := rfl
def seqR : RS → (Env → RS) → RS
  | .nx ρ, b => b ρ
  | r, _ => r
@[simp] theorem seqR_nx (b : Env → RS) : seqR (.nx ρ) b = b ρ := rfl
@[simp] theorem seqR_ret (d : D) (b : Env → RS) : seqR (.ret d) b = .ret d := rfl
@[simp] theorem seqR_exc (x : Str) (b : Env → RS) : seqR (.exc x) b = .exc x := rfl
@[simp] theorem seqR_bad (b : Env → RS) : seqR .bad b = .bad := rfl
@[simp] theorem seqR_brk (b : Env → RS) : seqR (.brk ρ) b = .brk ρ := rfl
@[simp] theorem seqR_ct (b : Env → RS) : seqR (.ct ρ) b = .ct ρ := rfl
@[simp] theorem seqR_ite {p : Prop} [Decidable p] (x y : RS) (b : Env → RS) : seqR (if p then x else y) b = if p then seqR x b else seqR y b := by split <;> rfl
@[simp] theorem sSeq_eq : sSeq s v ρ = seqR (s ρ) v := by
  unfold sSeq
  cases s ρ <;> rfl
@[simp] theorem sSkip_eq : sSkip ρ = .nx ρ := rfl
@[simp] theorem sSet_eq (i : Nat) : sSet i a ρ = (a ρ).to fun d => .nx (ρ.set i (.fz d)) := rfl
@[simp] theorem sSetO_eq (i : Nat) : sSetO i m ρ = (m ρ).to fun ds => .nx (ρ.set i (.ol ds)) := rfl
@[simp] theorem sRet_eq : sRet a ρ = (a ρ).to .ret := rfl
@[simp] theorem sDrop_eq : sDrop a ρ = (a ρ).to fun _ => .nx ρ := rfl
@[simp] theorem sIf_eq : sIf t s v ρ = (t ρ).to fun k => if k = true then s ρ else v ρ := rfl
@[simp] theorem sUnp_eq (mt : TgF) : sUnp mt a ρ = (a ρ).to fun d => (nx (mt d ρ)).to .nx := rfl
@[simp] theorem sFor_eq (mt : TgF) : sFor m mt s ρ = (m ρ).to fun ds => forGo mt s ds ρ := rfl
@[simp] theorem sWhile_eq (n : Env → Nat) : sWhile n t s ρ = whGo t s (n ρ) ρ := rfl
def parS (i j : Nat) (ρ : Env) : List D → RS
  | [d, e] => .nx ((ρ.set i (.fz d)).set j (.fz e))
  | _ => .bad
@[simp] theorem parS_two (i j : Nat) (d e : D) : parS i j ρ [d, e] = .nx ((ρ.set i (.fz d)).set j (.fz e)) := rfl
@[simp] theorem sPar_eq (i j : Nat) : sPar i j m ρ = (m ρ).to (parS i j ρ) := by
  unfold sPar parS
  rfl
end
def outR : RS → R D
  | .nx _ => .ok .non
  | .ret d => .ok d
  | .exc c => .exc c
  | _ => .bad
@[simp] theorem outR_nx (ρ : Env) : outR (.nx ρ) = .ok .non := rfl
@[simp] theorem outR_ret (d : D) : outR (.ret d) = .ok d := rfl
@[simp] theorem outR_exc (c : Str) : outR (.exc c) = .exc c := rfl
@[simp] theorem outR_bad : outR .bad = .bad := rfl
@[simp] theorem outR_ite {p : Prop} [Decidable p] (x y : RS) : outR (if p then x else y) = if p then outR x else outR y := by split <;> rfl
theorem runD_eq (n : Nat) (m : Env → RS) (ds : List D) : runD n m ds = outR (m (Mir.envOf n ds)) := by
  unfold runD outR
  cases m (Mir.envOf n ds) <;> rfl
@[simp] theorem addD_int (i j : Int) : addD (.int i) (.int j) = .ok (.int (i + j)) := rfl
@[simp] theorem subD_int (i j : Int) : subD (.int i) (.int j) = .ok (.int (i - j)) := rfl
@[simp] theorem mulD_int (i j : Int) : mulD (.int i) (.int j) = if (-(2 ^ 64) < i ∧ i < 2 ^ 64) ∨ (-(2 ^ 64) < j ∧ j < 2 ^ 64) then .ok (.int (i * j)) else .bad := rfl
@[simp] theorem fdivD_int (i j : Int) : fdivD (.int i) (.int j) = if 0 < j ∧ j < 2 ^ 64 then .ok (.int (i / j)) else .bad := rfl
@[simp] theorem modD_int (i j : Int) : modD (.int i) (.int j) = if 0 < j then .ok (.int (i % j)) else .bad := rfl
@[simp] theorem powD_int (i j : Int) : powD (.int i) (.int j) = if 0 ≤ j ∧ j ≤ 64 ∧ -(2 ^ 63) ≤ i ∧ i ≤ 2 ^ 63 then .ok (.int (i ^ j.toNat)) else .bad := rfl
@[simp] theorem addD_str (s t : Str) : addD (.str s) (.str t) = if s.length + t.length ≤ sizeLine then .ok (.str (s ++ t)) else .bad := rfl
@[simp] theorem addD_lst (s t : List D) : addD (.lst s) (.lst t) = if s.length + t.length ≤ sizeLine then .ok (.lst (s ++ t)) else .bad := rfl
@[simp] theorem negD_int (i : Int) : negD (.int i) = .ok (.int (-i)) := rfl
@[simp] theorem intF_int (i : Int) : intF [.int i] = .ok (.int i) := rfl
@[simp] theorem lenF_lst (ds : List D) : lenF [.lst ds] = .ok (.int ds.length) := rfl
@[simp] theorem lenF_rol (ds : List D) : lenF [.rol ds] = .ok (.int ds.length) := rfl
@[simp] theorem lenF_tup (ds : List D) : lenF [.tup ds] = .ok (.int ds.length) := rfl
@[simp] theorem lenF_str (z : Str) : lenF [.str z] = if z.length ≤ sizeLine then .ok (.int z.length) else .bad := rfl
@[simp] theorem cmp_lt (i j : Int) : cmpF .Lt (.int i) (.int j) = .ok (.bl (decide (i < j))) := rfl
@[simp] theorem cmp_le (i j : Int) : cmpF .LtE (.int i) (.int j) = .ok (.bl (decide (i ≤ j))) := rfl
@[simp] theorem cmp_gt (i j : Int) : cmpF .Gt (.int i) (.int j) = .ok (.bl (decide (j < i))) := rfl
@[simp] theorem cmp_ge (i j : Int) : cmpF .GtE (.int i) (.int j) = .ok (.bl (decide (j ≤ i))) := rfl
@[simp] theorem ixD_lst (ds : List D) (k : Int) : ixD (.lst ds) (.int k) = ofO (atI ds k) .ok := rfl
@[simp] theorem ixD_rol (ds : List D) (k : Int) : ixD (.rol ds) (.int k) = ofO (atI ds k) .ok := rfl
@[simp] theorem ixD_tup (ds : List D) (k : Int) : ixD (.tup ds) (.int k) = ofO (atI ds k) .ok := rfl
@[simp] theorem ixD_str (z : Str) (k : Int) : ixD (.str z) (.int k) = if z.length ≤ sizeLine then ofO (atI z.cps.toList k) fun c => .ok (.str ⟨#[c]⟩) else .bad := rfl
@[simp] theorem tupF_lst (ds : List D) : tupF [.lst ds] = .ok (.tup ds) := rfl
@[simp] theorem tgName_eq (i : Nat) (d : D) (ρ : Env) : tgName i d ρ = .ok (ρ.set i (.fz d)) := rfl
@[simp] theorem rng1_eq (n : Int) : rng1 [.int n] = if -(2 ^ 62) ≤ n ∧ n < 2 ^ 62 then .ok (rangeD 0 n.toNat) else .bad := rfl
theorem at_lt {α : Type} (xs : List α) {k : Int} (h0 : 0 ≤ k) (h1 : k < xs.length) : ∃ h : k.toNat < xs.length, atI xs k = some xs[k.toNat] := by
  have h : k.toNat < xs.length := by omega
  refine ⟨h, ?_⟩
  unfold atI ixN
  rw [if_pos h0, if_pos h1]
  exact List.getElem?_eq_getElem h
theorem line_le {n : Nat} (h : n ≤ 16777216) : n ≤ sizeLine := by rw [sizeLine_eq]; exact h
/-! shapes -/
theorem shp_ints (ns : List Int) : PyData.canLayAll0 (toPyAll (ns.map D.int)) = true := by
  induction ns with
  | nil => rfl
  | cons n ns ih => rw [List.map_cons, toPyAll, PyData.canLayAll0, ih]; rfl
theorem depth_ints (ns : List Int) : PyData.depthAll (toPyAll (ns.map D.int)) = 0 := by
  induction ns with
  | nil => rfl
  | cons n ns ih => rw [List.map_cons, toPyAll, PyData.depthAll, ih]; rfl
theorem shp_rol (ns : List Int) : shp (.rol (ns.map D.int)) = true := by
  unfold shp SeqAt.shaped
  rw [toPy, PyData.canLay0, shp_ints, PyData.depth, depth_ints]
  rfl
end Mir
/-! more equations for simp -/
namespace Mir
open PySem PySem.Spec PyProof.Rows L2
section
variable (x y : D)
@[simp] theorem cmp_eq : cmpF .Eq x y = eqD x y := rfl
@[simp] theorem cmp_ne : cmpF .NotEq x y = neD x y := rfl
@[simp] theorem cmp_in : cmpF .In x y = inD x y := rfl
@[simp] theorem cmp_nin : cmpF .NotIn x y = ninD x y := rfl
@[simp] theorem cmp_is : cmpF .Is x y = isD x y := rfl
@[simp] theorem cmp_isn : cmpF .IsNot x y = isnD x y := rfl
@[simp] theorem isD_non : isD x .non = .ok (.bl (isNon x)) := rfl
@[simp] theorem isnD_non : isnD x .non = .ok (.bl (!isNon x)) := rfl
@[simp] theorem isNon_non : isNon .non = true := rfl
@[simp] theorem isNon_int (i : Int) : isNon (.int i) = false := rfl
@[simp] theorem isNon_tup (ds : List D) : isNon (.tup ds) = false := rfl
end
theorem ne_rol_nil (ns : List Int) : neD (.rol (ns.map D.int)) (.lst []) = .ok (.bl (!ns.isEmpty)) := by
  unfold neD
  rw [if_pos ⟨shp_rol ns, rfl⟩]
  cases ns <;> rfl
/-- a text of the letters '.', 'a', 'b' -/
def txt (w : List Nat) : D := .str ⟨w.toArray⟩
def abc (w : List Nat) : Bool := w.all fun c => c == 46 || c == 97 || c == 98
theorem txt_shp (w : List Nat) (h : abc w = true) : shp (txt w) = true := by
  unfold shp SeqAt.shaped txt
  rw [toPy, PyData.canLay0, PyData.depth]
  simp only [Bool.and_eq_true, decide_eq_true_eq]
  refine ⟨?_, by omega⟩
  unfold PyData.strOk
  simp only [List.all_toArray]
  unfold abc at h
  rw [List.all_eq_true] at h ⊢
  intro c hc
  have := h c hc
  simp only [Bool.or_eq_true, beq_iff_eq] at this
  simp only [decide_eq_true_eq]
  omega
/-! comprehensions -/
theorem lcGo_of {mt : TgF} {tt : Env → R Bool} {me : Env → R D} {ρ : Env} {p : D → Bool} {g : D → D} : ∀ ds : List D, (∀ d ∈ ds, ∃ ρ1, mt d ρ = .ok ρ1 ∧ tt ρ1 = .ok (p d) ∧ (p d = true → me ρ1 = .ok (g d))) → lcGo mt tt me ρ ds = .ok ((ds.filter p).map g)
  | [], _ => rfl
  | d :: ds, h => by
    obtain ⟨ρ1, h1, h2, h3⟩ := h d (.head _)
    have ih := lcGo_of ds fun x hx => h x (.tail _ hx)
    unfold lcGo
    rw [h1, nx_ok', R_bind_ok, h2, nx_ok', R_bind_ok, List.filter_cons]
    cases hp : p d with
    | true => rw [if_pos rfl, if_pos rfl, h3 hp, nx_ok', R_bind_ok, ih]; rfl
    | false => rw [if_neg Bool.false_ne_true, if_neg Bool.false_ne_true]; exact ih
theorem lcGo_all {mt : TgF} {me : Env → R D} {ρ : Env} {g : D → D} (ds : List D) (h : ∀ d ∈ ds, ∃ ρ1, mt d ρ = .ok ρ1 ∧ me ρ1 = .ok (g d)) : lcGo mt mYes me ρ ds = .ok (ds.map g) := by
  have := lcGo_of (mt := mt) (tt := mYes) (me := me) (ρ := ρ) (p := fun _ => true) (g := g) ds fun d hd => by
    obtain ⟨ρ1, h1, h2⟩ := h d hd
    exact ⟨ρ1, h1, rfl, fun _ => h2⟩
  rw [this, List.filter_eq_self.mpr (fun _ _ => rfl)]
/-- elements by a relation -/
theorem lcGo_rel {mt : TgF} {me : Env → R D} {ρ : Env} {r : D → Prop} : ∀ ds : List D, (∀ d ∈ ds, ∃ ρ1 y, mt d ρ = .ok ρ1 ∧ me ρ1 = .ok y ∧ r y) → ∃ ys, lcGo mt mYes me ρ ds = .ok ys ∧ ys.length = ds.length ∧ ∀ y ∈ ys, r y
  | [], _ => ⟨[], rfl, rfl, fun _ h => nomatch h⟩
  | d :: ds, h => by
    obtain ⟨ρ1, y, h1, h2, h3⟩ := h d (.head _)
    obtain ⟨ys, e, l, q⟩ := lcGo_rel ds fun x hx => h x (.tail _ hx)
    refine ⟨y :: ys, ?_, by simp [l], ?_⟩
    · unfold lcGo
      rw [h1, nx_ok', R_bind_ok]
      show (nx (R.ok true)).bind _ = _
      rw [nx_ok', R_bind_ok, if_pos rfl, h2, nx_ok', R_bind_ok, e]
      rfl
    · intro z hz
      rcases List.mem_cons.mp hz with rfl | hz
      · exact h3
      · exact q z hz
/-- a loop that goes through, its state by a relation -/
theorem forGo_nx {mt : TgF} {mb : Env → RS} {I : Env → Prop} : ∀ (ds : List D) (ρ : Env), I ρ → (∀ d ∈ ds, ∀ ρ, I ρ → ∃ ρ1 ρ2, mt d ρ = .ok ρ1 ∧ mb ρ1 = .nx ρ2 ∧ I ρ2) → ∃ ρ', forGo mt mb ds ρ = .nx ρ' ∧ I ρ'
  | [], ρ, h, _ => ⟨ρ, rfl, h⟩
  | d :: ds, ρ, h, hb => by
    obtain ⟨ρ1, ρ2, h1, h2, h3⟩ := hb d (.head _) ρ h
    obtain ⟨ρ', e, q⟩ := forGo_nx ds ρ2 h3 fun x hx => hb x (.tail _ hx)
    refine ⟨ρ', ?_, q⟩
    unfold forGo
    rw [h1, nx_ok', R_to_ok, h2]
    exact e
end Mir
namespace Mir
open PySem PySem.Spec PyProof.Rows L2
def isBl (b : Bool) : R D → Bool
  | .ok (.bl c) => c == b
  | _ => false
theorem of_isBl {b : Bool} {r : R D} (h : isBl b r = true) : r = .ok (.bl b) := by
  unfold isBl at h
  split at h
  · rw [beq_iff_eq.mp h]
  · cases h
end Mir
namespace Mir
open PySem PySem.Spec PyProof.Rows L2
section
variable (ρ : Env) (d e : D) (ds es : List D)
@[simp] theorem tgTup_eq (n : Nat) (m : TgsF) : tgTup n m (.tup ds) ρ = if ds.length = n then m ds ρ else .bad := rfl
@[simp] theorem tgCons_eq (m : TgF) (r : TgsF) : tgCons m r (d :: ds) ρ = (m d ρ).bind fun ρ1 => r ds ρ1 := rfl
@[simp] theorem tgNil_eq : tgNil [] ρ = .ok ρ := rfl
@[simp] theorem anyOf_lst : anyOf (.lst ds) = .ok ds := rfl
@[simp] theorem anyOf_tup : anyOf (.tup ds) = .ok ds := rfl
@[simp] theorem anyOf_str (z : Str) : anyOf (.str z) = .ok (signsD z) := rfl
@[simp] theorem enF_lst : enF [.lst ds] = .ok (enumD ds) := rfl
@[simp] theorem enF_tup : enF [.tup ds] = .ok (enumD ds) := rfl
@[simp] theorem enF_str (z : Str) : enF [.str z] = .ok (enumD (signsD z)) := rfl
@[simp] theorem zipF_lst : zipF [.lst ds, .lst es] = .ok (zipD ds es) := rfl
@[simp] theorem slD_lst (lo hi : Option Int) : slD (.lst ds) lo hi = .ok (.lst (cutD ds lo hi)) := rfl
@[simp] theorem slD_tup (lo hi : Option Int) : slD (.tup ds) lo hi = .ok (.tup (cutD ds lo hi)) := rfl
@[simp] theorem wipe_nil : wipeE ρ [] = ρ := rfl
@[simp] theorem wipe_cons (v : Nat) (vs : List Nat) : wipeE ρ (v :: vs) = (wipeE ρ vs).set v .un := rfl
@[simp] theorem mJoin_eq (o a : Env → R D) (z : Str) : mJoin (mC (.str z)) a ρ = (a ρ).bind fun y => joinD (.str z) y := rfl
@[simp] theorem rng2_eq (i j : Int) : rng2 [.int i, .int j] = if -(2 ^ 62) ≤ i ∧ i < 2 ^ 62 ∧ -(2 ^ 62) ≤ j ∧ j < 2 ^ 62 then .ok (rangeD i (j - i).toNat) else .bad := rfl
@[simp] theorem range_len (i : Int) (n : Nat) : (rangeD i n).length = n := by unfold rangeD; rw [List.length_map, List.length_range]
theorem range_mem {i : Int} {n : Nat} {d : D} (h : d ∈ rangeD i n) : ∃ j : Nat, j < n ∧ d = .int (i + j) := by
  unfold rangeD at h
  obtain ⟨j, hj, e⟩ := List.mem_map.mp h
  exact ⟨j, List.mem_range.mp hj, e.symm⟩
end
theorem signs_txt (w : List Nat) : signsD ⟨w.toArray⟩ = w.map fun c => txt [c] := by
  unfold signsD txt
  rfl
theorem glued_one : ∀ (w : List Nat), Str.join ⟨#[]⟩ (w.map fun c => (⟨#[c]⟩ : Str)) = ⟨w.toArray⟩
  | [] => rfl
  | [c] => rfl
  | c :: d :: w => by
    have ih := glued_one (d :: w)
    show ((⟨#[c]⟩ : Str) ++ ⟨#[]⟩) ++ Str.join ⟨#[]⟩ ((d :: w).map fun c => (⟨#[c]⟩ : Str)) = _
    rw [ih]
    show (⟨(#[c] ++ #[]) ++ (d :: w).toArray⟩ : Str) = _
    simp
end Mir
namespace Mir
open PySem PySem.Spec PyProof.Rows L2
theorem fold_one : ∀ (r : List Nat) (A : Array Nat), (r.map fun c => (⟨#[c]⟩ : Str)).foldl (fun acc p => acc ++ (#[] : Array Nat) ++ p.cps) A = A ++ r.toArray
  | [], A => by simp
  | c :: r, A => by
    rw [List.map_cons, List.foldl_cons, fold_one r]
    simp
theorem join_one (w : List Nat) : Txt.join ⟨#[]⟩ (w.map fun c => (⟨#[c]⟩ : Str)) = ⟨w.toArray⟩ := by
  cases w with
  | nil => rfl
  | cons c r =>
    show (⟨(r.map fun c => (⟨#[c]⟩ : Str)).foldl (fun acc p => acc ++ (#[] : Array Nat) ++ p.cps) #[c]⟩ : Str) = _
    rw [fold_one]
    simp
theorem strs_one (w : List Nat) : strsOf (w.map fun c => txt [c]) = some (w.map fun c => (⟨#[c]⟩ : Str)) := by
  induction w with
  | nil => rfl
  | cons c r ih =>
    show (strsOf (r.map fun c => txt [c])).map _ = _
    rw [ih]
    rfl
theorem sum_one (w : List Nat) : ((w.map fun c => (⟨#[c]⟩ : Str)).map (·.length)).sum = w.length := by
  induction w with
  | nil => rfl
  | cons c r ih =>
    rw [List.map_cons, List.map_cons, List.sum_cons, ih, List.length_cons]
    show 1 + _ = _
    omega
theorem empty_str : ("" : Str) = ⟨#[]⟩ := by decide +kernel
theorem joinD_one (w : List Nat) (h : w.length ≤ 1000) : joinD (.str "") (.lst (w.map fun c => txt [c])) = .ok (txt w) := by
  rw [empty_str]
  unfold joinD
  simp only
  rw [strs_one, ofO_some, sum_one, if_pos (by simp [Str.length]; omega), join_one]
  rfl
/-- texts of one letter each, from a list of letters -/
theorem ones_of {ls : List Nat} : ∀ ys : List D, (∀ y ∈ ys, ∃ c ∈ ls, y = txt [c]) → ∃ w : List Nat, ys = (w.map fun c => txt [c]) ∧ ∀ c ∈ w, c ∈ ls
  | [], _ => ⟨[], rfl, fun _ h => nomatch h⟩
  | y :: ys, h => by
    obtain ⟨c, hc, e⟩ := h y (.head _)
    obtain ⟨w, ew, hw⟩ := ones_of ys fun z hz => h z (.tail _ hz)
    refine ⟨c :: w, by rw [e, ew, List.map_cons], fun z hz => ?_⟩
    rcases List.mem_cons.mp hz with rfl | hz
    · exact hc
    · exact hw z hz
end Mir
namespace Mir
open PySem PySem.Spec PyProof.Rows L2
def isTxt (w : List Nat) : R D → Bool
  | .ok (.str s) => decide (s = ⟨w.toArray⟩)
  | _ => false
theorem of_isTxt {w : List Nat} {r : R D} (h : isTxt w r = true) : r = .ok (txt w) := by
  unfold isTxt at h
  split at h
  · rw [of_decide_eq_true h]; rfl
  · cases h
@[simp] theorem ixD_txt (w : List Nat) (k : Int) : ixD (txt w) (.int k) = if w.length ≤ sizeLine then ofO (atI w k) fun c => .ok (txt [c]) else .bad := by
  unfold txt
  rw [ixD_str]
  simp [Str.length]
@[simp] theorem lenF_txt (w : List Nat) : lenF [txt w] = if w.length ≤ sizeLine then .ok (.int w.length) else .bad := by
  unfold txt
  rw [lenF_str]
  simp [Str.length]
@[simp] theorem addD_txt (v w : List Nat) : addD (txt v) (txt w) = if v.length + w.length ≤ sizeLine then .ok (txt (v ++ w)) else .bad := by
  unfold txt
  rw [addD_str]
  have : (⟨v.toArray⟩ : Str) ++ (⟨w.toArray⟩ : Str) = ⟨(v ++ w).toArray⟩ := by
    show (⟨v.toArray ++ w.toArray⟩ : Str) = _
    simp
  rw [this]
  simp [Str.length]
@[simp] theorem anyOf_txt (w : List Nat) : anyOf (txt w) = .ok (w.map fun c => txt [c]) := by
  unfold txt
  rw [anyOf_str, signs_txt]
  rfl
@[simp] theorem enF_txt (w : List Nat) : enF [txt w] = .ok (enumD (w.map fun c => txt [c])) := by
  unfold txt
  rw [enF_str, signs_txt]
  rfl
theorem cutS_txt (w : List Nat) (lo hi : Option Int) : True := trivial
end Mir
namespace Mir
open PySem PySem.Spec PyProof.Rows L2
@[simp] theorem inD_one (c : Nat) (l : List Nat) : inD (txt [c]) (txt l) = .ok (.bl (decide (c ∈ l))) := rfl
@[simp] theorem allF_map {α : Type} (l : List α) (f : α → Bool) : allF [.lst (l.map fun x => .bl (f x))] = .ok (.bl (l.all f)) := by
  have : boolsOf (l.map fun x => D.bl (f x)) = some (l.map f) := by
    induction l with
    | nil => rfl
    | cons x r ih =>
      simp only [List.map_cons]
      unfold boolsOf
      rw [ih]
      rfl
  unfold allF
  simp only
  rw [this, ofO_some, List.all_map]
  rfl
end Mir
namespace Mir
open PySem PySem.Spec PyProof.Rows L2
/-! lists of numbers -/
theorem shp_lints (ns : List Int) : shp (.lst (ns.map D.int)) = true := by
  unfold shp SeqAt.shaped
  rw [toPy, PyData.canLay0, shp_ints, PyData.depth, depth_ints]
  rfl
theorem ne_lst_nil (ns : List Int) : neD (.lst (ns.map D.int)) (.lst []) = .ok (.bl (!ns.isEmpty)) := by
  unfold neD
  rw [if_pos ⟨shp_lints ns, rfl⟩]
  cases ns <;> rfl
theorem any_int (k : Int) (ns : List Int) : ((ns.map D.int).any fun z => eqv z (.int k)) = decide (k ∈ ns) := by
  induction ns with
  | nil => rfl
  | cons n ns ih =>
    rw [List.map_cons, List.any_cons, ih]
    show ((n == k) || _) = _
    by_cases h : n = k
    · simp [h]
    · have h2 : ¬ k = n := fun e => h e.symm
      simp [h, h2]
theorem inB_int (k : Int) (ns : List Int) : inB (.int k) (.lst (ns.map D.int)) = .ok (decide (k ∈ ns)) := by
  show (if shp (.int k) = true ∧ shp (.lst (ns.map D.int)) = true then R.ok ((ns.map D.int).any fun z => eqv z (.int k)) else .bad) = _
  rw [if_pos ⟨rfl, shp_lints ns⟩, any_int]
@[simp] theorem inD_int (k : Int) (ns : List Int) : inD (.int k) (.lst (ns.map D.int)) = .ok (.bl (decide (k ∈ ns))) := by
  unfold inD
  rw [inB_int]
  rfl
@[simp] theorem ninD_int (k : Int) (ns : List Int) : ninD (.int k) (.lst (ns.map D.int)) = .ok (.bl (!decide (k ∈ ns))) := by
  unfold ninD
  rw [inB_int]
  rfl
theorem lcGo_ints {i : Nat} {tt : Env → R Bool} {me : Env → R D} {ρ : Env} {p : Int → Bool} (l : List Int) (h : ∀ m ∈ l, tt (ρ.set i (.fz (.int m))) = .ok (p m)) (h2 : ∀ m ∈ l, me (ρ.set i (.fz (.int m))) = .ok (.int m)) : lcGo (tgName i) tt me ρ (l.map D.int) = .ok ((l.filter p).map D.int) := by
  induction l with
  | nil => rfl
  | cons m l ih =>
    have ih := ih (fun x hx => h x (.tail _ hx)) fun x hx => h2 x (.tail _ hx)
    rw [List.map_cons]
    unfold lcGo
    rw [tgName_eq, nx_ok', R_bind_ok, h m (.head _), nx_ok', R_bind_ok, List.filter_cons, ih]
    cases p m with
    | true => rw [if_pos rfl, if_pos rfl, h2 m (.head _), nx_ok', R_bind_ok]; rfl
    | false => rfl
theorem range_map (n : Nat) : rangeD 0 n = ((List.range n).map fun i : Nat => (i : Int)).map D.int := by
  unfold rangeD
  rw [List.map_map]
  exact List.map_congr_left fun i _ => by show D.int (0 + (i : Int)) = _; rw [Int.zero_add]; rfl
/-- the places of what is true, from a number on -/
def heldFrom : Nat → List Bool → List Int
  | _, [] => []
  | i, true :: r => (i : Int) :: heldFrom (i + 1) r
  | i, false :: r => heldFrom (i + 1) r
def enumFrom (i : Nat) (ds : List D) : List D := (List.range' i ds.length).zipWith (fun i d => .tup [.int (i : Nat), d]) ds
theorem enum_from (ds : List D) : enumD ds = enumFrom 0 ds := by
  unfold enumD enumFrom
  rw [List.range_eq_range']
theorem enumFrom_cons (i : Nat) (d : D) (ds : List D) : enumFrom i (d :: ds) = .tup [.int (i : Nat), d] :: enumFrom (i + 1) ds := rfl
theorem lcGo_held {i j : Nat} {tt : Env → R Bool} {me : Env → R D} {ρ : Env} {p : Nat → Bool} (w : List Nat) (n : Nat) (h : ∀ (m : Nat), ∀ c ∈ w, tt ((ρ.set i (.fz (.int (m : Nat)))).set j (.fz (txt [c]))) = .ok (p c)) (h2 : ∀ (m : Nat), ∀ c ∈ w, me ((ρ.set i (.fz (.int (m : Nat)))).set j (.fz (txt [c]))) = .ok (.int (m : Nat))) :
    lcGo (tgTup 2 (tgCons (tgName i) (tgCons (tgName j) tgNil))) tt me ρ (enumFrom n (w.map fun c => txt [c])) = .ok ((heldFrom n (w.map p)).map D.int) := by
  induction w generalizing n with
  | nil => rfl
  | cons c w ih =>
    have ih := ih (n + 1) (fun m x hx => h m x (.tail _ hx)) fun m x hx => h2 m x (.tail _ hx)
    rw [List.map_cons, enumFrom_cons]
    unfold lcGo
    have e : tgTup 2 (tgCons (tgName i) (tgCons (tgName j) tgNil)) (.tup [.int (n : Nat), txt [c]]) ρ = .ok ((ρ.set i (.fz (.int (n : Nat)))).set j (.fz (txt [c]))) := rfl
    rw [e, nx_ok', R_bind_ok, h n c (.head _), nx_ok', R_bind_ok, ih, List.map_cons]
    cases p c with
    | true => rw [if_pos rfl, h2 n c (.head _), nx_ok', R_bind_ok]; rfl
    | false => rfl
theorem enum_txt_len (n : Nat) (ds : List D) : (enumFrom n ds).length = ds.length := by
  unfold enumFrom
  rw [List.length_zipWith, List.length_range', Nat.min_self]
theorem held_len (n : Nat) (bs : List Bool) : (heldFrom n bs).length ≤ bs.length := by
  induction bs generalizing n with
  | nil => exact Nat.le_refl _
  | cons b r ih =>
    cases b with
    | true => exact Nat.succ_le_succ (ih _)
    | false => exact Nat.le_succ_of_le (ih _)
/-- pairs of numbers that are kept -/
theorem lcGo_zip {i j k : Nat} {tt : Env → R Bool} {me : Env → R D} {ρ : Env} {p : Int → Int → Bool} {g : Int → Int → Int} : ∀ (a b : List Int), (∀ x y, tt ((ρ.set i (.fz (.int x))).set j (.fz (.int y))) = .ok (p x y)) → (∀ x y, me ((ρ.set i (.fz (.int x))).set j (.fz (.int y))) = .ok (.int (g x y))) →
    lcGo (tgTup 2 (tgCons (tgName i) (tgCons (tgName j) tgNil))) tt me ρ (zipD (a.map D.int) (b.map D.int)) = .ok ((((a.zip b).filter fun q => p q.1 q.2).map fun q => g q.1 q.2).map D.int)
  | [], _, _, _ => rfl
  | _ :: _, [], _, _ => rfl
  | x :: a, y :: b, h, h2 => by
    have ih := lcGo_zip (k := 0) a b h h2
    show lcGo _ _ _ _ (.tup [.int x, .int y] :: zipD (a.map D.int) (b.map D.int)) = _
    unfold lcGo
    have e : tgTup 2 (tgCons (tgName i) (tgCons (tgName j) tgNil)) (.tup [.int x, .int y]) ρ = .ok ((ρ.set i (.fz (.int x))).set j (.fz (.int y))) := rfl
    rw [e, nx_ok', R_bind_ok, h x y, nx_ok', R_bind_ok, ih, List.zip_cons_cons, List.filter_cons]
    cases p x y with
    | true => rw [if_pos rfl, h2 x y, nx_ok', R_bind_ok]; rfl
    | false => rfl
end Mir
namespace Mir
open PySem PySem.Spec PyProof.Rows L2
/-! lists of truth values -/
def bls (bs : List Bool) : List D := bs.map D.bl
def cnt (bs : List Bool) : Nat := (bs.filter id).length
theorem bools_bls (bs : List Bool) : boolsOf (bls bs) = some bs := by
  induction bs with
  | nil => rfl
  | cons b r ih =>
    unfold bls
    rw [List.map_cons]
    unfold boolsOf
    show (boolsOf (bls r)).map _ = _ 
    rw [ih]
    rfl
theorem nums_bls (bs : List Bool) : ∃ ns, numsD (bls bs) = some ns ∧ ns.sum = cnt bs := by
  induction bs with
  | nil => exact ⟨[], rfl, rfl⟩
  | cons b r ih =>
    obtain ⟨ns, e, s⟩ := ih
    refine ⟨(if b then 1 else 0) :: ns, ?_, ?_⟩
    · unfold bls at e ⊢
      rw [List.map_cons]
      unfold numsD
      rw [e]
      cases b <;> rfl
    · rw [List.sum_cons, s]
      unfold cnt
      cases b
      · simp
      · simp; omega
@[simp] theorem sumF_bls (bs : List Bool) : sumF [.lst (bls bs)] = .ok (.int (cnt bs)) := by
  obtain ⟨ns, e, s⟩ := nums_bls bs
  unfold sumF
  simp only
  rw [e, ofO_some, s]
@[simp] theorem allF_bls (bs : List Bool) : allF [.lst (bls bs)] = .ok (.bl (bs.all id)) := by
  unfold allF
  simp only
  rw [bools_bls, ofO_some]
@[simp] theorem anyF_bls (bs : List Bool) : anyF [.lst (bls bs)] = .ok (.bl (bs.any id)) := by
  unfold anyF
  simp only
  rw [bools_bls, ofO_some]
@[simp] theorem len_bls (bs : List Bool) : (bls bs).length = bs.length := List.length_map ..
@[simp] theorem cut_bls (bs : List Bool) (lo hi : Option Int) : Mir.cutD (bls bs) lo hi = bls (Mir.cutD bs lo hi) := by
  unfold Mir.cutD
  rw [len_bls]
  unfold bls
  rw [← List.map_drop, ← List.map_take]
theorem at_bls {bs : List Bool} {k : Int} {b : Bool} (h : atI bs k = some b) : atI (bls bs) k = some (.bl b) := by
  unfold atI at h ⊢
  rw [len_bls]
  cases e : ixN bs.length k with
  | none => rw [e] at h; cases h
  | some j =>
    rw [e] at h
    show (bls bs)[j]? = _
    unfold bls
    rw [List.getElem?_map, show bs[j]? = some b from h]
    rfl
theorem cut_from {α : Type} (xs : List α) (k : Nat) : Mir.cutD xs (some (k : Nat)) none = xs.drop k := by
  unfold Mir.cutD HT.sIx
  simp only
  rw [if_neg (by omega)]
  by_cases h : k ≤ xs.length
  · rw [show min (k : Int).toNat xs.length = k by omega]
    rw [List.take_of_length_le (by rw [List.length_drop]; exact Nat.le_refl _)]
  · rw [show min (k : Int).toNat xs.length = xs.length by omega, List.drop_of_length_le (Nat.le_refl _), List.drop_of_length_le (by omega), List.take_nil]
theorem cut_neg {α : Type} (xs : List α) (k : Int) (h1 : k < 0) (h2 : 0 ≤ xs.length + k) : Mir.cutD xs (some k) none = xs.drop (xs.length + k).toNat := by
  unfold Mir.cutD HT.sIx
  simp only
  rw [if_pos h1, Int.add_comm, List.take_of_length_le (by rw [List.length_drop]; exact Nat.le_refl _)]
theorem lcGo_bls {i : Nat} {me : Env → R D} {ρ : Env} {p : Nat → Bool} (w : List Nat) (h : ∀ c ∈ w, me (ρ.set i (.fz (txt [c]))) = .ok (.bl (p c))) : lcGo (tgName i) mYes me ρ (w.map fun c => txt [c]) = .ok (bls (w.map p)) := by
  induction w with
  | nil => rfl
  | cons c w ih =>
    have ih := ih fun x hx => h x (.tail _ hx)
    rw [List.map_cons]
    unfold lcGo
    rw [tgName_eq, nx_ok', R_bind_ok]
    show (nx (R.ok true)).bind _ = _
    rw [nx_ok', R_bind_ok, if_pos rfl, h c (.head _), nx_ok', R_bind_ok, ih]
    rfl
theorem lcGo_bzip {i j : Nat} {me : Env → R D} {ρ : Env} {g : Bool → Bool → Bool} : ∀ (a b : List Bool), (∀ x y, me ((ρ.set i (.fz (.bl x))).set j (.fz (.bl y))) = .ok (.bl (g x y))) →
    lcGo (tgTup 2 (tgCons (tgName i) (tgCons (tgName j) tgNil))) mYes me ρ (zipD (bls a) (bls b)) = .ok (bls (a.zipWith g b))
  | [], _, _ => rfl
  | _ :: _, [], _ => rfl
  | x :: a, y :: b, h => by
    have ih := lcGo_bzip a b h
    show lcGo _ _ _ _ (.tup [.bl x, .bl y] :: zipD (bls a) (bls b)) = _
    unfold lcGo
    have e : tgTup 2 (tgCons (tgName i) (tgCons (tgName j) tgNil)) (.tup [.bl x, .bl y]) ρ = .ok ((ρ.set i (.fz (.bl x))).set j (.fz (.bl y))) := rfl
    rw [e, nx_ok', R_bind_ok]
    show (nx (R.ok true)).bind _ = _
    rw [nx_ok', R_bind_ok, if_pos rfl, h x y, nx_ok', R_bind_ok, ih]
    rfl
end Mir
namespace Mir
open PySem PySem.Spec PyProof.Rows L2
theorem lcGo_heldD {i j : Nat} {tt : Env → R Bool} {me : Env → R D} {ρ : Env} {p : D → Bool} (ds : List D) (n : Nat) (h : ∀ (m : Nat), ∀ d ∈ ds, tt ((ρ.set i (.fz (.int (m : Nat)))).set j (.fz d)) = .ok (p d)) (h2 : ∀ (m : Nat), ∀ d ∈ ds, me ((ρ.set i (.fz (.int (m : Nat)))).set j (.fz d)) = .ok (.int (m : Nat))) :
    lcGo (tgTup 2 (tgCons (tgName i) (tgCons (tgName j) tgNil))) tt me ρ (enumFrom n ds) = .ok ((heldFrom n (ds.map p)).map D.int) := by
  induction ds generalizing n with
  | nil => rfl
  | cons d r ih =>
    have ih := ih (n + 1) (fun m x hx => h m x (.tail _ hx)) fun m x hx => h2 m x (.tail _ hx)
    rw [enumFrom_cons]
    unfold lcGo
    have e : tgTup 2 (tgCons (tgName i) (tgCons (tgName j) tgNil)) (.tup [.int (n : Nat), d]) ρ = .ok ((ρ.set i (.fz (.int (n : Nat)))).set j (.fz d)) := rfl
    rw [e, nx_ok', R_bind_ok, h n d (.head _), nx_ok', R_bind_ok, ih, List.map_cons]
    cases p d with
    | true => rw [if_pos rfl, h2 n d (.head _), nx_ok', R_bind_ok]; rfl
    | false => rfl
/-- the first place of what is true, or None -/
def firstOf : Nat → List Bool → D
  | _, [] => .non
  | i, true :: _ => .int (i : Nat)
  | i, false :: r => firstOf (i + 1) r
theorem firstOf_held : ∀ (bs : List Bool) (i : Nat), (heldFrom i bs = [] ∧ firstOf i bs = .non) ∨ (∃ n r, heldFrom i bs = n :: r ∧ firstOf i bs = .int n)
  | [], _ => .inl ⟨rfl, rfl⟩
  | true :: r, i => .inr ⟨_, _, rfl, rfl⟩
  | false :: r, i => firstOf_held r (i + 1)
theorem firstOf_non (bs : List Bool) (i : Nat) : isNon (firstOf i bs) = !bs.any id := by
  induction bs generalizing i with
  | nil => rfl
  | cons b r ih =>
    cases b with
    | true => rfl
    | false => exact ih (i + 1)
def fbG : Nat → List (List Bool) → D
  | _, [] => .non
  | n, B :: r => if B.any id = true then .tup [.int (n : Nat), firstOf 0 B] else fbG (n + 1) r
theorem fbG_non (rows : List (List Bool)) (n : Nat) : isNon (fbG n rows) = !rows.any fun B => B.any id := by
  induction rows generalizing n with
  | nil => rfl
  | cons B r ih =>
    unfold fbG
    rw [List.any_cons]
    cases h : B.any id with
    | true => rfl
    | false => rw [if_neg (by decide), ih]; rfl
@[simp] theorem slD_txt (w : List Nat) (lo hi : Option Int) : slD (txt w) lo hi = if w.length ≤ sizeLine then .ok (txt (Mir.cutD w lo hi)) else .bad := by
  show (if (⟨w.toArray⟩ : Str).length ≤ sizeLine then R.ok (D.str (cutS ⟨w.toArray⟩ lo hi)) else .bad) = _
  rfl
/-- rows that agree on the first one with anything true -/
theorem fbG_eq (P L : Nat → List Bool) (hl : ∀ k, (P k).length = (L k).length) (N : Nat) (h1 : ∀ k, k < N → ∀ i : Nat, (L k)[i]? = some true → (P k)[i]? = some true) (h2 : ∀ k, k < N → ∀ i : Nat, (P k)[i]? = some true → (L k)[i]? = some false → 0 < k ∧ (P (k - 1))[i]? = some true) :
    ∀ (m k : Nat), k + m ≤ N → (∀ j, j < k → (P j).any id = false) → fbG k ((List.range' k m).map P) = fbG k ((List.range' k m).map L)
  | 0, _, _, _ => rfl
  | m + 1, k, hk, hp => by
    rw [List.range'_succ, List.map_cons, List.map_cons]
    unfold fbG
    have e : P k = L k := by
      refine List.ext_getElem? fun i => ?_
      by_cases hi : i < (P k).length
      · have hi2 : i < (L k).length := by rw [← hl k]; exact hi
        have a := List.getElem?_eq_getElem hi
        have b := List.getElem?_eq_getElem hi2
        cases x : (P k)[i] with
        | true =>
          cases y : (L k)[i] with
          | true => rw [a, b, x, y]
          | false =>
            exfalso
            obtain ⟨k0, q⟩ := h2 k (by omega) i (by rw [a, x]) (by rw [b, y])
            have := hp (k - 1) (by omega)
            rw [List.any_eq_false] at this
            exact this true (List.mem_of_getElem? q) rfl
        | false =>
          cases y : (L k)[i] with
          | true =>
            have := h1 k (by omega) i (by rw [b, y])
            rw [a, x] at this
            cases this
          | false => rw [a, b, x, y]
      · rw [List.getElem?_eq_none (by omega), List.getElem?_eq_none (by rw [← hl k]; omega)]
    rw [← e]
    by_cases hb : (P k).any id = true
    · rw [if_pos hb, if_pos hb]
    · rw [if_neg hb, if_neg hb]
      refine fbG_eq P L hl N h1 h2 m (k + 1) (by omega) fun j hj => ?_
      by_cases hj2 : j < k
      · exact hp j hj2
      · rw [show j = k by omega]; exact Bool.eq_false_iff.mpr hb
end Mir
namespace Mir
open PySem PySem.Spec PyProof.Rows L2
/-! ### sorted: a list of texts, a list of numbers -/
def leS (x y : Str) : Bool := !ltCps y.cps.toList x.cps.toList
theorem leS_iff (x y : Str) : leS x y = true ↔ x.cps.toList ≤ y.cps.toList := by
  unfold leS
  rw [ltCps_eq]
  simp
theorem leS_anti {x y : Str} (h1 : leS x y = true) (h2 : leS y x = true) : x = y := by
  have := List.le_antisymm ((leS_iff x y).mp h1) ((leS_iff y x).mp h2)
  cases x
  cases y
  simp at this
  rw [this]
theorem leS_trans (x y z : Str) (h1 : leS x y = true) (h2 : leS y z = true) : leS x z = true :=
  (leS_iff x z).mpr (List.le_trans ((leS_iff x y).mp h1) ((leS_iff y z).mp h2))
theorem leS_total (x y : Str) : (leS x y || leS y x) = true := by
  rcases List.le_total x.cps.toList y.cps.toList with h | h
  · rw [(leS_iff x y).mpr h]; rfl
  · rw [(leS_iff y x).mpr h, Bool.or_true]
theorem rising_pw : ∀ (l : List Str) (p : Str), risingS p l = true → (p :: l).Pairwise fun a b => leS a b = true
  | [], p, _ => .cons (fun _ h => nomatch h) .nil
  | x :: r, p, h => by
    have h' : (!ltCps x.cps.toList p.cps.toList && risingS x r) = true := h
    obtain ⟨h1, h2⟩ := Bool.and_eq_true_iff.mp h'
    have ih := rising_pw r x h2
    refine .cons (fun y hy => ?_) ih
    rcases List.mem_cons.mp hy with rfl | hy
    · exact h1
    · exact leS_trans _ _ _ h1 ((List.pairwise_cons.mp ih).1 y hy)
theorem sorted_pw (l : List Str) (h : sortedS l = true) : l.Pairwise fun a b => leS a b = true := by
  cases l with
  | nil => exact .nil
  | cons x r => exact rising_pw r x h
def sortS (xs : List Str) : List Str := xs.mergeSort leS
theorem eq_sortS {xs ys : List Str} (hp : ys.Perm xs) (hs : sortedS ys = true) : ys = sortS xs :=
  List.Perm.eq_of_pairwise (fun a b _ _ h1 h2 => leS_anti h1 h2) (sorted_pw ys hs) (List.pairwise_mergeSort leS_trans leS_total xs) (hp.trans (List.mergeSort_perm xs leS).symm)
def intsOf : List D → Option (List Int)
  | [] => some []
  | .int b :: r => (intsOf r).map (b :: ·)
  | _ => none
theorem ints_v {K : PySem.W.Frag} {F : Hp} : ∀ {ds : List D} {vs : List V} {bs : List Int}, DvAll K F vs ds → intsOf ds = some bs → vs = bs.map V.int
  | [], _, _, h, e => by cases h; cases e; rfl
  | d :: ds, _, bs, h, e => by
    cases h with
    | cons h r =>
      cases h with
      | int b =>
        unfold intsOf at e
        cases q : intsOf ds with
        | none => rw [q] at e; cases e
        | some bs2 =>
          rw [q] at e
          cases e
          rw [ints_v r q, List.map_cons]
      | _ => cases e
theorem dv_strs {K : PySem.W.Frag} {F : Hp} : ∀ ys : List Str, DvAll K F (ys.map V.str) (ys.map D.str)
  | [] => .nil
  | y :: r => .cons (.str y) (dv_strs r)
def sortedF : List D → R D
  | [.lst ds] => if ds.length < 64 then (match strsOf ds with
    | some ys => .ok (.lst ((sortS ys).map D.str))
    | none => ofO (intsOf ds) fun ns => .ok (.lst ((PySem.W.sortI ns).map D.int))) else .bad
  | _ => .bad
theorem cm_sorted : CallM G (fun vs H Q => rSortedS G.K vs H Q ∨ rSorted G.K vs H Q) sortedF := by
  intro F H vs ds Q s h P
  unfold sortedF at P
  split at P
  · rename_i es
    obtain ⟨v, rfl, q⟩ := one_of h
    cases q with
    | lst e r =>
      split at P
      · rename_i h64
        have hlen := r.length
        split at P
        · rename_i ys ey
          have ev := strs_v r ey
          subst ev
          refine .inl ⟨_, ys, rfl, SqL.of (s _ _ e), by rw [List.length_map] at hlen; omega, fun zs p hp hs hn => ?_⟩
          rw [eq_sortS hp hs]
          exact postNew P s hn (.lst upd_same (dv_strs _))
        · cases z : intsOf es with
          | none => rw [z] at P; exact P.elim
          | some ns =>
            rw [z] at P
            have ev := ints_v r z
            subst ev
            refine .inr ⟨_, ns, rfl, SqL.of (s _ _ e), by rw [List.length_map] at hlen; omega, fun zs p hp hs hn => ?_⟩
            rw [PySem.W.eq_sortI hp hs]
            exact postNew P s hn (.lst upd_same (dv_ints _))
      · exact P.elim
  · exact P.elim
section
variable {X : Cx} {G : Gm} {e : Expr} {pos p : Pos}
theorem me_sorted {m : Env → R (List D)} (ha : MA X G [e] m) (hx : X.mg "sorted" = none) (hK : X.K = G.K := by rfl) (hg : Gl X "sorted" := by rfl) (he : starEach [e] X.env = (false, eval e X.env) :: starEach [] X.env := by rfl) (hpl : (backTo pos (starEach [] X.env)).any (·.1) = false := by rfl) :
    ME X G (.Call (.Name "sorted" p) [e] [] pos) (mCall sortedF m) := me_callB (cr_sortedS.or cr_sorted) (by rw [hK]; exact cm_sorted) ha hx (by decide +kernel) hg (by decide) (by decide) he hpl
end
end Mir
/-! list(zip(xs, ys)) over two lists -/
namespace Mir
open PySem PySem.Spec PyProof.Rows L2
/-- a zip over two lists with i pairs given out; S: the list that takes them -/
def ZL (h : Heap) (z TI TO i1 i2 l1 l2 S : Addr) (xs ys : Array Value) (i : Nat) : Prop :=
  IsPair h TI (.ref i1) (.ref i2) ∧ h.IsListIter i1 l1 i ∧ h.IsListIter i2 l2 i ∧ h.IsList l1 xs ∧ h.IsList l2 ys ∧
    ((IsZip h z TI TO .none ∧ ∃ a b, IsPair h TO a b) ∨ ∃ T f oT, IsZipHeld h z TI TO T f ∧ h.get? T = some oT ∧ T ≠ z ∧ T ≠ i1 ∧ T ≠ i2 ∧ T ≠ S)
/-- S is none of the zip's own objects -/
structure Off (S z TI TO i1 i2 l1 l2 : Addr) : Prop where
  z : S ≠ z
  TI : S ≠ TI
  TO : S ≠ TO
  i1 : S ≠ i1
  i2 : S ≠ i2
  l1 : S ≠ l1
  l2 : S ≠ l2
section
variable {prog : Program} {w : World} {A : Around} {E : Value → Shared → Prop} {s : Shared} {z TI TO i1 i2 l1 l2 S : Addr} {xs ys : Array Value} {i : Nat}
theorem ZL.keep {h h' : Heap} (O : Off S z TI TO i1 i2 l1 l2) (x : ZL h z TI TO i1 i2 l1 l2 S xs ys i) (hk : ∀ b o, b ≠ S → h.get? b = some o → h'.get? b = some o) : ZL h' z TI TO i1 i2 l1 l2 S xs ys i := by
  obtain ⟨a1, a2, a3, a4, a5, a6⟩ := x
  refine ⟨hk _ _ O.TI.symm a1, a2.at fun o e => hk _ o O.i1.symm e, a3.at fun o e => hk _ o O.i2.symm e, a4.at fun o e => hk _ o O.l1.symm e, a5.at fun o e => hk _ o O.l2.symm e, ?_⟩
  rcases a6 with ⟨b1, a, b, b2⟩ | ⟨T, f, oT, b1, b2, r1, r2, r3, r4⟩
  · exact .inl ⟨hk _ _ O.z.symm b1, a, b, hk _ _ O.TO.symm b2⟩
  · exact .inr ⟨T, f, oT, hk _ _ O.z.symm b1, hk _ _ r4 b2, r1, r2, r3, r4⟩
theorem zl_item (D : ZipApart z TI TO i1 i2 l1 l2) {x y : Value} {Q : Option Value → Shared → Prop} (st : ZL s.heap z TI TO i1 i2 l1 l2 S xs ys i) (hS : S < s.heap.objs.size) (ex : xs[i]? = some x) (ey : ys[i]? = some y)
    (hQ : ∀ h', ZL h' z TI TO i1 i2 l1 l2 S xs ys (i + 1) → IsPair h' s.heap.objs.size x y → h'.objs.size = s.heap.objs.size + 1 → (∀ c o, c ≠ z → c ≠ TO → c ≠ i1 → c ≠ i2 → s.heap.get? c = some o → h'.get? c = some o) → Q (some (.ref s.heap.objs.size)) { s with heap := h' }) :
    wpAny (model prog w) A (pyNext (.ref z)) Q E s := by
  obtain ⟨a1, a2, a3, a4, a5, a6⟩ := st
  have new : ∀ {c o}, s.heap.get? c = some o → s.heap.objs.size ≠ c := fun e => Nat.ne_of_gt (Heap.lt_size e)
  have m1 : s.heap.objs.size ≠ i1 := let ⟨_, e, _⟩ := a2; new e
  have m2 : s.heap.objs.size ≠ i2 := let ⟨_, e, _⟩ := a3; new e
  rcases a6 with ⟨b1, a, b, b2⟩ | ⟨T, f, oT, b1, b2, r1, r2, r3, r4⟩
  · refine wpAny_pyNext_zip_item D b1 a1 b2 a2 a3 a4 a5 ex ey fun h' c1 _ c3 c4 c5 c6 hk => hQ h' ?_ c5 c6 hk
    exact ⟨hk _ _ D.TIz D.TITO D.TIi1 D.TIi2 a1, c3, c4, a4.at fun o e => hk _ o D.l1z D.l1TO D.l1i1 D.l1i2 e, a5.at fun o e => hk _ o D.l2z D.l2TO D.l2i1 D.l2i2 e, .inr ⟨_, false, _, c1, c5, new b1, m1, m2, Nat.ne_of_gt hS⟩⟩
  · refine wpAny_pyNext_zip_item_held D b1 b2 a1 a2 a3 a4 a5 ex ey fun h' c1 c3 c4 c5 c6 hk => hQ h' ?_ c5 c6 fun c o n1 _ n3 n4 e => hk c o n1 n3 n4 e
    exact ⟨hk _ _ D.TIz D.TIi1 D.TIi2 a1, c3, c4, a4.at fun o e => hk _ o D.l1z D.l1i1 D.l1i2 e, a5.at fun o e => hk _ o D.l2z D.l2i1 D.l2i2 e, .inr ⟨T, true, oT, c1, hk _ _ r1 r2 r3 b2, r1, r2, r3, r4⟩⟩
theorem zl_done (hh : A.handled = none) (D : ZipApart z TI TO i1 i2 l1 l2) {Q : Option Value → Shared → Prop} (st : ZL s.heap z TI TO i1 i2 l1 l2 S xs ys i) (hend : xs[i]? = none ∨ ys[i]? = none)
    (hQ : ∀ h', (∀ c o, c ≠ z → c ≠ TO → c ≠ i1 → c ≠ i2 → s.heap.get? c = some o → h'.get? c = some o) → Q none { s with heap := h' }) : wpAny (model prog w) A (pyNext (.ref z)) Q E s := by
  obtain ⟨a1, a2, a3, a4, a5, a6⟩ := st
  rcases a6 with ⟨b1, a, b, b2⟩ | ⟨T, f, oT, b1, b2, _⟩
  · exact wpAny_pyNext_zip_end hh D b1 a1 b2 a2 a3 a4 a5 hend fun h' hk => hQ h' fun c o n1 n2 n3 n4 e => hk c o n1 n2 n3 n4 e
  · exact wpAny_pyNext_zip_end_held hh D b1 b2 a1 a2 a3 a4 a5 hend fun h' hk => hQ h' fun c o n1 _ n3 n4 e => hk c o n1 n3 n4 e
end
end Mir
namespace Mir
open PySem PySem.Spec PyProof.Rows L2
/-- the tuples given out, each behind the former -/
structure ZG (xs ys : Array Value) (lo : Addr) (h : Heap) (ts : List Addr) : Prop where
  up : ts.Pairwise (· < ·)
  over : ∀ t ∈ ts, lo < t
  is : ∀ (j : Nat) (t : Addr), ts[j]? = some t → ∃ x y, xs[j]? = some x ∧ ys[j]? = some y ∧ IsPair h t x y
theorem ZG.lt {xs ys : Array Value} {lo : Addr} {h : Heap} {ts : List Addr} (g : ZG xs ys lo h ts) {t : Addr} (ht : t ∈ ts) : t < h.objs.size := by
  obtain ⟨j, hj⟩ := List.mem_iff_getElem?.mp ht
  obtain ⟨_, _, _, _, e⟩ := g.is j t hj
  exact Heap.lt_size e
section
variable {prog : Program} {w : World} {A : Around} {s : Shared} {z TI TO i1 i2 l1 l2 S : Addr} {xs ys : Array Value}
/-- below S and none of it -/
structure Below (S z TI TO i1 i2 l1 l2 : Addr) : Prop where
  z : z < S
  TI : TI < S
  TO : TO < S
  i1 : i1 < S
  i2 : i2 < S
  l1 : l1 < S
  l2 : l2 < S
theorem Below.off (b : Below S z TI TO i1 i2 l1 l2) : Off S z TI TO i1 i2 l1 l2 := ⟨Nat.ne_of_gt b.z, Nat.ne_of_gt b.TI, Nat.ne_of_gt b.TO, Nat.ne_of_gt b.i1, Nat.ne_of_gt b.i2, Nat.ne_of_gt b.l1, Nat.ne_of_gt b.l2⟩
theorem zl_loop {R : Result → Shared → Prop} (hh : A.handled = none) (D : ZipApart z TI TO i1 i2 l1 l2) (B : Below S z TI TO i1 i2 l1 l2) (N : Nat) (hN : N = min xs.size ys.size) (hn : N ≤ sizeLine) (res : Value) {g : Heap}
    (hR : ∀ h' tk acc c ts, (∀ b o, S < b ∨ (b ≠ S ∧ b ≠ z ∧ b ≠ TO ∧ b ≠ i1 ∧ b ≠ i2) → g.get? b = some o → h'.get? b = some o) → h'.get? S = some { cls := .type "list", dict := none, data := .seq acc c, slots := #[] } → ts.length = N → ZG xs ys S h' ts → acc.toList = ts.map Value.ref → R (.ok (.ret res)) { s with heap := h', toks := tk }) :
    ∀ (k i : Nat) (h : Heap) (tk c : Nat) (acc : Array Value) (ts : List Addr), N - i = k → i ≤ N → ZL h z TI TO i1 i2 l1 l2 S xs ys i → (∀ b o, S < b ∨ (b ≠ S ∧ b ≠ z ∧ b ≠ TO ∧ b ≠ i1 ∧ b ≠ i2) → g.get? b = some o → h.get? b = some o) →
      h.get? S = some { cls := .type "list", dict := none, data := .seq acc c, slots := #[] } → acc.toList = ts.map Value.ref → ts.length = i → ZG xs ys S h ts →
      codeAny (model prog w) A (.builtin "list.extend.loop" ⟨[.ref S, .ref z, res], []⟩) R { s with heap := h, toks := tk } := by
  have O := B.off
  intro k
  induction k with
  | zero =>
    intro i h tk c acc ts hk hi st kp hS ha hl G
    have hin : i = N := by omega
    have e0 : xs[i]? = none ∨ ys[i]? = none := by
      rcases Nat.le_total xs.size ys.size with q | q
      · exact .inl (Array.getElem?_eq_none (by rw [hin, hN, Nat.min_eq_left q]; exact Nat.le_refl _))
      · exact .inr (Array.getElem?_eq_none (by rw [hin, hN, Nat.min_eq_right q]; exact Nat.le_refl _))
    apply codeAny_builtin PySem.F.entry_extend_loop
    rw [Around.under_plainId PySem.F.plain_extend_loop]
    show wpAny (model prog w) A.in1 (pyNext (.ref z) >>= _) _ _ _
    refine wpAny_bind (zl_done (s := { s with heap := h, toks := tk }) (A := A.in1) hh D st e0 fun h' hk' => wpAny_pure ?_)
    have stay : ∀ b o, S < b ∨ (b ≠ S ∧ b ≠ z ∧ b ≠ TO ∧ b ≠ i1 ∧ b ≠ i2) → h.get? b = some o → h'.get? b = some o := fun b o q e => by
      rcases q with q | ⟨_, q1, q2, q3, q4⟩
      · exact hk' b o (Nat.ne_of_gt (Nat.lt_trans B.z q)) (Nat.ne_of_gt (Nat.lt_trans B.TO q)) (Nat.ne_of_gt (Nat.lt_trans B.i1 q)) (Nat.ne_of_gt (Nat.lt_trans B.i2 q)) e
      · exact hk' b o q1 q2 q3 q4 e
    refine hR h' tk acc c ts (fun b o q e => stay b o q (kp b o q e)) (hk' S _ O.z O.TO O.i1 O.i2 hS) (by omega) ⟨G.up, G.over, fun j t hj => ?_⟩ ha
    obtain ⟨x, y, q1, q2, q3⟩ := G.is j t hj
    exact ⟨x, y, q1, q2, stay t _ (.inl (G.over t (List.mem_of_getElem? hj))) q3⟩
  | succ k ih =>
    intro i h tk c acc ts hk hi st kp hS ha hl G
    have hx : i < xs.size := by have := Nat.min_le_left xs.size ys.size; omega
    have hy : i < ys.size := by have := Nat.min_le_right xs.size ys.size; omega
    have hSl : S < h.objs.size := Heap.lt_size hS
    have asz : acc.size = i := by rw [← Array.length_toList, ha, List.length_map, hl]
    apply codeAny_builtin PySem.F.entry_extend_loop
    rw [Around.under_plainId PySem.F.plain_extend_loop]
    show wpAny (model prog w) A.in1 (pyNext (.ref z) >>= _) _ _ _
    refine wpAny_bind (zl_item (s := { s with heap := h, toks := tk }) (S := S) D st hSl (Array.getElem?_eq_getElem hx) (Array.getElem?_eq_getElem hy) fun h' st' ht hz hk' => ?_)
    dsimp only at ht hz hk' ⊢
    have hS' := hk' S _ O.z O.TO O.i1 O.i2 hS
    have oth : ∀ b o, b ≠ S → h'.get? b = some o → (h'.update S (Obj.mapSeq (·.push (Value.ref h.objs.size)))).get? b = some o := fun b o q e => (Heap.get?_update_other _ _ (Ne.symm q)).trans e
    have stay : ∀ b o, S < b ∨ (b ≠ S ∧ b ≠ z ∧ b ≠ TO ∧ b ≠ i1 ∧ b ≠ i2) → h.get? b = some o → (h'.update S (Obj.mapSeq (·.push (Value.ref h.objs.size)))).get? b = some o := fun b o q e => by
      rcases q with q | ⟨q0, q1, q2, q3, q4⟩
      · exact oth b o (Nat.ne_of_gt q) (hk' b o (Nat.ne_of_gt (Nat.lt_trans B.z q)) (Nat.ne_of_gt (Nat.lt_trans B.TO q)) (Nat.ne_of_gt (Nat.lt_trans B.i1 q)) (Nat.ne_of_gt (Nat.lt_trans B.i2 q)) e)
      · exact oth b o q0 (hk' b o q1 q2 q3 q4 e)
    have hnew : IsPair (h'.update S (Obj.mapSeq (·.push (Value.ref h.objs.size)))) h.objs.size xs[i] ys[i] := oth _ _ (Nat.ne_of_gt hSl) ht
    show wpAny (model prog w) A.in1 (updateSeq S (·.push (Value.ref h.objs.size)) >>= _) _ _ _
    refine wpAny_bind (wpAny_updateSeq hS' rfl (wpAny_pure ⟨plainId_quiet PySem.F.plain_extend_loop _, ih (i + 1) _ tk _ (acc.push (Value.ref h.objs.size)) (ts ++ [h.objs.size]) (by omega) (by omega) (st'.keep O oth) (fun b o q e => stay b o q (kp b o q e)) (Heap.get?_update_self _ hS' rfl) (by rw [Array.toList_push, ha, List.map_append]; rfl) (by rw [List.length_append, hl]; rfl) ⟨?_, ?_, ?_⟩⟩) (by rw [asz]; omega) (by rw [Array.size_push, asz]; omega))
    · exact List.pairwise_append.mpr ⟨G.up, List.pairwise_singleton _ _, fun a h1 b h2 => by rw [List.mem_singleton.mp h2]; exact G.lt h1⟩
    · intro t h1
      rcases List.mem_append.mp h1 with h1 | h1
      · exact G.over t h1
      · rw [List.mem_singleton.mp h1]; exact hSl
    · intro j t hj
      rcases Nat.lt_or_ge j ts.length with q | q
      · rw [List.getElem?_append_left q] at hj
        obtain ⟨x, y, q1, q2, q3⟩ := G.is j t hj
        exact ⟨x, y, q1, q2, stay t _ (.inl (G.over t (List.mem_of_getElem? hj))) q3⟩
      · rw [List.getElem?_append_right q] at hj
        have j0 : j - ts.length = 0 := by
          have := (List.getElem?_eq_some_iff.mp hj).1
          rw [List.length_singleton] at this
          omega
        rw [j0] at hj
        have et : h.objs.size = t := Option.some.inj hj
        subst et
        have ej : j = i := by omega
        subst ej
        exact ⟨_, _, Array.getElem?_eq_getElem hx, Array.getElem?_eq_getElem hy, hnew⟩
end
end Mir
namespace Mir
open PySem PySem.Spec PyProof.Rows L2
theorem zl_nolen : typeLookup (.type "zip") "__len__" = pure none := am_miss_of_fast (by decide +kernel)
theorem zl_nohint : typeLookup (.type "zip") "__length_hint__" = pure none := am_miss_of_fast (by decide +kernel)
section
variable {prog : Program} {w : World} {A : Around} {E : Value → Shared → Prop} {s : Shared} {z TI TO i1 i2 l1 l2 S : Addr} {xs ys : Array Value}
theorem zl_hint (hT : s.TypeIs (.ref z) "zip") {Q : Bool → Shared → Prop} (h : Q true s) : wpAny (model prog w) A (Builtin.List.listLengthHint (.ref z)) Q E s := by
  unfold Builtin.List.listLengthHint
  refine wpAny_bind (wpAny_specialOf hT zl_nolen ?_)
  refine wpAny_ite_split (fun q => absurd q (by decide)) fun _ => ?_
  refine wpAny_ite_split (fun q => absurd q (by decide)) fun _ => ?_
  refine wpAny_bind (wpAny_specialOf hT zl_nohint ?_)
  exact wpAny_pure h
theorem zl_extend {R : Result → Shared → Prop} (hh : A.handled = none) (D : ZipApart z TI TO i1 i2 l1 l2) (B : Below S z TI TO i1 i2 l1 l2) (hn : min xs.size ys.size ≤ sizeLine) (st : ZL s.heap z TI TO i1 i2 l1 l2 S xs ys 0) (hz : IsZip s.heap z TI TO .none) (res : Value) (c0 : Nat) (hS : s.heap.get? S = some { cls := .type "list", data := .seq #[] c0 })
    (hR : ∀ h' tk acc c ts, (∀ b o, S < b ∨ (b ≠ S ∧ b ≠ z ∧ b ≠ TO ∧ b ≠ i1 ∧ b ≠ i2) → s.heap.get? b = some o → h'.get? b = some o) → h'.get? S = some { cls := .type "list", dict := none, data := .seq acc c, slots := #[] } → ts.length = min xs.size ys.size → ZG xs ys S h' ts → acc.toList = ts.map Value.ref → R (.ok (.ret res)) { s with heap := h', toks := tk }) :
    wpAny (model prog w) A.in1 (Builtin.List.listExtendWith (.ref S) (.ref z) res) (fun fin s' => match fin with
      | .done f => R (.ok f) s'
      | .again c' => c'.quiet = true ∧ codeAny (model prog w) A c' R s') (fun e s' => R (.error e) s') s := by
  have O := B.off
  have go : ∀ (h : Heap) (c1 tk : Nat), (∀ b o, b ≠ S → s.heap.get? b = some o → h.get? b = some o) → h.get? S = some { cls := .type "list", data := .seq #[] c1 } → codeAny (model prog w) A (.builtin "list.extend.loop" ⟨[.ref S, .ref z, res], []⟩) R { s with heap := h, toks := tk } := fun h c1 tk hk hS1 =>
    zl_loop (s := s) hh D B _ rfl hn res (g := s.heap) (fun h' tk' acc c ts k1 k2 k3 k4 k5 => hR h' tk' acc c ts k1 k2 k3 k4 k5) _ 0 h tk c1 #[] [] rfl (Nat.zero_le _) (st.keep O hk) (fun b o q e => hk b o (by
      rcases q with q | q
      · exact Nat.ne_of_gt q
      · exact q.1) e) hS1 rfl rfl ⟨.nil, fun _ q => (nomatch q), fun j t q => (by simp at q)⟩
  have hT : s.TypeIs (.ref z) "zip" := ⟨_, hz, rfl⟩
  unfold Builtin.List.listExtendWith
  refine wpAny_bind (wpAny_typeOf (T := "zip") hT ?_)
  have e1 : Builtin.List.listSameRef (.ref S) (.ref z) = false := by simp [Builtin.List.listSameRef, O.z]
  have e2 : (Value.type "zip" == Value.type "list") = false := by decide
  have e3 : (Value.type "zip" == Value.type "tuple") = false := by decide
  simp only [e1, e2, e3, Bool.or_false, Bool.false_eq_true, if_false]
  refine wpAny_bind (wpAny_pyIter_zip hz ?_)
  refine wpAny_bind (wpAny_holding (zl_hint hT ?_))
  refine wpAny_ite_split (fun _ => ?_) (fun _ => wpAny_pure ⟨plainId_quiet PySem.F.plain_extend_loop _, go _ c0 _ (fun b o _ e => e) hS⟩)
  refine wpAny_bind (wpAny_rule ?_)
  refine wpAny_bind ?_
  show wpAny (model prog w) A.in1 (updateSeq S (·.push .none) >>= fun _ => updateSeq S (·.pop)) _ _ _
  refine wpAny_bind (wpAny_updateSeq hS rfl ?_)
  have u2 := Heap.get?_update_self (Obj.mapSeq (·.push Value.none)) hS rfl
  refine wpAny_updateSeq (hz := by seq_fits) u2 rfl ?_
  have u3 := Heap.get?_update_self (Obj.mapSeq (·.pop)) u2 rfl
  exact wpAny_pure ⟨plainId_quiet PySem.F.plain_extend_loop _, go _ _ _ (fun b o q e => (Heap.get?_update_other _ _ (Ne.symm q)).trans ((Heap.get?_update_other _ _ (Ne.symm q)).trans e)) u3⟩
theorem zl_call {Q : Value → Shared → Prop} (hh : A.handled = none) (D : ZipApart z TI TO i1 i2 l1 l2) (hn : min xs.size ys.size ≤ sizeLine) (hz : IsZip s.heap z TI TO .none) (hTI : IsPair s.heap TI (.ref i1) (.ref i2)) (hTO : ∃ a b, IsPair s.heap TO a b) (h1 : s.heap.IsListIter i1 l1 0) (h2 : s.heap.IsListIter i2 l2 0) (hl1 : s.heap.IsList l1 xs) (hl2 : s.heap.IsList l2 ys)
    (hQ : ∀ h' tk acc c ts, (∀ b o, b ≠ z → b ≠ TO → b ≠ i1 → b ≠ i2 → s.heap.get? b = some o → h'.get? b = some o) → h'.get? s.heap.objs.size = some { cls := .type "list", dict := none, data := .seq acc c, slots := #[] } → ts.length = min xs.size ys.size → ZG xs ys s.heap.objs.size h' ts → acc.toList = ts.map Value.ref → Q (.ref s.heap.objs.size) { s with heap := h', toks := tk }) :
    wpAny (model prog w) A (call (.type "list") [.ref z]) Q E s := by
  refine callType_codes (Q₁ := fun ob sh => ob = .ref s.heap.objs.size ∧ sh = { s with heap := s.heap.push { cls := .type "list", data := .seq #[] } }) PySem.F.called_list (PySem.F.typeCall_list_1 _) PySem.F.entry_list_init (code_list_new _ ⟨rfl, rfl⟩) fun ob sh q => ?_
  obtain ⟨rfl, rfl⟩ := q
  have up : ∀ b o, s.heap.get? b = some o → (s.heap.push { cls := .type "list", data := .seq #[] }).get? b = some o := fun b o e => Heap.get?_push_of_some _ e
  have hS : (s.heap.push { cls := .type "list", data := .seq #[] }).get? s.heap.objs.size = some { cls := .type "list", data := .seq #[] } := Heap.get?_push_size _ rfl
  obtain ⟨a, b, hTO⟩ := hTO
  have B : Below s.heap.objs.size z TI TO i1 i2 l1 l2 := ⟨Heap.lt_size hz, Heap.lt_size hTI, Heap.lt_size hTO, let ⟨_, e, _⟩ := h1; Heap.lt_size e, let ⟨_, e, _⟩ := h2; Heap.lt_size e, let ⟨_, e, _⟩ := hl1; Heap.lt_size e, let ⟨_, e, _⟩ := hl2; Heap.lt_size e⟩
  refine ⟨⟨_, hS, rfl⟩, PySem.F.args_list_init_2 _ _, ?_⟩
  show wpAny (model prog w) A.in1.in1 (do let old ← Builtin.List.listItems (.ref s.heap.objs.size); Builtin.List.listUpdate (.ref s.heap.objs.size) (fun _ => #[]); letGo old.toList.reverse; Builtin.List.listExtendWith (.ref s.heap.objs.size) (.ref z) .none) _ _ _
  refine wpAny_bind ?_
  unfold Builtin.List.listItems
  refine wpAny_bind (wpAny_seqItems hS rfl (wpAny_pure ?_))
  show wpAny (model prog w) A.in1.in1 (updateSeq s.heap.objs.size (fun _ => #[]) >>= fun _ => letGo (#[] : Array Value).toList.reverse >>= fun _ => Builtin.List.listExtendWith (.ref s.heap.objs.size) (.ref z) .none) _ _ _
  refine wpAny_bind (wpAny_updateSeq hS rfl ?_)
  have hS2 := Heap.get?_update_self (Obj.mapSeq (fun _ => (#[] : Array Value))) hS rfl
  have oth : ∀ b o, b ≠ s.heap.objs.size → s.heap.get? b = some o → ((s.heap.push { cls := .type "list", data := .seq #[] }).update s.heap.objs.size (Obj.mapSeq (fun _ => (#[] : Array Value)))).get? b = some o := fun b o q e => (Heap.get?_update_other _ _ (Ne.symm q)).trans (up b o e)
  have ne : ∀ {b o}, s.heap.get? b = some o → b ≠ s.heap.objs.size := fun e => Nat.ne_of_lt (Heap.lt_size e)
  have all : ∀ b o, s.heap.get? b = some o → ((s.heap.push { cls := .type "list", data := .seq #[] }).update s.heap.objs.size (Obj.mapSeq (fun _ => (#[] : Array Value)))).get? b = some o := fun b o e => oth b o (ne e) e
  refine wpAny_bind (wpAny_letGo ?_)
  refine zl_extend (A := A.in1) hh D B hn ⟨all _ _ hTI, h1.at fun o e => all _ o e, h2.at fun o e => all _ o e, hl1.at fun o e => all _ o e, hl2.at fun o e => all _ o e, .inl ⟨all _ _ hz, a, b, all _ _ hTO⟩⟩ (all _ _ hz) .none _ hS2 fun h' tk acc c ts k1 k2 k3 k4 k5 => ?_
  exact ⟨rfl, hQ h' tk acc c ts (fun b o q1 q2 q3 q4 e => k1 b o (.inr ⟨ne e, q1, q2, q3, q4⟩) (all b o e)) k2 k3 k4 k5⟩
end
end Mir
namespace Mir
open PySem PySem.Spec PyProof.Rows L2
/-- pairs laid at their addresses -/
def putZ : Hp → List Addr → List (V × V) → Hp
  | H, t :: ts, q :: qs => putZ (upd H t (.tup [q.1, q.2])) ts qs
  | H, _, _ => H
theorem putZ_off {b : Addr} : ∀ (ts : List Addr) (qs : List (V × V)) (H : Hp), b ∉ ts → putZ H ts qs b = H b
  | [], _, _, _ => rfl
  | _ :: _, [], _, _ => rfl
  | t :: ts, q :: qs, H, h => by
    have e : putZ H (t :: ts) (q :: qs) b = putZ (upd H t (.tup [q.1, q.2])) ts qs b := rfl
    rw [e, putZ_off ts qs _ fun m => h (.tail _ m), upd_ne fun m => h (by rw [m]; exact .head _)]
theorem putZ_at : ∀ (ts : List Addr) (qs : List (V × V)) (H : Hp), ts.length = qs.length → ts.Nodup → ∀ (j : Nat) (t : Addr) (q : V × V), ts[j]? = some t → qs[j]? = some q → putZ H ts qs t = some (.tup [q.1, q.2])
  | [], _, _, _, _, j, t, q, h, _ => by simp at h
  | _ :: _, [], _, h, _, _, _, _, _, _ => by cases h
  | a :: ts, p :: qs, H, h, hn, j, t, q, h1, h2 => by
    obtain ⟨n1, n2⟩ := List.nodup_cons.mp hn
    have e : putZ H (a :: ts) (p :: qs) t = putZ (upd H a (.tup [p.1, p.2])) ts qs t := rfl
    rw [e]
    cases j with
    | zero =>
      cases Option.some.inj h1
      cases Option.some.inj h2
      rw [putZ_off ts qs _ n1, upd_same]
    | succ j => exact putZ_at ts qs _ (Nat.succ.inj h) n2 j t q h1 h2
def tListZip (K : PySem.W.Frag) (ta : TA) : TE := fun σ H Q => ta σ H fun vs H1 => ∃ a b xs ys, vs = [.ref a, .ref b] ∧ SqL K H1 a xs ∧ SqL K H1 b ys ∧
  ∀ (H' : Hp) (p : Addr) (ts : List Addr), (∀ c o, H1 c = some o → H' c = some o) → H1 p = none → (∀ t ∈ ts, H1 t = none) → H' p = some (.lst (ts.map V.ref)) → ts.length = (xs.zip ys).length → (∀ (j : Nat) (t : Addr) (q : V × V), ts[j]? = some t → (xs.zip ys)[j]? = some q → H' t = some (.tup [q.1, q.2])) → Q (.ref p) H'
theorem zip_laid {X : Cx} {pins : List (Addr × Obj)} {σ : L2.St} {H : Hp} {s : Shared} {h' : Heap} {tk : Nat} {xs ys : List V} {us vs : List Value} {acc : Array Value} {c : Nat} {S : Addr} {ts : List Addr} (I : Inv X pins σ H s) (hS0 : s.heap.objs.size ≤ S) (hx : Vals xs us) (hy : Vals ys vs) (hz : (xs.zip ys).length ≤ sizeLine)
    (hk : ∀ b o, s.heap.get? b = some o → h'.get? b = some o) (hS : h'.get? S = some { cls := .type "list", dict := none, data := .seq acc c, slots := #[] }) (hl : ts.length = (xs.zip ys).length) (hG : ZG us.toArray vs.toArray S h' ts) (ha : acc.toList = ts.map Value.ref) :
    ∃ H' : Hp, (∀ b o, H b = some o → H' b = some o) ∧ H S = none ∧ (∀ t ∈ ts, H t = none) ∧ H' S = some (.lst (ts.map V.ref)) ∧ (∀ (j : Nat) (t : Addr) (q : V × V), ts[j]? = some t → (xs.zip ys)[j]? = some q → H' t = some (.tup [q.1, q.2])) ∧ Inv X pins σ H' { s with heap := h', toks := tk } := by
  have Sn : S ∉ ts := fun m => Nat.lt_irrefl _ (hG.over _ m)
  have nd : ts.Nodup := List.Pairwise.imp (fun {a b} (q : a < b) => Nat.ne_of_lt q) hG.up
  have f1 : ∀ t ∈ ts, H t = none := fun t m => I.hok.fresh (Nat.le_trans hS0 (Nat.le_of_lt (hG.over t m)))
  have f2 : H S = none := I.hok.fresh hS0
  have at1 := putZ_at ts (xs.zip ys) (upd H S (.lst (ts.map V.ref))) hl nd
  have off : ∀ b, b ∉ ts → b ≠ S → putZ (upd H S (.lst (ts.map V.ref))) ts (xs.zip ys) b = H b := fun b q1 q2 => by rw [putZ_off ts _ _ q1, upd_ne q2]
  have low : ∀ b o, s.heap.get? b = some o → b ∉ ts ∧ b ≠ S := fun b o e => by
    have := Heap.lt_size e
    exact ⟨fun m => absurd (hG.over b m) (by have h0 := hS0; have h1 := this; show ¬ S < b; exact Nat.not_lt.mpr (Nat.le_of_lt (Nat.lt_of_lt_of_le h1 h0))), Nat.ne_of_lt (Nat.lt_of_lt_of_le this hS0)⟩
  have kp : ∀ b u, H b = some u → putZ (upd H S (.lst (ts.map V.ref))) ts (xs.zip ys) b = some u := fun b u e => by
    rw [off b (fun m => by rw [f1 b m] at e; cases e) fun m => by rw [m, f2] at e; cases e]
    exact e
  have eS : putZ (upd H S (.lst (ts.map V.ref))) ts (xs.zip ys) S = some (.lst (ts.map V.ref)) := by rw [putZ_off ts _ _ Sn, upd_same]
  refine ⟨putZ (upd H S (.lst (ts.map V.ref))) ts (xs.zip ys), kp, f2, f1, eS, at1, ?_⟩
  refine I.call' (ch := []) rfl ⟨fun b o q _ _ _ => hk b o q, fun b o q _ _ _ => ⟨o.slots, hk b o q⟩, fun b o q n _ => ?_, fun b o q _ => ⟨o, hk b o q⟩, fun b l q => kp b _ q, fun b o u q => kp b _ q, fun b ps q => ⟨#[], by rw [kp b _ q]; simp⟩⟩ (fun b u q => ?_) I.bare fun b q => by simp at q
  · obtain ⟨q1, q2⟩ := low b o q
    rw [off b q1 q2]
    exact n
  · by_cases hb : b ∈ ts
    · obtain ⟨j, hj⟩ := List.mem_iff_getElem?.mp hb
      have jl : j < (xs.zip ys).length := by rw [← hl]; exact (List.getElem?_eq_some_iff.mp hj).1
      have eq := List.getElem?_eq_getElem jl
      rw [at1 j b _ hj eq] at q
      cases q
      obtain ⟨x, y, g1, g2, g3⟩ := hG.is j b hj
      have jx : j < xs.length := by rw [List.length_zip] at jl; exact Nat.lt_of_lt_of_le jl (Nat.min_le_left ..)
      have jy : j < ys.length := by rw [List.length_zip] at jl; exact Nat.lt_of_lt_of_le jl (Nat.min_le_right ..)
      obtain ⟨u, hu, ru⟩ := hx.get (List.getElem?_eq_getElem jx)
      obtain ⟨v, hv, rv⟩ := hy.get (List.getElem?_eq_getElem jy)
      have g1' : us[j]? = some x := by simpa using g1
      have g2' : vs[j]? = some y := by simpa using g2
      rw [hu] at g1'
      rw [hv] at g2'
      cases Option.some.inj g1'
      cases Option.some.inj g2'
      rw [List.getElem_zip]
      exact ⟨by show 2 ≤ sizeLine; decide, [x, y], .cons ru (.cons rv .nil), ⟨_, g3, rfl, _, rfl⟩⟩
    · by_cases hb2 : b = S
      · subst hb2
        rw [eS] at q
        cases q
        refine ⟨by rw [List.length_map, hl]; exact hz, acc.toList, c, by rw [ha]; exact LiI.vals_refs ts, ?_⟩
        rw [Array.toArray_toList]
        exact hS
      · rw [off b hb hb2] at q
        exact (I.hok b u q).stay (fun d v _ y => hk d v y) (fun d y => kp d _ y) fun d l y => kp d _ y
end Mir
namespace Mir
open PySem PySem.Spec PyProof.Rows L2
section
variable {X : Cx} {G : Gm} {e e2 : Expr} {ta : TA} {p p2 cpos pos : Pos}
/-- list(zip(e, e2)), of two lists -/
theorem pe_listZip (hc : X.calm = true) (ha : PA X [e, e2] ta) (hg : Gl X "list") (hm : X.mg "list" = none) (hgz : Gl X "zip") (hmz : X.mg "zip" = none)
    (hs1 : starEach [.Call (.Name "zip" p2) [e, e2] [] cpos] X.env = (false, eval (.Call (.Name "zip" p2) [e, e2] [] cpos) X.env) :: starEach [] X.env := by rfl)
    (hs : starEach [e, e2] X.env = (false, eval e X.env) :: starEach [e2] X.env := by rfl) (hpl : (backTo cpos (starEach [e2] X.env)).any (·.1) = false := by rfl) :
    PE X (.Call (.Name "list" p) [.Call (.Name "zip" p2) [e, e2] [] cpos] [] pos) (tListZip X.K ta) := by
  refine ⟨fun pins s σ H Q I h => ?_⟩
  have hv : bootBuiltins "list" = some (.type "list") := by decide +kernel
  refine wpAny_Call_Name_kw (ld_blt I hg hm hv ?_)
  refine PyProof.Rows.callWith_type1 ?_ hs1 rfl
  rw [hs1]
  show wpAny _ _ (spliced ((false, eval (.Call (.Name "zip" p2) [e, e2] [] cpos) X.env) :: backTo pos (starEach [] X.env))) _ _ s
  refine Calls.spliced_cons ?_
  refine Call_ (ld_blt I hgz hmz PyProof.Rows.boot_zip (PyProof.Rows.callWith_type1 (thn (ha.run cpos pins s σ H _ I h) fun us s1 ⟨vs, H1, I1, r1, q1⟩ => ?_) hs hpl))
  obtain ⟨a, b, xs, ys, ex, hqx, hqy, q⟩ := q1
  subst ex
  cases r1 with
  | cons r rr =>
    cases rr with
    | cons r' rr =>
      cases rr
      cases r
      cases r'
      obtain ⟨its, rv, l1, z1⟩ := I1.list hqx
      obtain ⟨its2, rv2, l2, z2⟩ := I1.list hqy
      refine call_zip_2 l1.isList l2.isList fun h' hz hTI hTO h1 h2 hsz hk => ?_
      refine Calls.spliced_nil ?_
      have D := PySem.W.ktu_apart s1.heap.objs.size a b l1.lt l2.lt
      have n1 : xs.length = its.length := rv.length
      have n2 : ys.length = its2.length := rv2.length
      have nz : (xs.zip ys).length = min its.toArray.size its2.toArray.size := by rw [List.length_zip, n1, n2, List.size_toArray, List.size_toArray]
      have nl : (xs.zip ys).length ≤ sizeLine := by rw [List.length_zip]; exact Nat.le_trans (Nat.min_le_left ..) z1
      refine zl_call (I1.ok.hd hc) D (by rw [← nz]; exact nl) hz hTI ⟨_, _, hTO⟩ h1 h2 (l1.isList.at fun o q => hk _ o q) (l2.isList.at fun o q => hk _ o q) fun h'' tk acc c ts kp hS hl hG hacc => ?_
      have old : ∀ c o, s1.heap.get? c = some o → h''.get? c = some o := fun c o m => by
        have lt := Heap.lt_size m
        refine kp c o (fun z => ?_) (fun z => ?_) (fun z => ?_) (fun z => ?_) (hk c o m)
        · rw [z] at lt; exact absurd lt (Nat.not_lt.mpr (Nat.le_add_right _ _))
        · rw [z] at lt; exact absurd lt (Nat.not_lt.mpr (Nat.le_add_right _ _))
        · rw [z] at lt; exact Nat.lt_irrefl _ lt
        · rw [z] at lt; exact absurd lt (Nat.not_lt.mpr (Nat.le_add_right _ _))
      obtain ⟨H', k1, k2, k3, k4, k5, J⟩ := zip_laid (tk := tk) I1 (S := h'.objs.size) (by rw [hsz]; exact Nat.le_add_right _ _) rv rv2 nl old hS (by rw [nz]; exact hl) hG hacc
      exact ⟨.ref _, H', J, rfl, q H' _ ts k1 k2 k3 k4 (by rw [nz]; exact hl) k5⟩
end
end Mir
namespace Mir
open PySem PySem.Spec PyProof.Rows L2
/-- list(zip(xs, ys)) -/
def lzF : List D → R D
  | [.lst ds, .lst es] => .ok (.lst (zipD ds es))
  | _ => .bad
/-- what is new in H' is frozen -/
def addF (F H H' : Hp) : Hp := fun c => if H c = none then H' c else F c
theorem addF_grow {F H H' : Hp} (s : Same F H) (k : ∀ c o, H c = some o → H' c = some o) : Grow F H (addF F H H') H' := by
  have nn : ∀ {c : Addr} {u : HO}, H c = some u → ¬ H c = none := fun e z => by rw [e] at z; cases z
  refine ⟨fun c u e => k c u e, fun c u e => ?_, fun c u e => ?_, fun c u e => ?_⟩
  · unfold addF
    rw [if_neg (nn (s c u e))]
    exact e
  · unfold addF at e
    by_cases z : H c = none
    · rw [if_pos z] at e
      exact e
    · rw [if_neg z] at e
      exact k c u (s c u e)
  · unfold addF
    rw [if_neg (nn e)]
theorem dv_zipped {K : PySem.W.Frag} {F : Hp} : ∀ (ts : List Addr) (xs ys : List V) (ds es : List D), DvAll K F xs ds → DvAll K F ys es → ts.length = (xs.zip ys).length → (∀ (j : Nat) (t : Addr) (q : V × V), ts[j]? = some t → (xs.zip ys)[j]? = some q → F t = some (.tup [q.1, q.2])) → DvAll K F (ts.map V.ref) (zipD ds es)
  | ts, [], ys, ds, es, h1, h2, hl, _ => by
    cases h1
    have : ts = [] := List.eq_nil_of_length_eq_zero hl
    subst this
    exact .nil
  | ts, x :: xs, [], ds, es, h1, h2, hl, _ => by
    cases h2
    have : ts = [] := List.eq_nil_of_length_eq_zero hl
    subst this
    cases ds <;> exact .nil
  | [], x :: xs, y :: ys, _, _, _, _, hl, _ => by cases hl
  | t :: ts, x :: xs, y :: ys, ds, es, h1, h2, hl, hq => by
    cases h1 with
    | cons a1 r1 =>
      cases h2 with
      | cons a2 r2 =>
        have e := hq 0 t (x, y) rfl rfl
        exact .cons (.tup (SqT.of e) (.cons a1 (.cons a2 .nil))) (dv_zipped ts xs ys _ _ r1 r2 (Nat.succ.inj hl) fun j t q m1 m2 => hq (j + 1) t q m1 m2)
section
variable {X : Cx} {G : Gm} {e e2 : Expr} {mr : Env → R (List D)} {p p2 cpos pos : Pos}
theorem me_listZip (ha : MA X G [e, e2] mr) (hx : X.mg "list" = none) (hxz : X.mg "zip" = none) (hK : X.K = G.K := by rfl) (hc : X.calm = true := by rfl) (hg : Gl X "list" := by rfl) (hgz : Gl X "zip" := by rfl)
    (hs1 : starEach [.Call (.Name "zip" p2) [e, e2] [] cpos] X.env = (false, eval (.Call (.Name "zip" p2) [e, e2] [] cpos) X.env) :: starEach [] X.env := by rfl)
    (hs : starEach [e, e2] X.env = (false, eval e X.env) :: starEach [e2] X.env := by rfl) (hpl : (backTo cpos (starEach [e2] X.env)).any (·.1) = false := by rfl) :
    ME X G (.Call (.Name "list" p) [.Call (.Name "zip" p2) [e, e2] [] cpos] [] pos) (mCall lzF mr) := weakE (pe_listZip hc ha hg hx hgz hxz hs1 hs hpl) fun σ H Q ⟨ρ, F, S, P⟩ => by
  refine ⟨ρ, F, S, (PostR.bind (rel := DvsR G) P).imp fun d x F1 H1 e1 g1 q1 ⟨F1', d', e1', g1', q1', P1⟩ => ?_⟩
  rw [hK]
  unfold lzF at P1
  split at P1
  · cases q1' with
    | cons h r =>
      obtain ⟨v, rfl, q⟩ := one_of r
      cases q with
      | lst z2 r2 =>
        cases h with
        | lst z r =>
          refine ⟨_, _, _, _, rfl, SqL.of (g1'.s _ _ z), SqL.of (g1'.s _ _ z2), fun H' l ts k1 k2 k3 k4 k5 k6 => ?_⟩
          have gr := addF_grow g1'.s k1
          have new : ∀ {c : Addr}, H1 c = none → addF F1' H1 H' c = H' c := fun e => by unfold addF; rw [if_pos e]
          refine P1 _ _ _ gr (.lst ((new k2).trans k4) (dv_zipped ts _ _ _ _ (r.mono gr.f) (r2.mono gr.f) k5 fun j t q m1 m2 => ?_))
          rw [new (k3 t (List.mem_of_getElem? m1))]
          exact k6 j t q m1 m2
  · exact P1.elim
end
end Mir
/-! a deque that holds something: deque(list), truth, popleft, append, extend(list) -/
namespace PySem
open PyProof.Rows
namespace F
theorem dq_plain : PlainAttrs "collections.deque" :=
  ⟨⟨"collections.deque.__getattribute__", by rw [typeLookup_type, builtinLookup_eq_fast]; kernel_rfl, by decide +kernel⟩, by rw [typeLookup_type, builtinLookup_eq_fast]; kernel_rfl⟩
theorem dq_slot_popleft : Slot "collections.deque" "popleft" "collections.deque.popleft" :=
  .of (owner := "collections.deque") (n := "popleft") (by rw [typeLookup_type, builtinLookup_eq_fast]; kernel_rfl) (by decide +kernel) (by decide +kernel) (by decide +kernel)
    (by first | exact .inl (by decide +kernel) | exact .inr (by decide +kernel)) (by rw [isSubtype_type]; kernel_rfl)
theorem dq_slot_append : Slot "collections.deque" "append" "collections.deque.append" :=
  .of (owner := "collections.deque") (n := "append") (by rw [typeLookup_type, builtinLookup_eq_fast]; kernel_rfl) (by decide +kernel) (by decide +kernel) (by decide +kernel)
    (by first | exact .inl (by decide +kernel) | exact .inr (by decide +kernel)) (by rw [isSubtype_type]; kernel_rfl)
theorem dq_slot_extend : Slot "collections.deque" "extend" "collections.deque.extend" :=
  .of (owner := "collections.deque") (n := "extend") (by rw [typeLookup_type, builtinLookup_eq_fast]; kernel_rfl) (by decide +kernel) (by decide +kernel) (by decide +kernel)
    (by first | exact .inl (by decide +kernel) | exact .inr (by decide +kernel)) (by rw [isSubtype_type]; kernel_rfl)
theorem dq_type_popleft : typeOf (.builtin "collections.deque.popleft") = pure (.type "method_descriptor") := by show builtinType _ = _; rw [builtinType_eq_fast]; kernel_rfl
theorem dq_type_append : typeOf (.builtin "collections.deque.append") = pure (.type "method_descriptor") := by show builtinType _ = _; rw [builtinType_eq_fast]; kernel_rfl
theorem dq_type_extend : typeOf (.builtin "collections.deque.extend") = pure (.type "method_descriptor") := by show builtinType _ = _; rw [builtinType_eq_fast]; kernel_rfl
theorem dq_entry_popleft : entryFor table "collections.deque.popleft" = some Builtin.«collections.deque.popleft» := entryFor_of_tree (by kernel_rfl)
theorem dq_entry_append : entryFor table "collections.deque.append" = some Builtin.«collections.deque.append» := entryFor_of_tree (by kernel_rfl)
theorem dq_entry_extend : entryFor table "collections.deque.extend" = some Builtin.«collections.deque.extend» := entryFor_of_tree (by kernel_rfl)
theorem dq_entry_loop : entryFor table "collections.deque.extend.loop" = some Builtin.«collections.deque.extend.loop» := entryFor_of_tree (by kernel_rfl)
theorem dq_plain_extend : plainId "collections.deque.extend" = true := by decide +kernel
theorem dq_plain_loop : plainId "collections.deque.extend.loop" = true := by decide +kernel
theorem dq_args_popleft (a : Value) : argsOk "collections.deque.popleft" ⟨[a], []⟩ := by unfold argsOk; kernel_rfl
theorem dq_args_append (a b : Value) : argsOk "collections.deque.append" ⟨[a, b], []⟩ := by unfold argsOk; kernel_rfl
theorem dq_args_extend (a b : Value) : argsOk "collections.deque.extend" ⟨[a, b], []⟩ := by unfold argsOk; kernel_rfl
theorem dq_typeCall1 (a : Value) : checkTypeCall "collections.deque" ⟨[a], []⟩ = pure () := by first | kernel_rfl | rfl
theorem dq_newCall1 (a : Value) : checkBuiltinCall "collections.deque.__new__" ⟨[.type "collections.deque", a], []⟩ = pure () := by first | kernel_rfl | rfl
theorem dq_args_init1 (a b : Value) : argsOk "collections.deque.__init__" ⟨[a, b], []⟩ := by unfold argsOk; kernel_rfl
end F
def dqF (n : Int) (vs : Array Value) : Array Value := #[Value.none, rawInt n] ++ vs
def dqObj (n : Int) (vs : Array Value) : Obj := recObj "collections.deque" (dqF n vs)
theorem dqF_size (n : Int) (vs : Array Value) : (dqF n vs).size = vs.size + 2 := by unfold dqF; rw [Array.size_append]; show 2 + vs.size = _; omega
theorem dqF_items (n : Int) (vs : Array Value) : (dqF n vs).extract 2 (dqF n vs).size = vs := by
  rw [dqF_size]
  unfold dqF
  apply Array.ext'
  simp
theorem dqF_0 (n : Int) (vs : Array Value) : (dqF n vs)[0]? = some .none := by unfold dqF; rw [Array.getElem?_append_left (by show 0 < 2; decide)]; rfl
theorem dqF_1 (n : Int) (vs : Array Value) : (dqF n vs)[1]? = some (.int n 0) := by unfold dqF; rw [Array.getElem?_append_left (by show 1 < 2; decide)]; rfl
theorem dqF_d (n : Int) (vs : Array Value) : (dqF n vs).getD 0 .none = .none := by rw [Array.getD_eq_getD_getElem?, dqF_0]; rfl
section
variable {prog : Program} {w : World} {A : Around} {E : Value → Shared → Prop} {s : Shared} {a : Addr} {n : Int} {vs : Array Value}
theorem dq_state {Q : Int → Shared → Prop} (hg : s.heap.get? a = some (dqObj n vs)) (h : Q n s) : wpAny (model prog w) A (Builtin.Deque.state (.ref a)) Q E s := by
  unfold Builtin.Deque.state
  exact wpAny_bind (wpAny_field hg rfl (dqF_1 n vs) (wpAny_pure h))
theorem dq_items {Q : Array Value → Shared → Prop} (hg : s.heap.get? a = some (dqObj n vs)) (h : Q vs s) : wpAny (model prog w) A (Builtin.Deque.items (.ref a)) Q E s := by
  unfold Builtin.Deque.items
  refine wpAny_bind (wpAny_fieldsOf hg rfl (wpAny_pure ?_))
  rw [dqF_items]
  exact h
theorem dq_size {Q : Nat → Shared → Prop} (hg : s.heap.get? a = some (dqObj n vs)) (h : Q vs.size s) : wpAny (model prog w) A (Builtin.Deque.size (.ref a)) Q E s := by
  unfold Builtin.Deque.size
  refine wpAny_bind (wpAny_fieldsOf hg rfl (wpAny_pure ?_))
  rw [dqF_size]
  exact h
theorem dq_maxlen {Q : Option Nat → Shared → Prop} (hg : s.heap.get? a = some (dqObj n vs)) (h : Q none s) : wpAny (model prog w) A (Builtin.Deque.maxlen (.ref a)) Q E s := by
  unfold Builtin.Deque.maxlen
  exact wpAny_bind (wpAny_field hg rfl (dqF_0 n vs) (wpAny_pure h))
theorem dq_change {f : Array Value → Array Value} {Q : Unit → Shared → Prop} (hg : s.heap.get? a = some (dqObj n vs)) (hz : (f vs).size ≤ sizeLine)
    (h : ∀ h', h'.get? a = some (dqObj (n + 1) (f vs)) → Heap.SameBut a s.heap h' → Q () { s with heap := h' }) : wpAny (model prog w) A (Builtin.Deque.change (.ref a) f) Q E s := by
  unfold Builtin.Deque.change
  refine wpAny_bind (dq_state hg ?_)
  have e : ∀ us : Array Value, us = dqF n vs → (#[us.getD 0 .none, rawInt (if true = true then n + 1 else n)] ++ f (us.extract 2 us.size) : Array Value) = dqF (n + 1) (f vs) := by
    intro us eu
    rw [eu, dqF_items, dqF_d]
    rfl
  refine wpAny_updateFields (vs := dqF n vs) hg rfl ?_ ?_
  · refine h _ ?_ (Heap.SameBut.update ..)
    rw [Heap.get?_update_self _ hg rfl]
    show some (Obj.mapFields _ (recObj "collections.deque" (dqF n vs))) = _
    unfold Obj.mapFields recObj dqObj recObj
    dsimp only
    rw [e _ rfl]
  · rw [e _ rfl, dqF_size]
    omega
theorem dq_push {x : Value} {Q : Unit → Shared → Prop} (hg : s.heap.get? a = some (dqObj n vs)) (hz : vs.size < sizeLine)
    (h : ∀ h', h'.get? a = some (dqObj (n + 1) (vs.push x)) → Heap.SameBut a s.heap h' → Q () { s with heap := h' }) : wpAny (model prog w) A (Builtin.Deque.pushRight (.ref a) x) Q E s := by
  unfold Builtin.Deque.pushRight
  refine wpAny_bind (dq_change hg (by rw [Array.size_push]; omega) fun h' hg' sb => ?_)
  refine wpAny_bind (dq_maxlen hg' ?_)
  exact wpAny_pure (h h' hg' sb)
end
section
variable {prog : Program} {w : World} {A : Around} {R : Result → Shared → Prop} {I : Addr} {fp wr : List Addr} {G : Array GenState → Array GenState → Prop} {n : Nat} {P : Nat → Value → Prop} {St : Nat → Shared → Prop}
theorem codeAny_dq_loop (W : WalksS prog w A.in1 I fp wr G n P St) (S : Addr) (hSf : S ∉ fp) :
    ∀ (k i : Nat) (s : Shared) (vs : Array Value) (m : Int), n - i = k → i ≤ n → St i s → s.heap.get? S = some (dqObj m vs) → vs.size + (n - i) ≤ sizeLine →
      (∀ (s' : Shared) (us : List Value) (m' : Int), Moved (S :: wr) G s s' → us.length = n - i → (∀ j v, us[j]? = some v → P (i + j) v) → s'.heap.get? S = some (dqObj m' (vs ++ us.toArray)) → R (.ok (.ret .none)) s') →
      codeAny (model prog w) A (.builtin "collections.deque.extend.loop" ⟨[.ref S, .ref I, .none], []⟩) R s := by
  have hSw : S ∉ wr := fun h => hSf (W.sub _ h)
  have hsub : ∀ b ∈ wr, b ∈ S :: wr := fun b hb => List.mem_cons_of_mem _ hb
  intro k
  induction k with
  | zero =>
    intro i s vs m hk hi hst hS hz hR
    have hin : i = n := by omega
    subst hin
    refine codeAny_builtin F.dq_entry_loop ?_
    rw [Around.under_plainId F.dq_plain_loop _]
    show wpAny _ A.in1 (pyNext (.ref I) >>= _) _ _ s
    refine wpAny_bind (W.done s _ _ hst fun s' hm => ?_)
    show wpAny _ A.in1 (ret Value.none) _ _ s'
    refine wpAny_pure (hR s' [] m (hm.mono hsub) (by simp) (fun j v q => by simp at q) ?_)
    rw [show vs ++ ([] : List Value).toArray = vs by simp]
    exact hm.heap S _ hSw hS
  | succ k ih =>
    intro i s vs m hk hi hst hS hz hR
    have hlt : i < n := by omega
    refine codeAny_builtin F.dq_entry_loop ?_
    rw [Around.under_plainId F.dq_plain_loop _]
    show wpAny _ A.in1 (pyNext (.ref I) >>= _) _ _ s
    refine wpAny_bind (W.item i s _ _ hlt hst fun v s' hP hst' hm => ?_)
    have hS' := hm.heap S _ hSw hS
    show wpAny _ A.in1 (do
      if (← field (.ref S) 0) != Value.none then unsupported "collections.deque.extend:maxlen-turned-meanwhile"
      if (← Builtin.Deque.maxlen (.ref S)) != some 0 then Builtin.Deque.pushRight (.ref S) v
      again (.builtin "collections.deque.extend.loop" ⟨[.ref S, .ref I, .none], []⟩)) _ _ s'
    refine wpAny_bind (wpAny_field hS' rfl (dqF_0 m vs) ?_)
    rw [if_neg (by decide)]
    try refine wpAny_bind (wpAny_pure ?_)
    refine wpAny_bind (dq_maxlen hS' ?_)
    rw [if_pos (by decide)]
    refine wpAny_bind (dq_push hS' (by omega) fun h' hg' sb => ?_)
    refine wpAny_pure ⟨plainId_quiet F.dq_plain_loop _, ih (i + 1) _ (vs.push v) (m + 1) (by omega) hlt (W.frame _ s' _ _ hst' (Nat.le_refl _) fun b hb o e => ?_) hg' (by rw [Array.size_push]; omega) fun s'' us m' hm'' hl hu hg'' => ?_⟩
    · rw [sb.2 b (fun h : b = S => hSf (by rw [← h]; exact hb))]; exact e
    · refine hR s'' (v :: us) m' (Moved.trans W.gtrans ((hm.mono hsub).then_heap (Nat.le_refl _) fun b o hb e => ?_) hm'') (by rw [List.length_cons, hl]; omega) (fun j x q => ?_) ?_
      · rw [sb.2 b (fun h : b = S => hb (by rw [h]; exact List.mem_cons_self))]; exact e
      · cases j with
        | zero => simp at q; subst q; exact hP
        | succ j =>
          have := hu j x (by simpa using q)
          rw [show i + (j + 1) = i + 1 + j by omega]
          exact this
      · rw [hg'', List.push_append_toArray]
/-- deque.extend(list), run -/
theorem codeAny_dq_extend {s : Shared} {S L : Addr} {items : Array Value} {vs : Array Value} {m : Int} (hh : A.handled = none) (hne : S ≠ L) (hS : s.heap.get? S = some (dqObj m vs)) (hl : s.heap.IsList L items) (hz : vs.size + items.size ≤ sizeLine)
    (hR : ∀ h' tk m', h'.get? S = some (dqObj m' (vs ++ items)) → (∀ b o, b ≠ S → s.heap.get? b = some o → h'.get? b = some o) → R (.ok (.ret .none)) { s with heap := h', toks := tk }) :
    codeAny (model prog w) A (.builtin "collections.deque.extend" ⟨[.ref S, .ref L], []⟩) R s := by
  refine codeAny_builtin F.dq_entry_extend ?_
  rw [Around.under_plainId F.dq_plain_extend _]
  unfold Builtin.«collections.deque.extend»
  refine wpAny_bind (wpAny_of_eq (a := (Value.ref S, Value.ref L)) rfl ?_)
  dsimp only
  have hb : ((Value.ref S == Value.ref L) = true) = False := by
    apply propext
    constructor
    · intro z
      have := beq_iff_eq.mp z
      cases this
      exact hne rfl
    · intro z; exact z.elim
  rw [if_neg (by rw [hb]; exact fun z => z)]
  refine wpAny_bind (wpAny_field hS rfl (dqF_0 m vs) ?_)
  refine wpAny_bind (wpAny_pyIter_list hl ?_)
  obtain ⟨ol, hol, hcl, nl, hdl⟩ := id hl
  have hlS : L < s.heap.objs.size := Heap.lt_size hol
  have hSS : S < s.heap.objs.size := Heap.lt_size hS
  have hneI : L ≠ s.heap.objs.size := Nat.ne_of_lt hlS
  have hSf : S ∉ [s.heap.objs.size, L] := by
    simp only [List.mem_cons, List.not_mem_nil, or_false, not_or]
    exact ⟨Nat.ne_of_lt hSS, hne⟩
  have hl1 : (s.heap.push { cls := .type "list_iterator", data := .fields #[.ref L, .int 0 0] }).IsList L items := hl.push _
  refine wpAny_pure ⟨plainId_quiet F.dq_plain_loop _, ?_⟩
  refine codeAny_dq_loop ((Walks.list (A := A.in1) hh _ L hneI items).toS) S hSf (items.size - 0) 0 _ vs m rfl (Nat.zero_le _) ⟨⟨_, Heap.get?_push_size _ rfl, rfl, rfl⟩, hl1⟩ (Heap.get?_push_of_some _ hS) (by rw [Nat.sub_zero]; exact hz) fun s' us m' hm hlen hu hg => ?_
  have eus : us.toArray = items := by
    apply Array.ext
    · rw [List.size_toArray, hlen]; omega
    · intro j h1 h2
      have q := hu j (us[j]'(by simpa using h1)) (List.getElem?_eq_getElem _)
      rw [Nat.zero_add] at q
      have q2 : items[j]? = some items[j] := by simp [h2]
      rw [q2] at q
      simpa using (Option.some.inj q).symm
  obtain ⟨h', g', d', tk', os'⟩ := s'
  have eg : g' = s.gens := hm.gens
  have ed : d' = s.drawn := hm.drawn
  have eo : os' = s.os := hm.os
  subst eg; subst ed; subst eo
  rw [eus] at hg
  refine hR h' tk' m' hg fun b o hb e => ?_
  have hb2 : b ≠ s.heap.objs.size := Nat.ne_of_lt (Heap.lt_size e)
  exact hm.heap b o (by simp only [List.mem_cons, List.not_mem_nil, or_false, not_or]; exact ⟨hb, hb2⟩) (Heap.get?_push_of_some _ e)
end
end PySem
namespace PySem
open PyProof.Rows
section
variable {prog : Program} {w : World} {A : Around} {E : Value → Shared → Prop} {s : Shared}
theorem dq_code_new1 {b : Value} {Q₁ : Value → Shared → Prop} (h : Q₁ (.ref s.heap.objs.size) { s with heap := s.heap.push (recObj "collections.deque" dq0) }) :
    codeAny (model prog w) A (.call (.builtin "collections.deque.__new__") ⟨[.type "collections.deque", b], []⟩) (wants Q₁ E) s := by
  refine codeAny_call_builtin F.dq_plain_new F.dq_entry_new (wpAny_of_eq (F.dq_newCall1 b) ?_)
  unfold Builtin.«collections.deque.__new__»
  refine wpAny_bind ?_
  unfold Builtin.Deque.newArgs
  refine wpAny_bind (wpAny_of_eq (a := true) rfl ?_)
  refine PySem.W.KFB.if_not rfl ?_
  refine wpAny_bind (wpAny_of_eq (a := true) F.dq_sub ?_)
  refine PySem.W.KFB.if_not rfl ?_
  refine wpAny_pure ?_
  refine wpAny_bind ?_
  unfold Builtin.Deque.new
  rw [if_neg (show ¬ (#[] : Array Value).size > sizeLine by decide)]
  refine wpAny_bind (wpAny_pure ?_)
  exact dq_made (wpAny_pure h)
theorem dq0_eq : dq0 = dqF 0 #[] := by unfold dq0 dqF; rfl
theorem dq_call1 {L : Addr} {items : Array Value} {Q : Value → Shared → Prop} (hh : A.handled = none) (hl : s.heap.IsList L items) (hz : items.size ≤ sizeLine)
    (h : ∀ h' tk m, h'.get? s.heap.objs.size = some (dqObj m items) → (∀ b o, s.heap.get? b = some o → h'.get? b = some o) → Q (.ref s.heap.objs.size) { s with heap := h', toks := tk }) :
    wpAny (model prog w) A (call (.type "collections.deque") [.ref L]) Q E s := by
  refine callType_codes (Q₁ := fun obj s₁ => obj = .ref s.heap.objs.size ∧ s₁ = { s with heap := s.heap.push (recObj "collections.deque" dq0) }) F.dq_called (F.dq_typeCall1 _) F.dq_entry_init (dq_code_new1 ⟨rfl, rfl⟩) ?_
  rintro obj s₁ ⟨rfl, rfl⟩
  have hg : (s.heap.push (recObj "collections.deque" dq0)).get? s.heap.objs.size = some (recObj "collections.deque" dq0) := Heap.get?_push_size _ rfl
  refine ⟨⟨_, hg, rfl⟩, F.dq_args_init1 _ _, ?_⟩
  unfold Builtin.«collections.deque.__init__»
  show wpAny _ _ (setField (.ref s.heap.objs.size) 0 .none >>= fun _ => Builtin.Deque.clear (.ref s.heap.objs.size) >>= fun _ => Builtin.Deque.extend (.ref s.heap.objs.size) (.ref L) >>= fun _ => ret .none) _ _ _
  refine wpAny_bind (wpAny_setField_rec (a := s.heap.objs.size) (vs := dq0) hg (by rw [dq0_size]; decide) fun h' hg' sb => ?_)
  rw [dq0_set] at hg'
  refine wpAny_bind ?_
  unfold Builtin.Deque.clear
  refine wpAny_bind ?_
  unfold Builtin.Deque.items
  refine wpAny_bind (wpAny_fieldsOf hg' rfl (wpAny_pure ?_))
  show wpAny _ _ (if (dq0.extract 2 dq0.size).size > 0 then _ else _) _ _ _
  rw [if_neg dq0_items]
  refine wpAny_pure ?_
  have nb : ∀ b o, s.heap.get? b = some o → b ≠ s.heap.objs.size := fun b o e => Nat.ne_of_lt (Heap.lt_size e)
  have hk : ∀ b o, s.heap.get? b = some o → h'.get? b = some o := fun b o e => (sb.2 b (nb b o e)).trans (Heap.get?_push_of_some _ e)
  have hl' : h'.IsList L items := hl.at fun o e => hk L o e
  obtain ⟨ol, hol, _⟩ := id hl
  refine wpAny_bind ?_
  unfold Builtin.Deque.extend
  refine wpAny_bind (wpAny_runValue ?_)
  rw [dq0_eq] at hg'
  refine codeAny_dq_extend (vs := #[]) (m := 0) hh (Ne.symm (nb L ol hol)) hg' hl' (by simpa using hz) fun h2 tk m hg2 hk2 => ?_
  refine wpAny_pure (wpAny_pure ⟨rfl, ?_⟩)
  refine h h2 tk m (by simpa using hg2) fun b o e => hk2 b o (nb b o e) (hk b o e)
/-- a deque's truth -/
theorem dq_truth {l : Addr} {m : Int} {vs : Array Value} {Q : Bool → Shared → Prop} (hl : s.heap.get? l = some (dqObj m vs)) (hz : vs.size ≤ sizeLine)
    (h : Q ((vs.size : Int) != 0) { s with toks := s.toks + 1 + 1 }) : wpAny (model prog w) A (truthy (.ref l)) Q E s := by
  have hT : s.TypeIs (.ref l) "collections.deque" := ⟨_, hl, rfl⟩
  rw [sizeLine_eq] at hz
  have key : wpAny (model prog w) A (runValue (.builtin "len" ⟨[.ref l], []⟩)) (fun r s' => r = .int vs.size (s.toks + 1) ∧ Q ((vs.size : Int) != 0) s') E s := by
    refine wpAny_runValue (codeAny_builtin entry_len ?_)
    rw [Around.under_plainId plain_len _]
    refine wpAny_mono (Q := fun fin s' => ∃ r, fin = .done (.ret r) ∧ r = .int vs.size (s.toks + 1) ∧ Q ((vs.size : Int) != 0) s') ?_ (fun fin s' h' => by obtain ⟨r, rfl, hq⟩ := h'; exact hq) fun _ _ e => e
    unfold Builtin.«len»
    refine wpAny_bind (m := oneArg "len" _) (wpAny_pure ?_)
    refine wpAny_bind (m := callSpecial? (.ref l) (Str.ofString "__len__")) (wpAny_callSpecial?_slot (name := Str.ofString "__len__") hT F.dq_slot_len
      (wpAny_call_entry F.dq_slot_len hT F.dq_entry_len ?_ (F.dq_args_len _)))
    show wpAny _ _ (Builtin.Deque.size (.ref l) >>= fun k => retInt k) _ _ s
    refine wpAny_bind (dq_size hl ?_)
    refine wpAny_bind (wpAny_mkInt (wpAny_pure ⟨_, rfl, ?_⟩))
    refine wpAny_bind (wpAny_holding (wpAny_pure ?_))
    refine wpAny_bind (wpAny_letGo ?_)
    show wpAny _ _ (if ((vs.size : Nat) : Int) < 0 then _ else _) _ _ _
    rw [if_neg (by omega)]
    show wpAny _ _ (if ((vs.size : Nat) : Int) ≥ 2 ^ 63 then _ else _) _ _ _
    rw [if_neg (by omega)]
    exact wpAny_bind (wpAny_mkInt (wpAny_pure ⟨_, rfl, rfl, h⟩))
  unfold truthy
  first
    | refine wpAny_bind (wpAny_callSpecial?_none (name := Str.ofString "__bool__") hT F.dq_noBool ?_)
    | refine wpAny_bind (wpAny_pure (wpAny_bind (wpAny_callSpecial?_none (name := Str.ofString "__bool__") hT F.dq_noBool ?_)))
  first
    | refine wpAny_bind (wpAny_specialOf (name := Str.ofString "__len__") hT F.dq_slot_len.lookup ?_)
    | refine wpAny_bind (wpAny_pure (wpAny_bind (wpAny_specialOf (name := Str.ofString "__len__") hT F.dq_slot_len.lookup ?_)))
  first
    | exact wpAny_bind (wpAny_mono key (fun r s' h' => by obtain ⟨rfl, hq⟩ := h'; exact wpAny_pure hq) fun _ _ e => e)
    | exact wpAny_bind (wpAny_pure (wpAny_bind (wpAny_mono key (fun r s' h' => by obtain ⟨rfl, hq⟩ := h'; exact wpAny_pure hq) fun _ _ e => e)))
end
end PySem
namespace L2
open PySem PySem.Spec PyProof.Rows
open Mir (DqO)
section
variable {X : Cx} {pins : List (Addr × Obj)} {σ : St} {H : Hp} {s : Shared} {a : Addr} {xs ys : List V}
theorem dqO_ok {P : Program} {w : World} {H : Hp} {h : Heap} {its : List Value} {m : Int} (hz : xs.length ≤ sizeLine) (r : Vals xs its) (e : h.get? a = some (dqObj m its.toArray)) : ObjOk P w H h a (DqO a xs) :=
  ⟨⟨its, m, hz, r, e⟩, ⟨_, e⟩, fun _ _ ⟨its, m, hz, r, p⟩ k => ⟨its, m, hz, r, k _ p⟩⟩
theorem Inv.dq (I : Inv X pins σ H s) (e : H a = some (DqO a xs)) : xs.length ≤ sizeLine ∧ ∃ its m, Vals xs its ∧ s.heap.get? a = some (dqObj m its.toArray) := by
  obtain ⟨⟨its, m, hz, r, q⟩, _⟩ := I.hok a _ e
  exact ⟨hz, its, m, r, q⟩
theorem Inv.dqW {h' : Heap} {t' : Nat} {its : List Value} {m : Int} (I : Inv X pins σ H s) (e : H a = some (DqO a xs)) (k : ∀ b u, b ≠ a → s.heap.get? b = some u → h'.get? b = some u) (hz : ys.length ≤ sizeLine) (r : Vals ys its) (new : h'.get? a = some (dqObj m its.toArray)) :
    Inv X pins σ (upd H a (DqO a ys)) { s with heap := h', toks := t' } :=
  I.write (by rw [e]; exact True.intro) (.inl rfl) k ⟨_, new⟩ (dqO_ok hz r new)
end
section
variable {X : Cx}
def rPopl : V → List V → Hp → VK → Prop := fun x vs H Q => ∃ a y ys, x = .ref a ∧ vs = [] ∧ H a = some (DqO a (y :: ys)) ∧ Q y (upd H a (DqO a ys))
theorem mt_popl : MtR X "collections.deque.popleft" rPopl := by
  intro pins s σ H x vs v us Q I rx rv h
  obtain ⟨a, y, ys, rfl, rfl, hH, q⟩ := h
  cases rx
  have hus := rv.zero
  subst hus
  obtain ⟨hz, its, n, rl, hg⟩ := I.dq hH
  cases rl with
  | @cons _ u _ us ry rl =>
    refine wpAny_call (codeAny_call_builtin F.dq_slot_popleft.plain F.dq_entry_popleft (F.dq_slot_popleft.check _ _ _ _ _ _ _ _ ⟨_, hg, rfl⟩ (F.dq_args_popleft _) ?_))
    unfold Builtin.«collections.deque.popleft»
    refine wpAny_bind (wpAny_of_eq (a := Value.ref a) rfl ?_)
    refine wpAny_bind (dq_items hg ?_)
    have e0 : (u :: us).toArray[0]? = some u := by simp
    rw [e0]
    show wpAny _ _ (Builtin.Deque.change (.ref a) (·.eraseIdxIfInBounds 0) >>= fun _ => ret u) _ _ _
    have e1 : (u :: us).toArray.eraseIdxIfInBounds 0 = us.toArray := by rw [List.eraseIdxIfInBounds_toArray]; rfl
    have hzl : us.length = ys.length := (rl.length).symm
    rw [List.length_cons] at hz
    refine wpAny_bind (dq_change hg (by rw [e1, List.size_toArray]; omega) fun h' hg' sb => ?_)
    rw [e1] at hg'
    exact wpAny_pure ⟨y, _, I.dqW (t' := s.toks) hH (fun b u hb e => (sb.2 b hb).trans e) (by omega) rl hg', ry, q⟩
def rAppq : V → List V → Hp → VK → Prop := fun x vs H Q => ∃ a y ys, x = .ref a ∧ vs = [y] ∧ H a = some (DqO a ys) ∧ ys.length < sizeLine ∧ Q .non (upd H a (DqO a (ys ++ [y])))
theorem mt_appq : MtR X "collections.deque.append" rAppq := by
  intro pins s σ H x vs v us Q I rx rv h
  obtain ⟨a, y, ys, rfl, rfl, hH, hl, q⟩ := h
  cases rx
  obtain ⟨u, rfl, ru⟩ := rv.one
  obtain ⟨hz, its, n, rl, hg⟩ := I.dq hH
  have hlen := rl.length
  refine wpAny_call (codeAny_call_builtin F.dq_slot_append.plain F.dq_entry_append (F.dq_slot_append.check _ _ _ _ _ _ _ _ ⟨_, hg, rfl⟩ (F.dq_args_append _ _) ?_))
  unfold Builtin.«collections.deque.append»
  refine wpAny_bind (wpAny_of_eq (a := (Value.ref a, u)) rfl ?_)
  refine wpAny_bind (dq_push hg (by rw [List.size_toArray]; omega) fun h' hg' sb => ?_)
  rw [show its.toArray.push u = (its ++ [u]).toArray by simp] at hg'
  exact wpAny_pure ⟨.non, _, I.dqW (t' := s.toks) hH (fun b u hb e => (sb.2 b hb).trans e) (by rw [List.length_append, List.length_singleton]; omega) (rl.append (.cons ru .nil)) hg', rfl, q⟩
def rExtq (K : PySem.W.Frag) : V → List V → Hp → VK → Prop := fun x vs H Q => ∃ a b ys zs, x = .ref a ∧ vs = [.ref b] ∧ H a = some (DqO a ys) ∧ SqL K H b zs ∧ a ≠ b ∧ ys.length + zs.length ≤ sizeLine ∧ Q .non (upd H a (DqO a (ys ++ zs)))
theorem mt_extq (hc : X.calm = true) : MtR X "collections.deque.extend" (rExtq X.K) := by
  intro pins s σ H x vs v us Q I rx rv h
  obtain ⟨a, b, ys, zs, rfl, rfl, hH, hB, hab, hl, q⟩ := h
  cases rx
  obtain ⟨u, rfl, ru⟩ := rv.one
  cases ru
  obtain ⟨hz, its, n, rl, hg⟩ := I.dq hH
  obtain ⟨its2, rl2, pl, hz2⟩ := I.list hB
  have hlen := rl.length
  have hlen2 := rl2.length
  have key : codeAny (model X.prog X.w) X.A (.builtin "collections.deque.extend" ⟨[.ref a, .ref b], []⟩) (wants (EP X pins σ Q) X.xe) s := by
    refine codeAny_dq_extend (I.ok.hd hc) hab hg pl.isList (by rw [List.size_toArray, List.size_toArray]; omega) fun h' tk m' hg' k => ?_
    rw [show its.toArray ++ its2.toArray = (its ++ its2).toArray by simp] at hg'
    exact ⟨.non, _, I.dqW (t' := tk) hH k (by rw [List.length_append]; omega) (rl.append rl2) hg', rfl, q⟩
  exact wpAny_call (codeAny_call_builtin_code (Code.quiet_builtin _ (by decide +kernel)) (F.dq_slot_extend.check _ _ _ _ _ _ _ _ ⟨_, hg, rfl⟩ (F.dq_args_extend _ _) key))
end
end L2
namespace L2
open PySem PySem.Spec PyProof.Rows
open Mir (DqO)
section
variable {X : Cx}
def rDq1 (K : PySem.W.Frag) : List V → Hp → VK → Prop := fun xs H Q => ∃ b ys, xs = [.ref b] ∧ SqL K H b ys ∧ ∀ q, H q = none → Q (.ref q) (upd H q (DqO q ys))
theorem call_dq1 (hc : X.calm = true) : CallR X (.type "collections.deque") (rDq1 X.K) := by
  intro pins s σ H xs us Q I r h
  obtain ⟨b, ys, rfl, hB, q⟩ := h
  obtain ⟨u, rfl, ru⟩ := r.one
  cases ru
  obtain ⟨its, rl, pl, hz⟩ := I.list hB
  have hlen := rl.length
  exact dq_call1 (I.ok.hd hc) pl.isList (by rw [List.size_toArray]; omega) fun h' tk m hg k => ⟨.ref s.heap.objs.size, _, I.laid (t' := tk) k (Nat.le_refl _) (dqO_ok hz rl hg), rfl, q _ (I.hok.fresh (Nat.le_refl _))⟩
def rTruQ : V → Hp → (Bool → Hp → Prop) → Prop := fun x H Q => ∃ a xs, x = .ref a ∧ H a = some (DqO a xs) ∧ Q (!xs.isEmpty) H
theorem tru_dq : TruR X rTruQ := by
  intro pins s σ H x v Q I rx h
  obtain ⟨a, xs, rfl, e, q⟩ := h
  cases rx
  obtain ⟨hz, its, m, rl, hg⟩ := I.dq e
  have hlen := rl.length
  refine dq_truth hg (by rw [List.size_toArray]; omega) ⟨H, I.tok _, ?_⟩
  have e : ((its.toArray.size : Int) != 0) = !xs.isEmpty := by
    rw [List.size_toArray, ← hlen]
    cases xs with
    | nil => rfl
    | cons y ys =>
      rw [List.length_cons]
      show (((ys.length + 1 : Nat) : Int) != 0) = true
      exact bne_iff_ne.mpr (by omega)
  rw [e]
  exact q
def tQ0 (r : V → List V → Hp → VK → Prop) (to : TE) : TE := fun σ H Q => to σ H fun x H1 => (∃ a xs, x = .ref a ∧ H1 a = some (DqO a xs)) ∧ r x [] H1 Q
def tQ1 (r : V → List V → Hp → VK → Prop) (to : TE) (t : TA) : TE := fun σ H Q => to σ H fun x H1 => (∃ a xs, x = .ref a ∧ H1 a = some (DqO a xs)) ∧ t σ H1 fun xs H2 => r x xs H2 Q
theorem dq_ty {pins : List (Addr × Obj)} {σ : St} {H : Hp} {s : Shared} {y : V} {v : Value} (I : Inv X pins σ H s) (r : RelV y v) (ty : ∃ a xs, y = .ref a ∧ H a = some (DqO a xs)) :
    s.TypeIs v "collections.deque" ∧ ∀ a, v = .ref a → ∃ ob, s.heap.get? a = some ob ∧ ob.dict = none := by
  obtain ⟨a, xs, rfl, e⟩ := ty
  cases r
  obtain ⟨hz, its, m, rl, hg⟩ := I.dq e
  refine ⟨⟨_, hg, rfl⟩, fun b hb => ?_⟩
  cases hb
  exact ⟨_, hg, rfl⟩
variable {o e : Expr} {es : List Expr} {to : TE} {t : TA} {name : Str} {apos cpos : Pos} {id : String} {r : V → List V → Hp → VK → Prop}
theorem pe_q0 (slot : Slot "collections.deque" name id) (hty : typeOf (.builtin id) = pure (.type "method_descriptor")) (hm : MtR X id r) (ho : PE X o to)
    (hbase : attributeBase o name X.env (eval o X.env) = eval o X.env := by rfl) (hline : (apos.endLine == cpos.line) = true := by rfl) : PE X (.Call (.Attribute o name apos) [] [] cpos) (tQ0 r to) := by
  refine ⟨fun pins s σ H Q I h => ?_⟩
  refine wpAny_Call_method0_late hbase hline (thn (ho.run pins s σ H _ I h) fun v s1 ⟨x, H1, I1, r1, ty, q1⟩ => ?_)
  obtain ⟨h1, h2⟩ := dq_ty I1 r1 ty
  exact ⟨"collections.deque", id, F.dq_plain, slot, hty, h1, h2, Calls.callWith_builtin rfl (PySem.evalArgs_none (hm pins s1 σ H1 x [] v [] Q I1 r1 .nil q1))⟩
theorem pe_q1 (slot : Slot "collections.deque" name id) (hty : typeOf (.builtin id) = pure (.type "method_descriptor")) (hm : MtR X id r) (ho : PE X o to) (ha : PA X (e :: es) t)
    (hbase : attributeBase o name X.env (eval o X.env) = eval o X.env := by rfl)
    (hfew : ((backTo cpos (starEach (e :: es) X.env)).all (fun x => !x.1) && (backToKw cpos (keywordEach [] X.env)).all (fun x => x.1.isSome)
      && decide ((e :: es).length + ([] : List Keyword).length + (if ([] : List Keyword).isEmpty then 0 else 1) < 30)) = true := by rfl)
    (hline : (apos.endLine == cpos.line) = true := by rfl) (hs : starEach (e :: es) X.env = (false, eval e X.env) :: starEach es X.env := by rfl) (hplain : (backTo cpos (starEach es X.env)).any (·.1) = false := by rfl) :
    PE X (.Call (.Attribute o name apos) (e :: es) [] cpos) (tQ1 r to t) := by
  refine ⟨fun pins s σ H Q I h => ?_⟩
  refine wpAny_Call_method_late hbase hfew hline rfl (thn (ho.run pins s σ H _ I h) fun v s1 ⟨x, H1, I1, r1, ty, q1⟩ => ?_)
  obtain ⟨h1, h2⟩ := dq_ty I1 r1 ty
  refine ⟨"collections.deque", id, F.dq_plain, slot, hty, h1, h2, ?_⟩
  have hA := ha.run cpos pins s1 σ H1 _ I1 q1
  rw [hs] at hA ⊢
  refine Calls.callWith_builtin (by show (false || (backTo cpos (starEach es X.env)).any (·.1)) = false; rw [hplain] <;> rfl) (Calls.evalArgs_plain ?_)
  exact thn hA fun us s2 ⟨vs, H2, I2, r2, q2⟩ => hm pins s2 σ H2 x vs v us Q I2 r1 r2 q2
/-- a thing is locked for good, ahead of an expression, or behind it -/
def tFrzE (t : TE) : TE := fun σ H Q => t σ H fun x H1 => ∃ d kvs, x = .ref d ∧ H1 d = some (.dK kvs) ∧ ∀ o, Q (.ref d) (upd H1 d (.frz o (.dK kvs)))
theorem pe_frz {t : TE} (h : PE X e t) : PE X e (tFrzE t) := by
  refine ⟨fun pins s σ H Q I hw => ?_⟩
  refine thn (h.run pins s σ H _ I hw) fun v s1 ⟨x, H1, I1, r, d, kvs, ex, hd, q⟩ => ?_
  subst ex
  obtain ⟨o, I2⟩ := I1.lock hd True.intro
  exact ⟨.ref d, _, I2, r, q o⟩
def tFrzS (t : TS) : TS := fun D σ H => ∃ d kvs, H d = some (.dK kvs) ∧ ∀ o, t D σ (upd H d (.frz o (.dK kvs)))
theorem ps_frz {st : Stmt} {t : TS} (h : PS X st t) : PS X st (tFrzS t) := by
  refine ⟨fun pins s σ H D I ⟨d, kvs, hd, hw⟩ => ?_⟩
  obtain ⟨o, I1⟩ := I.lock hd True.intro
  exact h.run pins s σ _ D I1 (hw o)
end
end L2
namespace Mir
open PySem PySem.Spec PyProof.Rows L2
/-! ### keys and tables of data -/
def keyOf : D → Option Key
  | .int i => some (.inl i)
  | .str s => some (.inr s)
  | _ => none
/-- a table's entry, a table with one more -/
def lk {α : Type} (es : List (Key × α)) (k : Key) : Option α := (es.find? fun kv => decide (kv.1 = k)).map (·.2)
def ins {α : Type} (es : List (Key × α)) (k : Key) (v : α) : List (Key × α) :=
  if (es.any fun kv => decide (kv.1 = k)) = true then es.map (fun kv => if kv.1 = k then (kv.1, v) else kv) else es ++ [(k, v)]
theorem lk_pos {α : Type} {p : Key × α} {r : List (Key × α)} {k : Key} (e : p.1 = k) : lk (p :: r) k = some p.2 := by simp [lk, List.find?_cons, e]
theorem lk_neg {α : Type} {p : Key × α} {r : List (Key × α)} {k : Key} (e : ¬ p.1 = k) : lk (p :: r) k = lk r k := by simp [lk, List.find?_cons, e]
def keyD : Key → D
  | .inl i => .int i
  | .inr s => .str s
section
variable {K : PySem.W.Frag} {F : Hp}
theorem dv_key {v : V} {d : D} {k : Key} (h : Dv K F v d) (e : keyOf d = some k) : v = kV k := by
  cases h <;> first | (cases e; rfl) | cases e
theorem key_dv (k : Key) : Dv K F (kV k) (keyD k) := by
  cases k with
  | inl i => exact .int i
  | inr s => exact .str s
theorem valV_dv (k : Key) : ∀ {kvs : List (Key × V)} {es : List (Key × D)}, kvs.map (·.1) = es.map (·.1) → DvAll K F (kvs.map (·.2)) (es.map (·.2)) → (valV kvs k = none ∧ lk es k = none) ∨ ∃ v d, valV kvs k = some v ∧ lk es k = some d ∧ Dv K F v d
  | [], [], _, _ => .inl ⟨rfl, rfl⟩
  | [], _ :: _, e, _ => by simp at e
  | _ :: _, [], e, _ => by simp at e
  | p :: ps, q :: qs, e, h => by
    rw [List.map_cons, List.map_cons] at e h
    cases h with
    | cons h r =>
      injection e with e1 e2
      by_cases z : p.1 = k
      · rw [valV_pos z, lk_pos (e1.symm.trans z)]
        exact .inr ⟨_, _, rfl, rfl, h⟩
      · rw [valV_neg z, lk_neg (fun y => z (e1.trans y))]
        exact valV_dv k e2 r
theorem any_keys {α β : Type} (k : Key) {kvs : List (Key × α)} {es : List (Key × β)} (e : kvs.map (·.1) = es.map (·.1)) : (kvs.any fun kv => decide (kv.1 = k)) = es.any fun kv => decide (kv.1 = k) := by
  have h1 : (kvs.any fun kv => decide (kv.1 = k)) = (kvs.map (·.1)).any fun x => decide (x = k) := by rw [List.any_map]; rfl
  have h2 : (es.any fun kv => decide (kv.1 = k)) = (es.map (·.1)).any fun x => decide (x = k) := by rw [List.any_map]; rfl
  rw [h1, h2, e]
theorem repl_keys {α : Type} (k : Key) (x : α) (kvs : List (Key × α)) : (kvs.map fun kv => if kv.1 = k then (kv.1, x) else kv).map (·.1) = kvs.map (·.1) := by
  rw [List.map_map]
  refine List.map_congr_left fun p _ => ?_
  show (if p.1 = k then (p.1, x) else p).1 = p.1
  split <;> rfl
theorem repl_dv {k : Key} {v : V} {d : D} (q : Dv K F v d) : ∀ {kvs : List (Key × V)} {es : List (Key × D)}, kvs.map (·.1) = es.map (·.1) → DvAll K F (kvs.map (·.2)) (es.map (·.2)) →
    DvAll K F ((kvs.map fun kv => if kv.1 = k then (kv.1, v) else kv).map (·.2)) ((es.map fun kv => if kv.1 = k then (kv.1, d) else kv).map (·.2))
  | [], [], _, _ => .nil
  | [], _ :: _, e, _ => by simp at e
  | _ :: _, [], e, _ => by simp at e
  | p :: ps, r :: rs, e, h => by
    rw [List.map_cons, List.map_cons] at e h
    cases h with
    | cons h t =>
      injection e with e1 e2
      rw [List.map_cons, List.map_cons, List.map_cons, List.map_cons]
      refine .cons ?_ (repl_dv q e2 t)
      by_cases z : p.1 = k
      · rw [if_pos z, if_pos (e1.symm.trans z)]; exact q
      · rw [if_neg z, if_neg (fun y => z (e1.trans y))]; exact h
theorem put_dv {k : Key} {v : V} {d : D} (q : Dv K F v d) {kvs : List (Key × V)} {es : List (Key × D)} (e : kvs.map (·.1) = es.map (·.1)) (h : DvAll K F (kvs.map (·.2)) (es.map (·.2))) :
    (putK kvs k v).map (·.1) = (ins es k d).map (·.1) ∧ DvAll K F ((putK kvs k v).map (·.2)) ((ins es k d).map (·.2)) := by
  unfold putK ins
  rw [any_keys k e]
  split
  · refine ⟨?_, repl_dv q e h⟩
    rw [repl_keys, repl_keys, e]
  · refine ⟨?_, ?_⟩
    · rw [List.map_append, List.map_append, e]; rfl
    · rw [List.map_append, List.map_append]
      exact h.append (.cons q .nil)
end
abbrev dicE (es : List (Key × D)) : D := .dic (es.map (·.1)) (es.map (·.2))
theorem zip_es : ∀ es : List (Key × D), (es.map (·.1)).zip (es.map (·.2)) = es
  | [] => rfl
  | p :: r => by rw [List.map_cons, List.map_cons, List.zip_cons_cons, zip_es r]
theorem dv_zip {K : PySem.W.Frag} {F : Hp} {kvs : List (Key × V)} {ks : List Key} {ds : List D} (e : kvs.map (·.1) = ks) (h : DvAll K F (kvs.map (·.2)) ds) : kvs.map (·.1) = (ks.zip ds).map (·.1) ∧ DvAll K F (kvs.map (·.2)) ((ks.zip ds).map (·.2)) := by
  have hl : ks.length = ds.length := by
    have := h.length
    rw [← e, List.length_map]
    rw [List.length_map] at this
    exact this
  have e1 : (ks.zip ds).map (·.1) = ks := List.map_fst_zip (Nat.le_of_eq hl)
  have e2 : (ks.zip ds).map (·.2) = ds := List.map_snd_zip (Nat.le_of_eq hl.symm)
  rw [e1, e2]
  exact ⟨e, h⟩
/-! ### a frozen dict read -/
def dgetD (x y : D) : R D := match x with
  | .dic ks ds => ofO (keyOf y) fun k => ofO (lk (ks.zip ds) k) .ok
  | _ => .bad
def dget1D (x y : D) : R D := match x with
  | .dic ks ds => ofO (keyOf y) fun k => .ok ((lk (ks.zip ds) k).getD .non)
  | _ => .bad
def dhasD (neg : Bool) (y x : D) : R D := match x with
  | .dic ks ds => ofO (keyOf y) fun k => .ok (.bl (if neg then !(lk (ks.zip ds) k).isSome else (lk (ks.zip ds) k).isSome))
  | _ => .bad
section
variable {X : Cx} {G : Gm} {a b e : Expr} {es : List Expr} {ma mb : Env → R D} {pos : Pos} {k : Nat}
theorem room1 {A : Around} (hr : Room k A) : A.units + 1 < cLine := by have := hr.un; omega
theorem om_dget : OpM G (fun x y H Q => ∃ a v, x = .ref a ∧ DGet H a y (some v) ∧ Q v H) dgetD := by
  intro F H x y d e Q s hx hy P
  cases hx with
  | @dic a o kvs ks ds ea hk hv =>
    have P : PostR G (DvR G) F H (ofO (keyOf e) fun k => ofO (lk (ks.zip ds) k) .ok) Q := P
    cases ek : keyOf e with
    | none => rw [ek] at P; exact P.elim
    | some k =>
      rw [ek] at P
      have P : PostR G (DvR G) F H (ofO (lk (ks.zip ds) k) .ok) Q := P
      obtain ⟨z1, z2⟩ := dv_zip hk hv
      rcases valV_dv k z1 z2 with ⟨_, q⟩ | ⟨v, d, q1, q2, q3⟩
      · rw [q] at P; exact P.elim
      · rw [q2] at P
        exact ⟨a, v, rfl, .inl ⟨kvs, k, .inr ⟨o, s _ _ ea⟩, dv_key hy ek, q1.symm⟩, postD P s q3⟩
  | _ => exact P.elim
theorem me_dget (hr : Room k X.A) (ha : ME X G a ma) (hb : ME X G b mb) (hs : NoSl b := by exact fun _ _ => rfl) : ME X G (.Subscript a b pos) (mB dgetD ma mb) :=
  weakE (pe_dget (room1 hr) ha hb hs) (op2 (ta := tC .non) (tb := tC .non) om_dget)
theorem om_dget1 : OpM G (fun x y H Q => ∃ a, x = .ref a ∧ IsD H a ∧ ∃ o, DGet H a y o ∧ Q (o.getD .non) H) dget1D := by
  intro F H x y d e Q s hx hy P
  cases hx with
  | @dic a o kvs ks ds ea hk hv =>
    have P : PostR G (DvR G) F H (ofO (keyOf e) fun k => .ok ((lk (ks.zip ds) k).getD .non)) Q := P
    cases ek : keyOf e with
    | none => rw [ek] at P; exact P.elim
    | some k =>
      rw [ek] at P
      have P : PostR G (DvR G) F H (.ok ((lk (ks.zip ds) k).getD .non)) Q := P
      obtain ⟨z1, z2⟩ := dv_zip hk hv
      refine ⟨a, rfl, .inl ⟨kvs, .inr ⟨o, s _ _ ea⟩⟩, valV kvs k, .inl ⟨kvs, k, .inr ⟨o, s _ _ ea⟩, dv_key hy ek, rfl⟩, ?_⟩
      rcases valV_dv k z1 z2 with ⟨q0, q⟩ | ⟨v, d, q1, q2, q3⟩
      · rw [q] at P; rw [q0]; exact postD P s .non
      · rw [q2] at P; rw [q1]; exact postD P s q3
  | _ => exact P.elim
def mGet1 (ma mb : Env → R D) : Env → R D := fun ρ => (ma ρ).bind fun x => match x with
  | .dic ks ds => (mb ρ).bind fun y => dget1D (.dic ks ds) y
  | _ => .bad
theorem me_dget1 (hr : Room k X.A) (ha : ME X G a ma) (hb : ME X G b mb) {apos : Pos} (m : M1 X a "get" apos b pos := by exact ⟨rfl, rfl, rfl, rfl⟩) : ME X G (.Call (.Attribute a "get" apos) [b] [] pos) (mGet1 ma mb) :=
  weakE (pe_dget1 (room1 hr) ha hb m) fun σ H Q ⟨ρ, F, S, P⟩ => by
    refine ⟨ρ, F, S, (PostR.bind (rel := DvR G) P).imp fun d x F1 H1 e1 g1 q1 ⟨F1', d', e1', g1', q1', P1⟩ => ?_⟩
    cases q1' with
    | @dic a o kvs ks ds ea hk hv =>
      refine ⟨a, rfl, .inl ⟨kvs, .inr ⟨o, g1'.s _ _ ea⟩⟩, ρ, F1', S.grow g1', (PostR.bind (rel := DvR G) P1).imp fun d2 y F2 H2 e2 g2 q2 ⟨F2', d2', e2', g2', q2', P2⟩ => ?_⟩
      obtain ⟨b, eb, _, q⟩ := om_dget1 F2' H2 (.ref a) y (.dic ks ds) d2' Q g2'.s (.dic (g2'.f _ _ ea) hk (hv.mono g2'.f)) q2' P2
      cases eb
      exact q
    | _ => exact P1.elim
theorem om_dhas (neg : Bool) : OpM G (fun y x H Q => ∃ a o, x = .ref a ∧ DGet H a y o ∧ Q (.bl (if neg then !o.isSome else o.isSome)) H) (dhasD neg) := by
  intro F H y x e d Q s hy hx P
  cases hx with
  | @dic a o kvs ks ds ea hk hv =>
    have P : PostR G (DvR G) F H (ofO (keyOf e) fun k => .ok (.bl (if neg then !(lk (ks.zip ds) k).isSome else (lk (ks.zip ds) k).isSome))) Q := P
    cases ek : keyOf e with
    | none => rw [ek] at P; exact P.elim
    | some k =>
      rw [ek] at P
      have P : PostR G (DvR G) F H (.ok (.bl (if neg then !(lk (ks.zip ds) k).isSome else (lk (ks.zip ds) k).isSome))) Q := P
      obtain ⟨z1, z2⟩ := dv_zip hk hv
      refine ⟨a, valV kvs k, rfl, .inl ⟨kvs, k, .inr ⟨o, s _ _ ea⟩, dv_key hy ek, rfl⟩, ?_⟩
      rcases valV_dv k z1 z2 with ⟨q0, q⟩ | ⟨v, d, q1, q2, q3⟩
      · rw [q] at P; rw [q0]; exact postD P s (.bl _)
      · rw [q2] at P; rw [q1]; exact postD P s (.bl _)
  | _ => exact P.elim
theorem me_din (hr : Room k X.A) (ha : ME X G a ma) (hb : ME X G b mb) (hm : behindInMarks .In b = false := by with_unfolding_all rfl) : ME X G (.Compare a [.In] [b] pos) (mB (dhasD false) ma mb) :=
  weakE (pe_cmp (pc_din (room1 hr) ha hb) hm) (op2 (ta := tC .non) (tb := tC .non) (om_dhas false))
theorem mt_din (hr : Room k X.A) (ha : ME X G a ma) (hb : ME X G b mb) (hm : behindInMarks .In b = false := by with_unfolding_all rfl) : MT X G (.Compare a [.In] [b] pos) (mTest (mB (dhasD false) ma mb)) :=
  weakT (pt_cmp (pc_din (room1 hr) ha hb) hm) (tt_of (op2 (ta := tC .non) (tb := tC .non) (om_dhas false)))
theorem me_dnin (hr : Room k X.A) (ha : ME X G a ma) (hb : ME X G b mb) (hm : behindInMarks .NotIn b = false := by with_unfolding_all rfl) : ME X G (.Compare a [.NotIn] [b] pos) (mB (dhasD true) ma mb) :=
  weakE (pe_cmp (pc_dnotin (room1 hr) ha hb) hm) (op2 (ta := tC .non) (tb := tC .non) (om_dhas true))
theorem mt_dnin (hr : Room k X.A) (ha : ME X G a ma) (hb : ME X G b mb) (hm : behindInMarks .NotIn b = false := by with_unfolding_all rfl) : MT X G (.Compare a [.NotIn] [b] pos) (mTest (mB (dhasD true) ma mb)) :=
  weakT (pt_cmp (pc_dnotin (room1 hr) ha hb) hm) (tt_of (op2 (ta := tC .non) (tb := tC .non) (om_dhas true)))
/-! the def's own dict read -/
def mDgetO (i : Nat) (mb : Env → R D) : Env → R D := fun ρ => match ρ[i]? with
  | some (.od es) => (mb ρ).bind fun y => ofO (keyOf y) fun k => ofO (lk es k) .ok
  | _ => .bad
theorem me_dgetO (hr : Room k X.A) (i : Nat) {x : Str} {p : Pos} (hb : ME X G b mb) (hN : X.N[i]? = some x := by rfl) (hv : Vis X.env.scope x := by first | exact Or.inl rfl | exact Or.inr (Or.inl rfl) | exact Or.inr (Or.inr rfl)) (hd : (x == ("__debug__" : Str)) = false := by decide)
    (hcd : (x == ("__classdict__" : Str)) = false := by decide) (hs : NoSl b := by exact fun _ _ => rfl) : ME X G (.Subscript (.Name x p) b pos) (mDgetO i mb) :=
  weakE (pe_dget (room1 hr) (pe_var hN hv hd hcd) hb hs) fun σ H Q ⟨ρ, F, S, P⟩ => by
    unfold mDgetO at P
    split at P
    · rename_i es hρ
      obtain ⟨l, kvs, e1, e2, e3, e4, e5⟩ := S.getOd hρ
      refine ⟨.ref l, e1, ρ, F, S, (PostR.bind (rel := DvR G) P).imp fun d x F1 H1 _ g1 q1 ⟨F1', d', e1', g1', q1', P1⟩ => ?_⟩
      cases ek : keyOf d' with
      | none => rw [ek] at P1; exact P1.elim
      | some k =>
        rw [ek] at P1
        have P1 : PostR G (DvR G) F1' H1 (ofO (lk es k) .ok) Q := P1
        rcases valV_dv k e4 (e5.mono g1'.f) with ⟨_, q⟩ | ⟨v, d, k1, k2, k3⟩
        · rw [q] at P1; exact P1.elim
        · rw [k2] at P1
          exact ⟨l, v, rfl, .inl ⟨kvs, k, .inl (g1'.h _ _ e2), dv_key q1' ek, k1.symm⟩, postD P1 g1'.s k3⟩
    · exact P.elim
def mDhasO (neg : Bool) (i : Nat) (mb : Env → R D) : Env → R D := fun ρ => match ρ[i]? with
  | some (.od es) => (mb ρ).bind fun y => ofO (keyOf y) fun k => .ok (.bl (if neg then !(lk es k).isSome else (lk es k).isSome))
  | _ => .bad
theorem dhasO_read (neg : Bool) (i : Nat) : ∀ σ H Q, tOf G (mDhasO neg i mb) σ H Q → (fun σ H Q => tOf G mb σ H fun y H1 => (tVar i) σ H1 fun x H2 => ∃ a o, x = .ref a ∧ DGet H2 a y o ∧ Q (.bl (if neg then !o.isSome else o.isSome)) H2) σ H Q := fun σ H Q ⟨ρ, F, S, P⟩ => by
    unfold mDhasO at P
    split at P
    · rename_i es hρ
      obtain ⟨l, kvs, e1, e2, e3, e4, e5⟩ := S.getOd hρ
      refine ⟨ρ, F, S, (PostR.bind (rel := DvR G) P).imp fun d x F1 H1 _ g1 q1 ⟨F1', d', e1', g1', q1', P1⟩ => ⟨.ref l, e1, ?_⟩⟩
      cases ek : keyOf d' with
      | none => rw [ek] at P1; exact P1.elim
      | some k =>
        rw [ek] at P1
        have P1 : PostR G (DvR G) F1' H1 (.ok (.bl (if neg then !(lk es k).isSome else (lk es k).isSome))) Q := P1
        refine ⟨l, valV kvs k, rfl, .inl ⟨kvs, k, .inl (g1'.h _ _ e2), dv_key q1' ek, rfl⟩, ?_⟩
        rcases valV_dv k e4 (e5.mono g1'.f) with ⟨q0, q⟩ | ⟨v, d, k1, k2, k3⟩
        · rw [q] at P1; rw [q0]; exact postD P1 g1'.s (.bl _)
        · rw [k2] at P1; rw [k1]; exact postD P1 g1'.s (.bl _)
    · exact P.elim
section
variable {x : Str} {p : Pos}
theorem me_dinO (hr : Room k X.A) (i : Nat) (ha : ME X G a ma) (hN : X.N[i]? = some x := by rfl) (hv : Vis X.env.scope x := by first | exact Or.inl rfl | exact Or.inr (Or.inl rfl) | exact Or.inr (Or.inr rfl)) (hd : (x == ("__debug__" : Str)) = false := by decide)
    (hcd : (x == ("__classdict__" : Str)) = false := by decide) (hm : behindInMarks .In (.Name x p) = false := by with_unfolding_all rfl) : ME X G (.Compare a [.In] [.Name x p] pos) (mDhasO false i ma) :=
  weakE (pe_cmp (pc_din (room1 hr) ha (pe_var hN hv hd hcd)) hm) (dhasO_read false i)
theorem mt_dinO (hr : Room k X.A) (i : Nat) (ha : ME X G a ma) (hN : X.N[i]? = some x := by rfl) (hv : Vis X.env.scope x := by first | exact Or.inl rfl | exact Or.inr (Or.inl rfl) | exact Or.inr (Or.inr rfl)) (hd : (x == ("__debug__" : Str)) = false := by decide)
    (hcd : (x == ("__classdict__" : Str)) = false := by decide) (hm : behindInMarks .In (.Name x p) = false := by with_unfolding_all rfl) : MT X G (.Compare a [.In] [.Name x p] pos) (mTest (mDhasO false i ma)) :=
  weakT (pt_cmp (pc_din (room1 hr) ha (pe_var hN hv hd hcd)) hm) (tt_of (dhasO_read false i))
theorem me_dninO (hr : Room k X.A) (i : Nat) (ha : ME X G a ma) (hN : X.N[i]? = some x := by rfl) (hv : Vis X.env.scope x := by first | exact Or.inl rfl | exact Or.inr (Or.inl rfl) | exact Or.inr (Or.inr rfl)) (hd : (x == ("__debug__" : Str)) = false := by decide)
    (hcd : (x == ("__classdict__" : Str)) = false := by decide) (hm : behindInMarks .NotIn (.Name x p) = false := by with_unfolding_all rfl) : ME X G (.Compare a [.NotIn] [.Name x p] pos) (mDhasO true i ma) :=
  weakE (pe_cmp (pc_dnotin (room1 hr) ha (pe_var hN hv hd hcd)) hm) (dhasO_read true i)
theorem mt_dninO (hr : Room k X.A) (i : Nat) (ha : ME X G a ma) (hN : X.N[i]? = some x := by rfl) (hv : Vis X.env.scope x := by first | exact Or.inl rfl | exact Or.inr (Or.inl rfl) | exact Or.inr (Or.inr rfl)) (hd : (x == ("__debug__" : Str)) = false := by decide)
    (hcd : (x == ("__classdict__" : Str)) = false := by decide) (hm : behindInMarks .NotIn (.Name x p) = false := by with_unfolding_all rfl) : MT X G (.Compare a [.NotIn] [.Name x p] pos) (mTest (mDhasO true i ma)) :=
  weakT (pt_cmp (pc_dnotin (room1 hr) ha (pe_var hN hv hd hcd)) hm) (tt_of (dhasO_read true i))
end
end
end Mir
namespace Mir
open PySem PySem.Spec PyProof.Rows L2
section
variable {X : Cx} {G : Gm} {a b e : Expr} {es : List Expr} {ma mb : Env → R D} {ms mu : Env → RS} {pos : Pos} {k : Nat} {x y : Str} {p p2 apos cpos : Pos}
/-! ### deques -/
def mQT (i : Nat) : Env → R Bool := fun ρ => match ρ[i]? with
  | some (.oq ds) => .ok (!ds.isEmpty)
  | _ => .bad
theorem mt_q (i : Nat) (hN : X.N[i]? = some x := by rfl) (hv : Vis X.env.scope x := by first | exact Or.inl rfl | exact Or.inr (Or.inl rfl) | exact Or.inr (Or.inr rfl)) (hd : (x == ("__debug__" : Str)) = false := by decide)
    (hcd : (x == ("__classdict__" : Str)) = false := by decide) (he : ∀ whole, isTrue (.Name x p) X.env whole = (do let v ← whole; standAt (Expr.Name x p).pos; holding [v] (truthy v)) := by intro _; rfl) : MT X G (.Name x p) (mQT i) :=
  weakT (pt_truthR (pe_var hN hv hd hcd) tru_dq he) fun σ H Q ⟨ρ, F, S, P⟩ => by
    unfold mQT at P
    split at P
    · rename_i ds hρ
      obtain ⟨l, xs, e1, e2, e3, e4⟩ := S.getOq hρ
      exact ⟨.ref l, e1, l, xs, rfl, e2, PostR.go (G := G) (rel := EqR) P S.sub (isEmpty_of e4 ▸ rfl)⟩
    · exact P.elim
def sSetQ (i : Nat) (m : Env → R (List D)) : Env → RS := fun ρ => (m ρ).to fun ds => match ds with
  | [.lst xs] => .nx (ρ.set i (.oq xs))
  | _ => .bad
theorem ms_setQ {i : Nat} {m : Env → R (List D)} (hN : X.N.Nodup) (hm : X.mg y = some (.type "collections.deque")) (ha : MA X G [e] m) (hK : X.K = G.K := by rfl) (hc : X.calm = true := by rfl) (hg : Gl X y := by rfl) (hdb : (y == ("__debug__" : Str)) = false := by decide)
    (he : starEach [e] X.env = (false, eval e X.env) :: starEach [] X.env := by rfl) (hpl : (backTo cpos (starEach [] X.env)).any (·.1) = false := by rfl)
    (hi : X.N[i]? = some x := by rfl) (hx : Loc X.env.scope x := by first | exact Or.inl rfl | exact Or.inr rfl) (hs : swapsWith (.Call (.Name y p2) [e] [] cpos) (some (.Name x p)) pos.line X.env = pure false := by rfl) (hf : X.fn x = true ∨ X.env.scope.names.lookup x = some .local := by first | exact .inl rfl | exact .inr rfl | assumption) :
    MS X G (.Assign [.Name x p] (.Call (.Name y p2) [e] [] cpos) pos) (sSetQ i m) := weakS (ps_set hN hi hx (pe_callGT (call_dq1 hc) hg hm ha hdb he hpl) hs hf) fun D σ H ⟨ρ, F, F0, H0, S, P⟩ => by
  refine ⟨ρ, F, S.sl, (P.to (rel := DvsR G) S).imp fun d x F1 H1 e1 g1 q1 ⟨F1', d', e1', g1', q1', P1⟩ => ?_⟩
  split at P1
  · obtain ⟨v, rfl, q⟩ := one_of q1'
    cases q with
    | @lst b ys ds z r =>
      rw [hK]
      refine ⟨b, ys, rfl, SqL.of (g1'.s _ _ z), fun q hq => ?_⟩
      have g2 : Grow F1' H1 F1' (upd H1 q (DqO q ys)) := Grow.own g1'.s hq
      exact P1 _ F1' _ ((S.grow g1').newOwn g2 hq (g1'.s.free hq) i rfl ⟨q, ys, rfl, upd_same, g1'.s.free hq, r⟩ _ upd_same) (Same.refl _)
  · exact P1.elim
def sPopl (i j : Nat) : Env → RS := fun ρ => match ρ[j]? with
  | some (.oq (d :: ds)) => .nx ((ρ.set j (.oq ds)).set i (.fz d))
  | _ => .bad
theorem ms_popl {i : Nat} (j : Nat) (hN : X.N.Nodup) (hj : X.N[j]? = some y := by rfl) (hv : Vis X.env.scope y := by first | exact Or.inl rfl | exact Or.inr (Or.inl rfl) | exact Or.inr (Or.inr rfl)) (hd : (y == ("__debug__" : Str)) = false := by decide)
    (hcd : (y == ("__classdict__" : Str)) = false := by decide)
    (hbase : attributeBase (.Name y p2) "popleft" X.env (eval (.Name y p2) X.env) = eval (.Name y p2) X.env := by rfl) (hline : (apos.endLine == cpos.line) = true := by rfl)
    (hi : X.N[i]? = some x := by rfl) (hx : Loc X.env.scope x := by first | exact Or.inl rfl | exact Or.inr rfl) (hs : swapsWith (.Call (.Attribute (.Name y p2) "popleft" apos) [] [] cpos) (some (.Name x p)) pos.line X.env = pure false := by rfl) (hf : X.fn x = true ∨ X.env.scope.names.lookup x = some .local := by first | exact .inl rfl | exact .inr rfl | assumption) :
    MS X G (.Assign [.Name x p] (.Call (.Attribute (.Name y p2) "popleft" apos) [] [] cpos) pos) (sPopl i j) := weakS (ps_set hN hi hx (pe_q0 F.dq_slot_popleft F.dq_type_popleft mt_popl (pe_var hj hv hd hcd) hbase hline) hs hf) fun D σ H ⟨ρ, F, F0, H0, S, P⟩ => by
  unfold sPopl at P
  split at P
  · rename_i d ds hρ
    obtain ⟨l, xs, k1, k2, k3, k4⟩ := S.sl.getOq hρ
    cases k4 with
    | @cons v vs _ _ q r =>
      refine ⟨.ref l, k1, ⟨l, _, rfl, k2⟩, l, v, vs, rfl, rfl, k2, ?_⟩
      have S1 := S.putOwn (o := DqO l vs) (t := .oq ds) hρ rfl k1 k3 rfl ⟨l, vs, rfl, upd_same, k3, r⟩
      exact P _ F _ (S1.setFz q i) (Same.refl _)
  · exact P.elim
def sAppQ (i : Nat) (m : Env → R D) : Env → RS := fun ρ => match ρ[i]? with
  | some (.oq ds) => (m ρ).to fun d => if ds.length < 16000000 then .nx (ρ.set i (.oq (ds ++ [d]))) else .bad
  | _ => .bad
theorem ms_appQ (i : Nat) (he : ME X G e ma) (hN : X.N[i]? = some x := by rfl) (hv : Vis X.env.scope x := by first | exact Or.inl rfl | exact Or.inr (Or.inl rfl) | exact Or.inr (Or.inr rfl)) (hd : (x == ("__debug__" : Str)) = false := by decide)
    (hcd : (x == ("__classdict__" : Str)) = false := by decide)
    (hbase : attributeBase (.Name x p) "append" X.env (eval (.Name x p) X.env) = eval (.Name x p) X.env := by rfl)
    (hfew : ((backTo cpos (starEach [e] X.env)).all (fun x => !x.1) && (backToKw cpos (keywordEach [] X.env)).all (fun x => x.1.isSome)
      && decide ([e].length + ([] : List Keyword).length + (if ([] : List Keyword).isEmpty then 0 else 1) < 30)) = true := by rfl)
    (hline : (apos.endLine == cpos.line) = true := by rfl) (hst : starEach [e] X.env = (false, eval e X.env) :: starEach [] X.env := by rfl) (hplain : (backTo cpos (starEach [] X.env)).any (·.1) = false := by rfl)
    (hs : swapsWith (.Call (.Attribute (.Name x p) "append" apos) [e] [] cpos) none pos.line X.env = pure false := by rfl) :
    MS X G (.Expr (.Call (.Attribute (.Name x p) "append" apos) [e] [] cpos) pos) (sAppQ i ma) :=
  weakS (ps_expr (pe_q1 F.dq_slot_append F.dq_type_append mt_appq (pe_var hN hv hd hcd) (pa_cons he pa_nil hst) hbase hfew hline hst hplain) hs) fun D σ H ⟨ρ, F, F0, H0, S, P⟩ => by
    unfold sAppQ at P
    split at P
    · rename_i ds hρ
      obtain ⟨l, xs, k1, k2, k3, k4⟩ := S.sl.getOq hρ
      refine ⟨.ref l, k1, ⟨l, xs, rfl, k2⟩, ρ, F, S.sl, (P.to (rel := DvR G) S).imp fun d x F1 H1 e1 g1 q1 ⟨F1', d', e1', g1', q1', P1⟩ => ?_⟩
      split at P1
      · rename_i hl
        have S1 := S.grow g1'
        have k4' := k4.mono g1'.f
        have k3' : F1' l = none := (g1'.o _ _ k2).trans k3
        refine ⟨l, x, xs, rfl, rfl, g1'.h _ _ k2, by rw [k4.length, sizeLine_eq]; omega, ?_⟩
        exact P1 σ F1' _ (S1.putOwn hρ rfl k1 k3' rfl ⟨l, _, rfl, upd_same, k3', k4'.append (.cons q1' .nil)⟩) (Same.refl _)
      · exact P1.elim
    · exact P.elim
def sExtQ (i : Nat) (m : Env → R D) : Env → RS := fun ρ => match ρ[i]? with
  | some (.oq ds) => (m ρ).to fun d => match d with
    | .lst es => if ds.length + es.length ≤ 16000000 then .nx (ρ.set i (.oq (ds ++ es))) else .bad
    | _ => .bad
  | _ => .bad
theorem ms_extQ (i : Nat) (he : ME X G e ma) (hK : X.K = G.K := by rfl) (hc : X.calm = true := by rfl) (hN : X.N[i]? = some x := by rfl) (hv : Vis X.env.scope x := by first | exact Or.inl rfl | exact Or.inr (Or.inl rfl) | exact Or.inr (Or.inr rfl)) (hd : (x == ("__debug__" : Str)) = false := by decide)
    (hcd : (x == ("__classdict__" : Str)) = false := by decide)
    (hbase : attributeBase (.Name x p) "extend" X.env (eval (.Name x p) X.env) = eval (.Name x p) X.env := by rfl)
    (hfew : ((backTo cpos (starEach [e] X.env)).all (fun x => !x.1) && (backToKw cpos (keywordEach [] X.env)).all (fun x => x.1.isSome)
      && decide ([e].length + ([] : List Keyword).length + (if ([] : List Keyword).isEmpty then 0 else 1) < 30)) = true := by rfl)
    (hline : (apos.endLine == cpos.line) = true := by rfl) (hst : starEach [e] X.env = (false, eval e X.env) :: starEach [] X.env := by rfl) (hplain : (backTo cpos (starEach [] X.env)).any (·.1) = false := by rfl)
    (hs : swapsWith (.Call (.Attribute (.Name x p) "extend" apos) [e] [] cpos) none pos.line X.env = pure false := by rfl) :
    MS X G (.Expr (.Call (.Attribute (.Name x p) "extend" apos) [e] [] cpos) pos) (sExtQ i ma) :=
  weakS (ps_expr (pe_q1 F.dq_slot_extend F.dq_type_extend (mt_extq hc) (pe_var hN hv hd hcd) (pa_cons he pa_nil hst) hbase hfew hline hst hplain) hs) fun D σ H ⟨ρ, F, F0, H0, S, P⟩ => by
    unfold sExtQ at P
    split at P
    · rename_i ds hρ
      obtain ⟨l, xs, k1, k2, k3, k4⟩ := S.sl.getOq hρ
      refine ⟨.ref l, k1, ⟨l, xs, rfl, k2⟩, ρ, F, S.sl, (P.to (rel := DvR G) S).imp fun d x F1 H1 e1 g1 q1 ⟨F1', d', e1', g1', q1', P1⟩ => ?_⟩
      cases q1' with
      | @lst b zs es z r =>
        dsimp only at P1
        split at P1
        · rename_i hl
          have S1 := S.grow g1'
          have k4' := k4.mono g1'.f
          have k3' : F1' l = none := (g1'.o _ _ k2).trans k3
          have h2 := g1'.h _ _ k2
          rw [hK]
          refine ⟨l, b, xs, zs, rfl, rfl, h2, SqL.of (g1'.s _ _ z), fun c => ?_, by rw [k4.length, r.length, sizeLine_eq]; omega, ?_⟩
          · subst c
            rw [g1'.s _ _ z] at h2
            cases h2
          · exact P1 σ F1' _ (S1.putOwn hρ rfl k1 k3' rfl ⟨l, _, rfl, upd_same, k3', k4'.append r⟩) (Same.refl _)
        · exact P1.elim
      | _ => exact P1.elim
    · exact P.elim
/-! ### a list of the def's own: pop, and one more list made of it -/
def sPopO (i j : Nat) : Env → RS := fun ρ => match ρ[j]? with
  | some (.ol ds) => match ds[ds.length - 1]? with
    | some d => .nx ((ρ.set j (.ol ds.dropLast)).set i (.fz d))
    | none => .bad
  | _ => .bad
theorem DvAll.dropLast {K : PySem.W.Frag} {F : Hp} : ∀ {vs : List V} {ds : List D}, DvAll K F vs ds → DvAll K F vs.dropLast ds.dropLast
  | _, _, .nil => .nil
  | _, _, .cons h .nil => .nil
  | _, _, .cons h (.cons h2 r) => .cons h (DvAll.dropLast (.cons h2 r))
theorem ms_popO {i : Nat} (j : Nat) (hN : X.N.Nodup) (hK : X.K = G.K := by rfl) (hj : X.N[j]? = some y := by rfl) (hv : Vis X.env.scope y := by first | exact Or.inl rfl | exact Or.inr (Or.inl rfl) | exact Or.inr (Or.inr rfl)) (hd : (y == ("__debug__" : Str)) = false := by decide)
    (hcd : (y == ("__classdict__" : Str)) = false := by decide)
    (hbase : attributeBase (.Name y p2) "pop" X.env (eval (.Name y p2) X.env) = eval (.Name y p2) X.env := by rfl) (hline : (apos.endLine == cpos.line) = true := by rfl)
    (hi : X.N[i]? = some x := by rfl) (hx : Loc X.env.scope x := by first | exact Or.inl rfl | exact Or.inr rfl) (hs : swapsWith (.Call (.Attribute (.Name y p2) "pop" apos) [] [] cpos) (some (.Name x p)) pos.line X.env = pure false := by rfl) (hf : X.fn x = true ∨ X.env.scope.names.lookup x = some .local := by first | exact .inl rfl | exact .inr rfl | assumption) :
    MS X G (.Assign [.Name x p] (.Call (.Attribute (.Name y p2) "pop" apos) [] [] cpos) pos) (sPopO i j) := weakS (ps_set hN hi hx (pe_bm0 PySem.F.plainAttrs_list PySem.F.slot_list_pop PySem.F.type_list_pop mt_pop (pe_var hj hv hd hcd) hbase hline) hs hf) fun D σ H ⟨ρ, F, F0, H0, S, P⟩ => by
  unfold sPopO at P
  split at P
  · rename_i ds hρ
    obtain ⟨l, xs, k1, k2, k3, k4⟩ := S.sl.getOl hρ
    split at P
    · rename_i d hd
      rw [← k4.length] at hd
      obtain ⟨v, hv, q⟩ := k4.get' hd
      refine ⟨.ref l, k1, by rw [hK]; exact .inl ⟨rfl, xs, SqL.of k2⟩, l, xs, v, rfl, rfl, k2, hv, ?_⟩
      have S1 := S.putOwn (o := .lst xs.dropLast) (t := .ol ds.dropLast) hρ rfl k1 k3 rfl ⟨l, _, rfl, upd_same, k3, k4.dropLast⟩
      exact P _ F _ (S1.setFz q i) (Same.refl _)
    · exact P.elim
  · exact P.elim
def mCatO (i : Nat) (mb : Env → R D) : Env → R (List D) := fun ρ => match ρ[i]? with
  | some (.ol ds) => (mb ρ).bind fun d => match d with
    | .lst es => if ds.length + es.length ≤ sizeLine then .ok (ds ++ es) else .bad
    | _ => .bad
  | _ => .bad
theorem mf_catO (i : Nat) (hb : ME X G b mb) (hN : X.N[i]? = some x := by rfl) (hv : Vis X.env.scope x := by first | exact Or.inl rfl | exact Or.inr (Or.inl rfl) | exact Or.inr (Or.inr rfl)) (hd : (x == ("__debug__" : Str)) = false := by decide)
    (hcd : (x == ("__classdict__" : Str)) = false := by decide) : MF X G (.BinOp (.Name x p) .Add b pos) (mCatO i mb) := weakE (pe_op op_cat (pe_var hN hv hd hcd) hb) fun σ H Q ⟨ρ, F, S, P⟩ => by
  unfold mCatO at P
  split at P
  · rename_i ds hρ
    obtain ⟨l, xs, k1, k2, k3, k4⟩ := S.getOl hρ
    refine ⟨.ref l, k1, ρ, F, S, (PostF.bind (rel := DvR G) P).imp fun d x F1 H1 e1 g1 q1 ⟨F1', d', e1', g1', q1', P1⟩ => ?_⟩
    cases q1' with
    | @lst b zs es z r =>
      dsimp only at P1
      split at P1
      · rename_i hl
        refine ⟨l, b, xs, zs, rfl, rfl, g1'.h _ _ k2, g1'.s _ _ z, by rw [k4.length, r.length]; exact hl, fun q hq => ?_⟩
        exact P1 q _ F1' _ (Grow.own g1'.s hq) hq (g1'.s.free hq) upd_same ((k4.mono g1'.f).append r)
      · exact P1.elim
    | _ => exact P1.elim
  · exact P.elim
/-- a list of the def's own is given away -/
def sMvO (i j : Nat) : Env → RS := fun ρ => match ρ[j]? with
  | some (.ol ds) => .nx ((ρ.set j .un).set i (.fz (.lst ds)))
  | _ => .bad
/-! ### dicts of the def's own -/
def sSetD (i : Nat) : Env → RS := fun ρ => .nx (ρ.set i (.od []))
theorem ms_setD {i : Nat} (hN : X.N.Nodup) (hi : X.N[i]? = some x := by rfl) (hx : Loc X.env.scope x := by first | exact Or.inl rfl | exact Or.inr rfl) (hs : swapsWith (.Dict [] [] cpos) (some (.Name x p)) pos.line X.env = pure false := by rfl) (hf : X.fn x = true ∨ X.env.scope.names.lookup x = some .local := by first | exact .inl rfl | exact .inr rfl | assumption) :
    MS X G (.Assign [.Name x p] (.Dict [] [] cpos) pos) (sSetD i) := weakS (ps_set hN hi hx pe_dnewK hs hf) fun D σ H ⟨ρ, F, F0, H0, S, P⟩ => fun q hq => by
  have fq := S.sl.sub.free hq
  exact P _ F _ (S.newOwn (Grow.own S.sl.sub hq) hq fq i rfl ⟨q, [], rfl, upd_same, fq, rfl, .nil⟩ _ upd_same) (Same.refl _)
def sSetD1 (i : Nat) (mk mv : Env → R D) : Env → RS := fun ρ => (mk ρ).to fun kd => (mv ρ).to fun d => match keyOf kd with
  | some k => .nx (ρ.set i (.od [(k, d)]))
  | none => .bad
theorem ms_setD1 {i : Nat} (hN : X.N.Nodup) (ha : ME X G a ma) (hb : ME X G b mb) (hi : X.N[i]? = some x := by rfl) (hx : Loc X.env.scope x := by first | exact Or.inl rfl | exact Or.inr rfl) (hs : swapsWith (.Dict [some a] [b] cpos) (some (.Name x p)) pos.line X.env = pure false := by rfl) (hf : X.fn x = true ∨ X.env.scope.names.lookup x = some .local := by first | exact .inl rfl | exact .inr rfl | assumption) :
    MS X G (.Assign [.Name x p] (.Dict [some a] [b] cpos) pos) (sSetD1 i ma mb) := weakS (ps_set hN hi hx (pe_disp (pps_cons ha hb pps_nil) rfl rfl (by simp) (Nat.le_of_ble_eq_true rfl)) hs hf) fun D σ H ⟨ρ, F, F0, H0, S, P⟩ => fun q hq => by
  have fq := S.sl.sub.free hq
  have g0 : Grow F H F (upd H q (.dK [])) := Grow.own S.sl.sub hq
  have S0 := S.grow g0
  refine ⟨ρ, F, S0.sl, (P.to (rel := DvR G) S0).imp fun d x F1 H1 e1 g1 q1 ⟨F1', d', e1', g1', q1', P1⟩ => ?_⟩
  have S1 := S0.grow g1'
  refine ⟨ρ, F1', S1.sl, (P1.to (rel := DvR G) S1).imp fun d2 y F2 H2 e2 g2 q2 ⟨F2', d2', e2', g2', q2', P2⟩ => ?_⟩
  have S2 := S1.grow g2'
  have gq := g1'.trans g2'
  have h2 : H2 q = some (.dK []) := gq.h _ _ upd_same
  have f2 : F2' q = none := (gq.o q _ upd_same).trans fq
  cases ek : keyOf d' with
  | none => rw [ek] at P2; exact P2.elim
  | some k =>
    rw [ek] at P2
    refine ⟨h2, [(k, y)], by rw [dv_key (q1'.mono g2'.f) ek]; rfl, Nat.le_of_ble_eq_true rfl, ?_⟩
    have hm : mergeK [] [(k, y)] = [(k, y)] := rfl
    rw [hm]
    have e0 : F2' q = none := f2
    have Sq : SRel G.K F0 H0 (ρ.set i (.od [(k, d2')])) (σ.set i (some (.ref q))) F2' (upd H2 q (.dK [(k, y)])) := by
      have hH0 : H0 q = none := S.gr.h.free hq
      refine ⟨S2.sl.setOwn (o := .dK [(k, y)]) i f2 rfl ⟨q, [(k, y)], rfl, upd_same, f2, rfl, .cons q2' .nil⟩ fun j t nj h1 h2 h3 => ?_, ⟨fun b u z => by rw [upd_ne (ne_of_none z hH0)]; exact S2.gr.h b u z, S2.gr.f, S2.gr.s.upd_out f2, S2.gr.o⟩, fun j t c h1 h2 h3 => ?_⟩
      · have ok := S.sl.ok j t _ h1 h3
        cases t with
        | un => cases h2
        | fz d => cases h2
        | rg n => cases h2
        | ol ds =>
          obtain ⟨a, xs, ea, q1, _⟩ := ok
          cases ea
          rw [hq] at q1; cases q1
        | od es =>
          obtain ⟨a, xs, ea, q1, _⟩ := ok
          cases ea
          rw [hq] at q1; cases q1
        | oq ds =>
          obtain ⟨a, xs, ea, q1, _⟩ := ok
          cases ea
          rw [hq] at q1; cases q1
      · rcases get_set h1 with ⟨rfl, rfl⟩ | ⟨nj, e1⟩
        · rcases get_set h3 with ⟨_, z⟩ | ⟨z, _⟩
          · cases z; exact hH0
          · exact absurd rfl z
        · rcases get_set h3 with ⟨z, _⟩ | ⟨_, e3⟩
          · exact absurd z nj
          · exact S.nw j t c e1 h2 e3
    exact P2 _ F2' _ Sq (Same.refl _)
def sPutD (i : Nat) (mv mk : Env → R D) : Env → RS := fun ρ => match ρ[i]? with
  | some (.od es) => (mv ρ).to fun d => (mk ρ).to fun kd => match keyOf kd with
    | some k => if es.length < 16000000 then .nx (ρ.set i (.od (ins es k d))) else .bad
    | none => .bad
  | _ => .bad
theorem ms_putD (hr : Room k X.A) (i : Nat) (he : ME X G e ma) (hb : ME X G b mb) (hN : X.N[i]? = some x := by rfl) (hv : Vis X.env.scope x := by first | exact Or.inl rfl | exact Or.inr (Or.inl rfl) | exact Or.inr (Or.inr rfl)) (hd : (x == ("__debug__" : Str)) = false := by decide)
    (hcd : (x == ("__classdict__" : Str)) = false := by decide) (hs : swapsWith e (some (.Subscript (.Name x p) b p2)) pos.line X.env = pure false := by rfl) :
    MS X G (.Assign [.Subscript (.Name x p) b p2] e pos) (sPutD i ma mb) := weakS (ps_dput (room1 hr) (pe_var hN hv hd hcd) hb he hs) fun D σ H ⟨ρ, F, F0, H0, S, P⟩ => by
  unfold sPutD at P
  split at P
  · rename_i es hρ
    obtain ⟨l, kvs, k1, k2, k3, k4, k5⟩ := S.sl.getOd hρ
    refine ⟨ρ, F, S.sl, (P.to (rel := DvR G) S).imp fun d x F1 H1 e1 g1 q1 ⟨F1', d', e1', g1', q1', P1⟩ => ?_⟩
    have S1 := S.grow g1'
    refine ⟨.ref l, k1, ρ, F1', S1.sl, (P1.to (rel := DvR G) S1).imp fun d2 y F2 H2 e2 g2 q2 ⟨F2', d2', e2', g2', q2', P2⟩ => ?_⟩
    have g12 := g1'.trans g2'
    have S2 := S1.grow g2'
    have k3' : F2' l = none := (g12.o _ _ k2).trans k3
    cases ek : keyOf d2' with
    | none => rw [ek] at P2; exact P2.elim
    | some k =>
      rw [ek] at P2
      dsimp only at P2
      split at P2
      · rename_i hl
        have hlen : kvs.length = es.length := by
          have := congrArg List.length k4
          rw [List.length_map, List.length_map] at this
          exact this
        have hkv : kvs.length < sizeLine := by rw [hlen, sizeLine_eq]; omega
        obtain ⟨z1, z2⟩ := put_dv (k := k) (q1'.mono g2'.f) k4 (k5.mono g12.f)
        refine ⟨l, _, rfl, .inl ⟨kvs, k, g12.h _ _ k2, dv_key q2' ek, hkv, rfl⟩, ?_⟩
        exact P2 σ F2' _ (S2.putOwn hρ rfl k1 k3' rfl ⟨l, _, rfl, upd_same, k3', z1, z2⟩) (Same.refl _)
      · exact P2.elim
  · exact P.elim
def sRetD (i : Nat) : Env → RS := fun ρ => match ρ[i]? with
  | some (.od es) => .ret (dicE es)
  | _ => .bad
theorem ms_retD (i : Nat) (hN : X.N[i]? = some x := by rfl) (hv : Vis X.env.scope x := by first | exact Or.inl rfl | exact Or.inr (Or.inl rfl) | exact Or.inr (Or.inr rfl)) (hd : (x == ("__debug__" : Str)) = false := by decide)
    (hcd : (x == ("__classdict__" : Str)) = false := by decide) : MS X G (.Return (some (.Name x p)) pos) (sRetD i) := weakS (ps_frz (ps_ret (pe_var hN hv hd hcd))) fun D σ H ⟨ρ, F, F0, H0, S, P⟩ => by
  unfold sRetD at P
  split at P
  · rename_i es hρ
    obtain ⟨l, kvs, e1, e2, e3, e4, e5⟩ := S.sl.getOd hρ
    have hn : H0 l = none := S.nw i _ l hρ rfl e1
    refine ⟨l, kvs, e2, fun o => ?_⟩
    have s2 : Same F (upd F l (.frz o (.dK kvs))) := Same.upd_new e3
    have g : Grow F0 H0 (upd F l (.frz o (.dK kvs))) (upd H l (.frz o (.dK kvs))) := ⟨fun b u q => by rw [upd_ne (ne_of_none q hn)]; exact S.gr.h b u q, S.gr.f.trans s2, S.gr.s.upd_both, fun b u q => by rw [upd_ne (ne_of_none q hn)]; exact S.gr.o b u q⟩
    exact ⟨.ref l, e1, P (.ref l) _ _ g (.dic upd_same e4 (e5.mono s2))⟩
  · exact P.elim
/-! ### len of a dict -/
def mLenDO (i : Nat) : Env → R D := fun ρ => match ρ[i]? with
  | some (.od es) => .ok (.int es.length)
  | _ => .bad
theorem me_lenDO (i : Nat) (hx : X.mg "len" = none) (hN : X.N[i]? = some x := by rfl) (hv : Vis X.env.scope x := by first | exact Or.inl rfl | exact Or.inr (Or.inl rfl) | exact Or.inr (Or.inr rfl)) (hd : (x == ("__debug__" : Str)) = false := by decide)
    (hcd : (x == ("__classdict__" : Str)) = false := by decide) (hg : Gl X "len" := by rfl) (he : starEach [.Name x p2] X.env = (false, eval (.Name x p2) X.env) :: starEach [] X.env := by rfl) (hpl : (backTo pos (starEach [] X.env)).any (·.1) = false := by rfl) :
    ME X G (.Call (.Name "len" p) [.Name x p2] [] pos) (mLenDO i) := weakE (pe_callB call_lenD hg hx PySem.boot_len (pa_cons (pe_var hN hv hd hcd) pa_nil he) (by decide) (by decide) he hpl) fun σ H Q ⟨ρ, F, S, P⟩ => by
  unfold mLenDO at P
  split at P
  · rename_i es hρ
    obtain ⟨l, kvs, e1, e2, e3, e4, e5⟩ := S.getOd hρ
    have hlen : kvs.length = es.length := by
      have := congrArg List.length e4
      rw [List.length_map, List.length_map] at this
      exact this
    refine ⟨.ref l, e1, l, kvs, rfl, e2, ?_⟩
    rw [hlen]
    exact postD P S.sub (.int _)
  · exact P.elim
theorem call_lenR : CallR X (.builtin "len") (fun xs H Q => ∃ a kvs, xs = [V.ref a] ∧ Rd H a (.dK kvs) ∧ Q (.int kvs.length) H) := by
  intro pins s σ H xs us Q I r h
  obtain ⟨a, kvs, rfl, ha, q⟩ := h
  obtain ⟨u, rfl, ru⟩ := r.one
  cases ru
  exact d_len I ha fun t s' I' => ⟨.int kvs.length, H, I', ⟨t, rfl⟩, q⟩
def dlenF : List D → R D
  | [.dic ks ds] => .ok (.int ks.length)
  | _ => .bad
theorem me_dlen {m : Env → R (List D)} (ha : MA X G [e] m) (hx : X.mg "len" = none) (hg : Gl X "len" := by rfl) (he : starEach [e] X.env = (false, eval e X.env) :: starEach [] X.env := by rfl) (hpl : (backTo pos (starEach [] X.env)).any (·.1) = false := by rfl) :
    ME X G (.Call (.Name "len" p) [e] [] pos) (mCall dlenF m) := me_callB call_lenR (by
  intro F H vs ds Q s h P
  unfold dlenF at P
  split at P
  · obtain ⟨v, rfl, q⟩ := one_of h
    cases q with
    | @dic a o kvs _ _ ea hk hv =>
      refine ⟨a, kvs, rfl, .inr ⟨o, s _ _ ea⟩, ?_⟩
      have : kvs.length = (kvs.map (·.1)).length := by rw [List.length_map]
      rw [this, hk]
      exact postD P s (.int _)
  · exact P.elim) ha hx PySem.boot_len hg (by decide) (by decide) he hpl
/-! ### the keys of a frozen dict, walked -/
def keysOf : D → R (List D)
  | .dic ks ds => .ok (ks.map keyD)
  | _ => .bad
theorem wd_keys {K : PySem.W.Frag} {F : Hp} {d : Addr} {o : Obj} {kvs : List (Key × V)} (h : F d = some (.frz o (.dK kvs))) : WalkD K (Itk d o kvs) ((kvs.map (·.1)).map keyD) F := by
  refine ⟨fun i F1 H s1 s2 hi => ?_, fun F1 H s1 s2 => ?_, fun i F1 H x H' s1 s2 hi y => ?_⟩
  · rw [List.length_map, List.length_map] at hi
    exact ⟨s2 _ _ (s1 _ _ h), hi⟩
  · exact ⟨s2 _ _ (s1 _ _ h), by rw [List.length_map, List.length_map]; exact Nat.le_refl _⟩
  · obtain ⟨rfl, k, v, e, rfl⟩ := y
    refine ⟨F1, keyD k, ?_, Grow.refl s2, key_dv k⟩
    rw [List.getElem?_map, List.getElem?_map, e]
    rfl
theorem mi_keys {tg : Expr} (h : ME X G e ma) : MI X G tg e (mSeq keysOf ma) := weakI (pi_keys h) fun σ H Q ⟨ρ, F, S, P⟩ => by
  refine ⟨ρ, F, S, (PostI.bind (rel := DvR G) P).imp fun d x F1 H1 e1 g1 q1 ⟨F1', d', e1', g1', q1', P1⟩ => ?_⟩
  cases q1' with
  | @dic a o kvs ks ds ea hk hv =>
    subst hk
    exact ⟨a, o, rfl, .inl ⟨kvs, g1'.s _ _ ea, P1 _ _ _ (Grow.refl g1'.s) (wd_keys ea)⟩⟩
  | _ => exact P1.elim
def strKeys : List Key → Option (List Str)
  | [] => some []
  | .inr s :: r => (strKeys r).map (s :: ·)
  | _ => none
theorem strKeys_eq : ∀ {ks : List Key} {ys : List Str}, strKeys ks = some ys → ks = ys.map Sum.inr
  | [], ys, h => by cases h; rfl
  | .inl i :: r, ys, h => by cases h
  | .inr s :: r, ys, h => by
    unfold strKeys at h
    cases e : strKeys r with
    | none => rw [e] at h; cases h
    | some zs => rw [e] at h; cases h; rw [strKeys_eq e]; rfl
/-- sorted(d) -/
def dsortF : List D → R D
  | [.dic ks ds] => ofO (strKeys ks) fun ys => if ys.length < 64 then .ok (.lst ((sortS ys).map D.str)) else .bad
  | _ => .bad
theorem me_dsort {m : Env → R (List D)} (ha : MA X G [e] m) (hx : X.mg "sorted" = none) (hc : X.calm = true := by rfl) (hg : Gl X "sorted" := by rfl) (he : starEach [e] X.env = (false, eval e X.env) :: starEach [] X.env := by rfl) (hpl : (backTo pos (starEach [] X.env)).any (·.1) = false := by rfl) :
    ME X G (.Call (.Name "sorted" p) [e] [] pos) (mCall dsortF m) := me_callB (call_sortedD hc) (by
  intro F H vs ds Q s h P
  unfold dsortF at P
  split at P
  · rename_i ks ds'
    obtain ⟨v, rfl, q⟩ := one_of h
    cases q with
    | @dic a o kvs _ _ ea hk hv =>
      cases ek : strKeys ks with
      | none => rw [ek] at P; exact P.elim
      | some ys =>
        rw [ek] at P
        have P : PostR G (DvR G) F H (if ys.length < 64 then .ok (.lst ((sortS ys).map D.str)) else .bad) Q := P
        split at P
        · rename_i h64
          refine ⟨a, kvs, ys, rfl, .inr ⟨o, s _ _ ea⟩, hk.trans (strKeys_eq ek), h64, fun zs q hp hs hn => ?_⟩
          rw [eq_sortS hp hs]
          exact postNew P s hn (.lst upd_same (dv_strs _))
        · exact P.elim
  · exact P.elim) ha hx (by decide +kernel) hg (by decide) (by decide) he hpl
/-- list(d) -/
def dlistF : List D → R D
  | [.dic ks ds] => .ok (.lst (ks.map keyD))
  | _ => .bad
theorem dv_keys {K : PySem.W.Frag} {F : Hp} : ∀ kvs : List (Key × V), DvAll K F (kvs.map fun kv => kV kv.1) ((kvs.map (·.1)).map keyD)
  | [] => .nil
  | p :: r => .cons (key_dv p.1) (dv_keys r)
theorem me_dlist {m : Env → R (List D)} (ha : MA X G [e] m) (hx : X.mg "list" = none) (hc : X.calm = true := by rfl) (hg : Gl X "list" := by rfl) (he : starEach [e] X.env = (false, eval e X.env) :: starEach [] X.env := by rfl) (hpl : (backTo pos (starEach [] X.env)).any (·.1) = false := by rfl) :
    ME X G (.Call (.Name "list" p) [e] [] pos) (mCall dlistF m) := me_callTy (call_listD hc) (by
  intro F H vs ds Q s h P
  unfold dlistF at P
  split at P
  · rename_i ks ds'
    obtain ⟨v, rfl, q⟩ := one_of h
    cases q with
    | @dic a o kvs _ _ ea hk hv =>
      subst hk
      exact ⟨a, kvs, rfl, .inr ⟨o, s _ _ ea⟩, fun q hq => postNew P s hq (.lst upd_same (dv_keys kvs))⟩
  · exact P.elim) ha hx (by decide +kernel) hg (by decide) (by decide) he hpl
end
end Mir
namespace Mir
open PySem PySem.Spec PyProof.Rows L2
/-! ### what a slot may be given: data, a new list, a new dict -/
structure POk (K : PySem.W.Frag) (H F' H' : Hp) (v : V) (s : Slot) : Prop where
  ok : SlotOk K F' H' (some v) s
  nw : s.own = true → ∃ a o, v = .ref a ∧ H a = none ∧ F' a = none ∧ H' a = some o
inductive PsOk (K : PySem.W.Frag) (F' H' : Hp) : Hp → List V → List Slot → Prop
  | nil {H : Hp} : PsOk K F' H' H [] []
  | cons {H H1 : Hp} {v : V} {s : Slot} {vs : List V} {ss : List Slot} : POk K H F' H' v s → Same H H1 → (s.own = true → ∀ a, v = .ref a → H1 a ≠ none) → PsOk K F' H' H1 vs ss → PsOk K F' H' H (v :: vs) (s :: ss)
def PostP (G : Gm) (F H : Hp) (r : R Slot) (Q : VK) : Prop := match r with
  | .ok s => ∀ v F' H', Grow F H F' H' → POk G.K H F' H' v s → Q v H'
  | .exc c => ∀ C F' H', G.mg c = some (.ref C) → Grow F H F' H' → G.E (.ref C) none H'
  | .bad => False
def tpOf (G : Gm) (m : Env → R Slot) : TE := fun σ H Q => ∃ ρ F, Sl G.K ρ σ F H ∧ PostP G F H (m ρ) Q
abbrev MP (X : Cx) (G : Gm) (e : Expr) (m : Env → R Slot) : Prop := PE X e (tpOf G m)
theorem PostP.grow {G : Gm} {F H F1 H1 : Hp} {r : R Slot} {Q : VK} (h : PostP G F H r Q) (g : Grow F H F1 H1) : PostP G F1 H1 r Q := by
  cases r with
  | ok a => exact fun v F' H' g' q => h v F' H' (g.trans g') ⟨q.ok, fun z => by obtain ⟨a, o, e1, e2, e3⟩ := q.nw z; exact ⟨a, o, e1, g.h.free e2, e3⟩⟩
  | exc c => exact fun C F' H' m g' => h C F' H' m (g.trans g')
  | bad => exact h
def mpF (m : Env → R D) : Env → R Slot := fun ρ => (m ρ).bind fun d => .ok (.fz d)
def mpL (m : Env → R (List D)) : Env → R Slot := fun ρ => (m ρ).bind fun d => .ok (.ol d)
def mpD : Env → R Slot := fun _ => .ok (.od [])
section
variable {X : Cx} {G : Gm} {a b e : Expr} {es : List Expr} {ma mb : Env → R D} {ms mu : Env → RS} {pos : Pos} {k : Nat} {x y : Str} {p p2 apos cpos : Pos}
theorem mp_f (h : ME X G e ma) : MP X G e (mpF ma) := weakE h fun σ H Q ⟨ρ, F, S, P⟩ => ⟨ρ, F, S, by
  unfold mpF at P
  cases z : ma ρ with
  | ok d => rw [z] at P; exact fun v F' H' g q => P v F' H' g ⟨q, fun z => nomatch z⟩
  | exc c => rw [z] at P; exact P
  | bad => rw [z] at P; exact P⟩
theorem mp_l {m : Env → R (List D)} (h : MF X G e m) : MP X G e (mpL m) := weakE h fun σ H Q ⟨ρ, F, S, P⟩ => ⟨ρ, F, S, by
  unfold mpL at P
  cases z : m ρ with
  | ok d => rw [z] at P; exact fun p xs F' H' g n f o q => P (.ref p) F' H' g ⟨⟨p, xs, rfl, o, f, q⟩, fun _ => ⟨p, _, rfl, n, f, o⟩⟩
  | exc c => rw [z] at P; exact P
  | bad => rw [z] at P; exact P⟩
theorem mp_d : MP X G (.Dict [] [] pos) mpD := weakE pe_dnewK fun σ H Q ⟨ρ, F, S, P⟩ => fun q hq => by
  have fq := S.sub.free hq
  exact P (.ref q) F _ (Grow.own S.sub hq) ⟨⟨q, [], rfl, upd_same, fq, rfl, .nil⟩, fun _ => ⟨q, _, rfl, hq, fq, upd_same⟩⟩
def PostPs (G : Gm) (F H : Hp) (r : R (List Slot)) (Q : List V → Hp → Prop) : Prop := match r with
  | .ok s => ∀ vs F' H', Grow F H F' H' → PsOk G.K F' H' H vs s → Q vs H'
  | .exc c => ∀ C F' H', G.mg c = some (.ref C) → Grow F H F' H' → G.E (.ref C) none H'
  | .bad => False
def tpsOf (G : Gm) (m : Env → R (List Slot)) : TA := fun σ H Q => ∃ ρ F, Sl G.K ρ σ F H ∧ PostPs G F H (m ρ) Q
def mpNil : Env → R (List Slot) := fun _ => .ok []
def mpCons (a : Env → R Slot) (r : Env → R (List Slot)) : Env → R (List Slot) := fun ρ => (a ρ).bind fun s => (r ρ).bind fun ss => .ok (s :: ss)
abbrev MPs (X : Cx) (G : Gm) (es : List Expr) (m : Env → R (List Slot)) : Prop := PA X es (tpsOf G m)
theorem mps_nil : MPs X G [] mpNil := weakA pa_nil fun σ H Q ⟨ρ, F, S, P⟩ => P [] F H (Grow.refl S.sub) .nil
theorem mps_cons {mp : Env → R Slot} {mr : Env → R (List Slot)} (ha : MP X G e mp) (hr : MPs X G es mr) (hs : starEach (e :: es) X.env = (false, eval e X.env) :: starEach es X.env := by rfl) : MPs X G (e :: es) (mpCons mp mr) :=
  weakA (pa_cons ha hr hs) fun σ H Q ⟨ρ, F, S, P⟩ => by
    refine ⟨ρ, F, S, ?_⟩
    unfold mpCons at P
    cases z : mp ρ with
    | exc c => rw [z] at P; exact P
    | bad => rw [z] at P; exact P.elim
    | ok s =>
      rw [z] at P
      intro v F1 H1 g1 q1
      refine ⟨ρ, F1, S.grow g1, ?_⟩
      cases z2 : mr ρ with
      | exc c =>
        rw [z2] at P
        exact fun C F' H' m g' => P C F' H' m (g1.trans g')
      | bad => rw [z2] at P; exact P.elim
      | ok ss =>
        rw [z2] at P
        intro vs F2 H2 g2 q2
        refine P (v :: vs) F2 H2 (g1.trans g2) (.cons ⟨q1.ok.grow g2, fun z => ?_⟩ g1.h (fun z a ea => ?_) q2)
        · obtain ⟨a, o, e1, e2, e3, e4⟩ := q1.nw z
          exact ⟨a, o, e1, e2, (g2.o _ _ e4).trans e3, g2.h _ _ e4⟩
        · obtain ⟨a', o, e1, e2, e3, e4⟩ := q1.nw z
          rw [e1] at ea
          cases ea
          rw [e4]
          exact fun z => nomatch z
theorem SRel.putNew {F0 H0 F H : Hp} {ρ : Env} {σ : L2.St} (S : SRel G.K F0 H0 ρ σ F H) (i : Nat) {s : Slot} {v : V} (ok : SlotOk G.K F H (some v) s)
    (fr : s.own = true → ∃ a o, v = .ref a ∧ H0 a = none ∧ F a = none ∧ H a = some o ∧ ∀ (j : Nat) (t : Slot), j ≠ i → ρ[j]? = some t → t.own = true → σ[j]? ≠ some (some (.ref a))) :
    SRel G.K F0 H0 (ρ.set i s) (σ.set i (some v)) F H := by
  have own : s.own = true → SRel G.K F0 H0 (ρ.set i s) (σ.set i (some v)) F H := fun ho => by
    obtain ⟨a, o, rfl, h0, hf, hh, hne⟩ := fr ho
    have e : upd H a o = H := by
      funext b
      by_cases hb : b = a
      · rw [hb, upd_same, hh]
      · rw [upd_ne hb]
    refine ⟨?_, S.gr, fun j t c h1 h2 h3 => ?_⟩
    · have q := S.sl.setOwn (o := o) i hf ho (by rw [e]; exact ok) hne
      rw [e] at q
      exact q
    · rcases get_set h1 with ⟨rfl, rfl⟩ | ⟨nj, e1⟩
      · rcases get_set h3 with ⟨_, z⟩ | ⟨z, _⟩
        · cases z; exact h0
        · exact absurd rfl z
      · rcases get_set h3 with ⟨z, _⟩ | ⟨_, e3⟩
        · exact absurd z nj
        · exact S.nw j t c e1 h2 e3
  cases s with
  | un =>
    refine ⟨S.sl.setUn (some v) i, S.gr, fun j t c h1 h2 h3 => ?_⟩
    rcases get_set h1 with ⟨_, rfl⟩ | ⟨nj, e1⟩
    · cases h2
    · rcases get_set h3 with ⟨z, _⟩ | ⟨_, e3⟩
      · exact absurd z nj
      · exact S.nw j t c e1 h2 e3
  | fz d => exact S.setFz ok i
  | rg n =>
    obtain ⟨a, rfl, h0⟩ := ok
    refine ⟨S.sl.setRg h0 i, S.gr, fun j t c h1 h2 h3 => ?_⟩
    rcases get_set h1 with ⟨_, rfl⟩ | ⟨nj, e1⟩
    · cases h2
    · rcases get_set h3 with ⟨z, _⟩ | ⟨_, e3⟩
      · exact absurd z nj
      · exact S.nw j t c e1 h2 e3
  | ol ds => exact own rfl
  | od es => exact own rfl
  | oq ds => exact own rfl
def setL : Env → List Nat → List Slot → Env
  | ρ, i :: is, s :: ss => setL (ρ.set i s) is ss
  | ρ, _, _ => ρ
def setV : L2.St → List Nat → List V → L2.St
  | σ, i :: is, v :: vs => setV (σ.set i (some v)) is vs
  | σ, _, _ => σ
theorem put_many {F0 H0 F' H' : Hp} : ∀ {is : List Nat} {ss : List Slot} {vs : List V} {H : Hp} {ρ : Env} {σ : L2.St}, SRel G.K F0 H0 ρ σ F' H' → Same H0 H →
    (∀ (j : Nat) (t : Slot) (a : Addr), ρ[j]? = some t → t.own = true → σ[j]? = some (some (.ref a)) → H a ≠ none) → PsOk G.K F' H' H vs ss → SRel G.K F0 H0 (setL ρ is ss) (setV σ is vs) F' H'
  | [], _, _, _, _, _, S, _, _, _ => by simpa [setL, setV] using S
  | _ :: _, _, _, _, _, _, S, _, _, .nil => by simpa [setL, setV] using S
  | i :: is, _, _, H, ρ, σ, S, h0, ow, .cons (H1 := H1) (v := v) (s := s) q sm hin r => by
    refine put_many (is := is) (S.putNew i q.ok fun ho => ?_) (h0.trans sm) (fun j t a h1 h2 h3 => ?_) r
    · obtain ⟨a, o, e1, e2, e3, e4⟩ := q.nw ho
      exact ⟨a, o, e1, h0.free e2, e3, e4, fun j t nj k1 k2 k3 => ow j t a k1 k2 k3 e2⟩
    · rcases get_set h1 with ⟨rfl, rfl⟩ | ⟨nj, e1⟩
      · rcases get_set h3 with ⟨_, z⟩ | ⟨z, _⟩
        · exact hin h2 a (Option.some.inj z).symm
        · exact absurd rfl z
      · rcases get_set h3 with ⟨z, _⟩ | ⟨_, e3⟩
        · exact absurd z nj
        · intro z
          exact ow j t a e1 h2 e3 (sm.free z)
theorem PostS.toPs {F0 H0 F H : Hp} {ρ : Env} {σ : L2.St} {r : R (List Slot)} {f : List Slot → RS} {D : Ends} (S : SRel G.K F0 H0 ρ σ F H) (h : PostS G F0 H0 F D (r.to f)) {Q : List V → Hp → Prop}
    (k : ∀ ss vs F' H', Grow F H F' H' → PsOk G.K F' H' H vs ss → PostS G F0 H0 F' D (f ss) → Q vs H') : PostPs G F H r Q := by
  cases r with
  | ok a => exact fun vs F' H' g q => k a vs F' H' g q (PostS.same (show PostS G F0 H0 F D _ from h) g.f)
  | exc c => exact fun C F' H' m g => h C F' H' m (S.gr.trans g)
  | bad => exact h
theorem own_in {F0 H0 F H : Hp} {ρ : Env} {σ : L2.St} (S : SRel G.K F0 H0 ρ σ F H) (j : Nat) (t : Slot) (a : Addr) (h1 : ρ[j]? = some t) (h2 : t.own = true) (h3 : σ[j]? = some (some (.ref a))) : H a ≠ none := by
  have ok := S.sl.ok j t _ h1 h3
  cases t with
  | un => cases h2
  | fz d => cases h2
  | rg n => cases h2
  | ol ds => obtain ⟨b, xs, ea, q1, _⟩ := ok; cases ea; rw [q1]; exact fun z => nomatch z
  | od es => obtain ⟨b, xs, ea, q1, _⟩ := ok; cases ea; rw [q1]; exact fun z => nomatch z
  | oq ds => obtain ⟨b, xs, ea, q1, _⟩ := ok; cases ea; rw [q1]; exact fun z => nomatch z
def sParP (i j : Nat) (m : Env → R (List Slot)) : Env → RS := fun ρ => (m ρ).to fun ss => match ss with
  | [s, t] => .nx ((ρ.set i s).set j t)
  | _ => .bad
/-- a, b = x, y where the new things are the def's own -/
theorem ms_parP {i j : Nat} {m : Env → R (List Slot)} {px py pt : Pos} {kt k2 : Nat} {pt2 : Pos} (hN : X.N.Nodup) (ha : MPs X G [a, b] m)
    (hw : swappedStores [.Tuple [.Name x px, .Name y py] kt pt] (.Tuple [a, b] k2 pt2) X.env = pure (some [x, y])) (hij : i ≠ j) (hi : X.N[i]? = some x := by rfl) (hj : X.N[j]? = some y := by rfl) (hx : X.env.scope.names.lookup x = some .local := by rfl) (hy : X.env.scope.names.lookup y = some .local := by rfl) (hc : X.calm = true := by rfl)
    (hs : swapsWithSole [.Tuple [.Name x px, .Name y py] kt pt] (.Tuple [a, b] k2 pt2) pos.line X.env = pure false := by rfl) :
    MS X G (.Assign [.Tuple [.Name x px, .Name y py] kt pt] (.Tuple [a, b] k2 pt2) pos) (sParP i j m) := weakS (ps_par hc hN hi hj hij hx hy ha hw hs) fun D σ H ⟨ρ, F, F0, H0, S, P⟩ => by
  refine ⟨ρ, F, S.sl, P.toPs S fun ss vs F' H' g q P1 => ?_⟩
  split at P1
  · cases q with
    | cons q1 sm hin r =>
      cases r with
      | cons q2 sm2 hin2 r =>
        cases r
        exact ⟨_, _, rfl, P1 _ F' H' (put_many (is := [i, j]) (S.grow g) S.gr.h (own_in S) (.cons q1 sm hin (.cons q2 sm2 hin2 .nil))) (Same.refl _)⟩
  · exact P1.elim
theorem ms_mvO {i : Nat} (j : Nat) (hN : X.N.Nodup) (hij : i ≠ j) (hj : X.N[j]? = some y := by rfl) (hv : Vis X.env.scope y := by first | exact Or.inl rfl | exact Or.inr (Or.inl rfl) | exact Or.inr (Or.inr rfl)) (hd : (y == ("__debug__" : Str)) = false := by decide)
    (hcd : (y == ("__classdict__" : Str)) = false := by decide) (hi : X.N[i]? = some x := by rfl) (hx : Loc X.env.scope x := by first | exact Or.inl rfl | exact Or.inr rfl) (hs : swapsWith (.Name y p2) (some (.Name x p)) pos.line X.env = pure false := by rfl) (hf : X.fn x = true ∨ X.env.scope.names.lookup x = some .local := by first | exact .inl rfl | exact .inr rfl | assumption) :
    MS X G (.Assign [.Name x p] (.Name y p2) pos) (sMvO i j) := weakS (ps_set hN hi hx (pe_var hj hv hd hcd) hs hf) fun D σ H ⟨ρ, F, F0, H0, S, P⟩ => by
  unfold sMvO at P
  split at P
  · rename_i ds hρ
    obtain ⟨l, xs, e1, e2, e3, e4⟩ := S.sl.getOl hρ
    have hn : H0 l = none := S.nw j _ l hρ rfl e1
    have s2 : Same F (upd F l (.lst xs)) := Same.upd_new e3
    have sF : Same (upd F l (.lst xs)) H := fun b u q => by
      by_cases hb : b = l
      · subst hb; rw [upd_same] at q; cases q; exact e2
      · rw [upd_ne hb] at q; exact S.gr.s b u q
    have g : Grow F0 H0 (upd F l (.lst xs)) H := ⟨S.gr.h, S.gr.f.trans s2, sF, fun b u q => by rw [upd_ne (ne_of_none q hn)]; exact S.gr.o b u q⟩
    refine ⟨.ref l, e1, ?_⟩
    -- slot j forgotten, then F grows by l
    have S1 : Sl G.K (ρ.set j .un) σ F H := by
      have := S.sl.setUn (some (.ref l)) j
      have e : σ.set j (some (.ref l)) = σ := by
        refine List.ext_getElem? fun c => ?_
        by_cases hc : c = j
        · subst hc
          rw [List.getElem?_set_self (List.getElem?_eq_some_iff.mp e1).1, e1]
        · rw [List.getElem?_set_ne (Ne.symm hc)]
      rw [e] at this
      exact this
    have apart : ∀ (c : Nat) (t : Slot), (ρ.set j .un)[c]? = some t → t.own = true → σ[c]? ≠ some (some (.ref l)) := fun c t h1 h2 h3 => by
      rcases get_set h1 with ⟨_, rfl⟩ | ⟨nc, h1⟩
      · cases h2
      · exact nc (S.sl.apart c j t _ l h1 hρ h2 rfl h3 e1)
    have S2 : Sl G.K (ρ.set j .un) σ (upd F l (.lst xs)) H := ⟨sF, S1.len, fun c t z h1 h2 => by
      have ok := S1.ok c t z h1 h2
      have ap := apart c t h1
      cases t with
      | un => cases z <;> trivial
      | fz d =>
        cases z with
        | none => exact ok.elim
        | some v => exact Dv.mono s2 ok
      | rg n =>
        cases z with
        | none => exact ok.elim
        | some v =>
          obtain ⟨c, rfl, k1⟩ := ok
          exact ⟨c, rfl, s2 _ _ k1⟩
      | ol ds =>
        cases z with
        | none => exact ok.elim
        | some v =>
          obtain ⟨c, ys, rfl, k1, k2, k3⟩ := ok
          exact ⟨c, ys, rfl, k1, by rw [upd_ne (fun z => by rw [z] at h2; exact ap rfl h2)]; exact k2, k3.mono s2⟩
      | od es =>
        cases z with
        | none => exact ok.elim
        | some v =>
          obtain ⟨c, ys, rfl, k1, k2, k3, k4⟩ := ok
          exact ⟨c, ys, rfl, k1, by rw [upd_ne (fun z => by rw [z] at h2; exact ap rfl h2)]; exact k2, k3, k4.mono s2⟩
      | oq ds =>
        cases z with
        | none => exact ok.elim
        | some v =>
          obtain ⟨c, ys, rfl, k1, k2, k3⟩ := ok
          exact ⟨c, ys, rfl, k1, by rw [upd_ne (fun z => by rw [z] at h2; exact ap rfl h2)]; exact k2, k3.mono s2⟩, S1.apart⟩
    have S3 : SRel G.K F0 H0 (ρ.set j .un) σ (upd F l (.lst xs)) H := ⟨S2, g, fun c t b h1 h2 h3 => by
      rcases get_set h1 with ⟨_, rfl⟩ | ⟨nc, h1⟩
      · cases h2
      · exact S.nw c t b h1 h2 h3⟩
    exact P _ _ H (S3.setFz (.lst upd_same (e4.mono s2)) i) s2
  · exact P.elim
end
/-! ### {k: v for ..} -/
def dcGo (mt : TgF) (tt : Env → R Bool) (mk mv : Env → R D) (ρ : Env) : List D → List (Key × D) → R (List (Key × D))
  | [], acc => .ok acc
  | d :: ds, acc => (nx (mt d ρ)).bind fun ρ1 => (nx (tt ρ1)).bind fun b => if b = true then (nx (mk ρ1)).bind fun kd => (nx (mv ρ1)).bind fun y => ofO (keyOf kd) fun k => dcGo mt tt mk mv ρ ds (ins acc k y) else dcGo mt tt mk mv ρ ds acc
def mDc (vs : List Nat) (mi : Env → R (List D)) (mt : TgF) (tt : Env → R Bool) (mk mv : Env → R D) : Env → R D := fun ρ => (mi ρ).bind fun ds => if ds.length ≤ 1000000 then (nx (dcGo mt tt mk mv (wipeE ρ vs) ds [])).bind fun es => .ok (dicE es) else .bad
theorem ins_len {α : Type} (es : List (Key × α)) (k : Key) (v : α) : (ins es k v).length ≤ es.length + 1 := by
  unfold ins
  split
  · rw [List.length_map]; omega
  · rw [List.length_append, List.length_singleton]; exact Nat.le_refl _
section
variable {X : Cx} {G : Gm} {mi : Env → R (List D)} {mt : TgF} {tt : Env → R Bool} {mk mv : Env → R D} {wi : TI} {g : TG} {vs : List Nat}
theorem dc_read (hg : TgOk G.K vs g mt) : ∀ σ H Q, tOf G (mDc vs mi mt tt mk mv) σ H Q → tFrzE (tDc (tiOf G mi) g (ttOf G.e0 tt) (tOf G.e0 mk) (tOf G.e0 mv) vs) σ H Q := by
  intro σ H Q ⟨ρ, F, S, P⟩
  refine ⟨ρ, F, S, ?_⟩
  unfold mDc at P
  cases e : mi ρ with
  | exc c => rw [e] at P; exact P
  | bad => rw [e] at P; exact P.elim
  | ok ds =>
    rw [e] at P
    have P : PostR G (DvR G) F H (if ds.length ≤ 1000000 then (nx (dcGo mt tt mk mv (wipeE ρ vs) ds [])).bind fun es => .ok (dicE es) else .bad) Q := P
    intro J F1 H1 g1 W Dl hD
    have hl : ds.length ≤ 1000000 := Decidable.byContradiction fun z => by rw [if_neg z] at P; exact P.elim
    rw [if_pos hl] at P
    cases e2 : nx (dcGo mt tt mk mv (wipeE ρ vs) ds []) with
    | exc c => cases z : dcGo mt tt mk mv (wipeE ρ vs) ds [] <;> (rw [z] at e2; cases e2)
    | bad => rw [e2] at P; exact P.elim
    | ok ys =>
      rw [e2] at P
      have e3 := nx_ok e2
      have fD : F1 Dl = none := g1.s.free hD
      refine ⟨fun i m Hc => m = ds.length - i ∧ i ≤ ds.length ∧ ∃ Fc kvs acc, Grow F1 H1 Fc Hc ∧ Fc Dl = none ∧ Hc Dl = some (.dK kvs) ∧ kvs.map (·.1) = acc.map (·.1) ∧ DvAll G.K Fc (kvs.map (·.2)) (acc.map (·.2)) ∧ kvs.length ≤ i ∧ dcGo mt tt mk mv (wipeE ρ vs) (ds.drop i) acc = .ok ys,
        ⟨ds.length, by rw [Nat.sub_zero], Nat.zero_le _, F1, [], [], Grow.own g1.s hD, fD, upd_same, rfl, .nil, Nat.le_refl _, e3⟩, ?_⟩
      rintro i m Hc ⟨rfl, hi, Fc, kvs, acc, gc, fc, hc, kc, rc, lc, ec⟩
      by_cases hlt : i < ds.length
      · refine .inr ⟨W.go i Fc Hc gc.f gc.s hlt, fun H' => ∃ Fc kvs acc, Grow F1 H1 Fc H' ∧ Fc Dl = none ∧ H' Dl = some (.dK kvs) ∧ kvs.map (·.1) = acc.map (·.1) ∧ DvAll G.K Fc (kvs.map (·.2)) (acc.map (·.2)) ∧ kvs.length ≤ i + 1 ∧ dcGo mt tt mk mv (wipeE ρ vs) (ds.drop (i + 1)) acc = .ok ys,
          fun H' ⟨Fc, kvs, acc, q⟩ => ⟨ds.length - (i + 1), by omega, rfl, hlt, Fc, kvs, acc, q⟩, fun x H' y => ?_⟩
        obtain ⟨Fy, d, ed, gy, rd⟩ := W.yld i Fc Hc x H' gc.f gc.s hlt y
        have edrop : ds.drop i = d :: ds.drop (i + 1) := by
          rw [List.drop_eq_getElem_cons hlt]
          rw [List.getElem?_eq_getElem hlt] at ed
          rw [Option.some.inj ed]
        rw [edrop] at ec
        obtain ⟨ρ1, n1, ec⟩ := bind_ok (show (nx (mt d (wipeE ρ vs))).bind _ = _ from ec)
        obtain ⟨b, n2, ec⟩ := bind_ok ec
        have Sw := (((S.grow g1).grow ⟨gc.h, gc.f, gc.s, gc.o⟩).grow gy).wipe vs
        refine hg _ ρ1 _ Fy H' x d _ Sw rd (nx_ok n1) fun σ2 S2 len2 _ agree => ?_
        refine ⟨wipe_eq (len2.trans (wipe_length _ _)) agree, ρ1, Fy, S2, ?_⟩
        rw [nx_ok n2]
        intro b' F3 H3 g3 eb
        have eb : b' = b := eb
        subst eb
        have gy3 := gy.trans g3
        have h3 : H3 Dl = some (.dK kvs) := gy3.h _ _ hc
        have f3 : F3 Dl = none := (gy3.o _ _ hc).trans fc
        cases b' with
        | false =>
          rw [if_neg Bool.false_ne_true] at ec ⊢
          exact ⟨F3, kvs, acc, gc.trans gy3, f3, h3, kc, rc.mono gy3.f, by omega, ec⟩
        | true =>
          rw [if_pos rfl] at ec ⊢
          obtain ⟨kd, n3, ec⟩ := bind_ok ec
          obtain ⟨yd, n4, ec⟩ := bind_ok ec
          refine ⟨ρ1, F3, S2.grow g3, ?_⟩
          rw [nx_ok n3]
          intro kx F4 H4 g4 rk
          refine ⟨ρ1, F4, (S2.grow g3).grow g4, ?_⟩
          rw [nx_ok n4]
          intro yv F5 H5 g5 ry
          have g35 := (gy3.trans g4).trans g5
          have h5 : H5 Dl = some (.dK kvs) := g35.h _ _ hc
          have f5 : F5 Dl = none := (g35.o _ _ hc).trans fc
          cases ek : keyOf kd with
          | none => rw [ek] at ec; cases ec
          | some k =>
            rw [ek] at ec
            have hkv := length_putK kvs k yv
            obtain ⟨z1, z2⟩ := put_dv (k := k) ry kc (rc.mono g35.f)
            refine ⟨kvs, k, dv_key rk ek, h5, by rw [sizeLine_eq]; omega, F5, _, _, ?_, f5, upd_same, z1, z2, by omega, ec⟩
            have gt := gc.trans g35
            exact ⟨fun b u q => by rw [upd_ne (ne_of_none q hD)]; exact gt.h b u q, gt.f, gt.s.upd_out f5, gt.o⟩
      · have ei : i = ds.length := by omega
        subst ei
        refine .inl ⟨W.stop Fc Hc gc.f gc.s, Dl, kvs, rfl, hc, fun o => ?_⟩
        rw [List.drop_length] at ec
        cases ec
        have P : PostR G (DvR G) F H (.ok (dicE _)) Q := P
        have s2 : Same Fc (upd Fc Dl (.frz o (.dK kvs))) := Same.upd_new fc
        have gt := g1.trans gc
        have hF : F Dl = none := S.sub.free (g1.h.free hD)
        have hH : H Dl = none := g1.h.free hD
        refine P (.ref Dl) (upd Fc Dl (.frz o (.dK kvs))) _ ⟨fun b u q => by rw [upd_ne (ne_of_none q hH)]; exact gt.h b u q, gt.f.trans s2, gt.s.upd_both, fun b u q => by rw [upd_ne (ne_of_none q hH)]; exact gt.o b u q⟩ (.dic upd_same kc (rc.mono s2))
variable {kx vx tg iter : Expr} {ifs : List Expr} {scope : Scope} {own : List (Str × Nat)} {pos : Pos}
theorem me_dc (hN : X.N.Nodup) (hi : MI X G tg iter mi) (ok : BlkOk X.N X.env.scope scope own)
    (hp : ∀ (s : Shared) (H : Hp) (C : Addr) (cl : List (Str × Addr)) (fp : List Addr), PG (X.blk s H scope (compEnvC scope cl C X.env) fp) tg g) (hg : TgOk G.K (own.map (·.2)) g mt)
    (ht : ∀ (s : Shared) (H : Hp) (C : Addr) (cl : List (Str × Addr)) (fp : List Addr), PTs (X.blk s H scope (compEnvC scope cl C X.env) fp) ifs (ttOf G.e0 tt))
    (hk : ∀ (s : Shared) (H : Hp) (C : Addr) (cl : List (Str × Addr)) (fp : List Addr), ME (X.blk s H scope (compEnvC scope cl C X.env) fp) G.e0 kx mk)
    (he : ∀ (s : Shared) (H : Hp) (C : Addr) (cl : List (Str × Addr)) (fp : List Addr), ME (X.blk s H scope (compEnvC scope cl C X.env) fp) G.e0 vx mv) (hc : X.calm = true := by rfl) (hs : ∀ x, foldedSetIterable iter X.env x = pure x := by intro _; rfl) :
    ME X G (.DictComp kx vx [⟨tg, iter, ifs, 0⟩] scope pos) (mDc (own.map (·.2)) mi mt tt mk mv) :=
  weakE (pe_frz (pe_dc hc hN hi ok hp ht hk he hs)) (dc_read hg)
end
end Mir
/-! sorted of pairs of texts, any number of them -/
def leP (p q : PySem.Str × PySem.Str) : Bool := decide (p.1.cps.toList ≤ q.1.cps.toList) && (!decide (q.1.cps.toList ≤ p.1.cps.toList) || decide (p.2.cps.toList ≤ q.2.cps.toList))
def lexS (p q : PySem.Str × PySem.Str) : Bool := !leP q p
theorem leP_iff (p q : PySem.Str × PySem.Str) : leP p q = true ↔ p.1.cps.toList ≤ q.1.cps.toList ∧ (q.1.cps.toList ≤ p.1.cps.toList → p.2.cps.toList ≤ q.2.cps.toList) := by
  unfold leP
  by_cases h1 : p.1.cps.toList ≤ q.1.cps.toList <;> by_cases h2 : q.1.cps.toList ≤ p.1.cps.toList <;> simp [h1, h2]
theorem leP_trans (p q r : PySem.Str × PySem.Str) (h1 : leP p q = true) (h2 : leP q r = true) : leP p r = true := by
  obtain ⟨a1, a2⟩ := (leP_iff p q).mp h1
  obtain ⟨b1, b2⟩ := (leP_iff q r).mp h2
  exact (leP_iff p r).mpr ⟨List.le_trans a1 b1, fun h => List.le_trans (a2 (List.le_trans b1 h)) (b2 (List.le_trans h a1))⟩
theorem leP_total (p q : PySem.Str × PySem.Str) : (leP p q || leP q p) = true := by
  unfold leP
  rcases List.le_total p.1.cps.toList q.1.cps.toList with h | h
  · by_cases h2 : q.1.cps.toList ≤ p.1.cps.toList
    · rcases List.le_total p.2.cps.toList q.2.cps.toList with k | k <;> simp [h, h2, k]
    · simp [h, h2]
  · by_cases h2 : p.1.cps.toList ≤ q.1.cps.toList
    · rcases List.le_total p.2.cps.toList q.2.cps.toList with k | k <;> simp [h, h2, k]
    · simp [h, h2]
theorem str_ext {x y : PySem.Str} (h : x.cps.toList = y.cps.toList) : x = y := by
  cases x; cases y
  simp at h
  rw [h]
theorem leP_anti {p q : PySem.Str × PySem.Str} (h1 : leP p q = true) (h2 : leP q p = true) : p = q := by
  obtain ⟨a1, a2⟩ := (leP_iff p q).mp h1
  obtain ⟨b1, b2⟩ := (leP_iff q p).mp h2
  exact Prod.ext (str_ext (List.le_antisymm a1 b1)) (str_ext (List.le_antisymm (a2 b1) (b2 a1)))
theorem dec_lt (a b : List Nat) : decide (a < b) = !decide (b ≤ a) := by
  by_cases h : b ≤ a
  · rw [decide_eq_true h, decide_eq_false (fun z => List.not_le.mpr z h)]; rfl
  · rw [decide_eq_false h, decide_eq_true (List.not_le.mp h)]; rfl
theorem lexS_eq (p q : PySem.Str × PySem.Str) : lexS p q = if p.1 = q.1 then decide (p.2.cps.toList < q.2.cps.toList) else decide (p.1.cps.toList < q.1.cps.toList) := by
  unfold lexS leP
  rw [dec_lt, dec_lt]
  by_cases e : p.1 = q.1
  · rw [if_pos e, e]
    have h : decide (q.1.cps.toList ≤ q.1.cps.toList) = true := decide_eq_true (List.le_refl _)
    rw [h]
    rfl
  · rw [if_neg e]
    by_cases k : q.1.cps.toList ≤ p.1.cps.toList
    · have k2 : ¬ p.1.cps.toList ≤ q.1.cps.toList := fun z => e (str_ext (List.le_antisymm z k))
      rw [decide_eq_true k, decide_eq_false k2]
      rfl
    · rw [decide_eq_false k]
      rfl
def sortP (ps : List (PySem.Str × PySem.Str)) : List (PySem.Str × PySem.Str) := ps.mergeSort leP
theorem eq_sortP {ps qs : List (PySem.Str × PySem.Str)} (hp : qs.Perm ps) (hs : qs.Pairwise (fun x y => leP x y = true)) : qs = sortP ps :=
  List.Perm.eq_of_pairwise (fun a b _ _ h1 h2 => leP_anti h1 h2) hs (List.pairwise_mergeSort leP_trans leP_total ps) (hp.trans (List.mergeSort_perm ps leP).symm)
namespace SrtO
open PySem PyProof.Rows Srt
section
variable {prog : Program} {w : World} {A : Around} {E : Value → Shared → Prop} {s : Shared}
def IsPairS (h : Heap) (v : Value) (x y : PySem.Str) : Prop := ∃ a o t u n, v = .ref a ∧ h.get? a = some o ∧ o.cls = .type "tuple" ∧ o.data = .seq #[.str x t, .str y u] n
theorem IsPairS.keeps {h h' : Heap} {v : Value} {x y : PySem.Str} (p : IsPairS h v x y) (k : ∀ b o, h.get? b = some o → o.cls = .type "tuple" → h'.get? b = some o) : IsPairS h' v x y := by
  obtain ⟨a, o, t, u, n, e, ho, hc, hd⟩ := p
  exact ⟨a, o, t, u, n, e, k _ _ ho hc, hc, hd⟩
theorem swo_lexS (k : Value → PySem.Str × PySem.Str) : Swo fun v u => lexS (k v) (k u) := by
  refine ⟨fun x y h => ?_, fun x y z h1 h2 => ?_⟩
  · unfold lexS at h ⊢
    have t := leP_total (k x) (k y)
    cases a : leP (k y) (k x) with
    | true => rw [a] at h; cases h
    | false => rw [a, Bool.or_false] at t; rw [t]; rfl
  · unfold lexS at h1 h2 ⊢
    have a : leP (k x) (k y) = true := by cases q : leP (k x) (k y) with
      | true => rfl
      | false => rw [q] at h1; cases h1
    have b : leP (k y) (k z) = true := by cases q : leP (k y) (k z) with
      | true => rfl
      | false => rw [q] at h2; cases h2
    rw [leP_trans _ _ _ a b]
    rfl
theorem pairS_cmp {vs : List Value} {k : Value → PySem.Str × PySem.Str} (hp : ∀ v ∈ vs, IsPairS s.heap v (k v).1 (k v).2) : Cmp prog w A s (tuples' true) (fun p => p.1 ∈ vs) (lt2 fun v u => lexS (k v) (k u)) := by
  intro p q hm hm'
  have h1 := hp _ hm
  have h2 := hp _ hm'
  show wpAny (model prog w) A (keyLt' (tuples' true) p.1 q.1) (fun r s' => s' = s ∧ r = lexS (k p.1) (k q.1)) (fun _ _ => False) s
  rw [lexS_eq]
  generalize (k p.1).1 = x at h1 ⊢
  generalize (k p.1).2 = y at h1 ⊢
  generalize (k q.1).1 = x' at h2 ⊢
  generalize (k q.1).2 = y' at h2 ⊢
  obtain ⟨a, o, t, u, n, e, ho, hc, hd⟩ := h1
  obtain ⟨a', o', t', u', n', e', ho', hc', hd'⟩ := h2
  rw [e, e']
  refine PySem.W.kat_lt ho hd ho' hd' ?_
  show PySem.W.KatLex prog w A true (decide (2 < 2)) _ [(.str x t, .str x' t'), (.str y u, .str y' u')] 0 s
  refine PySem.W.kat_cons (SeqAt.EqAt.str_str x t x' t' prog w _ _ ?_)
  refine PySem.W.kat_go (fun e1 => ?_) (fun e1 => ?_)
  · have ex : x = x' := by simpa using e1
    refine PySem.W.kat_yes (PySem.W.kat_cons (SeqAt.EqAt.str_str y u y' u' prog w _ _ ?_))
    refine PySem.W.kat_go (fun e2 => ?_) (fun e2 => ?_)
    · have ey : y = y' := by simpa using e2
      have e3 : (if x = x' then decide (y.cps.toList < y'.cps.toList) else decide (x.cps.toList < x'.cps.toList)) = false := by
        rw [if_pos ex, ey]
        exact decide_eq_false (List.lt_irrefl _)
      exact PySem.W.kat_yes (PySem.W.kat_nil ⟨rfl, e3.symm⟩)
    · have e3 : (if x = x' then decide (y.cps.toList < y'.cps.toList) else decide (x.cps.toList < x'.cps.toList)) = decide (y.cps.toList < y'.cps.toList) := if_pos ex
      refine PySem.W.kat_no (PySem.W.kat_one _ _ (PyProof.Rows.lt_str ?_))
      exact (show s = s ∧ decide (y.cps.toList < y'.cps.toList) = (if x = x' then decide (y.cps.toList < y'.cps.toList) else decide (x.cps.toList < x'.cps.toList)) from ⟨rfl, e3.symm⟩)
  · have ex : ¬ x = x' := by simpa using e1
    have e3 : (if x = x' then decide (y.cps.toList < y'.cps.toList) else decide (x.cps.toList < x'.cps.toList)) = decide (x.cps.toList < x'.cps.toList) := if_neg ex
    exact PySem.W.kat_no (oneLt_str ⟨rfl, e3.symm⟩)
theorem firstsS_of {h : Heap} : ∀ {vs : List Value}, (∀ v ∈ vs, ∃ x y, IsPairS h v x y) → ∃ fs : List Value, PySem.W.KatTups h vs fs ∧ fs.length = vs.length ∧ ∀ f ∈ fs, ∃ x t, f = Value.str x t
  | [], _ => ⟨[], PySem.W.KatTups.nil, rfl, fun _ hm => by simp at hm⟩
  | v :: vs, hp => by
    obtain ⟨fs, h1, h2, h3⟩ := firstsS_of (vs := vs) fun v' hm => hp v' (List.mem_cons_of_mem _ hm)
    obtain ⟨x, y, a, o, t, u, n, e, ho, hc, hd⟩ := hp v (List.mem_cons_self ..)
    subst e
    refine ⟨.str x t :: fs, PySem.W.KatTups.cons ho hc hd rfl h1, by rw [List.length_cons, List.length_cons, h2], fun f hm => ?_⟩
    rcases List.mem_cons.mp hm with rfl | hm
    · exact ⟨x, t, rfl⟩
    · exact h3 f hm
theorem pairsS_sortable {a : Addr} {vs : List Value} {k : Value → PySem.Str × PySem.Str} (h0 : 0 < vs.length) (hp : ∀ v ∈ vs, IsPairS s.heap v (k v).1 (k v).2) (ha : ∀ o, s.heap.get? a = some o → o.cls ≠ .type "tuple") : SortableO prog w A s a vs fun v u => lexS (k v) (k u) := by
  intro h' keep
  have hp' : ∀ v ∈ vs, IsPairS h' v (k v).1 (k v).2 := fun v hm => (hp v hm).keeps fun b o e c => keep b o (fun z => by subst z; exact ha o e c) e
  obtain ⟨fs, h1, h2, h3⟩ := firstsS_of fun v hm => ⟨_, _, hp' v hm⟩
  refine ⟨tuples' true, fun Q E hq => ?_, pairS_cmp hp'⟩
  refine PySem.W.kat_kind (T := .type "str") h1 (by omega) (fun f hm => ?_) (by rfl) ?_
  · obtain ⟨x, t, rfl⟩ := h3 f hm
    exact PySem.W.Looks.now
  · have e : (Value.type "str" != Value.type "tuple") = true := by first | decide +kernel | rfl | decide
    rw [e]
    exact hq
theorem sorted_pairsS {l : Addr} {vs : List Value} {k : Value → PySem.Str × PySem.Str} {Q : Value → Shared → Prop} (hl : s.heap.IsList l vs.toArray) (hz : vs.length ≤ sizeLine) (hp : ∀ v ∈ vs, IsPairS s.heap v (k v).1 (k v).2)
    (h : ∀ (h' : Heap) (d : Addr) (out : List Value), Srtd (fun v u => lexS (k v) (k u)) out → Stb (fun v u => lexS (k v) (k u)) out vs → (∀ b o, s.heap.get? b = some o → h'.get? b = some o) → s.heap.objs.size ≤ d → (∃ n, h'.get? d = some (seqObj "list" out.toArray n)) → Q (.ref d) { s with heap := h' }) :
    wpAny (model prog w) A (call (.builtin "sorted") [.ref l]) Q E s := by
  refine sorted_ord (swo_lexS k) hl hz (fun h2 h₁ a ha kk => ?_) fun out hs hb => ?_
  · refine pairsS_sortable (s := { s with heap := h₁ }) (by omega) (fun v hm => (hp v hm).keeps fun b o e _ => (kk b o e).2) fun o e => ?_
    have e' : some o = some (seqObj "list" vs.toArray 0) := e.symm.trans ha
    cases e'
    intro c
    exact absurd (Value.type.inj c) (by decide)
  · exact h _ _ out hs hb (fun b o e => sortedAll_old e) (Nat.le_succ _) (sortedAll_at s.heap vs out.toArray)
end
end SrtO
namespace L2
open PySem PySem.Spec PyProof.Rows
def rSortedPS (K : PySem.W.Frag) : List V → Hp → VK → Prop := fun vs H Q => ∃ (a : Addr) (xs : List V) (ps : List (Str × Str)) (R : V → Str × Str → Prop), vs = [V.ref a] ∧ SqL K H a xs ∧ (∀ x p, R x p → ∃ t, x = V.ref t ∧ SqT K H t [.str p.1, .str p.2]) ∧ Paired R xs ps ∧
  ∀ ys p, Paired R ys (sortP ps) → H p = none → Q (.ref p) (upd H p (.lst ys))
theorem paired_mem {α β : Type} {R : α → β → Prop} : ∀ {xs : List α} {ps : List β}, Paired R xs ps → ∀ x ∈ xs, ∃ p, p ∈ ps ∧ R x p
  | _, _, .nil, _, h => nomatch h
  | _, _, .cons h r, x, hx => by
    rcases List.mem_cons.mp hx with rfl | hx
    · exact ⟨_, List.mem_cons_self, h⟩
    · obtain ⟨p, a, b⟩ := paired_mem r x hx
      exact ⟨p, List.mem_cons_of_mem _ a, b⟩
theorem paired_map {α β : Type} {R : α → β → Prop} {k : α → β} : ∀ {xs : List α}, (∀ x ∈ xs, R x (k x)) → Paired R xs (xs.map k)
  | [], _ => .nil
  | x :: xs, h => .cons (h x List.mem_cons_self) (paired_map fun y hy => h y (List.mem_cons_of_mem _ hy))
theorem map_paired {α β : Type} {R : α → β → Prop} {k : α → β} : ∀ {xs : List α} {ps : List β}, Paired R xs ps → (∀ x p, R x p → k x = p) → xs.map k = ps
  | _, _, .nil, _ => rfl
  | _, _, .cons h r, f => by rw [List.map_cons, f _ _ h, map_paired r f]
open Classical in
noncomputable def pick {α β : Type} [Inhabited β] (R : α → β → Prop) (x : α) : β := if h : ∃ p, R x p then h.choose else default
theorem pick_ok {α β : Type} [Inhabited β] {R : α → β → Prop} {x : α} {p : β} (h : R x p) : R x (pick R x) := by
  have h' : ∃ p, R x p := ⟨p, h⟩
  unfold pick
  rw [dif_pos h']
  exact h'.choose_spec
theorem cr_sortedPS {X : Cx} : CallR X (.builtin "sorted") (rSortedPS X.K) := by
  intro pins s σ H vs us Q I r h
  obtain ⟨a, xs, ps, R, rfl, hs, hR, hx, q⟩ := h
  obtain ⟨its, rv, hl, hz⟩ := I.list hs
  obtain ⟨u, rfl, ru⟩ := vals1 r
  obtain rfl : u = Value.ref a := ru
  haveI : Inhabited (Str × Str) := ⟨("", "")⟩
  have uniq : ∀ x p, R x p → pick R x = p := fun x p h => by
    obtain ⟨t, e, z⟩ := hR x p h
    obtain ⟨t', e', z'⟩ := hR x _ (pick_ok h)
    rw [e] at e'
    cases e'
    have w := I.tuple_inj z z'
    injection w with w1 w2
    injection w1 with w1
    injection w2 with w2 _
    injection w2 with w2
    exact (Prod.ext w1 w2).symm
  have inx : ∀ x ∈ xs, R x (pick R x) := fun x hm => by
    obtain ⟨p, _, h⟩ := paired_mem hx x hm
    exact pick_ok h
  obtain ⟨e1, e2⟩ := refs_back rv fun x m => by
    obtain ⟨t, e, _⟩ := hR x _ (inx x m)
    exact ⟨t, e⟩
  refine SrtO.sorted_pairsS (k := fun u => pick R (backV u)) hl.isList (by rw [← rv.length]; exact hz) (fun v hv => ?_) fun h' d out h1 h2 kp hd hn => ?_
  · obtain ⟨t, rfl⟩ := e2 v hv
    have hm : V.ref t ∈ xs := by rw [e1]; exact List.mem_map.mpr ⟨_, hv, rfl⟩
    obtain ⟨t', e, ht⟩ := hR _ _ (inx _ hm)
    cases e
    obtain ⟨its2, r2, ⟨o, ho, hc, n, hd⟩, _⟩ := I.tuple ht
    obtain ⟨u1, u2, rfl, ri, rj⟩ := vals2 r2
    obtain ⟨t1, rfl⟩ := ri
    obtain ⟨t2, rfl⟩ := rj
    exact ⟨t, o, t1, t2, n, rfl, ho, hc, hd⟩
  · have h3 : ∀ u ∈ out, ∃ a, u = Value.ref a := fun u hu => e2 u (h2.perm.mem_iff.mp hu)
    obtain ⟨n, hn⟩ := hn
    have hp : (out.map backV).Perm xs := by rw [e1]; exact h2.perm.map backV
    have hw : ((out.map backV).map (pick R)).Pairwise (fun x y => leP x y = true) := by
      rw [List.map_map]
      refine List.pairwise_map.mpr (List.Pairwise.imp ?_ h1)
      intro x y hxy
      show leP (pick R (backV x)) (pick R (backV y)) = true
      have hxy : (!leP (pick R (backV x)) (pick R (backV y))) = false := hxy
      cases z : leP (pick R (backV x)) (pick R (backV y)) with
      | true => rfl
      | false => rw [z] at hxy; cases hxy
    have eps : (out.map backV).map (pick R) = sortP ps := by
      refine eq_sortP ?_ hw
      rw [← map_paired hx uniq]
      exact hp.map _
    have pr : Paired R (out.map backV) (sortP ps) := by
      rw [← eps]
      exact paired_map fun x hm => inx x (hp.mem_iff.mp hm)
    refine ⟨.ref d, upd H d (.lst (out.map backV)), I.laid (t' := s.toks) kp hd ⟨?_, out, n, vals_back h3, hn⟩, rfl, q _ d pr (I.hok.fresh hd)⟩
    rw [hp.length_eq]
    exact hz
end L2
namespace Mir
open PySem PySem.Spec PyProof.Rows L2
def pairD (p : Str × Str) : D := .tup [.str p.1, .str p.2]
def pairsOf : List D → Option (List (Str × Str))
  | [] => some []
  | .tup [.str a, .str b] :: r => (pairsOf r).map ((a, b) :: ·)
  | _ => none
theorem pairsOf_eq : ∀ {ds : List D} {ps : List (Str × Str)}, pairsOf ds = some ps → ds = ps.map pairD := by
  intro ds
  induction ds with
  | nil => intro ps h; cases h; rfl
  | cons d r ih =>
    intro ps h
    unfold pairsOf at h
    split at h
    · rename_i heq
      cases heq
    · rename_i a b r' heq
      cases heq
      cases e : pairsOf r with
      | none => rw [e] at h; cases h
      | some qs => rw [e] at h; cases h; rw [ih e]; rfl
    · cases h
theorem pairsOf_map : ∀ ps : List (Str × Str), pairsOf (ps.map pairD) = some ps
  | [] => rfl
  | p :: r => by
    rw [List.map_cons]
    unfold pairD pairsOf
    rw [show (fun p : Str × Str => D.tup [D.str p.fst, D.str p.snd]) = pairD from rfl, pairsOf_map r]
    rfl
def sortedPF : List D → R D
  | [.lst ds] => ofO (pairsOf ds) fun ps => .ok (.lst ((sortP ps).map pairD))
  | _ => .bad
theorem dv_pairs {K : PySem.W.Frag} {F : Hp} : ∀ {xs : List V} {ps : List (Str × Str)}, DvAll K F xs (ps.map pairD) ↔ Paired (fun x p => Dv K F x (pairD p)) xs ps := by
  intro xs ps
  constructor
  · intro h
    induction ps generalizing xs with
    | nil => cases h; exact .nil
    | cons p r ih => rw [List.map_cons] at h; cases h with | cons h t => exact .cons h (ih t)
  · intro h
    induction h with
    | nil => exact .nil
    | cons h r ih => rw [List.map_cons]; exact .cons h ih
section
variable {X : Cx} {G : Gm} {e : Expr} {pos p : Pos}
theorem me_sortedP {m : Env → R (List D)} (ha : MA X G [e] m) (hx : X.mg "sorted" = none) (hK : X.K = G.K := by rfl) (hg : Gl X "sorted" := by rfl) (he : starEach [e] X.env = (false, eval e X.env) :: starEach [] X.env := by rfl) (hpl : (backTo pos (starEach [] X.env)).any (·.1) = false := by rfl) :
    ME X G (.Call (.Name "sorted" p) [e] [] pos) (mCall sortedPF m) := me_callB cr_sortedPS (by
  rw [hK]
  intro F H vs ds Q s h P
  unfold sortedPF at P
  split at P
  · rename_i es
    obtain ⟨v, rfl, q⟩ := one_of h
    cases q with
    | @lst a xs _ z r =>
      cases ep : pairsOf es with
      | none => rw [ep] at P; exact P.elim
      | some ps =>
        rw [ep] at P
        have P : PostR G (DvR G) F H (.ok (.lst ((sortP ps).map pairD))) Q := P
        have e := pairsOf_eq ep
        subst e
        refine ⟨a, xs, ps, fun x p => Dv G.K F x (pairD p), rfl, SqL.of (s _ _ z), fun x p h => ?_, dv_pairs.mp r, fun ys q hp hn => ?_⟩
        · cases h with
          | tup z r2 =>
            cases r2 with
            | cons a r3 =>
              cases r3 with
              | cons b r4 =>
                cases r4
                cases a
                cases b
                exact ⟨_, rfl, Same.tup s z⟩
        · exact postNew P s hn (.lst upd_same ((dv_pairs.mpr hp).mono (Same.upd_new (s.free hn))))
  · exact P.elim) ha hx (by decide +kernel) hg (by decide) (by decide) he hpl
end
end Mir
/-! reckoning with tables; a work list that runs dry -/
namespace Mir
open PySem PySem.Spec PyProof.Rows L2
/-! ### tables whose keys are words -/
def Wd (w : List Nat) : Str := ⟨w.toArray⟩
theorem txt_St (w : List Nat) : txt w = .str (Wd w) := rfl
theorem St_inj {v w : List Nat} (h : Wd v = Wd w) : v = w := by
  unfold Wd at h
  injection h with h
  have := congrArg Array.toList h
  simpa using this
theorem keyOf_txt (w : List Nat) : keyOf (txt w) = some (.inr (Wd w)) := rfl
def tabW {α : Type} (f : List Nat → α) (kn : List (List Nat)) : List (Key × α) := kn.map fun p => (.inr (Wd p), f p)
theorem lk_tab {α : Type} (f : List Nat → α) (p : List Nat) : ∀ kn : List (List Nat), lk (tabW f kn) (.inr (Wd p)) = if p ∈ kn then some (f p) else none
  | [] => by simp [tabW, lk]
  | q :: r => by
    unfold tabW
    rw [List.map_cons]
    by_cases h : q = p
    · subst h
      rw [lk_pos rfl, if_pos List.mem_cons_self]
    · rw [lk_neg (fun z => h (St_inj (Sum.inr.inj z)))]
      have := lk_tab f p r
      unfold tabW at this
      rw [this]
      by_cases h2 : p ∈ r
      · rw [if_pos h2, if_pos (List.mem_cons_of_mem _ h2)]
      · rw [if_neg h2, if_neg (fun z => (List.mem_cons.mp z).elim (fun e => h e.symm) h2)]
theorem any_lk {α : Type} (es : List (Key × α)) (k : Key) : (es.any fun kv => decide (kv.1 = k)) = (lk es k).isSome := by
  induction es with
  | nil => rfl
  | cons e r ih =>
    rw [List.any_cons]
    by_cases h : e.1 = k
    · rw [lk_pos h, decide_eq_true h]; rfl
    · rw [lk_neg h, decide_eq_false h, Bool.false_or, ih]
theorem ins_new {α : Type} (es : List (Key × α)) (k : Key) (v : α) (h : lk es k = none) : ins es k v = es ++ [(k, v)] := by
  unfold ins
  rw [any_lk, h]
  rfl
theorem tab_snoc {α : Type} (f : List Nat → α) (kn : List (List Nat)) (p : List Nat) (h : p ∉ kn) : ins (tabW f kn) (.inr (Wd p)) (f p) = tabW f (kn ++ [p]) := by
  rw [ins_new _ _ _ (by rw [lk_tab, if_neg h])]
  unfold tabW
  rw [List.map_append]
  rfl
/-- the same with what is laid there told by a table of its own -/
def tabP {α : Type} (kn : List (List Nat × α)) : List (Key × α) := kn.map fun p => (.inr (Wd p.1), p.2)
def look {α : Type} (kn : List (List Nat × α)) (p : List Nat) : Option α := (kn.find? fun e => decide (e.1 = p)).map (·.2)
theorem lk_tabP {α : Type} (p : List Nat) : ∀ kn : List (List Nat × α), lk (tabP kn) (.inr (Wd p)) = look kn p
  | [] => rfl
  | q :: r => by
    unfold tabP look
    rw [List.map_cons, List.find?_cons]
    by_cases h : q.1 = p
    · rw [lk_pos (by rw [h]), decide_eq_true h]; rfl
    · rw [lk_neg (fun z => h (St_inj (Sum.inr.inj z))), decide_eq_false h]
      exact lk_tabP p r
theorem look_none {α : Type} {kn : List (List Nat × α)} {p : List Nat} : look kn p = none ↔ p ∉ kn.map (·.1) := by
  unfold look
  rw [Option.map_eq_none_iff, List.find?_eq_none]
  constructor
  · intro h m
    obtain ⟨e, he, rfl⟩ := List.mem_map.mp m
    exact h e he (decide_eq_true rfl)
  · intro h e he z
    exact h (List.mem_map.mpr ⟨e, he, of_decide_eq_true z⟩)
theorem look_some {α : Type} {kn : List (List Nat × α)} {p : List Nat} {a : α} (h : look kn p = some a) : (p, a) ∈ kn := by
  unfold look at h
  cases e : kn.find? fun e => decide (e.1 = p) with
  | none => rw [e] at h; cases h
  | some x =>
    rw [e] at h
    cases h
    have m := List.mem_of_find?_eq_some e
    have q : x.1 = p := of_decide_eq_true (List.find?_some (p := fun e : List Nat × α => decide (e.1 = p)) e)
    rw [← q]
    exact m
theorem look_mem {α : Type} : ∀ {kn : List (List Nat × α)} {p : List Nat} {a : α}, (kn.map (·.1)).Nodup → (p, a) ∈ kn → look kn p = some a
  | e :: r, p, a, hn, hm => by
    rw [List.map_cons] at hn
    have hn := List.nodup_cons.mp hn
    unfold look
    rw [List.find?_cons]
    rcases List.mem_cons.mp hm with rfl | hm
    · rw [decide_eq_true rfl]; rfl
    · have : e.1 ≠ p := fun z => hn.1 (by rw [z]; exact List.mem_map.mpr ⟨_, hm, rfl⟩)
      rw [decide_eq_false this]
      exact look_mem hn.2 hm
theorem tabP_snoc {α : Type} (kn : List (List Nat × α)) (p : List Nat) (a : α) (h : p ∉ kn.map (·.1)) : ins (tabP kn) (.inr (Wd p)) a = tabP (kn ++ [(p, a)]) := by
  rw [ins_new _ _ _ (by rw [lk_tabP]; exact look_none.mpr h)]
  unfold tabP
  rw [List.map_append]
  rfl
theorem strKeys_map : ∀ ks : List Str, strKeys (ks.map Sum.inr) = some ks
  | [] => rfl
  | k :: r => by rw [List.map_cons]; unfold strKeys; rw [strKeys_map r]; rfl
theorem zip_dicE (es : List (Key × D)) : (es.map (·.1)).zip (es.map (·.2)) = es := zip_es es
theorem dgetD_E (es : List (Key × D)) (y : D) : dgetD (dicE es) y = ofO (keyOf y) fun k => ofO (lk es k) .ok := by
  show (ofO (keyOf y) fun k => ofO (lk ((es.map (·.1)).zip (es.map (·.2))) k) .ok) = _
  rw [zip_es]
theorem dget1D_E (es : List (Key × D)) (y : D) : dget1D (dicE es) y = ofO (keyOf y) fun k => .ok ((lk es k).getD .non) := by
  show (ofO (keyOf y) fun k => .ok ((lk ((es.map (·.1)).zip (es.map (·.2))) k).getD .non)) = _
  rw [zip_es]
theorem dhasD_E (neg : Bool) (es : List (Key × D)) (y : D) : dhasD neg y (dicE es) = ofO (keyOf y) fun k => .ok (.bl (if neg then !(lk es k).isSome else (lk es k).isSome)) := by
  show (ofO (keyOf y) fun k => R.ok (D.bl (if neg then !(lk ((es.map (·.1)).zip (es.map (·.2))) k).isSome else (lk ((es.map (·.1)).zip (es.map (·.2))) k).isSome))) = _
  rw [zip_es]
/-! ### words -/
def wordsN (L : List Nat) : Nat → List (List Nat)
  | 0 => [[]]
  | n + 1 => (wordsN L n).flatMap fun w => L.map fun c => c :: w
theorem mem_words {L : List Nat} : ∀ {w : List Nat}, (∀ c ∈ w, c ∈ L) → w ∈ wordsN L w.length
  | [], _ => .head _
  | c :: w, h => List.mem_flatMap.mpr ⟨w, mem_words fun x hx => h x (.tail _ hx), List.mem_map.mpr ⟨c, h c (.head _), rfl⟩⟩
theorem nodup_len {α : Type} [DecidableEq α] : ∀ {l m : List α}, l.Nodup → (∀ x ∈ l, x ∈ m) → l.length ≤ m.length
  | [], _, _, _ => Nat.zero_le _
  | x :: l, m, hn, hs => by
    have hn := List.nodup_cons.mp hn
    have hx := hs x (.head _)
    have ih := nodup_len (m := m.erase x) hn.2 fun y hy => (List.mem_erase_of_ne (fun z => hn.1 (by rw [← z]; exact hy))).mpr (hs y (.tail _ hy))
    rw [List.length_erase_of_mem hx] at ih
    have := List.length_pos_of_mem hx
    rw [List.length_cons]
    omega
/-! ### what can be reached -/
inductive Reach (succ : List Nat → List (List Nat)) (s : List Nat) : List Nat → Prop
  | start : Reach succ s s
  | step {p q : List Nat} : Reach succ s p → q ∈ succ p → Reach succ s q
theorem reach_in {succ : List Nat → List (List Nat)} {s : List Nat} {kn : List (List Nat)} (h0 : s ∈ kn) (hc : ∀ p ∈ kn, ∀ q ∈ succ p, q ∈ kn) {p : List Nat} (h : Reach succ s p) : p ∈ kn := by
  induction h with
  | start => exact h0
  | step _ hq ih => exact hc _ ih _ hq
structure Kn (succ : List Nat → List (List Nat)) (s : List Nat) (kn : List (List Nat)) : Prop where
  nd : kn.Nodup
  iff : ∀ p, p ∈ kn ↔ Reach succ s p
theorem Kn.perm {succ : List Nat → List (List Nat)} {s : List Nat} {k1 k2 : List (List Nat)} (a : Kn succ s k1) (b : Kn succ s k2) : k1.Perm k2 :=
  (List.perm_ext_iff_of_nodup a.nd b.nd).mpr fun p => (a.iff p).trans (b.iff p).symm
structure Wk (succ : List Nat → List (List Nat)) (s : List Nat) (kn q : List (List Nat)) : Prop where
  nd : kn.Nodup
  cl : ∀ p ∈ kn, ∀ x ∈ succ p, x ∈ kn ∨ x ∈ q
  st : s ∈ kn ∨ s ∈ q
  rk : ∀ p ∈ kn, Reach succ s p
  rq : ∀ p ∈ q, Reach succ s p
theorem Wk.done {succ : List Nat → List (List Nat)} {s : List Nat} {kn : List (List Nat)} (w : Wk succ s kn []) : Kn succ s kn :=
  ⟨w.nd, fun p => ⟨w.rk p, reach_in (w.st.resolve_right (fun z => nomatch z)) fun p hp q hq => (w.cl p hp q hq).resolve_right (fun z => nomatch z)⟩⟩
theorem Wk.begin (succ : List Nat → List (List Nat)) (s : List Nat) : Wk succ s [] [s] :=
  ⟨List.nodup_nil, fun _ h => (nomatch h), .inr (.head _), fun _ h => (nomatch h), fun p h => by rw [List.mem_singleton.mp h]; exact .start⟩
theorem Wk.skip {succ : List Nat → List (List Nat)} {s p : List Nat} {kn q : List (List Nat)} (w : Wk succ s kn (p :: q)) (h : p ∈ kn) : Wk succ s kn q :=
  ⟨w.nd, fun x hx y hy => (w.cl x hx y hy).elim .inl fun z => (List.mem_cons.mp z).elim (fun e => .inl (by rw [e]; exact h)) .inr, w.st.elim .inl fun z => (List.mem_cons.mp z).elim (fun e => .inl (by rw [e]; exact h)) .inr, w.rk, fun x hx => w.rq x (.tail _ hx)⟩
theorem Wk.add {succ : List Nat → List (List Nat)} {s p : List Nat} {kn q q' : List (List Nat)} (w : Wk succ s kn (p :: q)) (h : p ∉ kn) (hp : q'.Perm (q ++ succ p)) : Wk succ s (kn ++ [p]) q' := by
  have rp := w.rq p (.head _)
  have inq : ∀ x, x ∈ p :: q → x ∈ kn ++ [p] ∨ x ∈ q' := fun x hx => by
    rcases List.mem_cons.mp hx with rfl | hx
    · exact .inl (by simp)
    · exact .inr (hp.mem_iff.mpr (List.mem_append_left _ hx))
  refine ⟨List.nodup_append.mpr ⟨w.nd, by simp, fun a ha b hb z => ?_⟩, fun x hx y hy => ?_, ?_, fun x hx => ?_, fun x hx => ?_⟩
  · rw [List.mem_singleton.mp hb] at z
    exact h (by rw [← z]; exact ha)
  · rcases List.mem_append.mp hx with hx | hx
    · rcases w.cl x hx y hy with z | z
      · exact .inl (List.mem_append_left _ z)
      · exact inq y z
    · rw [List.mem_singleton.mp hx] at hy
      exact .inr (hp.mem_iff.mpr (List.mem_append_right _ hy))
  · rcases w.st with z | z
    · exact .inl (List.mem_append_left _ z)
    · exact inq s z
  · rcases List.mem_append.mp hx with hx | hx
    · exact w.rk x hx
    · rw [List.mem_singleton.mp hx]; exact rp
  · rcases List.mem_append.mp (hp.mem_iff.mp hx) with hx | hx
    · exact w.rq x (.tail _ hx)
    · exact .step rp hx
/-- a while loop that works a list of words off -/
theorem work_loop {succ : List Nat → List (List Nat)} {s : List Nat} {c : Env → R Bool} {mb : Env → RS} {I : List (List Nat) → List (List Nat) → Env → Prop} {B M d : Nat} {ws : List (List Nat)} (hM : ws.length ≤ M) (hw : ∀ p, Reach succ s p → p ∈ ws) (hd : ∀ p, Reach succ s p → (succ p).length ≤ d) (hd0 : 0 < d)
    (hc : ∀ kn q ρ, I kn q ρ → kn.length ≤ M → c ρ = .ok (!q.isEmpty && decide (kn.length ≤ B)))
    (h1 : ∀ kn p q ρ, I kn (p :: q) ρ → Reach succ s p → kn.length ≤ M → q.length ≤ 100000 → p ∈ kn → ∃ ρ', mb ρ = .nx ρ' ∧ I kn q ρ')
    (h2 : ∀ kn p q ρ, I kn (p :: q) ρ → Reach succ s p → kn.length ≤ M → q.length ≤ 100000 → p ∉ kn → ∃ ρ' q', mb ρ = .nx ρ' ∧ I (kn ++ [p]) q' ρ' ∧ q'.Perm (q ++ succ p)) :
    ∀ (n : Nat) (kn q : List (List Nat)) (ρ : Env), Wk succ s kn q → I kn q ρ → q.length + d * (M - kn.length) < n → n ≤ 100000 → ∃ kn' q' ρ', whGo c mb n ρ = .nx ρ' ∧ I kn' q' ρ' ∧ Wk succ s kn' q' ∧ kn'.length ≤ M ∧ (q' = [] ∨ B < kn'.length)
  | 0, _, _, _, _, _, h, _ => absurd h (Nat.not_lt_zero _)
  | n + 1, kn, q, ρ, w, i, h, hn => by
    have lk : kn.length ≤ M := Nat.le_trans (nodup_len w.nd fun p hp => hw p (w.rk p hp)) hM
    have e := hc kn q ρ i lk
    unfold whGo
    rw [e, R_to_ok]
    cases q with
    | nil => exact ⟨kn, [], ρ, by rw [if_neg (by simp)], i, w, lk, .inl rfl⟩
    | cons p q =>
      by_cases hB : kn.length ≤ B
      · have et : (!(p :: q).isEmpty && decide (kn.length ≤ B)) = true := by rw [decide_eq_true hB]; rfl
        rw [et, if_pos rfl]
        have rp := w.rq p (.head _)
        rw [List.length_cons] at h
        by_cases hp : p ∈ kn
        · obtain ⟨ρ', eb, i'⟩ := h1 kn p q ρ i rp lk (by omega) hp
          rw [eb]
          exact work_loop hM hw hd hd0 hc h1 h2 n kn q ρ' (w.skip hp) i' (by omega) (by omega)
        · obtain ⟨ρ', q', eb, i', hq⟩ := h2 kn p q ρ i rp lk (by omega) hp
          rw [eb]
          have w' := w.add hp hq
          have lk' : (kn ++ [p]).length ≤ M := Nat.le_trans (nodup_len w'.nd fun x hx => hw x (w'.rk x hx)) hM
          refine work_loop hM hw hd hd0 hc h1 h2 n (kn ++ [p]) q' ρ' w' i' ?_ (by omega)
          have lq : q'.length = q.length + (succ p).length := by rw [hq.length_eq, List.length_append]
          have ds := hd p rp
          rw [List.length_append, List.length_singleton] at lk' ⊢
          have e1 : M - kn.length = (M - (kn.length + 1)) + 1 := by omega
          rw [e1, Nat.mul_add, Nat.mul_one] at h
          omega
      · have ef : (!(p :: q).isEmpty && decide (kn.length ≤ B)) = false := by rw [decide_eq_false hB, Bool.and_false]
        rw [ef, if_neg Bool.false_ne_true]
        exact ⟨kn, p :: q, ρ, rfl, i, w, lk, .inr (by omega)⟩
end Mir
namespace Mir
open PySem PySem.Spec PyProof.Rows L2
/-! ### comprehensions, by what is walked -/
theorem lcGo_fm {α : Type} {mt : TgF} {tt : Env → R Bool} {me : Env → R D} {ρ : Env} (f g : α → D) (p : α → Bool) : ∀ l : List α, (∀ a ∈ l, ∃ ρ1, mt (f a) ρ = .ok ρ1 ∧ tt ρ1 = .ok (p a) ∧ (p a = true → me ρ1 = .ok (g a))) → lcGo mt tt me ρ (l.map f) = .ok ((l.filter p).map g)
  | [], _ => rfl
  | a :: r, h => by
    obtain ⟨ρ1, e1, e2, e3⟩ := h a (.head _)
    have ih := lcGo_fm f g p r fun x hx => h x (.tail _ hx)
    rw [List.map_cons]
    unfold lcGo
    rw [e1, nx_ok', R_bind_ok, e2, nx_ok', R_bind_ok, List.filter_cons, ih]
    cases hp : p a with
    | true => rw [if_pos rfl, if_pos rfl, e3 hp, nx_ok', R_bind_ok]; rfl
    | false => rfl
theorem lcGo_fa {α : Type} {mt : TgF} {me : Env → R D} {ρ : Env} (f g : α → D) (l : List α) (h : ∀ a ∈ l, ∃ ρ1, mt (f a) ρ = .ok ρ1 ∧ me ρ1 = .ok (g a)) : lcGo mt mYes me ρ (l.map f) = .ok (l.map g) := by
  have := lcGo_fm (tt := mYes) f g (fun _ => true) l fun a ha => by
    obtain ⟨ρ1, e1, e2⟩ := h a ha
    exact ⟨ρ1, e1, rfl, fun _ => e2⟩
  rw [this, List.filter_eq_self.mpr fun _ _ => rfl]
end Mir
namespace Mir
open PySem PySem.Spec PyProof.Rows L2
/-! ### plain data, compared -/
def pl (n : Nat) (d : D) : Prop := PyData.canLay0 (toPy d) = true ∧ PyData.depth (toPy d) ≤ n
theorem pl_mono {n m : Nat} {d : D} (h : pl n d) (l : n ≤ m) : pl m d := ⟨h.1, Nat.le_trans h.2 l⟩
theorem pl_shp {n : Nat} {d : D} (h : pl n d) (l : n ≤ 64) : shp d = true := by
  unfold shp SeqAt.shaped
  rw [h.1, decide_eq_true (Nat.le_trans h.2 l)]
  rfl
theorem pl_all {n : Nat} : ∀ {ds : List D}, (∀ d ∈ ds, pl n d) → PyData.canLayAll0 (toPyAll ds) = true ∧ PyData.depthAll (toPyAll ds) ≤ n
  | [], _ => ⟨rfl, Nat.zero_le _⟩
  | d :: r, h => by
    have ih := pl_all fun x hx => h x (.tail _ hx)
    have hd := h d (.head _)
    rw [toPyAll, PyData.canLayAll0, PyData.depthAll, hd.1, ih.1]
    exact ⟨rfl, Nat.max_le.mpr ⟨hd.2, ih.2⟩⟩
theorem pl_lst {n : Nat} {ds : List D} (h : ∀ d ∈ ds, pl n d) : pl (n + 1) (.lst ds) := by
  have := pl_all h
  unfold pl
  rw [toPy, PyData.canLay0, PyData.depth]
  exact ⟨this.1, by omega⟩
theorem pl_tup {n : Nat} {ds : List D} (h : ∀ d ∈ ds, pl n d) : pl (n + 1) (.tup ds) := by
  have := pl_all h
  unfold pl
  rw [toPy, PyData.canLay0, PyData.depth]
  exact ⟨this.1, by omega⟩
theorem pl_int (i : Int) : pl 1 (.int i) := ⟨by rw [toPy, PyData.canLay0], by rw [toPy, PyData.depth]; omega⟩
theorem pl_bl (b : Bool) : pl 1 (.bl b) := ⟨by rw [toPy, PyData.canLay0], by rw [toPy, PyData.depth]; omega⟩
theorem pl_non : pl 1 .non := ⟨by rw [toPy, PyData.canLay0], by rw [toPy, PyData.depth]; omega⟩
theorem pl_txt {w : List Nat} (h : abc w = true) : pl 1 (txt w) := by
  have := txt_shp w h
  unfold shp SeqAt.shaped at this
  obtain ⟨a, b⟩ := Bool.and_eq_true_iff.mp this
  refine ⟨a, ?_⟩
  unfold txt
  rw [toPy, PyData.depth]
  omega
theorem eqv_self {d : D} (h : shp d = true) : eqv d d = true := SeqAt.eqv_refl _ (SeqAt.canLay_of_shaped h)
theorem ne_self {d : D} (h : shp d = true) : neD d d = .ok (.bl false) := by
  unfold neD
  rw [if_pos ⟨h, h⟩, eqv_self h]
  rfl
theorem eq_self {d : D} (h : shp d = true) : eqD d d = .ok (.bl true) := by
  unfold eqD
  rw [if_pos ⟨h, h⟩, eqv_self h]
theorem ne_nil {ds : List D} (h : shp (.lst ds) = true) : neD (.lst ds) (.lst []) = .ok (.bl (!ds.isEmpty)) := by
  unfold neD
  rw [if_pos ⟨h, rfl⟩]
  cases ds <;> rfl
theorem eq_nil {ds : List D} (h : shp (.lst ds) = true) : eqD (.lst ds) (.lst []) = .ok (.bl ds.isEmpty) := by
  unfold eqD
  rw [if_pos ⟨h, rfl⟩]
  cases ds <;> rfl
end Mir
/-! a range that is kept; a comprehension of two walks -/
namespace L2
open PySem PySem.Spec PyProof.Rows
theorem cr_range1 {X : Cx} : CallR X (.type "range") (fun vs H Q => ∃ j, vs = [V.int j] ∧ ∀ p, H p = none → Q (.ref p) (upd H p (.rng 0 j))) := by
  intro pins s σ H vs us Q I r h
  obtain ⟨j, rfl, q⟩ := h
  cases r with
  | cons rj rr =>
    cases rr
    obtain ⟨u, rfl⟩ := rj
    refine call_range_1 ⟨.ref s.heap.objs.size, upd H s.heap.objs.size (.rng 0 j), I.laid (t' := s.toks + 1 + 1) (fun b o e => Heap.get?_push_of_some _ e) (Nat.le_refl _) ?_, rfl, q _ (I.hok.fresh (Nat.le_refl _))⟩
    exact ⟨_, _, _, Heap.get?_push_size _ rfl⟩
/-- a range object that is kept, walked -/
def iRng0 (tl : TE) : TI := fun σ H R => tl σ H fun x H1 => ∃ a j, x = .ref a ∧ H1 a = some (.rng 0 j) ∧ -(2 ^ 62) ≤ j ∧ j < 2 ^ 62 ∧ R (Itr 0 j.toNat) H1
theorem pi_rng {X : Cx} {tg l : Expr} {tl : TE} (hl : PE X l tl) : PI X tg l (iRng0 tl) := by
  refine ⟨fun pins s σ H R I h => ?_⟩
  refine thn (hl.run pins s σ H _ I h) fun v s1 ⟨x, H1, I1, r1, q1⟩ => ?_
  obtain ⟨a, j, e, hq, q1, q2, q⟩ := q1
  subst e
  cases r1
  obtain ⟨t, u, w, e⟩ := I1.hok _ _ hq
  refine wpAny_pyIter_range e (small_one (by omega) (by omega) q1 q2) ?_
  refine ⟨s1.heap.objs.size, [s1.heap.objs.size], _, _, H1, rfl, I1.kept (t' := s1.toks) fun b o e => Heap.get?_push_of_some _ e, turn_range _ 0 j.toNat, ?_, fun b hb => ?_, q⟩
  · have e1 : (0 : Int) + ((0 : Nat) : Int) * 1 = 0 := by simp
    have e2 : ((j.toNat : Nat) : Int) - ((0 : Nat) : Int) = Builtin.Range.rangeSize 0 j 1 := by rw [rangeSize_one]; split <;> omega
    show IsRangeIter _ _ ((0 : Int) + ((0 : Nat) : Int) * 1) (((j.toNat : Nat) : Int) - ((0 : Nat) : Int)) 1
    rw [e1, e2]
    exact Heap.get?_push_size _ rfl
  · have e : b = s1.heap.objs.size := by simpa using hb
    subst e
    exact I1.fpOk (Nat.le_refl _) (I1.hok.fresh (Nat.le_refl _))
end L2
namespace Mir
open PySem PySem.Spec PyProof.Rows L2
section
variable {X : Cx} {G : Gm} {a b e : Expr} {es : List Expr} {ma mb : Env → R D} {ms mu : Env → RS} {pos : Pos} {k : Nat} {x y : Str} {p p2 apos cpos : Pos}
theorem SRel.setRg {F0 H0 F H : Hp} {ρ : Env} {σ : L2.St} (S : SRel G.K F0 H0 ρ σ F H) {a : Addr} {n : Nat} (h : F a = some (.rng 0 (n : Nat))) (i : Nat) : SRel G.K F0 H0 (ρ.set i (.rg n)) (σ.set i (some (.ref a))) F H := by
  refine ⟨S.sl.setRg h i, S.gr, fun j t c h1 h2 h3 => ?_⟩
  rcases get_set h1 with ⟨_, rfl⟩ | ⟨nj, e1⟩
  · cases h2
  · rcases get_set h3 with ⟨z, _⟩ | ⟨_, e3⟩
    · exact absurd z nj
    · exact S.nw j t c e1 h2 e3
def sSetRg (i : Nat) (m : Env → R (List D)) : Env → RS := fun ρ => (m ρ).to fun ds => match ds with
  | [.int n] => if 0 ≤ n then .nx (ρ.set i (.rg n.toNat)) else .bad
  | _ => .bad
theorem ms_setRg {i : Nat} {m : Env → R (List D)} (hN : X.N.Nodup) (hm : X.mg "range" = none) (ha : MA X G [e] m) (hg : Gl X "range" := by rfl)
    (he : starEach [e] X.env = (false, eval e X.env) :: starEach [] X.env := by rfl) (hpl : (backTo cpos (starEach [] X.env)).any (·.1) = false := by rfl)
    (hi : X.N[i]? = some x := by rfl) (hx : Loc X.env.scope x := by first | exact Or.inl rfl | exact Or.inr rfl) (hs : swapsWith (.Call (.Name "range" p2) [e] [] cpos) (some (.Name x p)) pos.line X.env = pure false := by rfl) (hf : X.fn x = true ∨ X.env.scope.names.lookup x = some .local := by first | exact .inl rfl | exact .inr rfl | assumption) :
    MS X G (.Assign [.Name x p] (.Call (.Name "range" p2) [e] [] cpos) pos) (sSetRg i m) := weakS (ps_set hN hi hx (pe_callTy cr_range1 hg hm boot_range ha (by decide) (by decide) he hpl) hs hf) fun D σ H ⟨ρ, F, F0, H0, S, P⟩ => by
  refine ⟨ρ, F, S.sl, (P.to (rel := DvsR G) S).imp fun d x F1 H1 e1 g1 q1 ⟨F1', d', e1', g1', q1', P1⟩ => ?_⟩
  split at P1
  · rename_i n
    obtain ⟨v, rfl, q⟩ := one_of q1'
    cases q
    by_cases h0 : 0 ≤ n
    · rw [if_pos h0] at P1
      refine ⟨n, rfl, fun p hp => ?_⟩
      have g2 : Grow F1' H1 (upd F1' p (.rng 0 n)) (upd H1 p (.rng 0 n)) := Grow.new g1'.s hp
      have S2 := (S.grow g1').grow g2
      have en : ((n.toNat : Nat) : Int) = n := Int.toNat_of_nonneg h0
      exact P1 _ (upd F1' p (.rng 0 n)) _ (S2.setRg (a := p) (n := n.toNat) (by rw [upd_same, en]) i) g2.f
    · rw [if_neg h0] at P1; exact P1.elim
  · exact P1.elim
def mRg (i : Nat) : Env → R (List D) := fun ρ => match ρ[i]? with
  | some (.rg n) => if n ≤ 1000000 then .ok (rangeD 0 n) else .bad
  | _ => .bad
theorem mi_rg (i : Nat) {tg : Expr} (hN : X.N[i]? = some x := by rfl) (hv : Vis X.env.scope x := by first | exact Or.inl rfl | exact Or.inr (Or.inl rfl) | exact Or.inr (Or.inr rfl)) (hd : (x == ("__debug__" : Str)) = false := by decide)
    (hcd : (x == ("__classdict__" : Str)) = false := by decide) : MI X G tg (.Name x p) (mRg i) := weakI (pi_rng (pe_var hN hv hd hcd)) fun σ H Q ⟨ρ, F, S, P⟩ => by
  unfold mRg at P
  cases hρ : ρ[i]? with
  | none => rw [hρ] at P; exact P.elim
  | some t =>
    rw [hρ] at P
    cases t with
    | rg n =>
      obtain ⟨l, e1, e2⟩ := S.getRg hρ
      have P : PostI G F H (if n ≤ 1000000 then R.ok (rangeD 0 n) else R.bad) Q := P
      by_cases hn : n ≤ 1000000
      · rw [if_pos hn] at P
        refine ⟨.ref l, e1, l, (n : Nat), rfl, S.sub _ _ e2, by omega, by omega, ?_⟩
        exact P _ _ _ (Grow.refl S.sub) wd_range
      · rw [if_neg hn] at P; exact P.elim
    | _ => exact P.elim
end
end Mir
namespace Mir
open PySem PySem.Spec PyProof.Rows L2
/-! ### two walks -/
theorem Sl.own_in {K : PySem.W.Frag} {ρ : Env} {σ : L2.St} {F H : Hp} (S : Sl K ρ σ F H) {j : Nat} {t : Slot} {a : Addr} (h1 : ρ[j]? = some t) (h2 : t.own = true) (h3 : σ[j]? = some (some (.ref a))) : H a ≠ none := by
  have ok := S.ok j t _ h1 h3
  cases t with
  | un => cases h2
  | fz d => cases h2
  | rg n => cases h2
  | ol ds => obtain ⟨b, xs, ea, q1, _⟩ := ok; cases ea; rw [q1]; exact fun z => nomatch z
  | od es => obtain ⟨b, xs, ea, q1, _⟩ := ok; cases ea; rw [q1]; exact fun z => nomatch z
  | oq ds => obtain ⟨b, xs, ea, q1, _⟩ := ok; cases ea; rw [q1]; exact fun z => nomatch z
theorem Sl.updOut {K : PySem.W.Frag} {ρ : Env} {σ : L2.St} {F H : Hp} (S : Sl K ρ σ F H) {a : Addr} {o : HO} (hF : F a = none) (hn : ∀ (j : Nat) (t : Slot), ρ[j]? = some t → t.own = true → σ[j]? ≠ some (some (.ref a))) : Sl K ρ σ F (upd H a o) := by
  refine ⟨S.sub.upd_out hF, S.len, fun j t y h1 h2 => ?_, S.apart⟩
  have q := S.ok j t y h1 h2
  cases t with
  | un => cases y <;> trivial
  | fz d =>
    cases y with
    | none => exact q.elim
    | some v => exact q
  | rg n =>
    cases y with
    | none => exact q.elim
    | some v => exact q
  | ol ds =>
    cases y with
    | none => exact q.elim
    | some v =>
      obtain ⟨b, xs, rfl, q1, q2, q3⟩ := q
      have hb : b ≠ a := fun z => by subst z; exact hn j _ h1 rfl h2
      exact ⟨b, xs, rfl, by rw [upd_ne hb]; exact q1, q2, q3⟩
  | od es =>
    cases y with
    | none => exact q.elim
    | some v =>
      obtain ⟨b, xs, rfl, q1, q2, q3⟩ := q
      have hb : b ≠ a := fun z => by subst z; exact hn j _ h1 rfl h2
      exact ⟨b, xs, rfl, by rw [upd_ne hb]; exact q1, q2, q3⟩
  | oq ds =>
    cases y with
    | none => exact q.elim
    | some v =>
      obtain ⟨b, xs, rfl, q1, q2, q3⟩ := q
      have hb : b ≠ a := fun z => by subst z; exact hn j _ h1 rfl h2
      exact ⟨b, xs, rfl, by rw [upd_ne hb]; exact q1, q2, q3⟩
def lcGo2 (vs1 : List Nat) (mt : TgF) (tt : Env → R Bool) (mi1 : Env → R (List D)) (mt1 : TgF) (tt1 : Env → R Bool) (me : Env → R D) (ρ : Env) : List D → R (List D)
  | [] => .ok []
  | d :: ds => (nx (mt d ρ)).bind fun ρ1 => (nx (tt ρ1)).bind fun b => if b = true then (nx (mi1 ρ1)).bind fun es => if es.length ≤ 1000 then (nx (lcGo mt1 tt1 me (wipeE ρ1 vs1) es)).bind fun ys => (lcGo2 vs1 mt tt mi1 mt1 tt1 me ρ ds).bind fun zs => .ok (ys ++ zs) else .bad else lcGo2 vs1 mt tt mi1 mt1 tt1 me ρ ds
def mLc2 (vs vs1 : List Nat) (mi : Env → R (List D)) (mt : TgF) (tt : Env → R Bool) (mi1 : Env → R (List D)) (mt1 : TgF) (tt1 : Env → R Bool) (me : Env → R D) : Env → R (List D) := fun ρ => (mi ρ).bind fun ds => if ds.length ≤ 10000 then nx (lcGo2 vs1 mt tt mi1 mt1 tt1 me (wipeE ρ vs) ds) else .bad
section
variable {X : Cx} {G : Gm} {mi mi1 : Env → R (List D)} {mt mt1 : TgF} {tt tt1 : Env → R Bool} {me : Env → R D} {g g1 : TG} {vs vs1 : List Nat}
theorem lc2_read (hg : TgOk G.K vs g mt) (hg1 : TgOk G.K vs1 g1 mt1) : ∀ σ H Q, tfOf G (mLc2 vs vs1 mi mt tt mi1 mt1 tt1 me) σ H Q → tLc2 (tiOf G mi) g (ttOf G.e0 tt) (tiOf G.e0 mi1) g1 (ttOf G.e0 tt1) (tOf G.e0 me) vs vs1 σ H Q := by
  intro σ H Q ⟨ρ, F, S, P⟩
  refine ⟨ρ, F, S, ?_⟩
  unfold mLc2 at P
  cases e : mi ρ with
  | exc c => rw [e] at P; exact P
  | bad => rw [e] at P; exact P.elim
  | ok ds =>
    rw [e] at P
    have P : PostF G F H (if ds.length ≤ 10000 then nx (lcGo2 vs1 mt tt mi1 mt1 tt1 me (wipeE ρ vs) ds) else .bad) Q := P
    intro J F1 H1 g1' W Dl hD
    have hl : ds.length ≤ 10000 := Decidable.byContradiction fun z => by rw [if_neg z] at P; exact P.elim
    rw [if_pos hl] at P
    cases e2 : nx (lcGo2 vs1 mt tt mi1 mt1 tt1 me (wipeE ρ vs) ds) with
    | exc c => cases z : lcGo2 vs1 mt tt mi1 mt1 tt1 me (wipeE ρ vs) ds <;> (rw [z] at e2; cases e2)
    | bad => rw [e2] at P; exact P.elim
    | ok ys =>
      rw [e2] at P
      have e3 := nx_ok e2
      have fD : F1 Dl = none := g1'.s.free hD
      refine ⟨fun i m Hc => m = ds.length - i ∧ i ≤ ds.length ∧ ∃ Fc acc dacc rest, Grow F1 H1 Fc Hc ∧ Fc Dl = none ∧ Hc Dl = some (.lst acc) ∧ DvAll G.K Fc acc dacc ∧ acc.length ≤ i * 1000 ∧ lcGo2 vs1 mt tt mi1 mt1 tt1 me (wipeE ρ vs) (ds.drop i) = .ok rest ∧ dacc ++ rest = ys,
        ⟨ds.length, by rw [Nat.sub_zero], Nat.zero_le _, F1, [], [], ys, Grow.own g1'.s hD, fD, upd_same, .nil, Nat.zero_le _, e3, rfl⟩, ?_⟩
      rintro i m Hc ⟨rfl, hi, Fc, acc, dacc, rest, gc, fc, hc, rc, lc, ec, er⟩
      by_cases hlt : i < ds.length
      · refine .inr ⟨W.go i Fc Hc gc.f gc.s hlt, fun H' => ∃ Fc acc dacc rest, Grow F1 H1 Fc H' ∧ Fc Dl = none ∧ H' Dl = some (.lst acc) ∧ DvAll G.K Fc acc dacc ∧ acc.length ≤ (i + 1) * 1000 ∧ lcGo2 vs1 mt tt mi1 mt1 tt1 me (wipeE ρ vs) (ds.drop (i + 1)) = .ok rest ∧ dacc ++ rest = ys,
          fun H' ⟨Fc, acc, dacc, rest, q⟩ => ⟨ds.length - (i + 1), by omega, rfl, hlt, Fc, acc, dacc, rest, q⟩, fun x H' y => ?_⟩
        obtain ⟨Fy, d, ed, gy, rd⟩ := W.yld i Fc Hc x H' gc.f gc.s hlt y
        have edrop : ds.drop i = d :: ds.drop (i + 1) := by
          rw [List.drop_eq_getElem_cons hlt]
          rw [List.getElem?_eq_getElem hlt] at ed
          rw [Option.some.inj ed]
        rw [edrop] at ec
        obtain ⟨ρ1, n1, ec⟩ := bind_ok (show (nx (mt d (wipeE ρ vs))).bind _ = _ from ec)
        obtain ⟨b, n2, ec⟩ := bind_ok ec
        have Sw := (((S.grow g1').grow ⟨gc.h, gc.f, gc.s, gc.o⟩).grow gy).wipe vs
        refine hg _ ρ1 _ Fy H' x d _ Sw rd (nx_ok n1) fun σ2 S2 len2 own2 agree => ?_
        have hnO : ∀ (j : Nat) (t : Slot), ρ1[j]? = some t → t.own = true → σ2[j]? ≠ some (some (.ref Dl)) := fun j t k1 k2 k3 => by
          obtain ⟨z1, z2⟩ := own2 j t k1 k2
          rw [z2] at k3
          exact ((S.grow g1').wipe vs).own_in z1 k2 k3 hD
        refine ⟨wipe_eq (len2.trans (wipe_length _ _)) agree, ρ1, Fy, S2, ?_⟩
        rw [nx_ok n2]
        intro b' F3 H3 g3 eb
        have eb : b' = b := eb
        subst eb
        have gy3 := gy.trans g3
        have h3 : H3 Dl = some (.lst acc) := gy3.h _ _ hc
        have f3 : F3 Dl = none := (gy3.o _ _ hc).trans fc
        cases b' with
        | false =>
          rw [if_neg Bool.false_ne_true] at ec ⊢
          exact ⟨F3, acc, dacc, rest, gc.trans gy3, f3, h3, rc.mono gy3.f, by omega, ec, er⟩
        | true =>
          rw [if_pos rfl] at ec ⊢
          obtain ⟨es, n3, ec⟩ := bind_ok ec
          have hes : es.length ≤ 1000 := Decidable.byContradiction fun z => by rw [if_neg z] at ec; cases ec
          rw [if_pos hes] at ec
          obtain ⟨yi, n4, ec⟩ := bind_ok ec
          obtain ⟨ys2, n5, ec⟩ := bind_ok ec
          cases ec
          refine ⟨ρ1, F3, S2.grow g3, ?_⟩
          rw [nx_ok n3]
          intro J1 F5 H5 g5 W1
          have g35 := gy3.trans g5
          have h5 : H5 Dl = some (.lst acc) := g35.h _ _ hc
          have f5 : F5 Dl = none := (g35.o _ _ hc).trans fc
          refine ⟨fun j k Hd => k = es.length - j ∧ j ≤ es.length ∧ ∃ Fd acc1 dacc1 rest1, Grow F1 H1 Fd Hd ∧ Same F5 Fd ∧ Fd Dl = none ∧ Hd Dl = some (.lst acc1) ∧ DvAll G.K Fd acc1 dacc1 ∧ acc1.length ≤ i * 1000 + j ∧ lcGo mt1 tt1 me (wipeE ρ1 vs1) (es.drop j) = .ok rest1 ∧ dacc1 ++ rest1 = dacc ++ yi ∧ Sl G.K ρ1 σ2 Fd Hd,
            ⟨es.length, by rw [Nat.sub_zero], Nat.zero_le _, F5, acc, dacc, yi, gc.trans g35, Same.refl _, f5, h5, rc.mono g35.f, by omega, nx_ok n4, rfl, (S2.grow g3).grow g5⟩, ?_⟩
          rintro j k Hd ⟨rfl, hj, Fd, acc1, dacc1, rest1, gd, sd, fd, hd, rd1, ld, ed1, er1, Sd⟩
          by_cases hlt1 : j < es.length
          · refine .inr ⟨W1.go j Fd Hd sd gd.s hlt1, fun Hd => ∃ Fd acc1 dacc1 rest1, Grow F1 H1 Fd Hd ∧ Same F5 Fd ∧ Fd Dl = none ∧ Hd Dl = some (.lst acc1) ∧ DvAll G.K Fd acc1 dacc1 ∧ acc1.length ≤ i * 1000 + (j + 1) ∧ lcGo mt1 tt1 me (wipeE ρ1 vs1) (es.drop (j + 1)) = .ok rest1 ∧ dacc1 ++ rest1 = dacc ++ yi ∧ Sl G.K ρ1 σ2 Fd Hd,
              fun Hd ⟨Fd, acc1, dacc1, rest1, q⟩ => ⟨es.length - (j + 1), by omega, rfl, hlt1, Fd, acc1, dacc1, rest1, q⟩, fun x1 H6 y1 => ?_⟩
            obtain ⟨Fz, d1, ez1, gz, rz⟩ := W1.yld j Fd Hd x1 H6 sd gd.s hlt1 y1
            have edrop1 : es.drop j = d1 :: es.drop (j + 1) := by
              rw [List.drop_eq_getElem_cons hlt1]
              rw [List.getElem?_eq_getElem hlt1] at ez1
              rw [Option.some.inj ez1]
            rw [edrop1] at ed1
            obtain ⟨ρ3, m1, ed1⟩ := bind_ok (show (nx (mt1 d1 (wipeE ρ1 vs1))).bind _ = _ from ed1)
            obtain ⟨b1, m2, ed1⟩ := bind_ok ed1
            have Sw1 := (Sd.grow gz).wipe vs1
            refine hg1 _ ρ3 _ Fz H6 x1 d1 _ Sw1 rz (nx_ok m1) fun σ3 S3 len3 _ agree1 => ?_
            refine ⟨wipe_eq (len3.trans (wipe_length _ _)) agree1, ρ3, Fz, S3, ?_⟩
            rw [nx_ok m2]
            intro b'' F7 H7 g7 eb1
            have eb1 : b'' = b1 := eb1
            subst eb1
            have gz7 := gz.trans g7
            have h7 : H7 Dl = some (.lst acc1) := gz7.h _ _ hd
            have f7 : F7 Dl = none := (gz7.o _ _ hd).trans fd
            cases b'' with
            | false =>
              rw [if_neg Bool.false_ne_true] at ed1 ⊢
              exact ⟨F7, acc1, dacc1, rest1, gd.trans gz7, sd.trans gz7.f, f7, h7, rd1.mono gz7.f, by omega, ed1, er1, Sd.grow gz7⟩
            | true =>
              rw [if_pos rfl] at ed1 ⊢
              obtain ⟨yd, m3, ed1⟩ := bind_ok ed1
              obtain ⟨yr, m4, ed1⟩ := bind_ok ed1
              cases ed1
              refine ⟨ρ3, F7, S3.grow g7, ?_⟩
              rw [nx_ok m3]
              intro yv F8 H8 g8 ry
              have g78 := gz7.trans g8
              have h8 : H8 Dl = some (.lst acc1) := g78.h _ _ hd
              have f8 : F8 Dl = none := (g78.o _ _ hd).trans fd
              refine ⟨acc1, h8, ?_, F8, acc1 ++ [yv], dacc1 ++ [yd], yr, ?_, sd.trans g78.f, f8, upd_same, (rd1.mono g78.f).append (.cons ry .nil), ?_, m4, ?_, ?_⟩
              · rw [sizeLine_eq]; omega
              · have gt := gd.trans g78
                exact ⟨fun b u q => by rw [upd_ne (ne_of_none q hD)]; exact gt.h b u q, gt.f, gt.s.upd_out f8, gt.o⟩
              · rw [List.length_append, List.length_singleton]; omega
              · rw [List.append_assoc]; exact er1
              · exact (((Sd.grow gz).grow g7).grow g8).updOut f8 hnO
          · have ej : j = es.length := by omega
            subst ej
            refine .inl ⟨W1.stop Fd Hd sd gd.s, ?_⟩
            rw [List.drop_length] at ed1
            cases ed1
            rw [List.append_nil] at er1
            subst er1
            refine ⟨Fd, acc1, dacc ++ yi, ys2, gd, fd, hd, rd1, by omega, n5, ?_⟩
            rw [List.append_assoc]; exact er
      · have ei : i = ds.length := by omega
        subst ei
        refine .inl ⟨W.stop Fc Hc gc.f gc.s, ?_⟩
        rw [List.drop_length] at ec
        cases ec
        rw [List.append_nil] at er
        subst er
        exact P Dl acc Fc Hc (g1'.trans gc) (g1'.h.free hD) fc hc rc
variable {elt tg iter tg1 iter1 : Expr} {ifs ifs1 : List Expr} {scope : Scope} {own : List (Str × Nat)} {pos : Pos}
theorem mf_lc2 (hN : X.N.Nodup) (hi : MI X G tg iter mi) (ok : BlkOk X.N X.env.scope scope own) (hv : ∀ i ∈ vs1, i ∈ own.map (·.2))
    (hp : ∀ (s : Shared) (H : Hp) (C : Addr) (cl : List (Str × Addr)) (fp : List Addr), PG (X.blk s H scope (compEnvC scope cl C X.env) fp) tg g) (hg : TgOk G.K (own.map (·.2)) g mt)
    (ht : ∀ (s : Shared) (H : Hp) (C : Addr) (cl : List (Str × Addr)) (fp : List Addr), PTs (X.blk s H scope (compEnvC scope cl C X.env) fp) ifs (ttOf G.e0 tt))
    (hi1 : ∀ (s : Shared) (H : Hp) (C : Addr) (cl : List (Str × Addr)) (fp : List Addr), MI (X.blk s H scope (compEnvC scope cl C X.env) fp) G.e0 tg1 iter1 mi1)
    (hp1 : ∀ (s : Shared) (H : Hp) (C : Addr) (cl : List (Str × Addr)) (fp : List Addr), PG (X.blk s H scope (compEnvC scope cl C X.env) fp) tg1 g1) (hg1 : TgOk G.K vs1 g1 mt1)
    (ht1 : ∀ (s : Shared) (H : Hp) (C : Addr) (cl : List (Str × Addr)) (fp : List Addr), PTs (X.blk s H scope (compEnvC scope cl C X.env) fp) ifs1 (ttOf G.e0 tt1))
    (he : ∀ (s : Shared) (H : Hp) (C : Addr) (cl : List (Str × Addr)) (fp : List Addr), ME (X.blk s H scope (compEnvC scope cl C X.env) fp) G.e0 elt me) (hc : X.calm = true := by rfl) (hs : ∀ x, foldedSetIterable iter X.env x = pure x := by intro _; rfl) (hs1 : ∀ env x, foldedSetIterable iter1 env x = pure x := by intro _ _; rfl) :
    MF X G (.ListComp elt [⟨tg, iter, ifs, 0⟩, ⟨tg1, iter1, ifs1, 0⟩] scope pos) (mLc2 (own.map (·.2)) vs1 mi mt tt mi1 mt1 tt1 me) :=
  weakE (pe_lc2 hc hN hi ok hv hp ht hi1 hp1 ht1 he hs hs1) (lc2_read hg hg1)
end
end Mir
/-! min of texts; dict(list of pairs); four things at once -/
namespace L2
open PySem PySem.Spec PyProof.Rows PySem.W
def minStr (x : Str) (xs : List Str) : Str := xs.foldl (fun a y => if y.cps.toList < a.cps.toList then y else a) x
theorem minD_strs : ∀ (xs : List Str) (x : Str), minD (.str x) (xs.map .str) = .str (minStr x xs) := by
  intro xs
  unfold minD minStr
  induction xs with
  | nil => intro x; rfl
  | cons y r ih =>
    intro x
    rw [List.map_cons, List.foldl_cons, List.foldl_cons, ← ih, dataLt_str]
    by_cases h : y.cps.toList < x.cps.toList
    · rw [if_pos (decide_eq_true h), if_pos h]
    · rw [if_neg (by simpa using h), if_neg h]
theorem reads_strs {h : Heap} : ∀ {xs : List Str} {us : List Value}, Vals (xs.map V.str) us → ReadsAll h us (xs.map .str) []
  | [], _, r => by cases r; exact .nil
  | x :: xs, _, r => by
    cases r with
    | cons r1 r2 =>
      obtain ⟨t, rfl⟩ := r1
      exact .cons (.str x t) (reads_strs r2)
theorem alike_strs (xs : List Str) : AlikeAll (xs.map .str) := by
  refine ⟨fun x hx y hy => ?_, fun x hx => ?_⟩
  · obtain ⟨a, _, rfl⟩ := List.mem_map.mp hx
    obtain ⟨b, _, rfl⟩ := List.mem_map.mp hy
    rw [PySem.W.alike]
  · obtain ⟨a, _, rfl⟩ := List.mem_map.mp hx
    exact fun z => nomatch z
theorem depth_strs : ∀ xs : List Str, PyData.depthAll (xs.map .str) ≤ 1
  | [] => by rw [List.map_nil, PyData.depthAll]; omega
  | x :: r => by
    have := depth_strs r
    rw [List.map_cons, PyData.depthAll, PyData.depth]
    exact Nat.max_le.mpr ⟨by omega, this⟩
def rMinT (K : PySem.W.Frag) : List V → Hp → VK → Prop := fun vs H Q => ∃ (a : Addr) (x : Str) (xs : List Str), vs = [.ref a] ∧ SqL K H a ((x :: xs).map V.str) ∧ Q (.str (minStr x xs)) H
theorem cr_minT {X : Cx} (hc : X.calm = true) (hu : X.A.units + 65 < cLine) : CallR X (.builtin "min") (rMinT X.K) := by
  intro pins s σ H vs us Q I r h
  obtain ⟨a, x, xs, rfl, hs, q⟩ := h
  obtain ⟨its, rv, hl, _⟩ := I.list hs
  rw [Vals.ref1 r]
  have rd : ReadsAll s.heap its.toArray.toList ((x :: xs).map .str) [] := by
    rw [List.toList_toArray]
    exact reads_strs rv
  refine min_list_data (I.ok.hd hc) hl.isList rd (alike_strs (x :: xs)) (by have := depth_strs (x :: xs); simp only [List.map_cons] at this; omega) fun i v h' tk bs hi rv' hk => ?_
  rw [minD_strs] at rv'
  cases rv' with
  | str _ t => exact ⟨.str _, H, I.kept hk, ⟨_, rfl⟩, q⟩
end L2
namespace Mir
open PySem PySem.Spec PyProof.Rows L2
section
variable {X : Cx} {G : Gm} {a b e : Expr} {es : List Expr} {ma mb : Env → R D} {ms mu : Env → RS} {pos : Pos} {k : Nat} {x y : Str} {p p2 apos cpos : Pos}
def minTF : List D → R D
  | [.lst ds] => match strsOf ds with
    | some (x :: xs) => .ok (.str (minStr x xs))
    | _ => .bad
  | _ => .bad
theorem cm_minT : CallM G (rMinT G.K) minTF := by
  intro F H vs ds Q s h P
  unfold minTF at P
  split at P
  · rename_i es
    obtain ⟨v, rfl, q⟩ := one_of h
    cases q with
    | lst e r =>
      split at P
      · rename_i x xs ey
        have ev := strs_v r ey
        subst ev
        exact ⟨_, x, xs, rfl, SqL.of (s _ _ e), postD P s (.str _)⟩
      · exact P.elim
  · exact P.elim
theorem me_minT {m : Env → R (List D)} (hr : Room k X.A) (ha : MA X G [e] m) (hx : X.mg "min" = none) (hc : X.calm = true := by rfl) (hK : X.K = G.K := by rfl) (hg : Gl X "min" := by rfl)
    (he : starEach [e] X.env = (false, eval e X.env) :: starEach [] X.env := by rfl) (hpl : (backTo pos (starEach [] X.env)).any (·.1) = false := by rfl) : ME X G (.Call (.Name "min" p) [e] [] pos) (mCall minTF m) :=
  me_callB (cr_minT hc (room65 hr)) (by rw [hK]; exact cm_minT) ha hx (by decide +kernel) hg (by decide) (by decide) he hpl
/-! dict(list of pairs), read only -/
def pairsK : List D → Option (List (Key × D))
  | [] => some []
  | .tup [kd, v] :: r => match keyOf kd with
    | some q => (pairsK r).map ((q, v) :: ·)
    | none => none
  | _ => none
def dictPF : List D → R D
  | [.lst ds] => match pairsK ds with
    | some es => if (es.map (·.1)).Nodup then .ok (.dic (es.map (·.1)) (es.map (·.2))) else .bad
    | none => .bad
  | _ => .bad
theorem paired_imp {α β : Type} {P Q : α → β → Prop} (h : ∀ a b, P a b → Q a b) : ∀ {as : List α} {bs : List β}, Paired P as bs → Paired Q as bs
  | _, _, .nil => .nil
  | _, _, .cons p r => .cons (h _ _ p) (paired_imp h r)
theorem pairs_v {K : PySem.W.Frag} {F : Hp} : ∀ {ds : List D} {vs : List V} {es : List (Key × D)}, DvAll K F vs ds → pairsK ds = some es → ∃ (ps : List Addr) (kvs : List (Key × V)), vs = ps.map V.ref ∧ Paired (fun p kv => SqT K F p [kV kv.1, kv.2]) ps kvs ∧ kvs.map (·.1) = es.map (·.1) ∧ DvAll K F (kvs.map (·.2)) (es.map (·.2))
  | [], _, es, h, e => by cases h; cases e; exact ⟨[], [], rfl, .nil, rfl, .nil⟩
  | d :: ds, _, es, h, e => by
    cases h with
    | cons h r =>
      cases h with
      | @tup a xs zs e1 r1 =>
        cases r1 with
        | nil => cases e
        | @cons v1 vs1 d1 ds1 h1 r1 =>
          cases r1 with
          | nil => cases e
          | @cons v2 vs2 d2 ds2 h2 r2 =>
            cases r2 with
            | cons _ _ => cases e
            | nil =>
              have e : (match keyOf d1 with | some q => (pairsK ds).map ((q, d2) :: ·) | none => none) = some es := e
              cases hk : keyOf d1 with
              | none => rw [hk] at e; cases e
              | some q =>
                rw [hk] at e
                have e : (pairsK ds).map ((q, d2) :: ·) = some es := e
                cases hp : pairsK ds with
                | none => rw [hp] at e; cases e
                | some es2 =>
                  rw [hp] at e
                  cases e
                  obtain ⟨ps, kvs, k1, k2, k3, k4⟩ := pairs_v r hp
                  refine ⟨a :: ps, (q, v2) :: kvs, by rw [k1]; rfl, .cons ?_ k2, by rw [List.map_cons, List.map_cons, k3], .cons h2 k4⟩
                  rw [← dv_key h1 hk]
                  exact e1
      | _ => cases e
theorem merge_new (kvs : List (Key × V)) : ∀ (more : List (Key × V)), ((kvs ++ more).map (·.1)).Nodup → mergeK kvs more = kvs ++ more := by
  intro more
  induction more generalizing kvs with
  | nil => intro _; rw [List.append_nil]; rfl
  | cons p r ih =>
    intro h
    have e : kvs ++ p :: r = (kvs ++ [p]) ++ r := by rw [List.append_assoc]; rfl
    rw [e] at h ⊢
    have hn : putK kvs p.1 p.2 = kvs ++ [p] := by
      unfold putK
      have hp : (kvs.any fun kv => decide (kv.1 = p.1)) = false := by
        rw [List.any_eq_false]
        intro x hx z
        have z := of_decide_eq_true z
        rw [List.map_append, List.map_append] at h
        have h1 := (List.nodup_append.mp h).1
        exact (List.nodup_append.mp h1).2.2 x.1 (List.mem_map.mpr ⟨x, hx, rfl⟩) p.1 (by simp) z
      rw [hp]
      rfl
    rw [← ih (kvs ++ [p]) h]
    show List.foldl _ (putK kvs p.1 p.2) r = _
    rw [hn]
    rfl
theorem me_dictP {m : Env → R (List D)} (ha : MA X G [e] m) (hx : X.mg "dict" = none) (hc : X.calm = true := by rfl) (hK : X.K = G.K := by rfl) (hg : Gl X "dict" := by rfl)
    (he : starEach [e] X.env = (false, eval e X.env) :: starEach [] X.env := by rfl) (hpl : (backTo pos (starEach [] X.env)).any (·.1) = false := by rfl) : ME X G (.Call (.Name "dict" p) [e] [] pos) (mCall dictPF m) :=
  weakE (pe_frz (pe_callTy (call_dictP hc) hg hx (by decide +kernel) ha (by decide) (by decide) he hpl)) fun σ H Q ⟨ρ, F, S, P⟩ =>
    ⟨ρ, F, S, (PostR.bind (rel := DvsR G) P).imp fun d x F1 H1 e1 g1 q1 ⟨F1', d', e1', g1', q1', P1⟩ => by
      unfold dictPF at P1
      split at P1
      · rename_i ds
        obtain ⟨v, rfl, q⟩ := one_of q1'
        cases q with
        | @lst a xs zs ez r =>
          cases hp : pairsK ds with
          | none => rw [hp] at P1; exact P1.elim
          | some es =>
            rw [hp] at P1
            by_cases hn : (es.map (·.1)).Nodup
            · have P1 : PostR G (DvR G) F1' H1 (if (es.map (·.1)).Nodup then .ok (.dic (es.map (·.1)) (es.map (·.2))) else .bad) Q := P1
              rw [if_pos hn] at P1
              obtain ⟨ps, kvs, k1, k2, k3, k4⟩ := pairs_v r hp
              subst k1
              rw [hK]
              have pq : Paired (fun p kv => SqT G.K H1 p [kV kv.1, kv.2]) ps kvs := paired_imp (fun _ _ z => Same.tup g1'.s z) k2
              refine ⟨a, ps, kvs, rfl, SqL.of (g1'.s _ _ ez), pq, fun q hq => ⟨q, mergeK [] kvs, rfl, upd_same, fun o => ?_⟩⟩
              have em : mergeK [] kvs = kvs := by
                rw [merge_new [] kvs (by rw [List.nil_append, k3]; exact hn), List.nil_append]
              rw [em, upd_upd]
              exact P1 (.ref q) (upd F1' q (.frz o (.dK kvs))) _ (Grow.new g1'.s hq) (.dic upd_same k3 (k4.mono (Same.upd_new (g1'.s.free hq))))
            · have P1 : PostR G (DvR G) F1' H1 (if (es.map (·.1)).Nodup then .ok (.dic (es.map (·.1)) (es.map (·.2))) else .bad) Q := P1
              rw [if_neg hn] at P1
              exact P1.elim
      · exact P1.elim⟩
/-! four things at once -/
theorem PsOk.grow {K : PySem.W.Frag} {F' H' F2 H2 : Hp} (g : Grow F' H' F2 H2) : ∀ {H : Hp} {vs : List V} {ss : List Slot}, PsOk K F' H' H vs ss → PsOk K F2 H2 H vs ss
  | _, _, _, .nil => .nil
  | _, _, _, .cons q s h r => .cons ⟨q.ok.grow g, fun z => by
      obtain ⟨a, o, e1, e2, e3, e4⟩ := q.nw z
      exact ⟨a, o, e1, e2, (g.o _ _ e4).trans e3, g.h _ _ e4⟩⟩ s h (PsOk.grow g r)
theorem PsOk.length {K : PySem.W.Frag} {F' H' : Hp} : ∀ {H : Hp} {vs : List V} {ss : List Slot}, PsOk K F' H' H vs ss → vs.length = ss.length
  | _, _, _, .nil => rfl
  | _, _, _, .cons _ _ _ r => congrArg (· + 1) r.length
def sPar4 (i j k l : Nat) (m : Env → R (List Slot)) : Env → RS := fun ρ => (m ρ).to fun ss => match ss with
  | [s, t, u, v] => .nx ((((ρ.set i s).set j t).set k u).set l v)
  | _ => .bad
theorem ms_par4 {i j l n : Nat} {m : Env → R (List Slot)} {x1 x2 x3 x4 : Str} {p1 p2 p3 p4 pt pt2 : Pos} {e1 e2 e3 e4 : Expr} {kt k2 : Nat} (hN : X.N.Nodup) (ha : MPs X G [e1, e2, e3, e4] m) (hc : X.calm = true := by rfl) (hK : X.K = G.K := by rfl)
    (h1 : X.N[i]? = some x1 := by rfl) (h2 : X.N[j]? = some x2 := by rfl) (h3 : X.N[l]? = some x3 := by rfl) (h4 : X.N[n]? = some x4 := by rfl)
    (l1 : X.env.scope.names.lookup x1 = some .local := by rfl) (l2 : X.env.scope.names.lookup x2 = some .local := by rfl) (l3 : X.env.scope.names.lookup x3 = some .local := by rfl) (l4 : X.env.scope.names.lookup x4 = some .local := by rfl)
    (hs : swapsWithSole [.Tuple [.Name x1 p1, .Name x2 p2, .Name x3 p3, .Name x4 p4] kt pt] (.Tuple [e1, e2, e3, e4] k2 pt2) pos.line X.env = pure false := by rfl)
    (hw : swappedStores [.Tuple [.Name x1 p1, .Name x2 p2, .Name x3 p3, .Name x4 p4] kt pt] (.Tuple [e1, e2, e3, e4] k2 pt2) X.env = pure none := by rfl) :
    MS X G (.Assign [.Tuple [.Name x1 p1, .Name x2 p2, .Name x3 p3, .Name x4 p4] kt pt] (.Tuple [e1, e2, e3, e4] k2 pt2) pos) (sPar4 i j l n m) :=
  weakS (ps_asg (pe_tup ha) (pg_tup hc (pgs_cons (pg_name hN h1 (.inl l1) (.inr l1)) (pgs_cons (pg_name hN h2 (.inl l2) (.inr l2)) (pgs_cons (pg_name hN h3 (.inl l3) (.inr l3)) (pgs_cons (pg_name hN h4 (.inl l4) (.inr l4)) pgs_nil))))) hs hw) fun D σ H ⟨ρ, F, F0, H0, S, P⟩ => by
  refine ⟨ρ, F, S.sl, P.toPs S fun ss vs F' H' g q P1 => ?_⟩
  split at P1
  · rename_i s t u v
    have hl := q.length
    refine ⟨by rw [hl]; exact Nat.le_of_ble_eq_true rfl, fun p hp => ?_⟩
    have gp : Grow F' H' F' (upd H' p (.tup vs)) := Grow.own g.s hp
    match vs, hl, q with
    | [a, b, c, d], _, q =>
      rw [hK]
      refine ⟨p, [a, b, c, d], rfl, SqT.of upd_same, rfl, a, _, rfl, b, _, rfl, c, _, rfl, d, _, rfl, rfl, ?_⟩
      exact P1 _ F' _ (put_many (is := [i, j, l, n]) ((S.grow g).grow gp) S.gr.h (own_in S) (q.grow gp)) (Same.refl _)
  · exact P1.elim
end
end Mir
/-! backwards -/
namespace Mir
open PySem PySem.Spec PyProof.Rows L2
section
variable {X : Cx} {G : Gm} {a b e : Expr} {es : List Expr} {ma mb : Env → R D} {ms mu : Env → RS} {pos : Pos} {k : Nat} {x y : Str} {p p2 apos cpos : Pos}
theorem DvAll.rev {K : PySem.W.Frag} {F : Hp} : ∀ {vs : List V} {ds : List D}, DvAll K F vs ds → DvAll K F vs.reverse ds.reverse
  | _, _, .nil => .nil
  | _, _, .cons h r => by
    rw [List.reverse_cons, List.reverse_cons]
    exact (DvAll.rev r).append (.cons h .nil)
theorem wd_rev {K : PySem.W.Frag} {F : Hp} {a : Addr} {xs : List V} {ds : List D} (h : SqL K F a xs) (r : DvAll K F xs ds) : WalkD K (Itv K a xs.length) ds.reverse F := by
  have hl := r.length
  refine ⟨fun i F1 H s1 s2 hi => ?_, fun F1 H s1 s2 => ?_, fun i F1 H x H' s1 s2 hi y => ?_⟩
  · rw [List.length_reverse, ← hl] at hi
    have hj : xs.length - 1 - i < xs.length := by omega
    exact ⟨hi, xs, xs[xs.length - 1 - i], (s1.trans s2).seq h, List.getElem?_eq_getElem hj⟩
  · show xs.length ≤ ds.reverse.length
    rw [List.length_reverse, hl]
    exact Nat.le_refl _
  · rw [List.length_reverse, ← hl] at hi
    obtain ⟨rfl, q⟩ := y
    have q1 := q xs ((s1.trans s2).seq h)
    have q2 : xs.reverse[i]? = some x := by rw [List.getElem?_reverse hi]; exact q1
    obtain ⟨d, e1, e2⟩ := (DvAll.rev r).get q2
    exact ⟨F1, d, e1, Grow.refl s2, e2.mono s1⟩
def revF : List D → R (List D)
  | [.lst ds] => .ok ds.reverse
  | [.rol ds] => .ok ds.reverse
  | _ => .bad
theorem mi_rev {mr : Env → R (List D)} {tg : Expr} (ha : MA X G [a] mr) (hx : X.mg "reversed" = none) (hK : X.K = G.K := by rfl) (hg : Gl X "reversed" := by rfl) (hs : starEach [a] X.env = [(false, eval a X.env)] := by rfl) : MI X G tg (.Call (.Name "reversed" p) [a] [] pos) (mSeqs revF mr) := weakI (pi_reversed hg hx ha hs) fun σ H Q ⟨ρ, F, S, P⟩ => by
  refine ⟨ρ, F, S, (PostI.bind (rel := DvsR G) P).imp fun d x F1 H1 e1 g1 q1 ⟨F1', d', e1', g1', q1', P1⟩ => ?_⟩
  rw [hK]
  unfold revF at P1
  split at P1
  · obtain ⟨v, rfl, q⟩ := one_of q1'
    cases q with
    | lst z r => exact ⟨_, _, rfl, SqL.of (g1'.s _ _ z), P1 _ _ _ (Grow.refl g1'.s) (wd_rev (SqL.of z) r)⟩
  · obtain ⟨v, rfl, q⟩ := one_of q1'
    cases q with
    | rol z r => exact ⟨_, _, rfl, g1'.s.seq z, P1 _ _ _ (Grow.refl g1'.s) (wd_rev z r)⟩
  · exact P1.elim
/-- xs[::-1] of a list of the def's own -/
def mRevO (i : Nat) : Env → R (List D) := fun ρ => match ρ[i]? with
  | some (.ol ds) => .ok ds.reverse
  | _ => .bad
theorem mf_revO (i : Nat) {k : Nat} {p1 p2 p3 : Pos} (hN : X.N[i]? = some x := by rfl) (hK : X.K = G.K := by rfl) (hv : Vis X.env.scope x := by first | exact Or.inl rfl | exact Or.inr (Or.inl rfl) | exact Or.inr (Or.inr rfl)) (hd : (x == ("__debug__" : Str)) = false := by decide)
    (hcd : (x == ("__classdict__" : Str)) = false := by decide) : MF X G (.Subscript (.Name x p) (.Slice none none (some (.UnaryOp .USub (.Constant (.int 1) k p1) p2)) p3) pos) (mRevO i) := weakE (pe_revL (pe_var hN hv hd hcd)) fun σ H Q ⟨ρ, F, S, P⟩ => by
  unfold mRevO at P
  cases hρ : ρ[i]? with
  | none => rw [hρ] at P; exact P.elim
  | some t =>
    rw [hρ] at P
    cases t with
    | ol ds =>
      obtain ⟨l, xs, k1, k2, k3, k4⟩ := S.getOl hρ
      exact ⟨.ref l, k1, l, xs, rfl, SqL.of k2, fun q hq => P q _ F _ (Grow.own S.sub hq) hq (S.sub.free hq) upd_same (DvAll.rev k4)⟩
    | _ => exact P.elim
end
end Mir
/-! zip of a text and a list -/
namespace Mir
open PySem PySem.Spec PyProof.Rows L2
/-- a sign and an item at each turn -/
def ZsL (K : PySem.W.Frag) (zt : Str) (b : Addr) : It where
  go i H := i < zt.cps.size ∧ ∃ ys : List V, SqL K H b ys ∧ i < ys.length
  yld i H v H' := ∃ T c y, v = .ref T ∧ H T = none ∧ zt.cps[i]? = some c ∧ (∀ ys, SqL K H b ys → ys[i]? = some y) ∧ H' = upd H T (.tup [.str ⟨#[c]⟩, y])
  stop i H := ∃ ys : List V, SqL K H b ys ∧ i = min zt.cps.size ys.length
section
variable {P : Program} {w : World} {K : PySem.W.Frag} {elts : List Expr} {kk : Nat} {tpos : Pos}
theorem turn_zsl (zt : Str) (t : Tok) (b z TI TO i1 i2 : Addr) :
    Turn P w K (.Tuple elts kk tpos) (ZsL K zt b) [z, TI, TO, i1, i2] z (fun i h => (IsZip h z TI TO .none ∧ IsTupOf2 h TI (.ref i1) (.ref i2) ∧ (∃ a1 a2, IsTupOf2 h TO a1 a2) ∧ h.IsStrIter i1 (strIterType zt) zt t i ∧ h.IsListIter i2 b i) ∧ ZipSep2 z TI TO i1 i2 [i1] [i2, b]) where
  mem := List.mem_cons_self
  obj i h st c hc := by
    obtain ⟨⟨hz, hTI, ⟨a1, a2, hTO⟩, ⟨o1, e1, _, d1⟩, ⟨o2, e2, _, d2⟩⟩, _⟩ := st
    simp only [List.mem_cons, List.not_mem_nil, or_false] at hc
    rcases hc with rfl | rfl | rfl | rfl | rfl
    · exact ⟨_, hz, fun v q => nomatch q⟩
    · exact ⟨_, hTI, fun v q => nomatch q⟩
    · exact ⟨_, hTO, fun v q => nomatch q⟩
    · exact ⟨o1, e1, fun v q => by rw [d1] at q; cases q⟩
    · exact ⟨o2, e2, fun v q => by rw [d2] at q; cases q⟩
  keep i h h' st k := by
    obtain ⟨⟨hz, hTI, ⟨a1, a2, hTO⟩, ⟨o1, e1, r1⟩, h2⟩, S⟩ := st
    exact ⟨⟨k z (by simp) _ hz, k TI (by simp) _ hTI, ⟨a1, a2, k TO (by simp) _ hTO⟩, ⟨o1, k i1 (by simp) _ e1, r1⟩, h2.at fun o q => k i2 (by simp) o q⟩, S⟩
  item := by
    intro X hP hw hK hc i pins s σ H E I hf st hg
    subst hP hw hK
    obtain ⟨⟨hz, hTI, hTO, h1, h2⟩, S⟩ := st
    obtain ⟨hi1, ys, hq, hi2⟩ := hg
    obtain ⟨its, rv, pl, hsz⟩ := I.list hq
    have hlen := rv.length
    have hT := pl.isList
    have nb : b ≠ i2 := fun q => by
      obtain ⟨o, n, ho, oc, od, odat⟩ := pl
      obtain ⟨o2, e2, c2, d2⟩ := h2
      rw [q] at ho
      rw [ho] at e2; cases e2
      rw [odat] at d2; cases d2
    have D1 := Draws.text (prog := X.prog) (w := X.w) (A := X.A.in1) (I.ok.hd hc) i1 zt t
    have D2 := Draws.list (prog := X.prog) (w := X.w) (A := X.A.in1) (I.ok.hd hc) i2 b nb its.toArray
    have G := GoesN.zip2 (elts := elts) (x1 := kk) (pos := tpos) S D1 D2
    have hsa : its.toArray.size = its.length := List.size_toArray
    have hmin : i < min zt.cps.size its.toArray.size := Nat.lt_min.mpr ⟨hi1, by omega⟩
    refine wpAny_mono (G.goes i s (fun v s2 => ∃ x H', Inv X pins σ H' s2 ∧ RelV x v ∧ (ZsL X.K zt b).yld i H x H' ∧ ((IsZip s2.heap z TI TO .none ∧ IsTupOf2 s2.heap TI (.ref i1) (.ref i2) ∧ (∃ a1 a2, IsTupOf2 s2.heap TO a1 a2) ∧ s2.heap.IsStrIter i1 (strIterType zt) zt t (i + 1) ∧ s2.heap.IsListIter i2 b (i + 1)) ∧ ZipSep2 z TI TO i1 i2 [i1] [i2, b]) ∧ ∀ c ∈ [z, TI, TO, i1, i2], H' c = none) E hmin ⟨hz, hTI, hTO, h1, h2, hT⟩ fun v h' tk hY st' hk htk => ?_) (fun _ _ q => q) fun _ _ q => q
    obtain ⟨T, x, y, rfl, hn, ⟨c, u, hcx, rfl⟩, hy, hTT⟩ := hY
    obtain ⟨sz, sTI, sTO, s1, s2, _⟩ := st'
    have hyi : ys[i]? = some ys[i] := List.getElem?_eq_getElem hi2
    obtain ⟨y', hy', ry⟩ := rv.get hyi
    have ey : y' = y := by
      have q : its[i]? = some y := by simpa using hy
      rw [hy'] at q
      exact Option.some.inj q
    subst ey
    have lt : ∀ c ∈ [z, TI, TO, i1, i2], c < s.heap.objs.size := fun c hcm => by
      obtain ⟨a1, a2, hTO⟩ := hTO
      simp only [List.mem_cons, List.not_mem_nil, or_false] at hcm
      rcases hcm with rfl | rfl | rfl | rfl | rfl
      · exact Heap.lt_size hz
      · exact Heap.lt_size hTI
      · exact Heap.lt_size hTO
      · obtain ⟨o, e, _⟩ := h1; exact Heap.lt_size e
      · obtain ⟨o, e, _⟩ := h2; exact Heap.lt_size e
    have new : ObjOk X.prog X.w (upd H T (.tup [.str ⟨#[c]⟩, ys[i]])) h' T (.tup [.str ⟨#[c]⟩, ys[i]]) :=
      ⟨by rw [sizeLine_eq]; exact (by decide : 2 ≤ 16777216), [.str ⟨#[c]⟩ u, y'], .cons ⟨u, rfl⟩ (.cons ry .nil), hTT⟩
    have I1 := I.turnedNew (t' := tk) (ch := [z, TI, TO, i1, i2]) (fun c o hb q => hk c o (fun hw => hb (by
      simp only [List.mem_cons, List.not_mem_nil, or_false] at hw ⊢
      rcases hw with rfl | rfl | rfl | rfl <;> simp)) q) hf hn new
    refine ⟨.ref T, _, I1, rfl, ⟨T, c, ys[i], rfl, I.hok.fresh hn, hcx, fun l hl => by rw [I.list_inj hl hq]; exact hyi, rfl⟩, ⟨⟨sz, sTI, sTO, s1, s2⟩, S⟩, fun c hcm => ?_⟩
    rw [upd_ne (Nat.ne_of_lt (Nat.lt_of_lt_of_le (lt c hcm) hn))]
    exact (hf c hcm).1
  done := by
    intro X hP hw hK hc i pins s σ H E I hf st hg
    subst hP hw hK
    obtain ⟨⟨hz, hTI, hTO, h1, h2⟩, S⟩ := st
    obtain ⟨ys, hq, hi⟩ := hg
    obtain ⟨its, rv, pl, hsz⟩ := I.list hq
    have hlen := rv.length
    have hT := pl.isList
    have nb : b ≠ i2 := fun q => by
      obtain ⟨o, n, ho, oc, od, odat⟩ := pl
      obtain ⟨o2, e2, c2, d2⟩ := h2
      rw [q] at ho
      rw [ho] at e2; cases e2
      rw [odat] at d2; cases d2
    have D1 := Draws.text (prog := X.prog) (w := X.w) (A := X.A.in1) (I.ok.hd hc) i1 zt t
    have D2 := Draws.list (prog := X.prog) (w := X.w) (A := X.A.in1) (I.ok.hd hc) i2 b nb its.toArray
    have G := GoesN.zip2 (elts := elts) (x1 := kk) (pos := tpos) S D1 D2
    have hsa : its.toArray.size = its.length := List.size_toArray
    have ei : i = min zt.cps.size its.toArray.size := by rw [hsa, ← hlen]; exact hi
    subst ei
    exact G.stops s (fun s1 => Inv X pins σ H s1) E ⟨hz, hTI, hTO, h1, h2, hT⟩ fun h' tk hk htk => I.turnedL (t' := tk) (ch := [z, TI, TO, i1, i2]) (fun c o hb q => hk c o (fun hw => hb (by
      simp only [List.mem_cons, List.not_mem_nil, or_false] at hw ⊢
      rcases hw with rfl | rfl | rfl | rfl <;> simp)) q) hf
  self A i s Q E st h := wpAny_pyIter_zip st.1.1 h
end
def iZsL (K : PySem.W.Frag) (ta : TA) : TI := fun σ H R => ta σ H fun vs H1 => ∃ zt b ys, vs = [.str zt, .ref b] ∧ SqL K H1 b ys ∧ R (ZsL K zt b) H1
theorem pi_zsl {X : Cx} {e e2 : Expr} {ta : TA} {p pos tpos : Pos} {elts : List Expr} {kk : Nat} (hg : Gl X "zip") (hm : X.mg "zip" = none) (ha : PA X [e, e2] ta)
    (hs : starEach [e, e2] X.env = (false, eval e X.env) :: starEach [e2] X.env := by rfl) (hpl : (backTo pos (starEach [e2] X.env)).any (·.1) = false := by rfl) :
    PI X (.Tuple elts kk tpos) (.Call (.Name "zip" p) [e, e2] [] pos) (iZsL X.K ta) := by
  refine ⟨fun pins s σ H R I h => ?_⟩
  refine Call_ (ld_blt I hg hm PyProof.Rows.boot_zip (PyProof.Rows.callWith_type1 (thn (ha.run pos pins s σ H _ I h) fun us s1 ⟨vs, H1, I1, r1, q1⟩ => ?_) hs hpl))
  obtain ⟨zt, b, ys, ex, hq, q⟩ := q1
  subst ex
  cases r1 with
  | cons r rr =>
    cases rr with
    | cons r' rr =>
      cases rr
      obtain ⟨t, rfl⟩ := r
      cases r'
      obtain ⟨its, rv, pl, hz⟩ := I1.list hq
      have hb : b < s1.heap.objs.size := by
        obtain ⟨o, n, ho, _⟩ := pl
        exact Heap.lt_size ho
      refine zip_begins2 (begins_text zt t) (begins_list b its.toArray) trivial pl.isList fun h' a1 a2 a3 a4 a5 a6 a7 => wpAny_pyIter_zip a1 ?_
      refine ⟨s1.heap.objs.size + 4, [s1.heap.objs.size + 4, s1.heap.objs.size + 2, s1.heap.objs.size + 3, s1.heap.objs.size, s1.heap.objs.size + 1], _, ZsL X.K zt b, H1, rfl, I1.kept (t' := s1.toks) a7, turn_zsl zt t b _ _ _ _ _, ⟨⟨a1, a2, ⟨_, _, a3⟩, ⟨_, a4, rfl, rfl⟩, ⟨_, a5, rfl, rfl⟩⟩, zip_sep2 (fp1 := []) (fp2 := [b]) (fun _ h => nomatch h) (fun c hc => by rw [List.mem_singleton.mp hc]; exact hb)⟩, fun c hc => ?_, q⟩
      have hle : s1.heap.objs.size ≤ c := by
        simp only [List.mem_cons, List.not_mem_nil, or_false] at hc
        rcases hc with rfl | rfl | rfl | rfl | rfl <;> omega
      exact I1.fpOk hle (I1.hok.fresh hle)
section
variable {X : Cx} {G : Gm} {a b e : Expr} {p pos tpos : Pos} {elts : List Expr} {kk : Nat}
theorem wd_zsl {K : PySem.W.Frag} {F : Hp} {zt : Str} {b : Addr} {ys : List V} {ds : List D} (h : SqL K F b ys) (r : DvAll K F ys ds) : WalkD K (ZsL K zt b) (zipD (signsD zt) ds) F := by
  have hl := r.length
  have hs := signsD_len zt
  have hz : (zipD (signsD zt) ds).length = min zt.cps.size ys.length := by rw [zipD_len, hs, hl]
  refine ⟨fun i F1 H s1 s2 hi => ?_, fun F1 H s1 s2 => ⟨ys, (s1.trans s2).seq h, hz⟩, fun i F1 H x H' s1 s2 hi y => ?_⟩
  · rw [hz] at hi
    obtain ⟨h1, h2⟩ := Nat.lt_min.mp hi
    exact ⟨h1, ys, (s1.trans s2).seq h, h2⟩
  · obtain ⟨T, c, y, rfl, hT, hc, hy, rfl⟩ := y
    obtain ⟨d, e1, e2⟩ := r.get (hy ys ((s1.trans s2).seq h))
    have e0 : (signsD zt)[i]? = some (.str ⟨#[c]⟩) := by
      unfold signsD
      rw [List.getElem?_map, Array.getElem?_toList, hc]
      rfl
    have g := Grow.new (o := .tup [.str ⟨#[c]⟩, y]) s2 hT
    exact ⟨upd F1 T (.tup [.str ⟨#[c]⟩, y]), .tup [.str ⟨#[c]⟩, d], zipD_at e0 e1, g, .tup (SqT.of upd_same) (.cons (.str _) (.cons ((e2.mono s1).mono g.f) .nil))⟩
def zipTF : List D → R (List D)
  | [.str z, .lst es] => .ok (zipD (signsD z) es)
  | _ => .bad
theorem mi_zipT {mr : Env → R (List D)} (ha : MA X G [a, b] mr) (hx : X.mg "zip" = none) (hK : X.K = G.K := by rfl) (hg : Gl X "zip" := by rfl) (hs : starEach [a, b] X.env = (false, eval a X.env) :: starEach [b] X.env := by rfl) (hpl : (backTo pos (starEach [b] X.env)).any (·.1) = false := by rfl) :
    MI X G (.Tuple elts kk tpos) (.Call (.Name "zip" p) [a, b] [] pos) (mSeqs zipTF mr) := weakI (pi_zsl hg hx ha hs hpl) fun σ H Q ⟨ρ, F, S, P⟩ => by
  refine ⟨ρ, F, S, (PostI.bind (rel := DvsR G) P).imp fun d x F1 H1 e1 g1 q1 ⟨F1', d', e1', g1', q1', P1⟩ => ?_⟩
  rw [hK]
  unfold zipTF at P1
  split at P1
  · cases q1' with
    | cons h r =>
      obtain ⟨v, rfl, q⟩ := one_of r
      cases q with
      | lst z2 r2 =>
        cases h with
        | str z => exact ⟨_, _, _, rfl, SqL.of (g1'.s _ _ z2), P1 _ _ _ (Grow.refl g1'.s) (wd_zsl (SqL.of z2) r2)⟩
  · exact P1.elim
end
end Mir
/-! a symbolic run of mirrors by simp: further equations -/
namespace Mir
open PySem PySem.Spec PyProof.Rows L2
theorem gz {α : Type} (a : α) (l : List α) : (a :: l)[0]? = some a := id rfl
theorem ite_yes {α : Type} {c : Prop} [Decidable c] {x y : α} (h : c) : (if c then x else y) = x := if_pos h
theorem ite_no {α : Type} {c : Prop} [Decidable c] {x y : α} (h : ¬ c) : (if c then x else y) = y := if_neg h
theorem ok_ite {α : Type} {c : Prop} [Decidable c] (x y : α) : (if c then R.ok x else R.ok y) = R.ok (if c then x else y) := by split <;> rfl
def olR {α : Type} (o : Option Slot) (f : List D → R α) : R α := match o with
  | some (.ol ds) => f ds
  | _ => .bad
def olS (o : Option Slot) (f : List D → RS) : RS := match o with
  | some (.ol ds) => f ds
  | _ => .bad
def odR {α : Type} (o : Option Slot) (f : List (Key × D) → R α) : R α := match o with
  | some (.od ds) => f ds
  | _ => .bad
def odS (o : Option Slot) (f : List (Key × D) → RS) : RS := match o with
  | some (.od ds) => f ds
  | _ => .bad
def oqS (o : Option Slot) (f : List D → RS) : RS := match o with
  | some (.oq ds) => f ds
  | _ => .bad
def oqR {α : Type} (o : Option Slot) (f : List D → R α) : R α := match o with
  | some (.oq ds) => f ds
  | _ => .bad
def oS {α : Type} (o : Option α) (f : α → RS) : RS := match o with
  | some a => f a
  | none => .bad
def lstR {α : Type} (d : D) (f : List D → R α) : R α := match d with
  | .lst ds => f ds
  | _ => .bad
def lstS (d : D) (f : List D → RS) : RS := match d with
  | .lst ds => f ds
  | _ => .bad
def intR {α : Type} (d : D) (f : Int → R α) : R α := match d with
  | .int i => f i
  | _ => .bad
section
variable {α : Type} (ds : List D) (es : List (Key × D)) (f : List D → R α) (g : List D → RS) (fd : List (Key × D) → R α) (gd : List (Key × D) → RS)
theorem olR_ol : olR (some (.ol ds)) f = f ds := id rfl
theorem olS_ol : olS (some (.ol ds)) g = g ds := id rfl
theorem odR_od : odR (some (.od es)) fd = fd es := id rfl
theorem odS_od : odS (some (.od es)) gd = gd es := id rfl
theorem oqR_oq : oqR (some (.oq ds)) f = f ds := id rfl
theorem oqS_oq : oqS (some (.oq ds)) g = g ds := id rfl
theorem oS_some (a : α) (f : α → RS) : oS (some a) f = f a := id rfl
theorem lstR_lst : lstR (.lst ds) f = f ds := id rfl
theorem lstS_lst : lstS (.lst ds) g = g ds := id rfl
theorem intR_int (i : Int) (f : Int → R α) : intR (.int i) f = f i := id rfl
end
section
variable (ρ : Env) (a b : Env → R D) (m : Env → R (List D)) (i j : Nat)
theorem sApp_eq : sApp i a ρ = olS ρ[i]? fun ds => (a ρ).to fun d => if ds.length < 16000000 then .nx (ρ.set i (.ol (ds ++ [d]))) else .bad := by
  unfold sApp olS; rfl
theorem sRetO_eq : sRetO i ρ = olS ρ[i]? fun ds => .ret (.lst ds) := by
  unfold sRetO olS; rfl
theorem sRetD_eq : sRetD i ρ = odS ρ[i]? fun es => .ret (dicE es) := by
  unfold sRetD odS; rfl
theorem mIxO_eq : mIxO i b ρ = olR ρ[i]? fun ds => (b ρ).bind fun y => intR y fun k => ofO (atI ds k) .ok := by
  unfold mIxO olR intR; rfl
theorem mCatO_eq : mCatO i b ρ = olR ρ[i]? fun ds => (b ρ).bind fun d => lstR d fun es => if ds.length + es.length ≤ sizeLine then .ok (ds ++ es) else .bad := by
  unfold mCatO olR lstR; rfl
theorem mRevO_eq : mRevO i ρ = olR ρ[i]? fun ds => .ok ds.reverse := by
  unfold mRevO olR; rfl
theorem sMvO_eq : sMvO i j ρ = olS ρ[j]? fun ds => .nx ((ρ.set j .un).set i (.fz (.lst ds))) := by
  unfold sMvO olS; rfl
theorem sPutD_eq : sPutD i a b ρ = odS ρ[i]? fun es => (a ρ).to fun d => (b ρ).to fun kd => oS (keyOf kd) fun k => if es.length < 16000000 then .nx (ρ.set i (.od (ins es k d))) else .bad := by
  unfold sPutD
  cases ρ[i]? with
  | none => rfl
  | some s =>
    cases s with
    | od es =>
      show (a ρ).to _ = (a ρ).to _
      congr 1; funext d; congr 1; funext kd
      unfold oS
      cases keyOf kd <;> rfl
    | _ => rfl
theorem sSetD_eq : sSetD i ρ = .nx (ρ.set i (.od [])) := id rfl
theorem sSetD1_eq : sSetD1 i a b ρ = (a ρ).to fun kd => (b ρ).to fun d => oS (keyOf kd) fun k => .nx (ρ.set i (.od [(k, d)])) := by
  unfold sSetD1
  congr 1; funext d; congr 1; funext kd
  unfold oS
  cases keyOf d <;> rfl
theorem mDgetO_eq : mDgetO i b ρ = odR ρ[i]? fun es => (b ρ).bind fun y => ofO (keyOf y) fun k => ofO (lk es k) .ok := by
  unfold mDgetO odR; rfl
theorem mDhasO_eq (neg : Bool) : mDhasO neg i b ρ = odR ρ[i]? fun es => (b ρ).bind fun y => ofO (keyOf y) fun k => .ok (.bl (if neg then !(lk es k).isSome else (lk es k).isSome)) := by
  unfold mDhasO odR; rfl
theorem mPeek_eq : mPeek a ρ = (a (ρ.map Slot.peek)).bind fun d => if flat d = true then .ok d else .bad := id rfl
theorem mYes_eq : mYes ρ = .ok true := id rfl
end
theorem mFnIx_eq (n : Nat) (ms : List (List D → R D)) (b : Env → R D) (m : Env → R (List D)) (ρ : Env) : mFnIx n ms b m ρ = (b ρ).bind fun x => intR x fun z => ofO (atI ms z) fun f => (m ρ).bind fun ds => if ds.length = n then f ds else .bad := by
  unfold mFnIx intR; rfl
theorem sTry_exc {cs : List Str} {mb : Env → RS} {ρ : Env} {c : Str} (h : mb ρ = .exc c) (hc : c ∈ cs) : sTry cs mb ρ = .ret (.int ((cs.findIdx fun c' => decide (c' = c)) : Nat)) := by
  unfold sTry; rw [h]; exact if_pos hc
theorem sTry_nx {cs : List Str} {mb : Env → RS} {ρ ρ' : Env} (h : mb ρ = .nx ρ') : sTry cs mb ρ = .nx ρ' := by
  unfold sTry; rw [h]
theorem sTry_ret {cs : List Str} {mb : Env → RS} {ρ : Env} {d : D} (h : mb ρ = .ret d) : sTry cs mb ρ = .ret d := by
  unfold sTry; rw [h]
def loopR (r : RS) (k : Env → RS) : RS := match r with
  | .nx ρ => k ρ
  | .ct ρ => k ρ
  | .brk ρ => .nx ρ
  | r => r
section
variable (ρ : Env) (k : Env → RS)
theorem loopR_nx : loopR (.nx ρ) k = k ρ := id rfl
theorem loopR_ct : loopR (.ct ρ) k = k ρ := id rfl
theorem loopR_brk : loopR (.brk ρ) k = .nx ρ := id rfl
theorem loopR_ret (d : D) : loopR (.ret d) k = .ret d := id rfl
theorem loopR_exc (c : Str) : loopR (.exc c) k = .exc c := id rfl
theorem loopR_ite {p : Prop} [Decidable p] (x y : RS) : loopR (if p then x else y) k = if p then loopR x k else loopR y k := by split <;> rfl
theorem forGo_nil (mt : TgF) (mb : Env → RS) : forGo mt mb [] ρ = .nx ρ := by unfold forGo; rfl
theorem forGo_cons (mt : TgF) (mb : Env → RS) (d : D) (ds : List D) : forGo mt mb (d :: ds) ρ = (nx (mt d ρ)).to fun ρ1 => loopR (mb ρ1) (forGo mt mb ds) := by
  conv => lhs; unfold forGo
  congr 1
theorem lcGo_nil (mt : TgF) (tt : Env → R Bool) (me : Env → R D) : lcGo mt tt me ρ [] = .ok [] := by unfold lcGo; rfl
theorem lcGo_cons (mt : TgF) (tt : Env → R Bool) (me : Env → R D) (d : D) (ds : List D) : lcGo mt tt me ρ (d :: ds) = (nx (mt d ρ)).bind fun ρ1 => (nx (tt ρ1)).bind fun b => if b = true then (nx (me ρ1)).bind fun y => (lcGo mt tt me ρ ds).bind fun ys => .ok (y :: ys) else lcGo mt tt me ρ ds := by
  conv => lhs; unfold lcGo
end
/-- two fors, by functions -/
theorem lcGo2_fm {α β : Type} {vs1 : List Nat} {mt mt1 : TgF} {mi1 : Env → R (List D)} {tt1 : Env → R Bool} {me : Env → R D} {ρ : Env} (f : α → D) (m : α → List β) (g : β → D) (p : β → Bool) (k : β → D) : ∀ l : List α, (∀ a ∈ l, ∃ ρ1, mt (f a) ρ = .ok ρ1 ∧ mi1 ρ1 = .ok ((m a).map g) ∧ (m a).length ≤ 1000 ∧ ∀ b ∈ m a, ∃ ρ2, mt1 (g b) (wipeE ρ1 vs1) = .ok ρ2 ∧ tt1 ρ2 = .ok (p b) ∧ (p b = true → me ρ2 = .ok (k b))) →
    lcGo2 vs1 mt mYes mi1 mt1 tt1 me ρ (l.map f) = .ok ((l.flatMap fun a => (m a).filter p).map k)
  | [], _ => by rw [List.map_nil]; unfold lcGo2; rfl
  | a :: l, h => by
    obtain ⟨ρ1, e1, e2, e3, e4⟩ := h a (.head _)
    have lg := lcGo_fm (mt := mt1) (tt := tt1) (me := me) (ρ := wipeE ρ1 vs1) g k p (m a) e4
    rw [List.map_cons]
    unfold lcGo2
    rw [e1, nx_ok', R_bind_ok, show mYes ρ1 = .ok true from rfl, nx_ok', R_bind_ok, if_pos rfl, e2, nx_ok', R_bind_ok, List.length_map, if_pos e3, lg, nx_ok', R_bind_ok, lcGo2_fm f m g p k l fun x hx => h x (.tail _ hx), R_bind_ok, List.flatMap_cons, List.map_append]
theorem zip_txts (as : List (List Nat)) : ∀ bs : List (List Nat), zipD (as.map txt) (bs.map txt) = (as.zip bs).map fun x => .tup [txt x.1, txt x.2] := by
  induction as with
  | nil => intro bs; rfl
  | cons a r ih =>
    intro bs
    cases bs with
    | nil => rfl
    | cons b bs =>
      have := ih bs
      unfold zipD at this ⊢
      rw [List.map_cons, List.map_cons, List.zipWith_cons_cons, this, List.zip_cons_cons, List.map_cons]
/-! comparisons -/
theorem eq_bb (x y : Bool) : eqD (.bl x) (.bl y) = .ok (.bl (decide (x = y))) := by cases x <;> cases y <;> exact of_isBl (by decide +kernel)
theorem ne_bb (x y : Bool) : neD (.bl x) (.bl y) = .ok (.bl (decide (x ≠ y))) := by cases x <;> cases y <;> exact of_isBl (by decide +kernel)
theorem eq_ii (a b : Int) : eqD (.int a) (.int b) = .ok (.bl (decide (a = b))) := by
  show (if shp (.int a) = true ∧ shp (.int b) = true then R.ok (D.bl (eqv (.int a) (.int b))) else .bad) = _
  rw [if_pos ⟨rfl, rfl⟩]
  show R.ok (D.bl (a == b)) = _
  by_cases h : a = b <;> simp [h]
theorem ne_ii (a b : Int) : neD (.int a) (.int b) = .ok (.bl (decide (a ≠ b))) := by
  show (if shp (.int a) = true ∧ shp (.int b) = true then R.ok (D.bl (!eqv (.int a) (.int b))) else .bad) = _
  rw [if_pos ⟨rfl, rfl⟩]
  show R.ok (D.bl (!(a == b))) = _
  by_cases h : a = b <;> simp [h]
theorem eqv_ii (a b : Int) : eqv (.int a) (.int b) = decide (a = b) := by
  show (a == b) = _
  by_cases h : a = b <;> simp [h]
/-- plain data compare by eqv -/
theorem eq_pl {x y : D} (hx : pl 64 x) (hy : pl 64 y) : eqD x y = .ok (.bl (eqv x y)) := by
  unfold eqD
  rw [if_pos ⟨pl_shp hx (Nat.le_refl _), pl_shp hy (Nat.le_refl _)⟩]
theorem ne_pl' {x y : D} (hx : pl 64 x) (hy : pl 64 y) : neD x y = .ok (.bl (!eqv x y)) := by
  unfold neD
  rw [if_pos ⟨pl_shp hx (Nat.le_refl _), pl_shp hy (Nat.le_refl _)⟩]
theorem eqv_tup (xs ys : List D) : eqv (.tup xs) (.tup ys) = PyData.eqvAll (toPyAll xs) (toPyAll ys) := by
  unfold eqv
  rw [toPy, toPy, PyData.eqv]
theorem eqv_lst (xs ys : List D) : eqv (.lst xs) (.lst ys) = PyData.eqvAll (toPyAll xs) (toPyAll ys) := by
  unfold eqv
  rw [toPy, toPy, PyData.eqv]
theorem eqv_tcons (x y : D) (xs ys : List D) : eqv (.tup (x :: xs)) (.tup (y :: ys)) = (eqv x y && eqv (.tup xs) (.tup ys)) := by
  rw [eqv_tup, eqv_tup, toPyAll, toPyAll, PyData.eqvAll]; rfl
theorem eqv_lcons (x y : D) (xs ys : List D) : eqv (.lst (x :: xs)) (.lst (y :: ys)) = (eqv x y && eqv (.lst xs) (.lst ys)) := by
  rw [eqv_lst, eqv_lst, toPyAll, toPyAll, PyData.eqvAll]; rfl
theorem eqv_tnil : eqv (.tup []) (.tup []) = true := by rw [eqv_tup, toPyAll, PyData.eqvAll]
theorem eqv_lnil : eqv (.lst []) (.lst []) = true := by rw [eqv_lst, toPyAll, PyData.eqvAll]
theorem eqv_lnc (x : D) (xs : List D) : eqv (.lst []) (.lst (x :: xs)) = false := by rw [eqv_lst, toPyAll, toPyAll, PyData.eqvAll]
theorem eqv_lcn (x : D) (xs : List D) : eqv (.lst (x :: xs)) (.lst []) = false := by rw [eqv_lst, toPyAll, toPyAll, PyData.eqvAll]
theorem eqv_tnc (x : D) (xs : List D) : eqv (.tup []) (.tup (x :: xs)) = false := by rw [eqv_tup, toPyAll, toPyAll, PyData.eqvAll]
theorem eqv_tcn (x : D) (xs : List D) : eqv (.tup (x :: xs)) (.tup []) = false := by rw [eqv_tup, toPyAll, toPyAll, PyData.eqvAll]
theorem eqv_bb (a b : Bool) : eqv (.bl a) (.bl b) = decide (a = b) := by
  show (a == b) = _
  cases a <;> cases b <;> rfl
theorem eqv_ss (a b : Str) : eqv (.str a) (.str b) = decide (a = b) := by
  show (a == b) = _
  by_cases h : a = b <;> simp [h]
theorem txt_inj {a b : List Nat} : txt a = txt b ↔ a = b := by
  unfold txt
  constructor
  · intro h; injection h with h; injection h with h; exact congrArg Array.toList h
  · intro h; rw [h]
theorem eqv_txt (a b : List Nat) : eqv (txt a) (txt b) = decide (a = b) := by
  unfold txt
  rw [eqv_ss]
  refine decide_eq_decide.mpr ⟨fun h => by injection h with h; exact congrArg Array.toList h, fun h => by rw [h]⟩
theorem any_eqv_txt (u : List Nat) : ∀ l : List (List Nat), ((l.map txt).any fun z => eqv z (txt u)) = decide (u ∈ l)
  | [] => rfl
  | v :: l => by
    rw [List.map_cons, List.any_cons, any_eqv_txt u l, eqv_txt]
    by_cases h : v = u
    · subst h; simp
    · rw [decide_eq_false h, Bool.false_or]
      exact decide_eq_decide.mpr ⟨fun q => .tail _ q, fun q => (List.mem_cons.mp q).resolve_left fun z => h z.symm⟩
theorem in_txts {u : List Nat} {l : List (List Nat)} (hu : abc u = true) (hl : ∀ v ∈ l, abc v = true) : inD (txt u) (.lst (l.map txt)) = .ok (.bl (decide (u ∈ l))) := by
  have h1 : shp (txt u) = true := txt_shp u hu
  have h2 : shp (.lst (l.map txt)) = true := pl_shp (n := 2) (pl_lst fun d hd => by
    obtain ⟨v, hv, rfl⟩ := List.mem_map.mp hd
    exact pl_txt (hl v hv)) (by omega)
  unfold inD
  rw [show inB (txt u) (.lst (l.map txt)) = if shp (txt u) = true ∧ shp (.lst (l.map txt)) = true then .ok ((l.map txt).any fun z => eqv z (txt u)) else .bad from rfl, if_pos ⟨h1, h2⟩, R_bind_ok, any_eqv_txt]
theorem nin_txts {u : List Nat} {l : List (List Nat)} (hu : abc u = true) (hl : ∀ v ∈ l, abc v = true) : ninD (txt u) (.lst (l.map txt)) = .ok (.bl (!decide (u ∈ l))) := by
  have h1 : shp (txt u) = true := txt_shp u hu
  have h2 : shp (.lst (l.map txt)) = true := pl_shp (n := 2) (pl_lst fun d hd => by
    obtain ⟨v, hv, rfl⟩ := List.mem_map.mp hd
    exact pl_txt (hl v hv)) (by omega)
  unfold ninD
  rw [show inB (txt u) (.lst (l.map txt)) = if shp (txt u) = true ∧ shp (.lst (l.map txt)) = true then .ok ((l.map txt).any fun z => eqv z (txt u)) else .bad from rfl, if_pos ⟨h1, h2⟩, R_bind_ok, any_eqv_txt]
theorem isD_bb (a b : Bool) : isD (.bl a) (.bl b) = .ok (.bl (decide (a = b))) := id rfl
theorem isnD_bb (a b : Bool) : isnD (.bl a) (.bl b) = .ok (.bl (!decide (a = b))) := id rfl
theorem isNon_txt (w : List Nat) : isNon (txt w) = false := id rfl
theorem eqv_non : eqv .non .non = true := id rfl
theorem eqv_ns (a : List Nat) : eqv .non (txt a) = false := id rfl
theorem eqv_sn (a : List Nat) : eqv (txt a) .non = false := id rfl
theorem eqv_ni (a : Int) : eqv .non (.int a) = false := id rfl
theorem eqv_in (a : Int) : eqv (.int a) .non = false := id rfl
theorem eqv_nt (a : List D) : eqv .non (.tup a) = false := id rfl
theorem eqv_tn (a : List D) : eqv (.tup a) .non = false := id rfl
theorem eqv_nl (a : List D) : eqv .non (.lst a) = false := id rfl
theorem eqv_ln (a : List D) : eqv (.lst a) .non = false := id rfl
theorem str_e : D.str (Str.ofString "") = txt [] := congrArg D.str (by decide +kernel)
theorem str_q : D.str (Str.ofString "?") = txt [63] := congrArg D.str (by decide +kernel)
theorem str_p : D.str (Str.ofString "p") = txt [112] := congrArg D.str (by decide +kernel)
theorem str_d : D.str (Str.ofString ".") = txt [46] := congrArg D.str (by decide +kernel)
theorem str_a : D.str (Str.ofString "a") = txt [97] := congrArg D.str (by decide +kernel)
theorem str_ab : D.str (Str.ofString "ab") = txt [97, 98] := congrArg D.str (by decide +kernel)
theorem str_qp : D.str (Str.ofString "?p") = txt [63, 112] := congrArg D.str (by decide +kernel)
theorem str_qqp : D.str (Str.ofString "??p") = txt [63, 63, 112] := congrArg D.str (by decide +kernel)
theorem str_d5 : D.str (Str.ofString ".....") = txt [46, 46, 46, 46, 46] := congrArg D.str (by decide +kernel)
theorem txt_at {w : List Nat} {i : Int} (hw : w.length ≤ 16777216) (h0 : 0 ≤ i) (h1 : i < w.length) : ∃ c ∈ w, ixD (txt w) (.int i) = .ok (txt [c]) := by
  obtain ⟨h, e⟩ := at_lt w h0 h1
  refine ⟨_, List.getElem_mem h, ?_⟩
  show (if (Str.mk w.toArray).length ≤ sizeLine then ofO (atI (Str.mk w.toArray).cps.toList i) fun c => R.ok (D.str ⟨#[c]⟩) else .bad) = _
  rw [if_pos (by rw [sizeLine_eq]; exact hw), show (Str.mk w.toArray).cps.toList = w from rfl, e, ofO_some]
  rfl
theorem ixD_txtE {w : List Nat} (i : Int) (hw : w.length ≤ 16777216) : ixD (txt w) (.int i) = ofO (atI w i) fun c => .ok (txt [c]) := by
  show (if (Str.mk w.toArray).length ≤ sizeLine then ofO (atI (Str.mk w.toArray).cps.toList i) fun c => R.ok (D.str ⟨#[c]⟩) else .bad) = _
  rw [if_pos (by rw [sizeLine_eq]; exact hw)]
  rfl
theorem len_txt (w : List Nat) (h : w.length ≤ 16777216) : lenF [txt w] = .ok (.int w.length) := by
  show (if (Str.mk w.toArray).length ≤ sizeLine then R.ok (D.int (Str.mk w.toArray).length) else .bad) = _
  rw [if_pos (by rw [sizeLine_eq]; exact h)]
  rfl
theorem mJoinT (w : List Nat) (a : Env → R D) (ρ : Env) : mJoin (mC (txt w)) a ρ = (a ρ).bind fun y => joinD (txt w) y := mJoin_eq ρ (mC .non) a _
theorem joinT (w : List Nat) (h : w.length ≤ 1000) : joinD (txt []) (.lst (w.map fun c => txt [c])) = .ok (txt w) := by
  rw [← str_e]; exact joinD_one w h
theorem cutE_to {α : Type} (xs : List α) (k : Nat) : cutD xs none (some (k : Nat)) = xs.take k := by
  unfold cutD HT.sIx
  simp only
  rw [if_neg (by omega), Int.toNat_natCast, List.drop_zero, Nat.sub_zero]
  by_cases h : k ≤ xs.length
  · rw [Nat.min_eq_left h]
  · rw [Nat.min_eq_right (by omega), List.take_of_length_le (Nat.le_refl _), List.take_of_length_le (by omega)]
theorem cutE_from {α : Type} (xs : List α) (k : Nat) : cutD xs (some (k : Nat)) none = xs.drop k := cut_from xs k
theorem cutE_fr1 {α : Type} (w : List α) (k : Nat) : cutD w (some ((k : Int) + 1)) none = w.drop (k + 1) := cut_from w (k + 1)
theorem cutE_1 {α : Type} (w : List α) : cutD w (some 1) none = w.drop 1 := cut_from w 1
theorem cutE_t1 {α : Type} (w : List α) : cutD w none (some 1) = w.take 1 := cutE_to w 1
theorem cutE_t2 {α : Type} (w : List α) : cutD w none (some 2) = w.take 2 := cutE_to w 2
theorem cutE_t3 {α : Type} (w : List α) : cutD w none (some 3) = w.take 3 := cutE_to w 3
theorem atE_nat {α : Type} (l : List α) (k : Nat) : atI l (k : Nat) = l[k]? := by
  unfold atI ixN
  rw [if_pos (by omega)]
  by_cases h : ((k : Nat) : Int) < (l.length : Nat)
  · rw [if_pos h]; show l[((k : Nat) : Int).toNat]? = _; rw [Int.toNat_natCast]
  · rw [if_neg h]; exact (List.getElem?_eq_none_iff.mpr (by omega)).symm
theorem atE_0 {α : Type} (a : α) (l : List α) : atI (a :: l) 0 = some a := atE_nat (a :: l) 0
theorem atE_1 {α : Type} (a b : α) (l : List α) : atI (a :: b :: l) 1 = some b := atE_nat (a :: b :: l) 1
theorem atE_2 {α : Type} (a b c : α) (l : List α) : atI (a :: b :: c :: l) 2 = some c := atE_nat (a :: b :: c :: l) 2
theorem atE_3 {α : Type} (a b c d : α) (l : List α) : atI (a :: b :: c :: d :: l) 3 = some d := atE_nat (a :: b :: c :: d :: l) 3
theorem atE_4 {α : Type} (a b c d e : α) (l : List α) : atI (a :: b :: c :: d :: e :: l) 4 = some e := atE_nat (a :: b :: c :: d :: e :: l) 4
theorem atE_5 {α : Type} (a b c d e f : α) (l : List α) : atI (a :: b :: c :: d :: e :: f :: l) 5 = some f := atE_nat (a :: b :: c :: d :: e :: f :: l) 5
theorem atE_last {α : Type} (l : List α) (x : α) : atI (l ++ [x]) (-1) = some x := by
  unfold atI ixN
  have e1 : (l ++ [x]).length = l.length + 1 := by rw [List.length_append]; rfl
  rw [if_neg (by omega), if_pos (by rw [e1]; omega), e1]
  show (l ++ [x])[((-1 : Int) + ((l.length + 1 : Nat) : Int)).toNat]? = some x
  rw [show ((-1 : Int) + ((l.length + 1 : Nat) : Int)).toNat = l.length by omega, List.getElem?_append_right (Nat.le_refl _), Nat.sub_self]
  rfl
/-! plain data, level by level -/
theorem plx_txt {w : List Nat} (h : abc w = true) (n : Nat) : pl (n + 1) (txt w) := pl_mono (pl_txt h) (by omega)
theorem plx_int (i : Int) (n : Nat) : pl (n + 1) (.int i) := pl_mono (pl_int i) (by omega)
theorem plx_bl (i : Bool) (n : Nat) : pl (n + 1) (.bl i) := pl_mono (pl_bl i) (by omega)
theorem plx_non (n : Nat) : pl (n + 1) .non := pl_mono pl_non (by omega)
theorem plx_up {d : D} {n : Nat} (h : pl n d) (m : Nat) (l : n ≤ m) : pl m d := pl_mono h l
end Mir
/-! sets of texts that are walked: new, add, sorted -/
namespace Mir
open PySem PySem.Spec PyProof.Rows L2 PySem.Froz
structure TxW (P : Program) (w : World) (D : SD) (l : List Str) : Prop where
  ok : TxOk P w D l
  nd : l.Nodup
  ris : Ris D.2.2.place.toList
  led : w.params.followText "set-order" = true ∨ D.2.2.led = true
section
variable {P : Program} {w : World} {A : Around} {E : Value → Shared → Prop} {s : Shared}
theorem tx_place (ep : Nat) (es1 : Array (Int × Value)) (t2 : SetTable) (b : Bool) (h : Ris t2.place.toList) : Ris (tailTx ep es1 t2 b).2.2.place.toList ∧ (tailTx ep es1 t2 b).2.2.led = t2.led := by
  unfold tailTx
  by_cases c : (!b && t2.tooFull) = true
  · rw [if_pos c]; exact ⟨relayAll_ris t2 es1 _, relayAll_led t2 es1 _⟩
  · rw [if_neg c]; exact ⟨h, rfl⟩
theorem add_place (D : SD) (x : Int) (v : Value) (h : Ris D.2.2.place.toList) : Ris (addTx x v D).2.2.place.toList ∧ (addTx x v D).2.2.led = D.2.2.led := by
  have r := layNew_ris D.2.2 D.1 x v h
  have e := layNew_led D.2.2 D.1 x v
  unfold addTx
  generalize layNew D.2.2 D.1 x v = Z at r e ⊢
  have q : Ris (if Z.2.1.plain = true then { Z.2.1 with plain := false } else Z.2.1).place.toList ∧ (if Z.2.1.plain = true then { Z.2.1 with plain := false } else Z.2.1).led = Z.2.1.led := by
    split
    · exact ⟨r, rfl⟩
    · exact ⟨r, rfl⟩
  obtain ⟨a, b⟩ := tx_place D.2.1 Z.1 _ Z.2.2.1 q.1
  exact ⟨a, b.trans (q.2.trans e)⟩
theorem TxW.add {D : SD} {l : List Str} {k : Str} (u : Tok) (h : TxW P w D l) (hk : k ∉ l) : TxW P w (addTx (hashStr w k) (.str k u) D) (k :: l) := by
  obtain ⟨a, b⟩ := add_place D (hashStr w k) (.str k u) h.ris
  exact ⟨add_ok u h.ok, List.nodup_cons.mpr ⟨hk, h.nd⟩, a, h.led.imp id fun z => b.trans z⟩
theorem TxW.new : TxW P w (#[], 0, .fresh 0 0 (!w.params.followText "set-order")) [] := by
  refine ⟨TxOk.nil rfl, List.nodup_nil, List.Pairwise.nil, ?_⟩
  show _ ∨ (!w.params.followText "set-order") = true
  cases w.params.followText "set-order"
  · exact .inr rfl
  · exact .inl rfl
theorem add_dup {a : Addr} {D : SD} {l : List Str} {k : Str} {u : Tok} {Q : Bool → Shared → Prop} (ho : s.heap.get? a = some (sObj "set" D)) (F : TxOk P w D l) (hk : k ∈ l) (hb : l.length < scanBound) (h : Q false s) :
    wpAny (model P w) A (setAddHashed a (.str k u) (hashStr w k)) Q E s := by
  obtain ⟨es, ep, t⟩ := D
  have hd : (sObj "set" (es, ep, t)).data = .set es ep t := rfl
  have h0 : es.size < scanBound := by have z : es.size = l.length := F.sz; omega
  obtain ⟨e, he, q⟩ := (F.mem k).mp hk
  obtain ⟨j, hj⟩ : ∃ j, List.findIdx? (fun e => (strKind P w).is k e.2) es.toList = some j := by
    cases z : List.findIdx? (fun e => (strKind P w).is k e.2) es.toList with
    | some j => exact ⟨j, rfl⟩
    | none => have := List.findIdx?_eq_none_iff.mp z e he; rw [q] at this; cases this
  unfold setAddHashed setAddHashedIn
  refine wpAny_holding (wpAny_bind (wpAny_setState_of ho hd F.fit ?_))
  dsimp only
  rw [byScan_of rfl h0 F.el, if_pos rfl]
  unfold setAddByScan
  refine wpAny_bind (wpAny_bind (wpAny_rule (wpAny_bind (wpAny_setScan_of (knd := strKind P w) (is_str k u) ho hd F.fit F.el ?_))))
  rw [hj]
  exact wpAny_pure (wpAny_pure h)
end
end Mir
namespace Mir
open PySem PySem.Spec PyProof.Rows L2 PySem.Froz
section
variable {P : Program} {w : World} {A : Around} {E : Value → Shared → Prop} {s : Shared}
theorem call_addT {a : Addr} {D : SD} {l : List Str} {k : Str} {u : Tok} {Q : Value → Shared → Prop} (ho : s.heap.get? a = some (sObj "set" D)) (F : TxW P w D l) (hb : l.length + 1 < scanBound)
    (h : ∀ (h' : Heap) (D' : SD), TxW P w D' (if k ∈ l then l else k :: l) → h'.get? a = some (sObj "set" D') → (∀ b o, b ≠ a → s.heap.get? b = some o → h'.get? b = some o) → Q .none { s with heap := h', toks := s.toks + 1 }) :
    wpAny (model P w) A (call (.builtin "set.add") [.ref a, .str k u]) Q E s := by
  have hT : s.TypeIs (.ref a) "set" := ⟨_, ho, rfl⟩
  refine wpAny_call_entry PySem.F.slot_set_add hT PySem.F.entry_set_add ?_ (PySem.F.args_set_add_2 _ _)
  unfold Builtin.«set.add» Builtin.Frozenset.oneOther
  simp only [List.isEmpty_nil, bind_assoc]
  unfold Builtin.Frozenset.addrOf setAdd
  refine wpAny_bind (wpAny_pure ?_)
  try dsimp only
  refine wpAny_bind (wpAny_pure ?_)
  try dsimp only
  refine wpAny_bind (wpAny_holding (wpAny_bind ((strKind P w).pyHash (is_str k u) ?_)))
  show wpAny (model P w) A.in1 (setAddHashed a (.str k u) (hashStr w k)) _ E { s with toks := s.toks + 1 }
  by_cases hk : k ∈ l
  · rw [if_pos hk] at h
    refine add_dup (s := { s with toks := s.toks + 1 }) ho F.ok hk (by omega) ?_
    show wpAny _ _ (ret Value.none) _ _ _
    exact wpAny_pure ⟨_, rfl, h s.heap D F ho fun b o _ e => e⟩
  · rw [if_neg hk] at h
    refine add_x (s := { s with toks := s.toks + 1 }) ho F.ok hk hb ?_
    show wpAny _ _ (ret Value.none) _ _ _
    exact wpAny_pure ⟨_, rfl, h _ _ (F.add u hk) (get_upd _ ho rfl) fun b o hb e => (Heap.get?_update_other _ _ (Ne.symm hb)).trans e⟩
def strO : Value → Str
  | .str x _ => x
  | _ => Str.empty
theorem perm_of_sub {α : Type} [BEq α] [LawfulBEq α] : ∀ {l ys : List α}, l.Nodup → (∀ x ∈ l, x ∈ ys) → ys.length ≤ l.length → l.Perm ys
  | [], ys, _, _, h => by
    have : ys = [] := List.eq_nil_of_length_eq_zero (by simpa using h)
    rw [this]
  | x :: r, ys, hn, hs, h => by
    obtain ⟨h1, h2⟩ := List.nodup_cons.mp hn
    have hx := hs x (.head _)
    have pe := List.perm_cons_erase hx
    refine (List.Perm.cons x (perm_of_sub h2 (fun y hy => ?_) ?_)).trans pe.symm
    · have hyx : y ≠ x := fun z => h1 (z ▸ hy)
      exact (List.mem_erase_of_ne hyx).mpr (hs y (.tail _ hy))
    · have := pe.length_eq
      rw [List.length_cons] at this h
      omega
theorem strs_of : ∀ (l : List Value), (∀ v ∈ l, ∃ k u, v = Value.str k u) → StrsAre l (l.map strO)
  | [], _ => .nil
  | v :: l, h => by
    obtain ⟨k, u, rfl⟩ := h v (.head _)
    exact .cons k u (strs_of l fun x hx => h x (.tail _ hx))
theorem sorted_T {a : Addr} {D : SD} {l : List Str} {Q : Value → Shared → Prop} (ho : s.heap.get? a = some (sObj "set" D)) (F : TxW P w D l) (hh : A.handled = none) (hb : l.length < 4096)
    (hQ : ∀ (s' : Shared) (p : Addr) (out : Array Value) (c : Nat) (ys : List Str), (∀ b o, s.heap.get? b = some o → s'.heap.get? b = some o) → s'.gens = s.gens → s'.os = s.os → s.heap.objs.size ≤ p →
      s'.heap.get? p = some (seqObj "list" out c) → StrsAre out.toList ys → ys.Perm l → sortedS ys = true → Q (.ref p) s') :
    wpAny (model P w) A (call (.builtin "sorted") [.ref a]) Q E s := by
  obtain ⟨es, ep, t⟩ := D
  have hsz : es.size = l.length := F.ok.sz
  have hz2 : sizeLine = 16777216 := sizeLine_eq
  have hbb : es.size < scanBound := by rw [hsz]; unfold scanBound; omega
  refine Calls.call_function_entry kind_sorted plain_sorted entry_sorted (args_sorted1 _) ?_
  unfold Builtin.«sorted»
  refine wpAny_bind (m := checkCount "sorted" 1 1 _) (wpAny_pure ?_)
  refine wpAny_bind (collect_set (A := A.in1) hh ⟨_, ho, rfl, rfl⟩ F.ok.fit hbb F.ris F.led fun s1 vs k1 hz g1 o1 pm => ?_)
  have sh : ∀ e ∈ es.toList, ∃ k u, e.2 = Value.str k u := fun e he => by
    obtain ⟨⟨k, q, _⟩, _⟩ := F.ok.el e he
    obtain ⟨u, q⟩ := Value.isStrOf_shape (x := k) (v := e.2) q
    exact ⟨k, u, q⟩
  have hI : StrsAre vs (vs.map strO) := strs_of vs fun v hv => by
    obtain ⟨e, he, q⟩ := List.mem_map.mp (pm.mem_iff.mp hv)
    rw [← q]; exact sh e he
  have pk : (vs.map strO).Perm l := by
    have q := pm.map strO
    rw [List.map_map] at q
    refine (perm_of_sub F.nd (fun x hx => ?_) ?_).symm
    · obtain ⟨e, he, z⟩ := (F.ok.mem x).mp hx
      obtain ⟨u, z⟩ := Value.isStrOf_shape (x := x) (v := e.2) z
      exact q.mem_iff.mpr (List.mem_map.mpr ⟨e, he, by show strO e.2 = x; rw [z]; rfl⟩)
    · rw [q.length_eq, List.length_map, Array.length_toList, hsz]; exact Nat.le_refl _
  have hvl : vs.length = l.length := by have := pk.length_eq; rw [List.length_map] at this; exact this
  refine wpAny_bind (wpAny_newList ?_ (by omega))
  have hoL : (s1.heap.push (seqObj "list" vs.toArray 0)).get? s1.heap.objs.size = some (seqObj "list" vs.toArray 0) := Heap.get?_push_size _ rfl
  refine wpAny_bind (wpAny_holding (wpAny_call_entry slot_list_sort ⟨_, hoL, rfl⟩ entry_list_sort (list_sort_treeKAny strKind_oneLt hoL hI.keysOf (fun v₁ v₂ rest e => keyKind_strs (by rw [← e]; exact hI)) (by omega) fun st' hp hs => ?_) (args_list_sort _)))
  obtain ⟨ys, a1, a2, a3⟩ := sorted_out_str hI hp hs
  refine ⟨_, rfl, ?_⟩
  obtain ⟨c, hc⟩ := sortedHeap_at (vs := vs) (out := (arrOf st').map (·.2)) hoL
  refine wpAny_pure ⟨_, rfl, hQ _ s1.heap.objs.size _ c ys (fun b u e => ?_) g1 o1 hz hc a1 (a2.trans pk) a3⟩
  have q := k1 b u e
  have lt := Heap.lt_size q
  show (sortedHeap (s1.heap.push (seqObj "list" vs.toArray 0)) s1.heap.objs.size vs _).get? b = some u
  exact (sortedHeap_old (Nat.ne_of_lt lt) (by rw [size_push']; exact Nat.lt_succ_of_lt lt)).trans (Heap.get?_push_of_some _ q)
end
end Mir
namespace Mir
open PySem PySem.Spec PyProof.Rows L2 PySem.Froz
/-! ### a set comprehension over a family of tracked sets -/
structure SFam (P : Program) (w : World) where
  κ : Type
  so : Addr → κ → HO
  k0 : κ
  up : V → κ → κ → Prop
  new : ∀ (H : Hp) (h : Heap), ObjOk P w H (h.push { cls := .type "set", dict := none, data := .set #[] 0 (.fresh 0 0 (!w.params.followText "set-order")) }) h.objs.size (so h.objs.size k0)
  add : ∀ (Y : Cx), Y.prog = P → Y.w = w → ∀ {pins : List (Addr × Obj)} {σ : L2.St} {H : Hp} {s : Shared} {E : Value → Shared → Prop} {D : Addr} {k k' : κ} {y : V} {u : Value} {Q : Value → Shared → Prop}, Inv Y pins σ H s → H D = some (so D k) → RelV y u → up y k k' → (∀ s', Inv Y pins σ (upd H D (so D k')) s' → Q .none s') → wpAny (model Y.prog Y.w) Y.A (call (.builtin "set.add") [.ref D, u]) Q E s
section
variable {X : Cx}
/-- what the comprehension asks: the set at D runs through states of its family -/
def tSf (Z : SFam X.prog X.w) (wi : TI) (g : TG) (tt : TT) (te : TE) (vs : List Nat) : TE := fun σ H Q => wi σ H fun J H1 => ∀ D, H1 D = none → ∃ W : Nat → Nat → Hp → Prop, (∃ m, W 0 m (upd H1 D (Z.so D Z.k0))) ∧ ∀ i m H, W i m H →
  (J.stop i H ∧ Q (.ref D) H) ∨ (J.go i H ∧ ∃ Nx : Hp → Prop, (∀ H', Nx H' → ∃ m', m' < m ∧ W (i + 1) m' H') ∧ ∀ x H', J.yld i H x H' → g x (wipe σ vs) H' fun σ2 H2 => wipe σ2 vs = wipe σ vs ∧ tt σ2 H2 fun b H3 =>
    if b = true then te σ2 H3 fun y H4 => ∃ k k', Z.up y k k' ∧ H4 D = some (Z.so D k) ∧ Nx (upd H4 D (Z.so D k')) else Nx H3)
variable {elt tg iter : Expr} {ifs : List Expr} {scope : Scope} {own : List (Str × Nat)} {pos pos2 : Pos} {wi : TI} {g : TG} {tt : TT} {te : TE}
theorem sf_run (Z : SFam X.prog X.w) {pins : List (Addr × Obj)} {s : Shared} {σ : L2.St} {H : Hp} {Q : VK} {use : Option (Value → Sem Unit)} {Qf : Value → Shared → Prop}
    (calm : X.calm = true) (nd : X.N.Nodup) (I : Inv X pins σ H s) (walk : PI X tg iter wi) (blk : BlkOk X.N X.env.scope scope own)
    (pgs : ∀ (s : Shared) (H : Hp) (C : Addr) (cl : List (Str × Addr)) (fp : List Addr), PG (X.blk s H scope (compEnvC scope cl C X.env) fp) tg g)
    (pts : ∀ (s : Shared) (H : Hp) (C : Addr) (cl : List (Str × Addr)) (fp : List Addr), PTs (X.blk s H scope (compEnvC scope cl C X.env) fp) ifs tt)
    (pes : ∀ (s : Shared) (H : Hp) (C : Addr) (cl : List (Str × Addr)) (fp : List Addr), PE (X.blk s H scope (compEnvC scope cl C X.env) fp) elt te)
    (unf : ∀ x, foldedSetIterable iter X.env x = pure x) (h : tSf Z wi g tt te (own.map (·.2)) σ H Q)
    (back : ∀ D C s' m H', Inv X pins σ H' s' → Q (.ref D) H' → s'.heap.Ns C m → FpOk X pins H' C → compPost (model X.prog X.w) X.A X.xe use Qf (.ref D) C (.ok .next) s') :
    wpAny (model X.prog X.w) X.A (comprehension (.SetComp elt [⟨tg, iter, ifs, 0⟩] scope pos) scope X.env pos2 (newSet (.type "set")) false (eval iter X.env) use) Qf X.xe s := by
  have cells : ∀ y ∈ scope.names, y.2 = .free → ∃ c, X.env.cells.lookup y.1 = some c := fun y hy e => (blk.free y hy e).elim (fun k => I.ok.has _ (.inl k)) fun k => I.ok.has _ (.inr k)
  refine wpAny_comprehension_free (use := use) rfl unf (closure_ok cells) blk.kind (fun y hy e => by rw [blk.uniq y hy, e]) (thn (walk.run pins s σ H _ I h) fun _ _ hx => thn hx fun _ s2 hy => ?_)
  obtain ⟨it, fp, tn, J, H2, rfl, I2, T, st2, f2, q⟩ := hy
  refine PpSet.newSet_ok (newEnv_comp ?_)
  generalize eD : s2.heap.objs.size = D
  have dn : H2 D = none := I2.hok.fresh (Nat.le_of_eq eD)
  obtain ⟨W, ⟨m0, w0⟩, turn⟩ := q D dn
  generalize e3 : ({ s2 with heap := s2.heap.push { cls := .type "set", dict := none, data := .set #[] 0 (.fresh 0 0 (!X.w.params.followText "set-order")) } } : Shared) = s3
  have hp3 : ∀ b o, s2.heap.get? b = some o → s3.heap.get? b = some o := fun b o e => by rw [← e3]; exact Heap.get?_push_of_some _ e
  have sz3 : s3.heap.objs.size = s2.heap.objs.size + 1 := by rw [← e3]; exact size_push' _ _
  have I3 : Inv X pins σ (upd H2 D (Z.so D Z.k0)) s3 := by
    rw [← e3]
    refine I2.laid (t' := s2.toks) (fun b o e => Heap.get?_push_of_some _ e) (Nat.le_of_eq eD) ?_
    rw [← eD]
    exact Z.new _ _
  have f3 : ∀ b ∈ fp, FpOk X pins (upd H2 D (Z.so D Z.k0)) b ∧ b < s3.heap.objs.size := fun b hb => by
    obtain ⟨o, e, _⟩ := T.obj _ _ st2 b hb
    have lt := Heap.lt_size e
    exact ⟨⟨by rw [upd_ne (by rw [← eD]; exact Nat.ne_of_lt lt)]; exact (f2 b hb).1, (f2 b hb).2⟩, by rw [sz3]; exact Nat.lt_succ_of_lt lt⟩
  have st3 : tn 0 s3.heap := T.keep _ _ _ st2 fun b _ o e => hp3 b o e
  have I4 := block_start I3 blk nd f3
  have pg := pgs s3 (upd H2 D (Z.so D Z.k0)) s3.heap.objs.size (cellsFrom (s3.heap.objs.size + 1) scope.names (cloFrom X.env.cells scope.names [])) fp
  have pt := pts s3 (upd H2 D (Z.so D Z.k0)) s3.heap.objs.size (cellsFrom (s3.heap.objs.size + 1) scope.names (cloFrom X.env.cells scope.names [])) fp
  have pe := pes s3 (upd H2 D (Z.so D Z.k0)) s3.heap.objs.size (cellsFrom (s3.heap.objs.size + 1) scope.names (cloFrom X.env.cells scope.names [])) fp
  show codeAny _ _ (.compStart (.SetComp elt [⟨tg, iter, ifs, 0⟩] scope pos) 0 (.ref it) (.ref D) (compEnvC scope (cellsFrom (s3.heap.objs.size + 1) scope.names (cloFrom X.env.cells scope.names [])) s3.heap.objs.size X.env)) (compPost (model X.prog X.w) X.A X.xe use Qf (.ref D) s3.heap.objs.size) { s3 with heap := pushCells (s3.heap.push { cls := .type "dict", data := .dict #[] }) scope.names }
  generalize eC : compEnvC scope (cellsFrom (s3.heap.objs.size + 1) scope.names (cloFrom X.env.cells scope.names [])) s3.heap.objs.size X.env = ce at I4 pg pt pe ⊢
  have cl : ce.locals = s3.heap.objs.size := by subst eC; rfl
  generalize eH : upd H2 D (Z.so D Z.k0) = H3 at I3 I4 pg pt pe w0 f3
  generalize e4 : ({ s3 with heap := pushCells (s3.heap.push { cls := .type "dict", data := .dict #[] }) scope.names } : Shared) = s4 at I4 ⊢
  have st4 : tn 0 s4.heap := T.keep _ _ _ st3 fun b _ o e => by rw [← e4]; exact pushCells_keeps _ _ _ _ (Heap.get?_push_of_some _ e)
  have stat : ∀ {σ' : L2.St} {H' : Hp} {s' : Shared}, Inv (X.blk s3 H3 scope ce fp) [] σ' H' s' → (∀ b ∈ fp, H' b = none) → ∀ b ∈ fp, FpOk (X.blk s3 H3 scope ce fp) [] H' b := fun J hn b hb =>
    ⟨hn b hb, (J.ok.exf b hb).1, J.ok.exfs b hb, .inl hb, fun x c e => (J.ok.exf b hb).2 x c e, fun p hp => absurd (show p ∈ ([] : List (Addr × Obj)) ++ [] from hp) (by simp)⟩
  have loop : codeAny (model X.prog X.w) X.A (.compLoop (.SetComp elt [⟨tg, iter, ifs, 0⟩] scope pos) 0 (.ref it) (.ref D) ce) (compPost (model X.prog X.w) X.A X.xe use Qf (.ref D) s3.heap.objs.size) s4 := by
    refine PpSet.compLoopS_any (fun n s' => ∃ i H', Inv (X.blk s3 H3 scope ce fp) [] (wipe σ (own.map (·.2))) H' s' ∧ tn i s'.heap ∧ (∀ b ∈ fp, H' b = none) ∧ W i n H') ?_ m0 ⟨0, H3, I4, st4, fun b hb => (f3 b hb).1.1, w0⟩
    rintro n s5 ⟨i, H5, I5, st5, n5, w5⟩
    rcases turn i n H5 w5 with ⟨stop, qq⟩ | ⟨go, Nx, hNx, step⟩
    · refine thnF (T.done (X.blk s3 H3 scope ce fp) rfl rfl rfl calm i [] s5 _ H5 (fun _ _ => False) I5 (stat I5 n5) st5 stop) fun r s6 ⟨hr, I6⟩ => ?_
      subst hr
      have I7 : Inv X pins σ H5 s6 := I3.call' (ch := fp) I6.os I6.base I6.hok I6.bare fun b hb => by
        obtain ⟨_, a1, a2, a3, a4, a5⟩ := (f3 b hb).1
        exact ⟨a3, a1, a4, a5⟩
      have nC : H5 s3.heap.objs.size = none := cl ▸ I6.free
      obtain ⟨m, hn, _⟩ := I6.loc
      exact back D s3.heap.objs.size s6 m H5 I7 qq (cl ▸ hn) (I3.fpOk (Nat.le_refl _) nC)
    · refine thnF (T.item (X.blk s3 H3 scope ce fp) rfl rfl rfl calm i [] s5 _ H5 (fun _ _ => False) I5 (stat I5 n5) st5 go) fun r s6 ⟨u, hr, h6⟩ => ?_
      subst hr
      refine thnF h6 fun _ s7 ⟨x, H7, I7, r7, y7, st7, n7⟩ => ?_
      have J7 := I7.pinned (stat I7 n7) (T.obj _ _ st7)
      refine thnF (pg.run _ s7 _ H7 x u _ J7 r7 (step x H7 y7)) fun _ s8 ⟨σ8, H8, I8, hw8, q8⟩ => thnF (pt.run _ s8 σ8 H8 _ I8 q8) fun b s9 ⟨H9, I9, q9⟩ => ?_
      have fin : ∀ {s' : Shared} {H' : Hp}, Inv (X.blk s3 H3 scope ce fp) ([] ++ pinsAt fp s7.heap) σ8 H' s' → Nx H' → ∃ m, m < n ∧ ∃ i H', Inv (X.blk s3 H3 scope ce fp) [] (wipe σ (own.map (·.2))) H' s' ∧ tn i s'.heap ∧ (∀ b ∈ fp, H' b = none) ∧ W i m H' := fun {s' H'} J nx => by
        obtain ⟨m', hm, w'⟩ := hNx H' nx
        have pin : ∀ b ∈ fp, ∀ o, s7.heap.get? b = some o → s'.heap.get? b = some o ∧ H' b = none := fun b hb o e => by
          obtain ⟨z1, z2, _⟩ := J.pin (b, o) (List.mem_append_right _ (List.mem_append_right _ (mem_pinsAt hb e)))
          exact ⟨z1, z2⟩
        refine ⟨m', hm, i + 1, H', (J.unpinned (pins := [])).weak (by rw [← hw8, wipe_length]) (fun j v e => ?_), T.keep _ _ _ st7 fun b hb o e => (pin b hb o e).1, fun b hb => ?_, w'⟩
        · rw [← hw8] at e
          exact (wipe_some e).1
        · obtain ⟨o, e, _⟩ := T.obj _ _ st7 b hb
          exact (pin b hb o e).2
      cases b with
      | false => exact fin I9 q9
      | true =>
        refine thnF (pe.run _ s9 σ8 H9 _ I9 q9) fun z s10 ⟨yv, H10, I10, r10, k, k', hup, hD10, nx⟩ => ?_
        exact Z.add (X.blk s3 H3 scope ce fp) rfl rfl I10 hD10 r10 hup fun s11 I11 => fin I11 nx
  exact PpSet.codeAny_compStart_set loop (T.self X.A 0 _ _ _ st4 loop)
theorem pe_sf (Z : SFam X.prog X.w) (calm : X.calm = true) (nd : X.N.Nodup) (walk : PI X tg iter wi) (blk : BlkOk X.N X.env.scope scope own)
    (pgs : ∀ (s : Shared) (H : Hp) (C : Addr) (cl : List (Str × Addr)) (fp : List Addr), PG (X.blk s H scope (compEnvC scope cl C X.env) fp) tg g)
    (pts : ∀ (s : Shared) (H : Hp) (C : Addr) (cl : List (Str × Addr)) (fp : List Addr), PTs (X.blk s H scope (compEnvC scope cl C X.env) fp) ifs tt)
    (pes : ∀ (s : Shared) (H : Hp) (C : Addr) (cl : List (Str × Addr)) (fp : List Addr), PE (X.blk s H scope (compEnvC scope cl C X.env) fp) elt te) (unf : ∀ x, foldedSetIterable iter X.env x = pure x := by intro _; rfl) :
    PE X (.SetComp elt [⟨tg, iter, ifs, 0⟩] scope pos) (tSf Z wi g tt te (own.map (·.2))) := by
  refine ⟨fun pins s σ H Q I h => ?_⟩
  rw [PpSet.eval_SetComp]
  refine sf_run Z calm nd I walk blk pgs pts pes unf h fun D C s' m H' J q hn ⟨f0, f1, f2, f3, f4, f5⟩ => ⟨m, hn, fun h'' sb => ?_⟩
  exact ⟨.ref D, H', J.turned (t' := s'.toks) (fun b o hb e => (sb.2 b hb).trans e) f0 f1 f3 f4 f5, rfl, q⟩
end
end Mir
namespace Mir
open PySem PySem.Spec PyProof.Rows L2 PySem.Froz
/-! ### two families: texts, ints; each by the list of what it has -/
def txSet (P : Program) (w : World) (a : Addr) (l : List Str) : HO := .ext fun h => ∃ D, h.get? a = some (sObj "set" D) ∧ TxW P w D l
theorem txSet_ok {P : Program} {w : World} {H : Hp} {h : Heap} {a : Addr} {l : List Str} {D : SD} (e : h.get? a = some (sObj "set" D)) (F : TxW P w D l) : ObjOk P w H h a (txSet P w a l) :=
  ⟨⟨D, e, F⟩, ⟨_, e⟩, fun h1 h2 ⟨D, e, F⟩ k => ⟨D, k _ e, F⟩⟩
def addL {α : Type} [DecidableEq α] (k : α) (l : List α) : List α := if k ∈ l then l else k :: l
def famT (P : Program) (w : World) : SFam P w where
  κ := List Str
  so := txSet P w
  k0 := []
  up := fun y l l' => ∃ k, y = .str k ∧ l.length + 1 < 4096 ∧ l' = addL k l
  new := fun H h => txSet_ok (Heap.get?_push_size _ rfl) TxW.new
  add := fun Y hP hw {pins σ H s E D l l' y u Q} I hD r ⟨k, hy, hl, hl'⟩ hq => by
    subst hP hw hy hl'
    obtain ⟨t, rfl⟩ := r
    obtain ⟨D0, e0, F0⟩ := (I.hok D _ hD).1
    refine call_addT e0 F0 (by unfold scanBound; omega) fun h' D' F' e' kp => ?_
    exact hq _ (I.write (e := D) (t' := s.toks + 1) (by rw [hD]; trivial) (.inl rfl) (fun b u hb hu => kp b _ hb hu) ⟨_, e'⟩ (txSet_ok e' F'))
theorem addL_mem {α : Type} [DecidableEq α] {k x : α} {l : List α} : x ∈ addL k l ↔ x = k ∨ x ∈ l := by
  unfold addL
  split
  · rename_i h
    exact ⟨.inr, fun z => z.elim (fun e => e ▸ h) id⟩
  · exact List.mem_cons
def inSet (w : World) (a : Addr) (l : List Int) : HO := SetO w a (fun j => decide (j ∈ l)) l.length
def famI (P : Program) (w : World) : SFam P w where
  κ := List Int
  so := inSet w
  k0 := []
  up := fun y l l' => ∃ k, y = .int k ∧ l.length + 1 < 4096 ∧ l' = addL k l
  new := fun H h => setO_new (SetR.congr (setR_fresh w) fun k => by simp)
  add := fun Y hP hw {pins σ H s E D l l' y u Q} I hD r ⟨k, hy, hl, hl'⟩ hq => by
    subst hP hw hy hl'
    obtain ⟨t, rfl⟩ := r
    have R := setO_get I hD
    refine setR_add R (by unfold scanBound; omega) fun h' sb new => ?_
    have q : SetR Y.w h' D (fun j => decide (j ∈ addL k l)) (addL k l).length := by
      have e : (if decide (k ∈ l) = true then l.length else l.length + 1) = (addL k l).length := by
        unfold addL
        by_cases z : k ∈ l
        · rw [if_pos z, if_pos (decide_eq_true z)]
        · rw [if_neg z, if_neg (by simpa using z)]; rfl
      rw [← e]
      refine new.congr fun j => ?_
      cases z : decide (j ∈ l) with
      | true => rw [Bool.true_or, decide_eq_true (addL_mem.mpr (.inr (of_decide_eq_true z)))]
      | false =>
        rw [Bool.false_or]
        exact decide_eq_decide.mpr ⟨fun h => (addL_mem.mp h).resolve_right (of_decide_eq_false z), fun h => addL_mem.mpr (.inl h)⟩
    have he : ∃ u, h'.get? D = some u := by
      obtain ⟨o, _, _, _, ho, _⟩ := q
      exact ⟨o, ho⟩
    exact hq _ (I.write (e := D) (t' := s.toks + 1) (by rw [hD]; trivial) (.inl rfl) (fun b u hb hu => (sb.2 b hb).trans hu) he (setO_new q))
section
variable {X : Cx}
/-- sorted of a set of texts -/
def rSortT (P : Program) (w : World) : List V → Hp → VK → Prop := fun vs H Q => ∃ (a : Addr) (l : List Str), vs = [V.ref a] ∧ H a = some (txSet P w a l) ∧ l.length < 4096 ∧
  ∀ (ys : List Str) (p : Addr), ys.Perm l → sortedS ys = true → H p = none → Q (.ref p) (upd H p (.lst (ys.map V.str)))
theorem cr_sortT (hc : X.calm = true) : CallR X (.builtin "sorted") (rSortT X.prog X.w) := by
  intro pins s σ H vs us Q I r h
  obtain ⟨a, l, rfl, ha, hl, q⟩ := h
  obtain ⟨D0, e0, F0⟩ := (I.hok a _ ha).1
  rw [Vals.ref1 r]
  refine sorted_T e0 F0 (I.ok.hd hc) hl fun s' p out c ys k g o hp hg hi pm so => ?_
  have hlen : (ys.map V.str).length ≤ sizeLine := by rw [List.length_map, pm.length_eq, sizeLine_eq]; omega
  have hn : H p = none := I.hok.fresh hp
  have J : Inv X pins σ (upd H p (.lst (ys.map V.str))) { s with heap := s'.heap, gens := s'.gens, drawn := s'.drawn, toks := s'.toks } :=
    I.call (ch := []) (Un.laid k hp hn) (I.hok.laid k hp ⟨hlen, out.toList, c, vals_of_strs hi, hg⟩) (by rw [g]; exact I.bare) (fun _ z => nomatch z)
  rw [show s' = { s with heap := s'.heap, gens := s'.gens, drawn := s'.drawn, toks := s'.toks } by cases s'; cases s; cases o; rfl]
  exact ⟨.ref p, _, J, rfl, q ys p pm so hn⟩
end
end Mir
namespace Mir
open PySem PySem.Spec PyProof.Rows L2 PySem.Froz
/-! ### sorted({..}) by its mirror -/
def dset {α : Type} [DecidableEq α] (xs : List α) : List α := xs.foldl (fun l k => addL k l) []
section
variable {α : Type} [DecidableEq α]
theorem foldl_addL_mem {x : α} : ∀ (xs l : List α), x ∈ xs.foldl (fun l k => addL k l) l ↔ x ∈ xs ∨ x ∈ l
  | [], l => by simp
  | k :: xs, l => by
    rw [List.foldl_cons, foldl_addL_mem xs, addL_mem, List.mem_cons]
    constructor
    · rintro (h | h | h)
      · exact .inl (.inr h)
      · exact .inl (.inl h)
      · exact .inr h
    · rintro ((h | h) | h)
      · exact .inr (.inl h)
      · exact .inl h
      · exact .inr (.inr h)
theorem dset_mem {x : α} {xs : List α} : x ∈ dset xs ↔ x ∈ xs := by
  unfold dset
  rw [foldl_addL_mem]
  simp
theorem addL_nodup {k : α} {l : List α} (h : l.Nodup) : (addL k l).Nodup := by
  unfold addL
  split
  · exact h
  · rename_i z; exact List.nodup_cons.mpr ⟨z, h⟩
theorem foldl_addL_nodup : ∀ (xs l : List α), l.Nodup → (xs.foldl (fun l k => addL k l) l).Nodup
  | [], l, h => h
  | k :: xs, l, h => foldl_addL_nodup xs _ (addL_nodup h)
theorem dset_nodup (xs : List α) : (dset xs).Nodup := foldl_addL_nodup xs [] List.nodup_nil
theorem addL_len (k : α) (l : List α) : (addL k l).length ≤ l.length + 1 := by
  unfold addL
  split
  · omega
  · exact Nat.le_refl _
theorem foldl_addL_len : ∀ (xs l : List α), (xs.foldl (fun l k => addL k l) l).length ≤ l.length + xs.length
  | [], l => Nat.le_refl _
  | k :: xs, l => by
    have := foldl_addL_len xs (addL k l)
    have := addL_len k l
    rw [List.foldl_cons, List.length_cons]
    omega
theorem dset_snoc (xs : List α) (k : α) : dset (xs ++ [k]) = addL k (dset xs) := by
  unfold dset
  rw [List.foldl_append]
  rfl
theorem dset_len (xs : List α) : (dset xs).length ≤ xs.length := by
  have := foldl_addL_len xs []
  rw [List.length_nil] at this
  unfold dset; omega
end
theorem strsOf_map : ∀ {ys : List D} {xs : List Str}, strsOf ys = some xs → ys = xs.map D.str
  | [], xs, e => by cases e; rfl
  | d :: ys, xs, e => by
    cases d with
    | str b =>
      unfold strsOf at e
      cases q : strsOf ys with
      | none => rw [q] at e; cases e
      | some zs => rw [q] at e; cases e; rw [strsOf_map q]; rfl
    | _ => cases e
theorem intsOf_map : ∀ {ys : List D} {xs : List Int}, intsOf ys = some xs → ys = xs.map D.int
  | [], xs, e => by cases e; rfl
  | d :: ys, xs, e => by
    cases d with
    | int b =>
      unfold intsOf at e
      cases q : intsOf ys with
      | none => rw [q] at e; cases e
      | some zs => rw [q] at e; cases e; rw [intsOf_map q]; rfl
    | _ => cases e
def setGo {α : Type} (dec : List D → Option (List α)) (fin : List α → R D) (ys : List D) : R D := match dec ys with
  | some xs => if xs.length < 4000 then fin xs else .bad
  | none => .bad
def finT (xs : List Str) : R D := .ok (.lst ((sortS (dset xs)).map D.str))
def finI (xs : List Int) : R D := if (dset xs).length < 64 then .ok (.lst ((PySem.W.sortI (dset xs)).map D.int)) else .bad
def mSST (vs : List Nat) (mi : Env → R (List D)) (mt : TgF) (tt : Env → R Bool) (me : Env → R D) : Env → R D := fun ρ => (mLc vs mi mt tt me ρ).bind (setGo strsOf finT)
def mSSI (vs : List Nat) (mi : Env → R (List D)) (mt : TgF) (tt : Env → R Bool) (me : Env → R D) : Env → R D := fun ρ => (mLc vs mi mt tt me ρ).bind (setGo intsOf finI)
section
variable {X : Cx} {G : Gm} {mi : Env → R (List D)} {mt : TgF} {tt : Env → R Bool} {me : Env → R D} {wi : TI} {g : TG} {vs : List Nat}
/-- a set comprehension that is given to a call, its elements of one kind -/
theorem ss_read (Z : SFam X.prog X.w) (hg : TgOk G.K vs g mt) {α : Type} (cd : α → D) (st : List α → Z.κ) (h0 : st [] = Z.k0)
    (hup : ∀ (xs : List α) (k : α) (y : V) (F : Hp), xs.length < 4000 → Dv G.K F y (cd k) → Z.up y (st xs) (st (xs ++ [k]))) (dec : List D → Option (List α)) (hdec : ∀ ys xs, dec ys = some xs → ys = xs.map cd) (fin : List α → R D) (rl : List V → Hp → VK → Prop)
    (hfin : ∀ (xs : List α) (F H : Hp) (Dl : Addr) (Q : VK), xs.length < 4000 → Same F H → H Dl = some (Z.so Dl (st xs)) → PostR G (DvR G) F H (fin xs) Q → rl [.ref Dl] H Q) :
    ∀ σ H Q, tOf G (fun ρ => (mLc vs mi mt tt me ρ).bind (setGo dec fin)) σ H Q → tCB rl (tCons (tSf Z (tiOf G mi) g (ttOf G.e0 tt) (tOf G.e0 me) vs) tNil) σ H Q := by
  intro σ H Q ⟨ρ, F, S, P⟩
  refine ⟨ρ, F, S, ?_⟩
  have P : PostR G (DvR G) F H (((mi ρ).bind fun ds => if ds.length ≤ 1000000 then nx (lcGo mt tt me (wipeE ρ vs) ds) else .bad).bind (setGo dec fin)) Q := P
  cases e : mi ρ with
  | exc c => rw [e] at P; exact P
  | bad => rw [e] at P; exact P.elim
  | ok ds =>
    rw [e] at P
    have P : PostR G (DvR G) F H ((if ds.length ≤ 1000000 then nx (lcGo mt tt me (wipeE ρ vs) ds) else .bad).bind (setGo dec fin)) Q := P
    have hl : ds.length ≤ 1000000 := Decidable.byContradiction fun z => by rw [if_neg z] at P; exact P.elim
    rw [if_pos hl] at P
    intro J F1 H1 g1 W Dl hD
    cases e2 : lcGo mt tt me (wipeE ρ vs) ds with
    | exc c => rw [e2] at P; exact P.elim
    | bad => rw [e2] at P; exact P.elim
    | ok ys =>
      rw [e2] at P
      have P : PostR G (DvR G) F H (setGo dec fin ys) Q := P
      cases e5 : dec ys with
      | none => unfold setGo at P; rw [e5] at P; exact P.elim
      | some xs =>
      unfold setGo at P
      rw [e5] at P
      have P : PostR G (DvR G) F H (if xs.length < 4000 then fin xs else .bad) Q := P
      have h4 : xs.length < 4000 := Decidable.byContradiction fun z => by rw [if_neg z] at P; exact P.elim
      rw [if_pos h4] at P
      have eys := hdec ys xs e5
      have fD : F1 Dl = none := g1.s.free hD
      refine ⟨fun i m Hc => m = ds.length - i ∧ i ≤ ds.length ∧ ∃ Fc n rest, Grow F1 H1 Fc Hc ∧ Fc Dl = none ∧ Hc Dl = some (Z.so Dl (st (xs.take n))) ∧ n ≤ xs.length ∧ lcGo mt tt me (wipeE ρ vs) (ds.drop i) = .ok rest ∧ rest = (xs.drop n).map cd,
        ⟨ds.length, by rw [Nat.sub_zero], Nat.zero_le _, F1, 0, ys, Grow.own g1.s hD, fD, by rw [upd_same, List.take_zero, h0], Nat.zero_le _, e2, eys⟩, ?_⟩
      rintro i m Hc ⟨rfl, hi, Fc, n, rest, gc, fc, hc, hn, ec, er⟩
      by_cases hlt : i < ds.length
      · refine .inr ⟨W.go i Fc Hc gc.f gc.s hlt, fun H' => ∃ Fc n rest, Grow F1 H1 Fc H' ∧ Fc Dl = none ∧ H' Dl = some (Z.so Dl (st (xs.take n))) ∧ n ≤ xs.length ∧ lcGo mt tt me (wipeE ρ vs) (ds.drop (i + 1)) = .ok rest ∧ rest = (xs.drop n).map cd,
          fun H' ⟨Fc, n, rest, q⟩ => ⟨ds.length - (i + 1), by omega, rfl, hlt, Fc, n, rest, q⟩, fun x H' y => ?_⟩
        obtain ⟨Fy, d, ed, gy, rd⟩ := W.yld i Fc Hc x H' gc.f gc.s hlt y
        have edrop : ds.drop i = d :: ds.drop (i + 1) := by
          rw [List.drop_eq_getElem_cons hlt]
          rw [List.getElem?_eq_getElem hlt] at ed
          rw [Option.some.inj ed]
        rw [edrop] at ec
        obtain ⟨ρ1, n1, ec⟩ := bind_ok (show (nx (mt d (wipeE ρ vs))).bind _ = _ from ec)
        obtain ⟨b, n2, ec⟩ := bind_ok ec
        have Sw := (((S.grow g1).grow ⟨gc.h, gc.f, gc.s, gc.o⟩).grow gy).wipe vs
        refine hg _ ρ1 _ Fy H' x d _ Sw rd (nx_ok n1) fun σ2 S2 len2 _ agree => ⟨wipe_eq (len2.trans (wipe_length _ _)) agree, ρ1, Fy, S2, ?_⟩
        rw [nx_ok n2]
        intro b' F3 H3 g3 eb
        have eb : b' = b := eb
        subst eb
        have gy3 := gy.trans g3
        have h3 := gy3.h _ _ hc
        have f3 : F3 Dl = none := (gy3.o _ _ hc).trans fc
        cases b' with
        | false =>
          rw [if_neg Bool.false_ne_true] at ec ⊢
          exact ⟨F3, n, rest, gc.trans gy3, f3, h3, hn, ec, er⟩
        | true =>
          rw [if_pos rfl] at ec ⊢
          obtain ⟨yd, n3, ec⟩ := bind_ok ec
          obtain ⟨ys2, n4, ec⟩ := bind_ok ec
          cases ec
          have hnl : n < xs.length := by
            have z := congrArg List.length er
            rw [List.length_cons, List.length_map, List.length_drop] at z
            omega
          rw [List.drop_eq_getElem_cons hnl, List.map_cons] at er
          obtain ⟨ey, er⟩ := List.cons_eq_cons.mp er
          refine ⟨ρ1, F3, S2.grow g3, ?_⟩
          rw [nx_ok n3]
          intro yv F4 H4 g4 ry
          have g34 := gy3.trans g4
          have f4 : F4 Dl = none := (g34.o _ _ hc).trans fc
          refine ⟨_, st (xs.take n ++ [xs[n]]), hup (xs.take n) xs[n] yv F4 (by rw [List.length_take]; omega) (ey ▸ ry), g34.h _ _ hc, F4, n + 1, ys2, ?_, f4, ?_, hnl, n4, er⟩
          · have gt := gc.trans g34
            exact ⟨fun b u q => by rw [upd_ne (ne_of_none q hD)]; exact gt.h b u q, gt.f, gt.s.upd_out f4, gt.o⟩
          · rw [upd_same, List.take_succ_eq_append_getElem hnl]
      · have ei : i = ds.length := by omega
        subst ei
        refine .inl ⟨W.stop Fc Hc gc.f gc.s, ?_⟩
        rw [List.drop_length] at ec
        cases ec
        have hn2 : n = xs.length := by
          have z := congrArg List.length er
          rw [List.length_nil, List.length_map, List.length_drop] at z
          omega
        subst hn2
        rw [List.take_length] at hc
        exact hfin xs Fc Hc Dl Q h4 gc.s hc (PostR.grow P (g1.trans gc))
variable {elt tg iter : Expr} {ifs : List Expr} {scope : Scope} {own : List (Str × Nat)} {pos cpos : Pos} {p : Pos}
theorem me_sst (hN : X.N.Nodup) (hi : MI X G tg iter mi) (ok : BlkOk X.N X.env.scope scope own)
    (hp : ∀ (s : Shared) (H : Hp) (C : Addr) (cl : List (Str × Addr)) (fp : List Addr), PG (X.blk s H scope (compEnvC scope cl C X.env) fp) tg g) (hg : TgOk G.K (own.map (·.2)) g mt)
    (ht : ∀ (s : Shared) (H : Hp) (C : Addr) (cl : List (Str × Addr)) (fp : List Addr), PTs (X.blk s H scope (compEnvC scope cl C X.env) fp) ifs (ttOf G.e0 tt))
    (he : ∀ (s : Shared) (H : Hp) (C : Addr) (cl : List (Str × Addr)) (fp : List Addr), ME (X.blk s H scope (compEnvC scope cl C X.env) fp) G.e0 elt me) (hx : X.mg "sorted" = none) (hc : X.calm = true := by rfl) (hgl : Gl X "sorted" := by rfl) (hs : ∀ x, foldedSetIterable iter X.env x = pure x := by intro _; rfl)
    (hst : starEach [.SetComp elt [⟨tg, iter, ifs, 0⟩] scope pos] X.env = (false, eval (.SetComp elt [⟨tg, iter, ifs, 0⟩] scope pos) X.env) :: starEach [] X.env := by rfl) (hpl : (backTo cpos (starEach [] X.env)).any (·.1) = false := by rfl) :
    ME X G (.Call (.Name "sorted" p) [.SetComp elt [⟨tg, iter, ifs, 0⟩] scope pos] [] cpos) (mSST (own.map (·.2)) mi mt tt me) :=
  weakE (pe_callB (cr_sortT hc) hgl hx (by decide +kernel) (pa_cons (pe_sf (famT X.prog X.w) hc hN hi ok hp ht he hs) pa_nil hst) (by decide) (by decide) hst hpl)
    (ss_read (famT X.prog X.w) hg D.str (fun xs => dset xs) rfl (fun xs k y F hl r => by
      cases r
      exact ⟨k, rfl, by have := dset_len xs; omega, dset_snoc xs k⟩) strsOf (fun _ _ e => strsOf_map e) finT _ fun xs F H Dl Q hl s hD P =>
      ⟨Dl, dset xs, rfl, hD, by have := dset_len xs; omega, fun ys q pm so hq => by
        rw [eq_sortS pm so]
        exact postNew P s hq (.lst upd_same (dv_strs _))⟩)
theorem me_ssi (hN : X.N.Nodup) (hi : MI X G tg iter mi) (ok : BlkOk X.N X.env.scope scope own)
    (hp : ∀ (s : Shared) (H : Hp) (C : Addr) (cl : List (Str × Addr)) (fp : List Addr), PG (X.blk s H scope (compEnvC scope cl C X.env) fp) tg g) (hg : TgOk G.K (own.map (·.2)) g mt)
    (ht : ∀ (s : Shared) (H : Hp) (C : Addr) (cl : List (Str × Addr)) (fp : List Addr), PTs (X.blk s H scope (compEnvC scope cl C X.env) fp) ifs (ttOf G.e0 tt))
    (he : ∀ (s : Shared) (H : Hp) (C : Addr) (cl : List (Str × Addr)) (fp : List Addr), ME (X.blk s H scope (compEnvC scope cl C X.env) fp) G.e0 elt me) (hx : X.mg "sorted" = none) (hc : X.calm = true := by rfl) (hgl : Gl X "sorted" := by rfl) (hs : ∀ x, foldedSetIterable iter X.env x = pure x := by intro _; rfl)
    (hst : starEach [.SetComp elt [⟨tg, iter, ifs, 0⟩] scope pos] X.env = (false, eval (.SetComp elt [⟨tg, iter, ifs, 0⟩] scope pos) X.env) :: starEach [] X.env := by rfl) (hpl : (backTo cpos (starEach [] X.env)).any (·.1) = false := by rfl) :
    ME X G (.Call (.Name "sorted" p) [.SetComp elt [⟨tg, iter, ifs, 0⟩] scope pos] [] cpos) (mSSI (own.map (·.2)) mi mt tt me) :=
  weakE (pe_callB (cr_sortedSet hc) hgl hx (by decide +kernel) (pa_cons (pe_sf (famI X.prog X.w) hc hN hi ok hp ht he hs) pa_nil hst) (by decide) (by decide) hst hpl)
    (ss_read (famI X.prog X.w) hg D.int (fun xs => dset xs) rfl (fun xs k y F hl r => by
      cases r
      exact ⟨k, rfl, by have := dset_len xs; omega, dset_snoc xs k⟩) intsOf (fun _ _ e => intsOf_map e) finI _ fun xs F H Dl Q hl s hD P => by
      unfold finI at P
      by_cases h64 : (dset xs).length < 64
      · rw [if_pos h64] at P
        refine ⟨Dl, _, _, rfl, hD, h64, fun ns q lt me hn hq => ?_⟩
        have nd : ns.Nodup := lt.imp fun z => Int.ne_of_lt z
        have pm : ns.Perm (dset xs) := (List.perm_ext_iff_of_nodup nd (dset_nodup xs)).mpr fun k => (me k).trans ⟨fun z => of_decide_eq_true z, fun z => decide_eq_true z⟩
        rw [PySem.W.eq_sortI pm (lt.imp fun z => Int.le_of_lt z)]
        exact postNew P s hq (.lst upd_same (dv_ints _))
      · rw [if_neg h64] at P; exact P.elim)
end
end Mir
namespace Mir
open PySem PySem.Spec PyProof.Rows L2
section
variable {X : Cx} {G : Gm} {mi mi1 : Env → R (List D)} {mt mt1 : TgF} {tt tt1 : Env → R Bool} {me : Env → R D} {g g1 : TG} {vs1 : List Nat} {elt tg iter tg1 iter1 e : Expr} {ifs ifs1 : List Expr} {scope : Scope} {own : List (Str × Nat)} {pos spos py p : Pos} {i : Nat} {y : Str}
/-- xs = [e for .. for ..] -/
theorem ms_setLc2 (hN : X.N.Nodup) (hi : MI X G tg iter mi) (ok : BlkOk X.N X.env.scope scope own) (hv : ∀ i ∈ vs1, i ∈ own.map (·.2))
    (hp : ∀ (s : Shared) (H : Hp) (C : Addr) (cl : List (Str × Addr)) (fp : List Addr), PG (X.blk s H scope (compEnvC scope cl C X.env) fp) tg g) (hg : TgOk G.K (own.map (·.2)) g mt)
    (ht : ∀ (s : Shared) (H : Hp) (C : Addr) (cl : List (Str × Addr)) (fp : List Addr), PTs (X.blk s H scope (compEnvC scope cl C X.env) fp) ifs (ttOf G.e0 tt))
    (hi1 : ∀ (s : Shared) (H : Hp) (C : Addr) (cl : List (Str × Addr)) (fp : List Addr), MI (X.blk s H scope (compEnvC scope cl C X.env) fp) G.e0 tg1 iter1 mi1)
    (hp1 : ∀ (s : Shared) (H : Hp) (C : Addr) (cl : List (Str × Addr)) (fp : List Addr), PG (X.blk s H scope (compEnvC scope cl C X.env) fp) tg1 g1) (hg1 : TgOk G.K vs1 g1 mt1)
    (ht1 : ∀ (s : Shared) (H : Hp) (C : Addr) (cl : List (Str × Addr)) (fp : List Addr), PTs (X.blk s H scope (compEnvC scope cl C X.env) fp) ifs1 (ttOf G.e0 tt1))
    (he : ∀ (s : Shared) (H : Hp) (C : Addr) (cl : List (Str × Addr)) (fp : List Addr), ME (X.blk s H scope (compEnvC scope cl C X.env) fp) G.e0 elt me)
    (hsw : swapsWith (.ListComp elt [⟨tg, iter, ifs, 0⟩, ⟨tg1, iter1, ifs1, 0⟩] scope pos) (some (.Name y py)) spos.line X.env = pure true) (hy : X.N[i]? = some y := by rfl) (hyl : X.env.scope.names.lookup y = some .local := by rfl) (hc : X.calm = true := by rfl) (hs : ∀ x, foldedSetIterable iter X.env x = pure x := by intro _; rfl) (hs1 : ∀ env x, foldedSetIterable iter1 env x = pure x := by intro _ _; rfl) :
    MS X G (.Assign [.Name y py] (.ListComp elt [⟨tg, iter, ifs, 0⟩, ⟨tg1, iter1, ifs1, 0⟩] scope pos) spos) (sSet i (mFz (mLc2 (own.map (·.2)) vs1 mi mt tt mi1 mt1 tt1 me))) :=
  weakS (ps_setLc2 hc hN hy hyl hsw hi ok hv hp ht hi1 hp1 ht1 he hs hs1) fun D σ H ⟨ρ, F, F0, H0, S, P⟩ =>
    lc2_read hg hg1 σ H _ ⟨ρ, F, S.sl, post_fz ((P.to (rel := DvR G) S).imp fun d x F1 H1 e1 g1 q1 ⟨F1', d', e1', g1', q1', P1⟩ => P1 _ F1' H1 ((S.grow g1').setFz q1' i) (Same.refl _))⟩
/-! ### min and max of ints -/
def minL (x : Int) (xs : List Int) : Int := xs.foldl min x
def maxL (x : Int) (xs : List Int) : Int := xs.foldl max x
theorem foldl_min_le : ∀ (xs : List Int) (x : Int), xs.foldl min x ≤ x ∧ ∀ y ∈ xs, xs.foldl min x ≤ y
  | [], x => ⟨Int.le_refl _, fun _ h => nomatch h⟩
  | z :: xs, x => by
    obtain ⟨a, b⟩ := foldl_min_le xs (min x z)
    rw [List.foldl_cons]
    exact ⟨by omega, fun y hy => (List.mem_cons.mp hy).elim (fun e => by rw [e]; omega) (b y)⟩
theorem foldl_min_mem : ∀ (xs : List Int) (x : Int), xs.foldl min x = x ∨ xs.foldl min x ∈ xs
  | [], x => .inl rfl
  | z :: xs, x => by
    rw [List.foldl_cons]
    rcases foldl_min_mem xs (min x z) with h | h
    · rw [h]
      by_cases q : x ≤ z
      · exact .inl (by omega)
      · exact .inr (by rw [show min x z = z by omega]; exact .head _)
    · exact .inr (.tail _ h)
theorem foldl_max_le : ∀ (xs : List Int) (x : Int), x ≤ xs.foldl max x ∧ ∀ y ∈ xs, y ≤ xs.foldl max x
  | [], x => ⟨Int.le_refl _, fun _ h => nomatch h⟩
  | z :: xs, x => by
    obtain ⟨a, b⟩ := foldl_max_le xs (max x z)
    rw [List.foldl_cons]
    exact ⟨by omega, fun y hy => (List.mem_cons.mp hy).elim (fun e => by rw [e]; omega) (b y)⟩
theorem foldl_max_mem : ∀ (xs : List Int) (x : Int), xs.foldl max x = x ∨ xs.foldl max x ∈ xs
  | [], x => .inl rfl
  | z :: xs, x => by
    rw [List.foldl_cons]
    rcases foldl_max_mem xs (max x z) with h | h
    · rw [h]
      by_cases q : z ≤ x
      · exact .inl (by omega)
      · exact .inr (by rw [show max x z = z by omega]; exact .head _)
    · exact .inr (.tail _ h)
theorem minL_mem (x : Int) (xs : List Int) : minL x xs ∈ x :: xs := (foldl_min_mem xs x).elim (fun e => by unfold minL; rw [e]; exact .head _) (.tail _)
theorem minL_le (x : Int) (xs : List Int) : ∀ y ∈ x :: xs, minL x xs ≤ y := fun y hy => (List.mem_cons.mp hy).elim (fun e => by rw [e]; exact (foldl_min_le xs x).1) ((foldl_min_le xs x).2 y)
theorem maxL_mem (x : Int) (xs : List Int) : maxL x xs ∈ x :: xs := (foldl_max_mem xs x).elim (fun e => by unfold maxL; rw [e]; exact .head _) (.tail _)
theorem maxL_le (x : Int) (xs : List Int) : ∀ y ∈ x :: xs, y ≤ maxL x xs := fun y hy => (List.mem_cons.mp hy).elim (fun e => by rw [e]; exact (foldl_max_le xs x).1) ((foldl_max_le xs x).2 y)
def mmF (op : Int → List Int → Int) : List D → R D
  | [.lst ds] => match intsOf ds with
    | some (x :: xs) => .ok (.int (op x xs))
    | _ => .bad
  | _ => .bad
theorem cm_minI : CallM G (rMin G.K) (mmF minL) := by
  intro F H vs ds Q s h P
  unfold mmF at P
  split at P
  · obtain ⟨v, rfl, q⟩ := one_of h
    cases q with
    | lst e r =>
      split at P
      · rename_i x xs ey
        have ev := ints_v r ey
        subst ev
        refine ⟨_, x :: xs, rfl, SqL.of (s _ _ e), Nat.succ_pos _, fun m hm hl => ?_⟩
        have : m = minL x xs := by have a := hl _ (minL_mem x xs); have b := minL_le x xs m hm; omega
        rw [this]
        exact postD P s (.int _)
      · exact P.elim
  · exact P.elim
theorem cm_maxI : CallM G (rMax G.K) (mmF maxL) := by
  intro F H vs ds Q s h P
  unfold mmF at P
  split at P
  · obtain ⟨v, rfl, q⟩ := one_of h
    cases q with
    | lst e r =>
      split at P
      · rename_i x xs ey
        have ev := ints_v r ey
        subst ev
        refine ⟨_, x :: xs, rfl, SqL.of (s _ _ e), Nat.succ_pos _, fun m hm hl => ?_⟩
        have : m = maxL x xs := by have a := hl _ (maxL_mem x xs); have b := maxL_le x xs m hm; omega
        rw [this]
        exact postD P s (.int _)
      · exact P.elim
  · exact P.elim
theorem me_minI {m : Env → R (List D)} (ha : MA X G [e] m) (hx : X.mg "min" = none) (hc : X.calm = true := by rfl) (hK : X.K = G.K := by rfl) (hg : Gl X "min" := by rfl) (he : starEach [e] X.env = (false, eval e X.env) :: starEach [] X.env := by rfl) (hpl : (backTo pos (starEach [] X.env)).any (·.1) = false := by rfl) :
    ME X G (.Call (.Name "min" p) [e] [] pos) (mCall (mmF minL) m) := me_callB (cr_min hc) (by rw [hK]; exact cm_minI) ha hx (by decide +kernel) hg (by decide) (by decide) he hpl
theorem me_maxI {m : Env → R (List D)} (ha : MA X G [e] m) (hx : X.mg "max" = none) (hc : X.calm = true := by rfl) (hK : X.K = G.K := by rfl) (hg : Gl X "max" := by rfl) (he : starEach [e] X.env = (false, eval e X.env) :: starEach [] X.env := by rfl) (hpl : (backTo pos (starEach [] X.env)).any (·.1) = false := by rfl) :
    ME X G (.Call (.Name "max" p) [e] [] pos) (mCall (mmF maxL) m) := me_callB (cr_max hc) (by rw [hK]; exact cm_maxI) ha hx (by decide +kernel) hg (by decide) (by decide) he hpl
def max2F : List D → R D
  | [.int i, .int j] => .ok (.int (if j > i then j else i))
  | _ => .bad
def min2F : List D → R D
  | [.int i, .int j] => .ok (.int (if j < i then j else i))
  | _ => .bad
theorem cm_max2 : CallM G (fun xs H Q => ∃ i j, xs = [.int i, .int j] ∧ Q (.int (if j > i then j else i)) H) max2F := by
  intro F H vs ds Q s h P
  unfold max2F at P
  split at P
  · cases h with
    | cons a r =>
      obtain ⟨v, rfl, q⟩ := one_of r
      cases a
      cases q
      exact ⟨_, _, rfl, postD P s (.int _)⟩
  · exact P.elim
theorem cm_min2 : CallM G (fun xs H Q => ∃ i j, xs = [.int i, .int j] ∧ Q (.int (if j < i then j else i)) H) min2F := by
  intro F H vs ds Q s h P
  unfold min2F at P
  split at P
  · cases h with
    | cons a r =>
      obtain ⟨v, rfl, q⟩ := one_of r
      cases a
      cases q
      exact ⟨_, _, rfl, postD P s (.int _)⟩
  · exact P.elim
variable {e2 : Expr}
theorem me_max2 {m : Env → R (List D)} (ha : MA X G [e, e2] m) (hx : X.mg "max" = none) (hc : X.calm = true := by rfl) (hg : Gl X "max" := by rfl) (he : starEach [e, e2] X.env = (false, eval e X.env) :: starEach [e2] X.env := by rfl) (hpl : (backTo pos (starEach [e2] X.env)).any (·.1) = false := by rfl) :
    ME X G (.Call (.Name "max" p) [e, e2] [] pos) (mCall max2F m) := me_callB (call_max2 hc) cm_max2 ha hx (by decide +kernel) hg (by decide) (by decide) he hpl
theorem me_min2 {m : Env → R (List D)} (ha : MA X G [e, e2] m) (hx : X.mg "min" = none) (hc : X.calm = true := by rfl) (hg : Gl X "min" := by rfl) (he : starEach [e, e2] X.env = (false, eval e X.env) :: starEach [e2] X.env := by rfl) (hpl : (backTo pos (starEach [e2] X.env)).any (·.1) = false := by rfl) :
    ME X G (.Call (.Name "min" p) [e, e2] [] pos) (mCall min2F m) := me_callB (call_min2 hc) cm_min2 ha hx (by decide +kernel) hg (by decide) (by decide) he hpl
end
end Mir
namespace Mir
open PySem PySem.Spec PyProof.Rows L2
/-! ### an exception's classes, asked in three rows -/
/-- the three rows of the suite: the first flags, more of them, and the place of the first one that holds -/
def taT (K : PySem.W.Frag) (mg : Str → Option Value) (C a : Addr) (i k : Nat) (c : Str) (c1 c2 c3 : List Str) : TS :=
  tSeq (tAsg (tLst (taI K mg C a i c c1)) (gName k)) (tSeq (tAsg (tOp (rAddA K) (tVar k) (tLst (taI K mg C a i c c2))) (gName k))
    (tRet (tBM K "list" (rIndex K) (tOp (rAddA K) (tVar k) (tLst (taI K mg C a i c c3))) (tCons (tC (.bl true)) tNil))))
theorem own2 {H : Hp} {p q : Addr} {o r : HO} (h : H p = some o) (n : H q = none) : upd H q r p = some o := by
  have : p ≠ q := fun e => by rw [e, n] at h; cases h
  rw [upd_ne this]; exact h
theorem taT_run {K : PySem.W.Frag} {mg : Str → Option Value} {C a : Addr} {i k : Nat} {c : Str} {c1 c2 c3 : List Str} {F F' H0 H : Hp} {σ : L2.St} {Dd : Ends} (hik : i ≠ k) (hkl : k < σ.length) (hs : σ[i]? = some (some (.ref a)))
    (hk : ∀ c', c' ∈ c1 ++ c2 ++ c3 → ∃ C', mg c' = some (.ref C') ∧ PySem.W.kitOne K (.ref C) (.ref C') = some (decide (c' = c))) (hc : c ∈ c1 ++ c2 ++ c3) (hcl : (c1 ++ c2 ++ c3).length ≤ 1000) (g : Grow F H0 F' H)
    (P : ∀ v F2 H2, Grow F H0 F2 H2 → v = V.int ((c1 ++ c2 ++ c3).findIdx fun c' => decide (c' = c) : Nat) → Dd.rt v H2) : taT K mg C a i k c c1 c2 c3 Dd σ H := by
  rw [List.length_append, List.length_append] at hcl
  have k1 : ∀ c', c' ∈ c1 → _ := fun c' h => hk c' (List.mem_append_left _ (List.mem_append_left _ h))
  have k2 : ∀ c', c' ∈ c2 → _ := fun c' h => hk c' (List.mem_append_left _ (List.mem_append_right _ h))
  have k3 : ∀ c', c' ∈ c3 → _ := fun c' h => hk c' (List.mem_append_right _ h)
  have sl : sizeLine = 16777216 := sizeLine_eq
  refine ⟨hs, k1, by rw [List.length_map]; omega, fun p1 n1 => ?_⟩
  refine ⟨.ref p1, List.getElem?_set_self hkl, by rw [List.getElem?_set_ne (Ne.symm hik)]; exact hs, k2, by rw [List.length_map]; omega, fun p2 n2 => ?_⟩
  refine .inr (.inr (.inl ⟨p1, p2, _, _, rfl, rfl, own2 upd_same n2, upd_same, by rw [List.length_map, List.length_map]; omega, fun p3 n3 => ?_⟩))
  refine ⟨.ref p3, List.getElem?_set_self (by rw [List.length_set]; exact hkl), by rw [List.getElem?_set_ne (Ne.symm hik), List.getElem?_set_ne (Ne.symm hik)]; exact hs, k3, by rw [List.length_map]; omega, fun p4 n4 => ?_⟩
  refine .inr (.inr (.inl ⟨p3, p4, _, _, rfl, rfl, own2 upd_same n4, upd_same, by rw [List.length_append, List.length_map, List.length_map, List.length_map]; omega, fun p5 n5 => ?_⟩))
  obtain ⟨j, h1, h2, h3⟩ := idx_of hc
  rw [← List.map_append, ← List.map_append]
  refine ⟨.inl ⟨rfl, _, SqL.of upd_same⟩, p5, _, .bl true, j, .bl true, rfl, rfl, SqL.of upd_same, rfl, all_bl _ _, h1, rfl, h2, ?_⟩
  refine P _ F' _ ?_ (by rw [h3])
  have g1 := g.trans (Grow.own g.s n1 (o := .lst (c1.map fun c' => V.bl (decide (c' = c)))))
  have g2 := g1.trans (Grow.own g1.s n2 (o := .lst (c2.map fun c' => V.bl (decide (c' = c)))))
  have g3 := g2.trans (Grow.own g2.s n3 (o := .lst ((c1.map fun c' => V.bl (decide (c' = c))) ++ c2.map fun c' => V.bl (decide (c' = c)))))
  have g4 := g3.trans (Grow.own g3.s n4 (o := .lst (c3.map fun c' => V.bl (decide (c' = c)))))
  rw [← List.map_append] at g4
  exact g4.trans (Grow.own g4.s (by rw [← List.map_append] at n5; exact n5))
section
variable {X : Cx} {G : Gm} {B x y : Str} {i k : Nat} {c1 c2 c3 : List Str} {body : List Stmt} {mb : Env → RS} {e1 e2 e3 : List Expr} {l1 l2 l3 b2 b3 q1 q2 q3 n1 n2 n3 n4 ap kp cp rp np pos' pos : Pos} {j0 : Nat}
theorem ms_try3 (T : TryT X.K X.mg B (c1 ++ c2 ++ c3)) (hN : X.N.Nodup) (tk : Takes X fun _ _ _ _ => False)
    (hb : ∀ (W : WX) (pn : List (Addr × Obj)) (xe : Value → Shared → Prop), Passes (L2.CX X.prog X.w) (X.tr pn xe) (fun cls d H => ∀ σ, σ.length = X.N.length → W cls d σ H) → PassesOwn (model X.prog X.w) X.A X.env xe → MSs (X.tr pn xe) ⟨G.K, G.mg, fun cls d H => ∀ σ, σ.length = X.N.length → W cls d σ H⟩ body mb)
    (h1 : ∀ (a : Addr) (oe : Obj) (pn : List (Addr × Obj)) (D : Addr) (c : Str), ExcC X.K D → Zc (.ref D) none oe → (∃ vs, oe.data = .fields vs) → PA (X.suite a ((a, oe) :: pn)) e1 (taI X.K X.mg D a i c c1))
    (h2 : ∀ (a : Addr) (oe : Obj) (pn : List (Addr × Obj)) (D : Addr) (c : Str), ExcC X.K D → Zc (.ref D) none oe → (∃ vs, oe.data = .fields vs) → PA (X.suite a ((a, oe) :: pn)) e2 (taI X.K X.mg D a i c c2))
    (h3 : ∀ (a : Addr) (oe : Obj) (pn : List (Addr × Obj)) (D : Addr) (c : Str), ExcC X.K D → Zc (.ref D) none oe → (∃ vs, oe.data = .fields vs) → PA (X.suite a ((a, oe) :: pn)) e3 (taI X.K X.mg D a i c c3))
    (hi : X.N[i]? = some x := by rfl) (hk : X.N[k]? = some y := by rfl) (hik : i ≠ k := by decide) (hil : i < X.N.length := by first | decide | exact Nat.le_of_ble_eq_true rfl) (hkl : k < X.N.length := by first | decide | exact Nat.le_of_ble_eq_true rfl) (hcl : (c1 ++ c2 ++ c3).length ≤ 1000 := by first | decide | exact Nat.le_of_ble_eq_true rfl) (hln : X.env.kindOf x = some .local := by rfl)
    (hloc : L2.Loc X.env.scope y := by first | exact Or.inl rfl | exact Or.inr rfl) (hvis : Vis X.env.scope y := by first | exact Or.inl rfl | exact Or.inr (Or.inl rfl)) (hyd : (y == ("__debug__" : Str)) = false := by decide) (hyc : (y == ("__classdict__" : Str)) = false := by decide) (hfn : X.fn y = true ∨ X.env.scope.names.lookup y = some .local := by first | exact .inl rfl | exact .inr rfl)
    (hs : X.stack = X.env :: X.outer := by rfl) (hf : X.env.frame = some X.env.locals := by rfl) (hg : Gl X B := by rfl) (hdb : (B == ("__debug__" : Str)) = false := by decide)
    (hmg : X.mg = G.mg := by rfl)
    (w1 : swapsWith (.List e1 l1) (some (.Name y n1)) q1.line X.env = pure false := by rfl) (w2 : swapsWith (.BinOp (.Name y n2) .Add (.List e2 l2) b2) (some (.Name y n4)) q2.line X.env = pure false := by rfl)
    (hbase : attributeBase (.BinOp (.Name y n3) .Add (.List e3 l3) b3) "index" X.env (eval (.BinOp (.Name y n3) .Add (.List e3 l3) b3) X.env) = eval (.BinOp (.Name y n3) .Add (.List e3 l3) b3) X.env := by rfl)
    (hfew : ((backTo cp (starEach [.Constant (.bool true) j0 kp] X.env)).all (fun x => !x.1) && (backToKw cp (keywordEach [] X.env)).all (fun x => x.1.isSome)
      && decide ([Expr.Constant (.bool true) j0 kp].length + ([] : List Keyword).length + (if ([] : List Keyword).isEmpty then 0 else 1) < 30)) = true := by rfl)
    (hline : (ap.endLine == cp.line) = true := by rfl) (hst : starEach [.Constant (.bool true) j0 kp] X.env = (false, eval (.Constant (.bool true) j0 kp) X.env) :: starEach [] X.env := by rfl) (hpl : (backTo cp (starEach [] X.env)).any (·.1) = false := by rfl) :
    MS X G (.Try body [.ExceptHandler (some (.Name B np)) (some x) [.Assign [.Name y n1] (.List e1 l1) q1, .Assign [.Name y n4] (.BinOp (.Name y n2) .Add (.List e2 l2) b2) q2, .Return (some (.Call (.Attribute (.BinOp (.Name y n3) .Add (.List e3 l3) b3) "index" ap) [.Constant (.bool true) j0 kp] [] cp)) rp] pos'] [] [] pos) (sTry (c1 ++ c2 ++ c3) mb) := by
  obtain ⟨CB, gB, hT⟩ := T.ex
  refine weakS (ps_try_as (i := i) (ts := fun a cls d => fun Dd σ H => ∃ c, c ∈ c1 ++ c2 ++ c3 ∧ ∃ C, cls = .ref C ∧ d = none ∧ ExcC X.K C ∧ taT X.K X.mg C a i k c c1 c2 c3 Dd σ H)
    (tb := fun W => tsOf ⟨G.K, G.mg, fun cls d H => ∀ σ, σ.length = X.N.length → W cls d σ H⟩ mb) hs hf hN hi hln ⟨hg, hdb, .inl gB⟩ tk (fun W pn xe tkW hpo => ?_) (fun a oe cls d pn hz hfl => ?_)) fun Dd σ H ⟨ρ, F, F0, H0, S, P⟩ => ?_
  · exact hb W pn xe (fun pins σ H s e s' I c => tkW e s' (XE.of_call I (fun cls d H' h => h σ I.len) c)) hpo
  · refine ⟨fun pins s σ H Dd I ⟨c, hc, C, ec, ed, exc, q⟩ => ?_⟩
    subst ec ed
    exact (pss_cons (ps_set (X := X.suite a ((a, oe) :: pn)) hN hk hloc (pe_lst (h1 a oe pn C c exc hz hfl)) w1 hfn)
      (pss_cons (ps_set (X := X.suite a ((a, oe) :: pn)) hN hk hloc (pe_op (X := X.suite a ((a, oe) :: pn)) op_addA (pe_var hk hvis hyd hyc) (pe_lst (h2 a oe pn C c exc hz hfl))) w2 hfn)
      (pss_one (ps_ret (pe_bm PySem.F.plainAttrs_list PySem.F.slot_list_index PySem.F.type_list_index mt_index (pe_op (X := X.suite a ((a, oe) :: pn)) op_addA (pe_var hk hvis hyd hyc) (pe_lst (h3 a oe pn C c exc hz hfl))) (pa_cons pe_bl pa_nil hst) hbase hfew hline hst hpl))))).run pins s σ H Dd I q
  · refine ⟨ρ, F, F0, H0, ⟨S.sl, S.gr, S.nw⟩, ?_⟩
    unfold sTry at P
    cases e : mb ρ with
    | nx ρ' => rw [e] at P; exact P
    | brk ρ' => rw [e] at P; exact P
    | ct ρ' => rw [e] at P; exact P
    | ret d => rw [e] at P; exact P
    | bad => rw [e] at P; exact P
    | exc c =>
      rw [e] at P
      have P : PostS G F0 H0 F Dd (if c ∈ c1 ++ c2 ++ c3 then .ret (.int (((c1 ++ c2 ++ c3).findIdx fun c' => decide (c' = c)) : Nat)) else .bad) := P
      intro C F' H' gC g
      by_cases hc : c ∈ c1 ++ c2 ++ c3
      · rw [if_pos hc] at P
        intro σ' hl
        obtain ⟨C', gC', exc, ex1, hk2⟩ := hT c hc
        have eC : C' = C := by
          have z : X.mg c = some (.ref C) := by rw [hmg]; exact gC
          rw [gC'] at z
          cases z
          rfl
        subst eC
        refine ⟨true, ex1, fun _ a na => ⟨c, hc, C', rfl, rfl, exc, ?_⟩, fun z => nomatch z⟩
        refine taT_run hik (by rw [List.length_set, hl]; exact hkl) (List.getElem?_set_self (by rw [hl]; exact hil)) hk2 hc hcl g fun v F2 H2 g2 ev => ?_
        rw [ev]
        exact P _ F2 H2 g2 (.int _)
      · rw [if_neg hc] at P
        exact P.elim
end
end Mir
/-! set(xs) of a list of texts -/
namespace Mir
open PySem PySem.Spec PyProof.Rows L2 PySem.Froz
section
variable {P : Program} {w : World} {A : Around} {E : Value → Shared → Prop} {s : Shared}
theorem txAdd {a : Addr} {D : SD} {l : List Str} {k : Str} {u : Tok} {Q : Bool → Shared → Prop} (ho : s.heap.get? a = some (sObj "set" D)) (F : TxW P w D l) (hb : l.length + 1 < scanBound)
    (h : ∀ (b : Bool) (h' : Heap) (D' : SD), TxW P w D' (addL k l) → h'.get? a = some (sObj "set" D') → (∀ b o, b ≠ a → s.heap.get? b = some o → h'.get? b = some o) → Q b { s with heap := h', toks := s.toks + 1 }) :
    wpAny (model P w) A (setAdd a (.str k u)) Q E s := by
  unfold setAdd
  refine wpAny_holding (wpAny_bind ((strKind P w).pyHash (is_str k u) ?_))
  by_cases hk : k ∈ l
  · refine add_dup (s := { s with toks := s.toks + 1 }) ho F.ok hk (by omega) (h _ s.heap D ?_ ho fun b o _ e => e)
    unfold addL; rw [if_pos hk]; exact F
  · refine add_x (s := { s with toks := s.toks + 1 }) ho F.ok hk hb (h _ _ _ ?_ (get_upd _ ho rfl) fun b o hb e => (Heap.get?_update_other _ _ (Ne.symm hb)).trans e)
    unfold addL; rw [if_neg hk]; exact F.add u hk
/-- the texts of a set, that lies at an address -/
def TxAt (P : Program) (w : World) (h : Heap) (a : Addr) (l : List Str) : Prop := ∃ D, h.get? a = some (sObj "set" D) ∧ TxW P w D l
theorem take_dset {xs : List Str} {i : Nat} (h : i < xs.length) : dset (xs.take (i + 1)) = addL (xs.getD i Str.empty) (dset (xs.take i)) := by
  rw [List.take_succ_eq_append_getElem h, dset_snoc, List.getD_eq_getElem?_getD, List.getElem?_eq_getElem h]; rfl
theorem txLoop {R : Result → Shared → Prop} {I : Addr} {fp wr : List Addr} {G : Array GenState → Array GenState → Prop} {n : Nat} {St : Nat → Shared → Prop} {V : Nat → Value → Prop} (W : WalksS P w A.in1 I fp wr G n V St) (S : Addr) (hSf : S ∉ fp) (xs : List Str) (hsz : xs.length = n) (hn : n < 4000)
    (hval : ∀ i v, V i v → ∃ t, v = .str (xs.getD i Str.empty) t) : ∀ (k i : Nat) (s : Shared), n - i = k → i ≤ n → St i s → TxAt P w s.heap S (dset (xs.take i)) →
      (∀ s', Moved (S :: wr) G s s' → TxAt P w s'.heap S (dset xs) → R (.ok (.ret .none)) s') →
      codeAny (model P w) A (.builtin "set.update.loop" ⟨[.ref S, .ref I], []⟩) R s
  | 0, i, s, hk, hi, hst, ⟨D, ho, F⟩, hR => by
    have hin : i = n := by omega
    subst hin
    refine codeAny_builtin PyProof.Rows.F.entry_set_update_loop (by
      rw [Around.under_plainId PyProof.Rows.F.plain_set_update_loop _]
      show wpAny _ A.in1 (pyNext (.ref I) >>= _) _ _ s
      refine wpAny_bind (W.done s _ _ hst fun s' hm => ?_)
      refine wpAny_pure (hR s' (hm.mono fun b hb => List.mem_cons_of_mem _ hb) ⟨D, hm.heap S _ (fun h => hSf (W.sub _ h)) ho, ?_⟩)
      rw [← hsz, List.take_length] at F; exact F)
  | k + 1, i, s, hk, hi, hst, ⟨D, ho, F⟩, hR => by
    have hlt : i < n := by omega
    have hb : (dset (xs.take i)).length + 1 < scanBound := by
      have := dset_len (xs.take i)
      rw [List.length_take] at this
      unfold scanBound; omega
    refine codeAny_builtin PyProof.Rows.F.entry_set_update_loop (by
      rw [Around.under_plainId PyProof.Rows.F.plain_set_update_loop _]
      show wpAny _ A.in1 (pyNext (.ref I) >>= _) _ _ s
      refine wpAny_bind (W.item i s _ _ hlt hst fun v s1 hP hst1 hm => ?_)
      obtain ⟨t, rfl⟩ := hval i v hP
      show wpAny _ A.in1 (holding [Value.str (xs.getD i Str.empty) t] (setAdd S (.str (xs.getD i Str.empty) t)) >>= _) _ _ s1
      refine wpAny_bind (wpAny_holding (txAdd (hm.heap S _ (fun h => hSf (W.sub _ h)) ho) F hb fun b h' D' F' e' kp => ?_))
      rw [← take_dset (by omega)] at F'
      refine wpAny_pure ⟨plainId_quiet PyProof.Rows.F.plain_set_update_loop _, txLoop W S hSf xs hsz hn hval k (i + 1) _ (by omega) hlt (W.frame _ s1 _ _ hst1 (Nat.le_succ _) fun b hb o e => ?_) ⟨D', e', F'⟩ fun s2 hm2 h2 => ?_⟩
      · exact kp b o (fun h => hSf (h ▸ hb)) e
      · refine hR s2 (Moved.trans W.gtrans ((hm.mono fun b hb => List.mem_cons_of_mem _ hb).then_heap (Nat.le_succ _) fun b o hb e => ?_) hm2) h2
        exact kp b o (fun h => hb (h ▸ List.mem_cons_self)) e)
abbrev set0 (w : World) : Obj := { cls := .type "set", dict := none, data := .set #[] 0 (.fresh 0 0 (!w.params.followText "set-order")) }
theorem code_set0 (a : Value) {Q₁ : Value → Shared → Prop} (h : Q₁ (.ref s.heap.objs.size) { s with heap := s.heap.push (set0 w) }) :
    codeAny (model P w) A (.call (.builtin "set.__new__") ⟨[.type "set", a], []⟩) (wants Q₁ E) s := by
  refine codeAny_of_tree ?_
  show wpAny _ A.in1 (do checkBuiltinCall "set.__new__" ⟨[.type "set", a], []⟩; again (.builtin "set.__new__" ⟨[.type "set", a], []⟩)) _ _ s
  refine wpAny_bind (wpAny_of_eq (PySem.F.newCall_set_1 a) (wpAny_pure ⟨plainId_quiet PySem.F.plain_set_new _, codeAny_builtin PySem.F.entry_set_new (by
    rw [Around.under_plainId PySem.F.plain_set_new _]
    unfold Builtin.«set.__new__» Builtin.Frozenset.newClass
    have own := sub_set_self
    obtain ⟨hp, g, d, tk, os⟩ := s
    dsimp only
    wp_walk
    refine wpAny_askSetting (wpAny_pure (by
      dsimp only
      simp only [newObj]
      exact wpAny_bind (wpAny_alloc (wpAny_pure (wpAny_pure h)))))
    )⟩))
theorem call_setT {l : Addr} {items : Array Value} {xs : List Str} {Q : Value → Shared → Prop} (hh : A.handled = none) (hl : s.heap.IsList l items) (hi : PyProof.Rows.StrsAre items.toList xs) (hn : xs.length < 4000)
    (h : ∀ (h' : Heap) (tk : Nat), TxAt P w h' s.heap.objs.size (dset xs) → (∀ b o, b < s.heap.objs.size → s.heap.get? b = some o → h'.get? b = some o) → Q (.ref s.heap.objs.size) { s with heap := h', toks := tk }) :
    wpAny (model P w) A (call (.type "set") [.ref l]) Q E s := by
  obtain ⟨c, tl, in_mro⟩ := PySem.F.called_set.mro
  have made := PySem.F.called_set.made
  have under := PySem.F.called_set.sub
  have notT := PySem.F.called_set.notType
  have canC := PySem.F.called_set.canCreate
  have oneA := PySem.F.typeCall_set_1 (.ref l)
  refine wpAny_call (codeAny_of_tree (by
    show wpAny _ _ (callAny (.type "set") _) _ _ _
    refine wpAny_pure ⟨Code.quiet_builtin _ (by decide +kernel), codeAny_builtin PySem.F.entry_type_call (by
      rw [Around.under_plain (weight_type_call_type "set" [.ref l] []) rfl]
      repeat (any_goals (first | assumption | wp_step))
      refine codeAny_mono (code_set0 (w := w) (.ref l) (E := E) (Q₁ := fun obj s₁ => obj = .ref s.heap.objs.size ∧ s₁ = { s with heap := s.heap.push (set0 w) }) ⟨rfl, rfl⟩) fun r s₁ hr => ?_
      rcases r with e | f
      · exact hr
      cases f with
      | ret obj =>
        obtain ⟨rfl, rfl⟩ := hr
        have atS : (s.heap.push (set0 w)).get? s.heap.objs.size = some (set0 w) := Heap.get?_push_size _ rfl
        have isS : Shared.TypeIs { s with heap := s.heap.push (set0 w) } (.ref s.heap.objs.size) "set" := ⟨_, atS, rfl⟩
        have look := PySem.F.called_set.init.lookup
        have bind := PySem.F.called_set.init.bind (.ref s.heap.objs.size)
        repeat (any_goals (first | assumption | wp_step))
        refine codeAny_mono (codeAny_call_builtin (R := wants (fun r s₂ => r = .none ∧ ∃ h' tk, s₂ = { s with heap := h', toks := tk } ∧ TxAt P w h' s.heap.objs.size (dset xs) ∧ (∀ b o, b < s.heap.objs.size → s.heap.get? b = some o → h'.get? b = some o)) E) PySem.F.called_set.init.plain PySem.F.entry_set_init (check_set_init_1 isS (by
          obtain ⟨⟨c0, d0, x0, sl0⟩, at0, hc0, n0, hd0⟩ := hl
          simp only at hc0 hd0
          subst hc0; subst hd0
          have atL : (s.heap.push (set0 w)).get? l = some { cls := .type "list", dict := d0, data := .seq items n0, slots := sl0 } := Heap.get?_push_of_some _ at0
          have ls := PySem.F.sub_list_set
          have lf := PySem.F.sub_list_frozenset
          have nd : (Value.type "list" == Value.type "dict") = false := by decide
          have isL : (s.heap.push (set0 w)).IsList l items := ⟨_, atL, rfl, n0, rfl⟩
          unfold Builtin.«set.__init__» noKeywords Builtin.Frozenset.updateFrom
          generalize hPI : pyIter = PI
          wp_walk
          subst hPI
          refine wpAny_pyIter_list isL (wpAny_bind (wpAny_runValue (by
            have lS : l < s.heap.objs.size := Heap.lt_size at0
            have calm3 : A.in1.in1.in1.handled = none := by simp [hh]
            have sz1 : (s.heap.push (set0 w)).objs.size = s.heap.objs.size + 1 := Heap.size_push _ _
            have notI : l ≠ (s.heap.push (set0 w)).objs.size := by rw [sz1]; exact Nat.ne_of_lt (Nat.lt_succ_of_lt lS)
            have notS : s.heap.objs.size ∉ [(s.heap.push (set0 w)).objs.size, l] := by
              rw [sz1]; simp only [List.mem_cons, List.not_mem_nil, or_false, not_or]
              exact ⟨Nat.ne_of_lt (Nat.lt_succ_self _), Nat.ne_of_gt lS⟩
            have len : xs.length = items.size := by rw [← StrsAre.len_eq hi, Array.length_toList]
            refine txLoop ((Walks.list calm3 _ l notI items).toS) s.heap.objs.size notS xs len (by omega) (fun i v hv => SS.strs_at hi i v (by rw [Array.getElem?_toList]; exact hv)) (items.size - 0) 0 _ (by omega) (Nat.zero_le _) ⟨⟨_, Heap.get?_push_size _ rfl, rfl, rfl⟩, (isL.push _)⟩ ⟨(#[], 0, .fresh 0 0 (!w.params.followText "set-order")), Heap.get?_push_of_some _ atS, TxW.new⟩ fun s' hm hS' => ?_
            obtain ⟨h', g', d', tk', os'⟩ := s'
            have eg : g' = s.gens := hm.gens
            have ed : d' = s.drawn := hm.drawn
            have eo : os' = s.os := hm.os
            subst eg ed eo
            refine wpAny_pure (wpAny_pure ⟨rfl, h', tk', rfl, hS', fun b o hb e => hm.heap b o (by
              simp only [List.mem_cons, List.not_mem_nil, or_false, not_or]
              exact ⟨Nat.ne_of_lt hb, by rw [sz1]; exact Nat.ne_of_lt (Nat.lt_succ_of_lt hb)⟩) (Heap.get?_push_of_some _ (Heap.get?_push_of_some _ e))⟩)))))
          )) fun r₂ s₂ q₂ => ?_
        rcases r₂ with e | f₂
        · exact q₂
        cases f₂ with
        | ret r =>
          obtain ⟨rfl, h', tk, rfl, q1, q2⟩ := q₂
          repeat (any_goals (first | assumption | wp_step))
          exact h _ _ q1 q2
        | _ => exact q₂.elim
      | _ => exact hr.elim)⟩))
end
end Mir
/-! sorted(set(xs)) of a list of texts -/
namespace Mir
open PySem PySem.Spec PyProof.Rows L2 PySem.Froz
section
variable {X : Cx} {G : Gm}
def rSetT (P : Program) (w : World) (K : PySem.W.Frag) : List V → Hp → VK → Prop := fun vs H Q => ∃ (a : Addr) (xs : List Str), vs = [V.ref a] ∧ SqL K H a (xs.map V.str) ∧ xs.length < 4000 ∧ ∀ p : Addr, H p = none → Q (.ref p) (upd H p (txSet P w p (dset xs)))
theorem cr_setT (hc : X.calm = true) : CallR X (.type "set") (rSetT X.prog X.w X.K) := by
  intro pins s σ H vs us Q I r ⟨a, xs, ev, hq, hl, q⟩
  subst ev
  rw [Vals.ref1 r]
  obtain ⟨its, rv, pl, hz⟩ := I.list hq
  refine call_setT (I.ok.hd hc) pl.isList (by simpa using strsAre_of rv) hl fun h' tk ⟨D, e, F⟩ kp => ?_
  have hn : H s.heap.objs.size = none := I.hok.fresh (Nat.le_refl _)
  have k : ∀ b u, s.heap.get? b = some u → h'.get? b = some u := fun b u z => kp b u (Heap.lt_size z) z
  exact ⟨.ref s.heap.objs.size, _, I.call (ch := []) (Un.laid k (Nat.le_refl _) hn) (I.hok.laid k (Nat.le_refl _) (txSet_ok e F)) I.bare (fun _ z => nomatch z), rfl, q _ hn⟩
theorem str_vals {K : PySem.W.Frag} {F : Hp} : ∀ {xs : List Str} {vs : List V}, DvAll K F vs (xs.map D.str) → vs = xs.map V.str
  | [], _, .nil => rfl
  | x :: xs, _, .cons h r => by cases h; rw [str_vals r]; rfl
def srtSetF : D → R D
  | .lst ys => setGo strsOf finT ys
  | _ => .bad
def mSrtSet (m : Env → R D) : Env → R D := fun ρ => (m ρ).bind srtSetF
theorem me_srtset {e : Expr} {m : Env → R D} {p p2 q pos : Pos} (ha : ME X G e m) (hx : X.mg "sorted" = none) (hx2 : X.mg "set" = none) (hK : X.K = G.K := by rfl) (hc : X.calm = true := by rfl) (hg : Gl X "sorted" := by rfl) (hg2 : Gl X "set" := by rfl)
    (he : starEach [e] X.env = (false, eval e X.env) :: starEach [] X.env := by rfl) (hst : starEach [.Call (.Name "set" p2) [e] [] q] X.env = (false, eval (.Call (.Name "set" p2) [e] [] q) X.env) :: starEach [] X.env := by rfl)
    (hpl : (backTo q (starEach [] X.env)).any (·.1) = false := by rfl) (hpl2 : (backTo pos (starEach [] X.env)).any (·.1) = false := by rfl) :
    ME X G (.Call (.Name "sorted" p) [.Call (.Name "set" p2) [e] [] q] [] pos) (mSrtSet m) :=
  weakE (pe_callB (cr_sortT hc) hg hx (by decide +kernel) (pa_cons (pe_callTy (cr_setT hc) hg2 hx2 (by decide +kernel) (pa_cons ha pa_nil he) (by decide) (by decide) he hpl) pa_nil hst) (by decide) (by decide) hst hpl2) (by
    intro σ H Q ⟨ρ, F, S, P⟩
    refine ⟨ρ, F, S, (PostR.bind (rel := DvR G) P).imp fun d x F1 H1 e1 g1 q1 ⟨F2, d2, e2, g2, q2, P1⟩ => ?_⟩
    cases q2 with
    | @lst a vs ys ea r =>
      have P1 : PostR G (DvR G) F2 H1 (setGo strsOf finT ys) Q := P1
      cases e5 : strsOf ys with
      | none => unfold setGo at P1; rw [e5] at P1; exact P1.elim
      | some xs =>
        unfold setGo at P1
        rw [e5] at P1
        have P1 : PostR G (DvR G) F2 H1 (if xs.length < 4000 then finT xs else .bad) Q := P1
        have h4 : xs.length < 4000 := Decidable.byContradiction fun z => by rw [if_neg z] at P1; exact P1.elim
        rw [if_pos h4] at P1
        rw [strsOf_map e5] at r
        have ev := str_vals r
        subst ev
        refine ⟨a, xs, rfl, by rw [hK]; exact SqL.of (g2.s _ _ ea), h4, fun p hp => ⟨p, dset xs, rfl, upd_same, by have := dset_len xs; omega, fun ys2 q pm so hq => ?_⟩⟩
        rw [eq_sortS pm so]
        exact postNew (PostR.grow P1 (Grow.own g2.s hp)) (g2.s.upd_out (g2.s.free hp)) hq (.lst upd_same (dv_strs _))
    | _ => exact P1.elim)
end
end Mir
/-! min of a list of pairs of an int and a text -/
namespace Mir
open PySem PySem.Spec PyProof.Rows L2 PySem.Froz
section
variable {X : Cx} {G : Gm}
def rMinD (K : PySem.W.Frag) : List V → Hp → VK → Prop := fun args H Q => ∃ (a : Addr) (vs : List V) (x : PyData) (ds : List PyData), args = [V.ref a] ∧ SqL K H a vs ∧ DpAll K H vs (x :: ds) ∧ PySem.W.AlikeAll (x :: ds) ∧ PyData.depthAll (x :: ds) ≤ 60 ∧
  ∀ (i : Nat) (v : V), vs[i]? = some v → (x :: ds)[i]? = some (PySem.W.minD x ds) → Q v H
theorem vals_at : ∀ {vs : List V} {us : List Value}, Vals vs us → ∀ (i : Nat) (u : Value), us[i]? = some u → ∃ v, vs[i]? = some v ∧ RelV v u
  | _, _, .nil, i, u, h => by simp at h
  | _, _, .cons r t, 0, u, h => ⟨_, rfl, by cases h; exact r⟩
  | _, _, .cons r t, i + 1, u, h => vals_at t i u h
theorem cr_minD (hc : X.calm = true) (hu : X.A.units + 64 < cLine) : CallR X (.builtin "min") (rMinD X.K) := by
  intro pins s σ H vs us Q I r ⟨a, vs', x, ds, ev, hs, hd, al, dp, q⟩
  subst ev
  obtain ⟨its, rv, hl, _⟩ := I.list hs
  rw [Vals.ref1 r]
  obtain ⟨as, ra⟩ := Dp.readsAll I (x :: ds) vs' its hd rv
  refine PySem.W.min_list_data (I.ok.hd hc) hl.isList (by simpa using ra) al (by omega) fun i v h' tk bs hi rd hk => ?_
  have hi : its[i]? = some v := by simpa using hi
  obtain ⟨w, hw, rw1⟩ := vals_at rv i v hi
  obtain ⟨cs, r2, lt, _, _⟩ := PySem.W.readsAll_at ra i v hi
  have r3 := PySem.W.reads_keeps hk r2
  have e := (Reads.unique r3 _ _ rd).1
  have at2 : (x :: ds)[i]? = some (PySem.W.minD x ds) := by rw [← e, List.getD_eq_getElem?_getD, List.getElem?_eq_getElem lt]; rfl
  exact ⟨w, H, I.kept hk, rw1, q i w hw at2⟩
def pisOf : List D → Option (List (Int × Str))
  | [] => some []
  | .tup [.int i, .str z] :: r => (pisOf r).map ((i, z) :: ·)
  | _ => none
def piD (p : Int × Str) : D := .tup [.int p.1, .str p.2]
theorem pisOf_map : ∀ {ds : List D} {ps : List (Int × Str)}, pisOf ds = some ps → ds = ps.map piD := fun {ds} => by
  induction ds with
  | nil => intro ps h; cases h; rfl
  | cons d r ih =>
    intro ps h
    unfold pisOf at h
    split at h
    · rename_i heq; cases heq
    · rename_i i z r' heq
      cases heq
      cases e : pisOf r with
      | none => rw [e] at h; cases h
      | some qs => rw [e] at h; cases h; rw [ih e]; rfl
    · cases h
def minPF : List D → R D
  | [.lst ds] => match pisOf ds with
    | some (p :: ps) => .ok (piD (PySem.W.minOf p ps))
    | _ => .bad
  | _ => .bad
theorem toPy_pi (p : Int × Str) : toPy (piD p) = PySem.W.Datum.toD p := by
  unfold piD
  rw [toPy, toPyAll, toPyAll, toPyAll, toPy, toPy]; rfl
theorem pi_inj {p q : Int × Str} (h : PySem.W.Datum.toD p = PySem.W.Datum.toD q) : p = q := by
  have e1 : PyData.eqv (PySem.W.Datum.toD p) (PySem.W.Datum.toD q) = decide (p = q) := PySem.W.Datum.eqv p q
  have e2 : PyData.eqv (PySem.W.Datum.toD q) (PySem.W.Datum.toD q) = decide (q = q) := PySem.W.Datum.eqv q q
  rw [h, e2, decide_eq_true rfl] at e1
  exact of_decide_eq_true e1.symm
theorem dpAll_pi {F H : Hp} {K : PySem.W.Frag} (s : Same F H) : ∀ {vs : List V} {ps : List (Int × Str)}, DvAll K F vs (ps.map piD) → DpAll K H vs (ps.map PySem.W.Datum.toD)
  | _, [], .nil => .nil
  | _, p :: ps, .cons h r => by
    refine .cons ?_ (dpAll_pi s r)
    show Dp K H _ (.tuple [.int p.1, .str p.2])
    cases h with
    | tup e r2 =>
      cases r2 with
      | cons a r3 =>
        cases r3 with
        | cons b r4 =>
          cases r4
          cases a
          cases b
          exact .tup (Same.tup s e) (.cons (.int _) (.cons (.str _) .nil))
theorem cm_minP : CallM G (rMinD G.K) minPF := by
  intro F H vs ds Q s h P
  unfold minPF at P
  split at P
  · obtain ⟨v, rfl, q⟩ := one_of h
    cases q with
    | @lst a xs _ e r =>
      split at P
      · rename_i p ps ey
        have ed := pisOf_map ey
        rw [ed] at r
        refine ⟨_, xs, PySem.W.Datum.toD p, ps.map PySem.W.Datum.toD, rfl, SqL.of (s _ _ e), dpAll_pi s r, PySem.W.alikeAll_datum (p :: ps), ?_, fun i v hv hi => ?_⟩
        · exact Nat.le_trans (PySem.W.depthAll_map (p :: ps)) (by decide)
        · rw [PySem.W.minD_map] at hi
          rw [← List.map_cons (f := PySem.W.Datum.toD), List.getElem?_map] at hi
          cases ep : (p :: ps)[i]? with
          | none => rw [ep] at hi; cases hi
          | some m =>
            rw [ep] at hi
            have em := pi_inj (Option.some.inj hi)
            obtain ⟨d, hd, rd⟩ := r.get hv
            rw [List.getElem?_map, ep] at hd
            cases hd
            rw [em] at rd
            exact postD P s rd
      · exact P.elim
  · exact P.elim
variable {e : Expr} {pos p : Pos}
theorem me_minP {m : Env → R (List D)} (hu : X.A.units + 64 < cLine) (ha : MA X G [e] m) (hx : X.mg "min" = none) (hc : X.calm = true := by rfl) (hK : X.K = G.K := by rfl) (hg : Gl X "min" := by rfl) (he : starEach [e] X.env = (false, eval e X.env) :: starEach [] X.env := by rfl) (hpl : (backTo pos (starEach [] X.env)).any (·.1) = false := by rfl) :
    ME X G (.Call (.Name "min" p) [e] [] pos) (mCall minPF m) := me_callB (cr_minD hc hu) (by rw [hK]; exact cm_minP) ha hx (by decide +kernel) hg (by decide) (by decide) he hpl
end
end Mir
/-! zip of two texts -/
namespace Mir
open PySem PySem.Spec PyProof.Rows L2
/-- a sign of each text at each turn -/
def ZsS (zt zu : Str) : It where
  go i H := i < zt.cps.size ∧ i < zu.cps.size
  yld i H v H' := ∃ T c d, v = .ref T ∧ H T = none ∧ zt.cps[i]? = some c ∧ zu.cps[i]? = some d ∧ H' = upd H T (.tup [.str ⟨#[c]⟩, .str ⟨#[d]⟩])
  stop i H := i = min zt.cps.size zu.cps.size
abbrev ZsI (z TI TO i1 i2 : Addr) (zt zu : Str) (t t2 : Tok) (i : Nat) (h : Heap) : Prop := (IsZip h z TI TO .none ∧ IsTupOf2 h TI (.ref i1) (.ref i2) ∧ (∃ a1 a2, IsTupOf2 h TO a1 a2) ∧ h.IsStrIter i1 (strIterType zt) zt t i ∧ h.IsStrIter i2 (strIterType zu) zu t2 i) ∧ ZipSep2 z TI TO i1 i2 [i1] [i2]
section
variable {P : Program} {w : World} {K : PySem.W.Frag} {elts : List Expr} {kk : Nat} {tpos : Pos}
theorem turn_zss (zt zu : Str) (t t2 : Tok) (z TI TO i1 i2 : Addr) : Turn P w K (.Tuple elts kk tpos) (ZsS zt zu) [z, TI, TO, i1, i2] z (fun i h => ZsI z TI TO i1 i2 zt zu t t2 i h) where
  mem := List.mem_cons_self
  obj i h st c hc := by
    obtain ⟨⟨hz, hTI, ⟨a1, a2, hTO⟩, ⟨o1, e1, _, d1⟩, ⟨o2, e2, _, d2⟩⟩, _⟩ := st
    simp only [List.mem_cons, List.not_mem_nil, or_false] at hc
    rcases hc with rfl | rfl | rfl | rfl | rfl
    · exact ⟨_, hz, fun v q => nomatch q⟩
    · exact ⟨_, hTI, fun v q => nomatch q⟩
    · exact ⟨_, hTO, fun v q => nomatch q⟩
    · exact ⟨o1, e1, fun v q => by rw [d1] at q; cases q⟩
    · exact ⟨o2, e2, fun v q => by rw [d2] at q; cases q⟩
  keep i h h' st k := by
    obtain ⟨⟨hz, hTI, ⟨a1, a2, hTO⟩, ⟨o1, e1, r1⟩, ⟨o2, e2, r2⟩⟩, S⟩ := st
    exact ⟨⟨k z (by simp) _ hz, k TI (by simp) _ hTI, ⟨a1, a2, k TO (by simp) _ hTO⟩, ⟨o1, k i1 (by simp) _ e1, r1⟩, ⟨o2, k i2 (by simp) _ e2, r2⟩⟩, S⟩
  item := by
    intro X hP hw hK hc i pins s σ H E I hf st hg
    subst hP hw hK
    obtain ⟨⟨hz, hTI, hTO, h1, h2⟩, S⟩ := st
    obtain ⟨hi1, hi2⟩ := hg
    have D1 := Draws.text (prog := X.prog) (w := X.w) (A := X.A.in1) (I.ok.hd hc) i1 zt t
    have D2 := Draws.text (prog := X.prog) (w := X.w) (A := X.A.in1) (I.ok.hd hc) i2 zu t2
    have G := GoesN.zip2 (elts := elts) (x1 := kk) (pos := tpos) S D1 D2
    refine wpAny_mono (G.goes i s (fun v s2 => ∃ x H', Inv X pins σ H' s2 ∧ RelV x v ∧ (ZsS zt zu).yld i H x H' ∧ ZsI z TI TO i1 i2 zt zu t t2 (i + 1) s2.heap ∧ ∀ c ∈ [z, TI, TO, i1, i2], H' c = none) E (Nat.lt_min.mpr ⟨hi1, hi2⟩) ⟨hz, hTI, hTO, h1, h2⟩ fun v h' tk hY st' hk htk => ?_) (fun _ _ q => q) fun _ _ q => q
    obtain ⟨T, x, y, rfl, hn, ⟨c, u, hcx, rfl⟩, ⟨d, u2, hdx, rfl⟩, hTT⟩ := hY
    obtain ⟨sz, sTI, sTO, s1, s2⟩ := st'
    have lt : ∀ c ∈ [z, TI, TO, i1, i2], c < s.heap.objs.size := fun c hcm => by
      obtain ⟨a1, a2, hTO⟩ := hTO
      simp only [List.mem_cons, List.not_mem_nil, or_false] at hcm
      rcases hcm with rfl | rfl | rfl | rfl | rfl
      · exact Heap.lt_size hz
      · exact Heap.lt_size hTI
      · exact Heap.lt_size hTO
      · obtain ⟨o, e, _⟩ := h1; exact Heap.lt_size e
      · obtain ⟨o, e, _⟩ := h2; exact Heap.lt_size e
    have new : ObjOk X.prog X.w (upd H T (.tup [.str ⟨#[c]⟩, .str ⟨#[d]⟩])) h' T (.tup [.str ⟨#[c]⟩, .str ⟨#[d]⟩]) :=
      ⟨by rw [sizeLine_eq]; exact (by decide : 2 ≤ 16777216), [.str ⟨#[c]⟩ u, .str ⟨#[d]⟩ u2], .cons ⟨u, rfl⟩ (.cons ⟨u2, rfl⟩ .nil), hTT⟩
    have I1 := I.turnedNew (t' := tk) (ch := [z, TI, TO, i1, i2]) (fun c o hb q => hk c o (fun hw => hb (by
      simp only [List.mem_cons, List.not_mem_nil, or_false] at hw ⊢
      rcases hw with rfl | rfl | rfl | rfl <;> simp)) q) hf hn new
    refine ⟨.ref T, _, I1, rfl, ⟨T, c, d, rfl, I.hok.fresh hn, hcx, hdx, rfl⟩, ⟨⟨sz, sTI, sTO, s1, s2⟩, S⟩, fun c hcm => ?_⟩
    rw [upd_ne (Nat.ne_of_lt (Nat.lt_of_lt_of_le (lt c hcm) hn))]
    exact (hf c hcm).1
  done := by
    intro X hP hw hK hc i pins s σ H E I hf st hg
    subst hP hw hK
    obtain ⟨⟨hz, hTI, hTO, h1, h2⟩, S⟩ := st
    have D1 := Draws.text (prog := X.prog) (w := X.w) (A := X.A.in1) (I.ok.hd hc) i1 zt t
    have D2 := Draws.text (prog := X.prog) (w := X.w) (A := X.A.in1) (I.ok.hd hc) i2 zu t2
    have G := GoesN.zip2 (elts := elts) (x1 := kk) (pos := tpos) S D1 D2
    have ei : i = min zt.cps.size zu.cps.size := hg
    subst ei
    exact G.stops s (fun s1 => Inv X pins σ H s1) E ⟨hz, hTI, hTO, h1, h2⟩ fun h' tk hk htk => I.turnedL (t' := tk) (ch := [z, TI, TO, i1, i2]) (fun c o hb q => hk c o (fun hw => hb (by
      simp only [List.mem_cons, List.not_mem_nil, or_false] at hw ⊢
      rcases hw with rfl | rfl | rfl | rfl <;> simp)) q) hf
  self A i s Q E st h := wpAny_pyIter_zip st.1.1 h
end
def iZsS (ta : TA) : TI := fun σ H R => ta σ H fun vs H1 => ∃ zt zu, vs = [.str zt, .str zu] ∧ R (ZsS zt zu) H1
theorem pi_zss {X : Cx} {e e2 : Expr} {ta : TA} {p pos tpos : Pos} {elts : List Expr} {kk : Nat} (hg : Gl X "zip") (hm : X.mg "zip" = none) (ha : PA X [e, e2] ta)
    (hs : starEach [e, e2] X.env = (false, eval e X.env) :: starEach [e2] X.env := by rfl) (hpl : (backTo pos (starEach [e2] X.env)).any (·.1) = false := by rfl) :
    PI X (.Tuple elts kk tpos) (.Call (.Name "zip" p) [e, e2] [] pos) (iZsS ta) := by
  refine ⟨fun pins s σ H R I h => ?_⟩
  refine Call_ (ld_blt I hg hm PyProof.Rows.boot_zip (PyProof.Rows.callWith_type1 (thn (ha.run pos pins s σ H _ I h) fun us s1 ⟨vs, H1, I1, r1, q1⟩ => ?_) hs hpl))
  obtain ⟨zt, zu, ex, q⟩ := q1
  subst ex
  cases r1 with
  | cons r rr =>
    cases rr with
    | cons r' rr =>
      cases rr
      obtain ⟨t, rfl⟩ := r
      obtain ⟨t2, rfl⟩ := r'
      refine zip_begins2 (begins_text zt t) (begins_text zu t2) trivial trivial fun h' a1 a2 a3 a4 a5 a6 a7 => wpAny_pyIter_zip a1 ?_
      refine ⟨s1.heap.objs.size + 4, [s1.heap.objs.size + 4, s1.heap.objs.size + 2, s1.heap.objs.size + 3, s1.heap.objs.size, s1.heap.objs.size + 1], _, ZsS zt zu, H1, rfl, I1.kept (t' := s1.toks) a7, turn_zss zt zu t t2 _ _ _ _ _, ⟨⟨a1, a2, ⟨_, _, a3⟩, ⟨_, a4, rfl, rfl⟩, ⟨_, a5, rfl, rfl⟩⟩, zip_sep2 (fp1 := []) (fp2 := []) (fun _ h => nomatch h) (fun _ h => nomatch h)⟩, fun c hc => ?_, q⟩
      have hle : s1.heap.objs.size ≤ c := by
        simp only [List.mem_cons, List.not_mem_nil, or_false] at hc
        rcases hc with rfl | rfl | rfl | rfl | rfl <;> omega
      exact I1.fpOk hle (I1.hok.fresh hle)
section
variable {X : Cx} {G : Gm} {a b e : Expr} {p pos tpos : Pos} {elts : List Expr} {kk : Nat}
theorem sign_at {zt : Str} {i c : Nat} (h : zt.cps[i]? = some c) : (signsD zt)[i]? = some (.str ⟨#[c]⟩) := by
  unfold signsD
  rw [List.getElem?_map, Array.getElem?_toList, h]
  rfl
theorem wd_zss {K : PySem.W.Frag} {F : Hp} {zt zu : Str} : WalkD K (ZsS zt zu) (zipD (signsD zt) (signsD zu)) F := by
  have hz : (zipD (signsD zt) (signsD zu)).length = min zt.cps.size zu.cps.size := by rw [zipD_len, signsD_len, signsD_len]
  refine ⟨fun i F1 H s1 s2 hi => ?_, fun F1 H s1 s2 => hz, fun i F1 H x H' s1 s2 hi y => ?_⟩
  · rw [hz] at hi
    exact Nat.lt_min.mp hi
  · obtain ⟨T, c, d, rfl, hT, hc, hd, rfl⟩ := y
    have g := Grow.new (o := .tup [.str ⟨#[c]⟩, .str ⟨#[d]⟩]) s2 hT
    exact ⟨upd F1 T (.tup [.str ⟨#[c]⟩, .str ⟨#[d]⟩]), .tup [.str ⟨#[c]⟩, .str ⟨#[d]⟩], zipD_at (sign_at hc) (sign_at hd), g, .tup (SqT.of upd_same) (.cons (.str _) (.cons (.str _) .nil))⟩
def zipSF : List D → R (List D)
  | [.str z, .str y] => .ok (zipD (signsD z) (signsD y))
  | _ => .bad
theorem mi_zipS {mr : Env → R (List D)} (ha : MA X G [a, b] mr) (hx : X.mg "zip" = none) (hg : Gl X "zip" := by rfl) (hs : starEach [a, b] X.env = (false, eval a X.env) :: starEach [b] X.env := by rfl) (hpl : (backTo pos (starEach [b] X.env)).any (·.1) = false := by rfl) :
    MI X G (.Tuple elts kk tpos) (.Call (.Name "zip" p) [a, b] [] pos) (mSeqs zipSF mr) := weakI (pi_zss hg hx ha hs hpl) fun σ H Q ⟨ρ, F, S, P⟩ => by
  refine ⟨ρ, F, S, (PostI.bind (rel := DvsR G) P).imp fun d x F1 H1 e1 g1 q1 ⟨F1', d', e1', g1', q1', P1⟩ => ?_⟩
  unfold zipSF at P1
  split at P1
  · cases q1' with
    | cons h r =>
      obtain ⟨v, rfl, q⟩ := one_of r
      cases q
      cases h
      exact ⟨_, _, rfl, P1 _ _ _ (Grow.refl g1'.s) wd_zss⟩
  · exact P1.elim
end
end Mir
/-! own.extend(list), x += int, x -= int -/
namespace Mir
open PySem PySem.Spec PyProof.Rows L2
section
variable {X : Cx} {G : Gm} {e : Expr} {ma : Env → R D} {pos pos' : Pos}
def sExt (i : Nat) (m : Env → R D) : Env → RS := fun ρ => olS ρ[i]? fun ds => (m ρ).to fun d => lstS d fun es => if ds.length + es.length < 16000000 then .nx (ρ.set i (.ol (ds ++ es))) else .bad
theorem ms_ext (i : Nat) {x : Str} {p apos cpos : Pos} (he : ME X G e ma) (hK : X.K = G.K := by rfl) (hN : X.N[i]? = some x := by rfl) (hv : Vis X.env.scope x := by first | exact Or.inl rfl | exact Or.inr (Or.inl rfl) | exact Or.inr (Or.inr rfl)) (hd : (x == ("__debug__" : Str)) = false := by decide)
    (hcd : (x == ("__classdict__" : Str)) = false := by decide)
    (hbase : attributeBase (.Name x p) "extend" X.env (eval (.Name x p) X.env) = eval (.Name x p) X.env := by rfl)
    (hfew : ((backTo cpos (starEach [e] X.env)).all (fun x => !x.1) && (backToKw cpos (keywordEach [] X.env)).all (fun x => x.1.isSome)
      && decide ([e].length + ([] : List Keyword).length + (if ([] : List Keyword).isEmpty then 0 else 1) < 30)) = true := by rfl)
    (hline : (apos.endLine == cpos.line) = true := by rfl) (hst : starEach [e] X.env = (false, eval e X.env) :: starEach [] X.env := by rfl) (hplain : (backTo cpos (starEach [] X.env)).any (·.1) = false := by rfl)
    (hs : swapsWith (.Call (.Attribute (.Name x p) "extend" apos) [e] [] cpos) none pos.line X.env = pure false := by rfl) :
    MS X G (.Expr (.Call (.Attribute (.Name x p) "extend" apos) [e] [] cpos) pos) (sExt i ma) :=
  weakS (ps_expr (pe_bm PySem.F.plainAttrs_list PySem.F.slot_list_extend PySem.F.type_list_extend mt_extend (pe_var hN hv hd hcd) (pa_cons he pa_nil hst) hbase hfew hline hst hplain) hs) fun D σ H ⟨ρ, F, F0, H0, S, P⟩ => by
    cases hρ : ρ[i]? with
    | none => unfold sExt at P; rw [hρ] at P; exact P.elim
    | some sl =>
      unfold sExt at P
      rw [hρ] at P
      cases sl with
      | ol ds =>
        have P : PostS G F0 H0 F D ((ma ρ).to fun d => lstS d fun es => if ds.length + es.length < 16000000 then .nx (ρ.set i (.ol (ds ++ es))) else .bad) := P
        obtain ⟨l, xs, k1, k2, k3, k4⟩ := S.sl.getOl hρ
        refine ⟨.ref l, k1, by rw [hK]; exact .inl ⟨rfl, xs, SqL.of k2⟩, ρ, F, S.sl, (P.to (rel := DvR G) S).imp fun d x F1 H1 e1 g1 q1 ⟨F1', d', e1', g1', q1', P1⟩ => ?_⟩
        cases q1' with
        | @lst b zs es eb r =>
          have P1 : PostS G F0 H0 F1' D (if ds.length + es.length < 16000000 then .nx (ρ.set i (.ol (ds ++ es))) else .bad) := P1
          by_cases hl : ds.length + es.length < 16000000
          · rw [if_pos hl] at P1
            have S1 := S.grow g1'
            have k4' := k4.mono g1'.f
            have k3' : F1' l = none := (g1'.o _ _ k2).trans k3
            refine ⟨l, b, xs, zs, rfl, rfl, g1'.h _ _ k2, g1'.s _ _ eb, by rw [k4.length, r.length, sizeLine_eq]; omega, ?_⟩
            exact P1 σ F1' _ (S1.putOwn hρ rfl k1 k3' rfl ⟨l, _, rfl, upd_same, k3', k4'.append r⟩) (Same.refl _)
          · rw [if_neg hl] at P1
            exact P1.elim
        | _ => exact P1.elim
      | _ => exact P.elim
def intS2 (x y : D) (f : Int → Int → RS) : RS := match x, y with
  | .int a, .int b => f a b
  | _, _ => .bad
def sAugI (f : Int → Int → Int) (i : Nat) (m : Env → R D) : Env → RS := fun ρ => (mVar i ρ).to fun x => (m ρ).to fun y => intS2 x y fun a b => .nx (ρ.set i (.fz (.int (f a b))))
theorem aug_run {f : Int → Int → Int} {i : Nat} {x : Str} {op : Operator} (hN : X.N.Nodup) (hp : PIp X op (ipI f)) (he : ME X G e ma) (hi : X.N[i]? = some x) (hx : L2.Loc X.env.scope x) (hf : X.fn x = true ∨ X.env.scope.names.lookup x = some .local) : MS X G (.AugAssign (.Name x pos') op e pos) (sAugI f i ma) :=
  weakS (ps_aug hN hi hx he hp hf) fun D σ H ⟨ρ, F, F0, H0, S, P⟩ => by
    unfold sAugI at P
    cases hv : mVar i ρ with
    | exc c => unfold mVar at hv; split at hv <;> cases hv
    | bad => rw [hv] at P; exact P.elim
    | ok d =>
      rw [hv] at P
      have P : PostS G F0 H0 F D ((ma ρ).to fun y => intS2 d y fun a b => .nx (ρ.set i (.fz (.int (f a b))))) := P
      obtain ⟨v, ev, rv⟩ : ∃ v, σ[i]? = some (some v) ∧ Dv G.K F v d := by
        unfold mVar at hv
        split at hv
        · rename_i d2 hd
          obtain ⟨v, e1, q⟩ := S.sl.get hd
          cases hv
          exact ⟨v, e1, q⟩
        · cases hv
      refine ⟨v, ev, ρ, F, S.sl, (P.to (rel := DvR G) S).imp fun d1 x F1 H1 e1 g1 q1 ⟨F1', d', e1', g1', q1', P1⟩ => ?_⟩
      have rv1 := rv.mono g1'.f
      cases rv1 with
      | int a =>
        cases q1' with
        | int b => exact ⟨a, b, rfl, rfl, P1 _ F1' H1 ((S.grow g1').setFz (.int _) i) (Same.refl _)⟩
        | _ => exact P1.elim
      | _ => exact P1.elim
theorem ms_augAdd {i : Nat} {x : Str} (hN : X.N.Nodup) (he : ME X G e ma) (hi : X.N[i]? = some x := by rfl) (hx : L2.Loc X.env.scope x := by first | exact Or.inl rfl | exact Or.inr rfl) (hf : X.fn x = true ∨ X.env.scope.names.lookup x = some .local := by first | exact .inl rfl | exact .inr rfl | assumption) : MS X G (.AugAssign (.Name x pos') .Add e pos) (sAugI (fun a b => a + b) i ma) := aug_run hN ip_add he hi hx hf
theorem ms_augSub {i : Nat} {x : Str} (hN : X.N.Nodup) (he : ME X G e ma) (hi : X.N[i]? = some x := by rfl) (hx : L2.Loc X.env.scope x := by first | exact Or.inl rfl | exact Or.inr rfl) (hf : X.fn x = true ∨ X.env.scope.names.lookup x = some .local := by first | exact .inl rfl | exact .inr rfl | assumption) : MS X G (.AugAssign (.Name x pos') .Sub e pos) (sAugI (fun a b => a - b) i ma) := aug_run hN ip_sub he hi hx hf
theorem sExt_eq {i : Nat} {m : Env → R D} {ρ : Env} : sExt i m ρ = olS ρ[i]? fun ds => (m ρ).to fun d => lstS d fun es => if ds.length + es.length < 16000000 then .nx (ρ.set i (.ol (ds ++ es))) else .bad := id rfl
theorem sAugI_eq {f : Int → Int → Int} {i : Nat} {m : Env → R D} {ρ : Env} : sAugI f i m ρ = (mVar i ρ).to fun x => (m ρ).to fun y => intS2 x y fun a b => .nx (ρ.set i (.fz (.int (f a b)))) := id rfl
theorem intS2_ii {a b : Int} {f : Int → Int → RS} : intS2 (.int a) (.int b) f = f a b := id rfl
end
end Mir
/-! sorted of tuples of ints, all of one length -/
namespace Mir
/-- the first difference decides, else the shorter is the less -/
def lexI : List Int → List Int → Bool
  | [], [] => false
  | [], _ :: _ => true
  | _ :: _, [] => false
  | x :: xs, y :: ys => if x = y then lexI xs ys else decide (x < y)
theorem lexI_irrefl : ∀ xs : List Int, lexI xs xs = false
  | [] => rfl
  | x :: xs => by unfold lexI; rw [if_pos rfl]; exact lexI_irrefl xs
theorem lexI_trans' : ∀ xs ys zs : List Int, lexI ys xs = false → lexI zs ys = false → lexI zs xs = false
  | [], [], zs, _, h => h
  | x :: xs, [], zs, h, _ => by cases h
  | [], y :: ys, [], _, h => by cases h
  | [], y :: ys, z :: zs, _, _ => rfl
  | x :: xs, y :: ys, [], _, h => by cases h
  | x :: xs, y :: ys, z :: zs, h1, h2 => by
    unfold lexI at h1 h2 ⊢
    by_cases a : y = x
    · subst a
      rw [if_pos rfl] at h1
      by_cases b : z = y
      · subst b
        rw [if_pos rfl] at h2 ⊢
        exact lexI_trans' xs ys zs h1 h2
      · rw [if_neg b] at h2 ⊢
        exact h2
    · rw [if_neg a] at h1
      have h1 := of_decide_eq_false h1
      by_cases b : z = y
      · subst b
        rw [if_neg a]
        exact decide_eq_false h1
      · rw [if_neg b] at h2
        have h2 := of_decide_eq_false h2
        rw [if_neg (by omega)]
        exact decide_eq_false (by omega)
theorem lexI_total : ∀ xs ys : List Int, lexI xs ys = true → lexI ys xs = false
  | [], [], h => by cases h
  | [], y :: ys, _ => rfl
  | x :: xs, [], h => by cases h
  | x :: xs, y :: ys, h => by
    unfold lexI at h ⊢
    by_cases a : x = y
    · subst a
      rw [if_pos rfl] at h ⊢
      exact lexI_total xs ys h
    · rw [if_neg a] at h
      rw [if_neg (fun z => a z.symm)]
      exact decide_eq_false (by have := of_decide_eq_true h; omega)
theorem lexI_anti : ∀ xs ys : List Int, lexI xs ys = false → lexI ys xs = false → xs = ys
  | [], [], _, _ => rfl
  | [], y :: ys, h, _ => by cases h
  | x :: xs, [], _, h => by cases h
  | x :: xs, y :: ys, h1, h2 => by
    unfold lexI at h1 h2
    by_cases a : x = y
    · subst a
      rw [if_pos rfl] at h1 h2
      rw [lexI_anti xs ys h1 h2]
    · rw [if_neg a] at h1
      rw [if_neg (fun z => a z.symm)] at h2
      have h1 := of_decide_eq_false h1
      have h2 := of_decide_eq_false h2
      exact absurd (by omega) a
def leL (p q : List Int) : Bool := !lexI q p
theorem leL_trans (p q r : List Int) (h1 : leL p q = true) (h2 : leL q r = true) : leL p r = true := by
  unfold leL at *
  rw [Bool.not_eq_true'] at *
  exact lexI_trans' p q r h1 h2
theorem leL_total (p q : List Int) : (leL p q || leL q p) = true := by
  unfold leL
  cases h : lexI q p with
  | false => rfl
  | true => rw [lexI_total q p h]; rfl
theorem leL_anti {p q : List Int} (h1 : leL p q = true) (h2 : leL q p = true) : p = q := by
  unfold leL at h1 h2
  rw [Bool.not_eq_true'] at h1 h2
  exact lexI_anti p q h2 h1
def sortL (ps : List (List Int)) : List (List Int) := ps.mergeSort leL
theorem eq_sortL {ps qs : List (List Int)} (hp : qs.Perm ps) (hs : qs.Pairwise (fun x y => leL x y = true)) : qs = sortL ps :=
  List.Perm.eq_of_pairwise (fun a b _ _ h1 h2 => leL_anti h1 h2) hs (List.pairwise_mergeSort leL_trans leL_total ps) (hp.trans (List.mergeSort_perm ps leL).symm)
end Mir
namespace SrtO
open PySem PyProof.Rows Srt Mir
section
variable {prog : Program} {w : World} {A : Around} {E : Value → Shared → Prop} {s : Shared}
theorem swo_lexI (k : Value → List Int) : Swo fun v u => lexI (k v) (k u) := by
  exact ⟨fun x y h => lexI_total _ _ h, fun x y z h1 h2 => lexI_trans' _ _ _ h1 h2⟩
theorem lex_run {b : Bool} {Q : Bool → Shared → Prop} : ∀ {xs ys : List Value} {ns ms : List Int} (i : Nat), IntsAre xs ns → IntsAre ys ms → ns.length = ms.length → Q (lexI ns ms) s → PySem.W.KatLex prog w A b false Q (xs.zip ys) i s := by
  intro xs ys ns ms i hx
  induction hx generalizing ys ms i with
  | nil =>
    intro hy hl h
    cases hy with
    | nil => exact PySem.W.kat_nil h
    | cons q u hy => simp at hl
  | @cons p t xs ns hx ih =>
    intro hy hl h
    cases hy with
    | nil => simp at hl
    | @cons q u ys ms hy =>
      show PySem.W.KatLex prog w A b false Q ((Value.int p t, Value.int q u) :: xs.zip ys) i s
      refine PySem.W.kat_cons (wpAny_eqBool_int ?_)
      unfold lexI at h
      by_cases e : p = q
      · subst e
        rw [if_pos rfl] at h
        rw [beq_self_eq_true]
        exact PySem.W.kat_yes (ih _ hy (by simpa using hl) h)
      · rw [if_neg e] at h
        rw [show (p == q) = false from beq_eq_false_iff_ne.mpr e]
        exact PySem.W.kat_no (TS.oneLt_ints _ h)
theorem tups_cmp {d : Nat} {vs : List Value} {k : Value → List Int} (hp : ∀ v ∈ vs, TS.TupInts s.heap v (k v) ∧ (k v).length = d) : Cmp prog w A s (tuples' true) (fun p => p.1 ∈ vs) (lt2 fun v u => lexI (k v) (k u)) := by
  intro p q hm hm'
  obtain ⟨h1, l1⟩ := hp _ hm
  obtain ⟨h2, l2⟩ := hp _ hm'
  show wpAny (model prog w) A (keyLt' (tuples' true) p.1 q.1) (fun r s' => s' = s ∧ r = lexI (k p.1) (k q.1)) (fun _ _ => False) s
  generalize k p.1 = x at h1 l1 ⊢
  generalize k q.1 = y at h2 l2 ⊢
  obtain ⟨a, xs, e, ⟨o, ho, hc, n, hd⟩, i1⟩ := h1
  obtain ⟨a', ys, e', ⟨o', ho', hc', n', hd'⟩, i2⟩ := h2
  rw [e, e']
  have z1 : xs.size = d := by rw [← l1, ← i1.length, Array.length_toList]
  have z2 : ys.size = d := by rw [← l2, ← i2.length, Array.length_toList]
  refine PySem.W.kat_lt ho hd ho' hd' ?_
  rw [show decide (xs.size < ys.size) = false from decide_eq_false (by omega)]
  exact lex_run 0 i1 i2 (l1.trans l2.symm) ⟨rfl, rfl⟩
theorem tups_firsts {h : Heap} {d : Nat} (hd : 1 ≤ d) : ∀ {vs : List Value}, (∀ v ∈ vs, ∃ ns, TS.TupInts h v ns ∧ ns.length = d) → ∃ fs : List Value, PySem.W.KatTups h vs fs ∧ fs.length = vs.length ∧ ∀ f ∈ fs, ∃ x t, f = Value.int x t
  | [], _ => ⟨[], PySem.W.KatTups.nil, rfl, fun _ hm => by simp at hm⟩
  | v :: vs, hp => by
    obtain ⟨fs, h1, h2, h3⟩ := tups_firsts (vs := vs) hd fun v' hm => hp v' (List.mem_cons_of_mem _ hm)
    obtain ⟨ns, ⟨a, xs, e, ⟨o, ho, hc, n, hdt⟩, i⟩, hl⟩ := hp v (List.mem_cons_self ..)
    subst e
    cases q : xs.toList with
    | nil => rw [q] at i; cases i; simp at hl; omega
    | cons y ys =>
      rw [q] at i
      cases i with
      | @cons m t _ _ r =>
        have z : xs[0]? = some (Value.int m t) := by rw [← Array.getElem?_toList, q]; rfl
        refine ⟨.int m t :: fs, PySem.W.KatTups.cons ho hc hdt z h1, by rw [List.length_cons, List.length_cons, h2], fun f hm => ?_⟩
        rcases List.mem_cons.mp hm with rfl | hm
        · exact ⟨m, t, rfl⟩
        · exact h3 f hm
theorem tups_sortable {d : Nat} (hd : 1 ≤ d) {a : Addr} {vs : List Value} {k : Value → List Int} (h0 : 0 < vs.length) (hp : ∀ v ∈ vs, TS.TupInts s.heap v (k v) ∧ (k v).length = d) (ha : ∀ o, s.heap.get? a = some o → o.cls ≠ .type "tuple") : SortableO prog w A s a vs fun v u => lexI (k v) (k u) := by
  intro h' keep
  have hp' : ∀ v ∈ vs, TS.TupInts h' v (k v) ∧ (k v).length = d := fun v hm => ⟨(hp v hm).1.keeps fun b o e c => keep b o (fun z => by subst z; exact ha o e c) e, (hp v hm).2⟩
  obtain ⟨fs, h1, h2, h3⟩ := tups_firsts hd fun v hm => ⟨_, hp' v hm⟩
  refine ⟨tuples' true, fun Q E hq => PySem.W.kat_kind (T := .type "int") h1 (by omega) (fun f hm => ?_) (by rfl) ?_, tups_cmp hp'⟩
  · obtain ⟨x, t, rfl⟩ := h3 f hm
    exact PySem.W.Looks.now
  · have e : (Value.type "int" != Value.type "tuple") = true := by first | decide +kernel | rfl | decide
    rw [e]; exact hq
theorem sorted_tups {d : Nat} (hd : 1 ≤ d) {l : Addr} {vs : List Value} {k : Value → List Int} {Q : Value → Shared → Prop} (hl : s.heap.IsList l vs.toArray) (hz : vs.length ≤ sizeLine) (hp : ∀ v ∈ vs, TS.TupInts s.heap v (k v) ∧ (k v).length = d)
    (h : ∀ (h' : Heap) (d : Addr) (out : List Value), Srtd (fun v u => lexI (k v) (k u)) out → Stb (fun v u => lexI (k v) (k u)) out vs → (∀ b o, s.heap.get? b = some o → h'.get? b = some o) → s.heap.objs.size ≤ d → (∃ n, h'.get? d = some (seqObj "list" out.toArray n)) → Q (.ref d) { s with heap := h' }) :
    wpAny (model prog w) A (call (.builtin "sorted") [.ref l]) Q E s := by
  refine sorted_ord (swo_lexI k) hl hz (fun h2 h₁ a ha kk => ?_) fun out hs hb => h _ _ out hs hb (fun b o e => sortedAll_old e) (Nat.le_succ _) (sortedAll_at s.heap vs out.toArray)
  refine tups_sortable hd (s := { s with heap := h₁ }) (by omega) (fun v hm => ⟨(hp v hm).1.keeps fun b o e _ => (kk b o e).2, (hp v hm).2⟩) fun o e c => ?_
  have e' : some o = some (seqObj "list" vs.toArray 0) := e.symm.trans ha
  cases e'
  exact absurd (Value.type.inj c) (by decide)
end
end SrtO
namespace L2
open PySem PySem.Spec PyProof.Rows Mir
def rSortedL (K : PySem.W.Frag) : List V → Hp → VK → Prop := fun vs H Q => ∃ (a : Addr) (d : Nat) (xs : List V) (ps : List (List Int)) (R : V → List Int → Prop), vs = [V.ref a] ∧ 1 ≤ d ∧ SqL K H a xs ∧ (∀ x p, R x p → p.length = d ∧ ∃ t, x = V.ref t ∧ SqT K H t (p.map V.int)) ∧ Paired R xs ps ∧
  ∀ ys p, Paired R ys (sortL ps) → H p = none → Q (.ref p) (upd H p (.lst ys))
theorem map_int_inj : ∀ {ns ms : List Int}, ns.map V.int = ms.map V.int → ns = ms
  | [], [], _ => rfl
  | n :: ns, m :: ms, h => by
    injection h with h1 h2
    injection h1 with h1
    rw [h1, map_int_inj h2]
theorem cr_sortedL {X : Cx} : CallR X (.builtin "sorted") (rSortedL X.K) := by
  intro pins s σ H vs us Q I r ⟨a, d, xs, ps, R, ev, hd1, hs, hR, hx, q⟩
  subst ev
  obtain ⟨its, rv, hl, hz⟩ := I.list hs
  obtain ⟨u, eu, ru⟩ := vals1 r
  subst eu
  obtain rfl : u = Value.ref a := ru
  have uniq : ∀ x p, R x p → pick R x = p := fun x p h => by
    obtain ⟨_, t, e, z⟩ := hR x p h
    obtain ⟨_, t', e', z'⟩ := hR x _ (pick_ok h)
    rw [e] at e'
    cases e'
    exact (map_int_inj (I.tuple_inj z z')).symm
  have inx : ∀ x ∈ xs, R x (pick R x) := fun x hm => by
    obtain ⟨p, _, h⟩ := paired_mem hx x hm
    exact pick_ok h
  obtain ⟨e1, e2⟩ := refs_back rv fun x m => by
    obtain ⟨_, t, e, _⟩ := hR x _ (inx x m)
    exact ⟨t, e⟩
  refine SrtO.sorted_tups hd1 (k := fun u => pick R (backV u)) hl.isList (by rw [← rv.length]; exact hz) (fun v hv => ?_) fun h' d out h1 h2 kp hd hn => ?_
  · obtain ⟨t, rfl⟩ := e2 v hv
    have hm : V.ref t ∈ xs := by rw [e1]; exact List.mem_map.mpr ⟨_, hv, rfl⟩
    obtain ⟨ld, t', e, ht⟩ := hR _ _ (inx _ hm)
    cases e
    obtain ⟨its2, rv2, hT, _⟩ := I.tuple ht
    exact ⟨⟨t, its2.toArray, rfl, hT, by
      show IntsAre its2.toArray.toList (pick R (V.ref t))
      simpa using rv2.ints⟩, ld⟩
  · have h3 : ∀ u ∈ out, ∃ a, u = Value.ref a := fun u hu => e2 u (h2.perm.mem_iff.mp hu)
    obtain ⟨n, hn⟩ := hn
    have hp : (out.map backV).Perm xs := by rw [e1]; exact h2.perm.map backV
    have hw : ((out.map backV).map (pick R)).Pairwise (fun x y => leL x y = true) := by
      rw [List.map_map]
      refine List.pairwise_map.mpr (List.Pairwise.imp ?_ h1)
      intro x y hxy
      show (!lexI (pick R (backV y)) (pick R (backV x))) = true
      rw [show lexI (pick R (backV y)) (pick R (backV x)) = false from hxy]; rfl
    have eps : (out.map backV).map (pick R) = sortL ps := by
      refine eq_sortL ?_ hw
      rw [← map_paired hx uniq]
      exact hp.map _
    have pr : Paired R (out.map backV) (sortL ps) := by
      rw [← eps]
      exact paired_map fun x hm => inx x (hp.mem_iff.mp hm)
    refine ⟨.ref d, upd H d (.lst (out.map backV)), I.laid (t' := s.toks) kp hd ⟨?_, out, n, vals_back h3, hn⟩, rfl, q _ d pr (I.hok.fresh hd)⟩
    rw [hp.length_eq]
    exact hz
end L2
namespace Mir
open PySem PySem.Spec PyProof.Rows L2
def tupI (p : List Int) : D := .tup (p.map D.int)
def tupsOf : List D → Option (List (List Int))
  | [] => some []
  | .tup ds :: r => match intsOf ds, tupsOf r with
    | some p, some ps => some (p :: ps)
    | _, _ => none
  | _ => none
theorem tupsOf_eq : ∀ {ds : List D} {ps : List (List Int)}, tupsOf ds = some ps → ds = ps.map tupI := fun {ds} => by
  induction ds with
  | nil => intro ps h; cases h; rfl
  | cons d r ih =>
    intro ps h
    cases d with
    | tup es =>
      unfold tupsOf at h
      cases e1 : intsOf es with
      | none => rw [e1] at h; cases h
      | some p =>
        cases e2 : tupsOf r with
        | none => rw [e1, e2] at h; cases h
        | some qs =>
          rw [e1, e2] at h
          cases h
          rw [ih e2, intsOf_map e1]; rfl
    | _ => cases h
theorem tupsOf_map : ∀ ps : List (List Int), tupsOf (ps.map tupI) = some ps
  | [] => rfl
  | p :: ps => by
    have ei : intsOf (p.map D.int) = some p := by
      induction p with
      | nil => rfl
      | cons x r ih => rw [List.map_cons]; unfold intsOf; rw [ih]; rfl
    rw [List.map_cons]
    unfold tupI tupsOf
    rw [ei, show (ps.map fun p => D.tup (p.map D.int)) = ps.map tupI from rfl, tupsOf_map ps]
def sortedLF : List D → R D
  | [.lst ds] => match tupsOf ds with
    | some ps => if (∀ p ∈ ps, p.length = (ps.headD [0]).length) ∧ 1 ≤ (ps.headD [0]).length then .ok (.lst ((sortL ps).map tupI)) else .bad
    | none => .bad
  | _ => .bad
theorem dv_tups {K : PySem.W.Frag} {F : Hp} : ∀ {xs : List V} {ps : List (List Int)}, DvAll K F xs (ps.map tupI) ↔ Paired (fun x p => Dv K F x (tupI p)) xs ps := by
  intro xs ps
  constructor
  · intro h
    induction ps generalizing xs with
    | nil => cases h; exact .nil
    | cons p r ih => rw [List.map_cons] at h; cases h with | cons h t => exact .cons h (ih t)
  · intro h
    induction h with
    | nil => exact .nil
    | cons h r ih => rw [List.map_cons]; exact .cons h ih
theorem dv_ints_back {K : PySem.W.Frag} {F : Hp} : ∀ {ns : List Int} {vs : List V}, DvAll K F vs (ns.map D.int) → vs = ns.map V.int
  | [], _, .nil => rfl
  | n :: ns, _, .cons h r => by cases h; rw [dv_ints_back r]; rfl
theorem paired_len {α β : Type} {R Q : α → β → Prop} : ∀ {xs : List α} {ps : List β}, Paired R xs ps → (∀ x p, p ∈ ps → R x p → Q x p) → Paired Q xs ps
  | _, _, .nil, _ => .nil
  | _, _, .cons h r, f => .cons (f _ _ (.head _) h) (paired_len r fun x p hp => f x p (.tail _ hp))
section
variable {X : Cx} {G : Gm} {e : Expr} {pos p : Pos}
theorem me_sortedL {m : Env → R (List D)} (ha : MA X G [e] m) (hx : X.mg "sorted" = none) (hK : X.K = G.K := by rfl) (hg : Gl X "sorted" := by rfl) (he : starEach [e] X.env = (false, eval e X.env) :: starEach [] X.env := by rfl) (hpl : (backTo pos (starEach [] X.env)).any (·.1) = false := by rfl) :
    ME X G (.Call (.Name "sorted" p) [e] [] pos) (mCall sortedLF m) := me_callB cr_sortedL (by
  rw [hK]
  intro F H vs ds Q s h P
  unfold sortedLF at P
  split at P
  · rename_i es
    obtain ⟨v, rfl, q⟩ := one_of h
    cases q with
    | @lst a xs _ z r =>
      cases ep : tupsOf es with
      | none => rw [ep] at P; exact P.elim
      | some ps =>
        rw [ep] at P
        have P : PostR G (DvR G) F H (if (∀ p ∈ ps, p.length = (ps.headD [0]).length) ∧ 1 ≤ (ps.headD [0]).length then .ok (.lst ((sortL ps).map tupI)) else .bad) Q := P
        by_cases hl : (∀ p ∈ ps, p.length = (ps.headD [0]).length) ∧ 1 ≤ (ps.headD [0]).length
        · rw [if_pos hl] at P
          have e := tupsOf_eq ep
          subst e
          refine ⟨a, (ps.headD [0]).length, xs, ps, fun x p => p.length = (ps.headD [0]).length ∧ Dv G.K F x (tupI p), rfl, hl.2, SqL.of (s _ _ z), fun x p h => ?_, paired_len (dv_tups.mp r) fun x p hp h => ⟨hl.1 p hp, h⟩, fun ys q hp hn => ?_⟩
          · obtain ⟨h0, h⟩ := h
            refine ⟨h0, ?_⟩
            cases h with
            | tup z r2 => exact ⟨_, rfl, by rw [← dv_ints_back r2]; exact Same.tup s z⟩
          · exact postNew P s hn (.lst upd_same ((dv_tups.mpr (paired_imp (fun _ _ h => h.2) hp)).mono (Same.upd_new (s.free hn))))
        · rw [if_neg hl] at P; exact P.elim
  · exact P.elim) ha hx (by decide +kernel) hg (by decide) (by decide) he hpl
end
end Mir
/-! set(xs) of a list of ints, sorted; min of tuples of ints -/
namespace Mir
open PySem PySem.Spec PyProof.Rows L2 PySem.Froz
section
variable {P : Program} {w : World} {A : Around} {E : Value → Shared → Prop} {s : Shared}
theorem inAdd {a : Addr} {l : List Int} {k : Int} {u : Tok} {Q : Bool → Shared → Prop} (F : SetR w s.heap a (fun j => decide (j ∈ l)) l.length) (hb : l.length + 1 < scanBound)
    (h : ∀ (b : Bool) (h' : Heap), SetR w h' a (fun j => decide (j ∈ addL k l)) (addL k l).length → (∀ b o, b ≠ a → s.heap.get? b = some o → h'.get? b = some o) → Q b { s with heap := h', toks := s.toks + 1 }) :
    wpAny (model P w) A (setAdd a (.int k u)) Q E s := by
  unfold setAdd
  refine wpAny_holding (wpAny_bind ((intKind P w).pyHash (intKind_is P w k u) ?_))
  refine setR_add_hashed (s := { s with toks := s.toks + 1 }) F hb fun h' sb new => h _ h' ?_ fun b o hb e => (sb.2 b hb).trans e
  have e : (if decide (k ∈ l) = true then l.length else l.length + 1) = (addL k l).length := by
    unfold addL
    by_cases z : k ∈ l
    · rw [if_pos z, if_pos (decide_eq_true z)]
    · rw [if_neg z, if_neg (by simpa using z)]; rfl
  rw [← e]
  refine new.congr fun j => ?_
  cases z : decide (j ∈ l) with
  | true => rw [Bool.true_or, decide_eq_true (addL_mem.mpr (.inr (of_decide_eq_true z)))]
  | false =>
    rw [Bool.false_or]
    exact decide_eq_decide.mpr ⟨fun h => (addL_mem.mp h).resolve_right (of_decide_eq_false z), fun h => addL_mem.mpr (.inl h)⟩
theorem ints_at : ∀ {vs : List Value} {ns : List Int}, IntsAre vs ns → ∀ (i : Nat) (v : Value), vs[i]? = some v → ∃ t, v = .int (ns.getD i 0) t := fun h i v e => PyProof.Rows.IntsAre.int_at h i v e
/-- the ints of a set, that lies at an address -/
def InAt (w : World) (h : Heap) (a : Addr) (l : List Int) : Prop := SetR w h a (fun j => decide (j ∈ l)) l.length
theorem take_dsetI {xs : List Int} {i : Nat} (h : i < xs.length) : dset (xs.take (i + 1)) = addL (xs.getD i 0) (dset (xs.take i)) := by
  rw [List.take_succ_eq_append_getElem h, dset_snoc, List.getD_eq_getElem?_getD, List.getElem?_eq_getElem h]; rfl
theorem inLoop {R : Result → Shared → Prop} {I : Addr} {fp wr : List Addr} {G : Array GenState → Array GenState → Prop} {n : Nat} {St : Nat → Shared → Prop} {V : Nat → Value → Prop} (W : WalksS P w A.in1 I fp wr G n V St) (S : Addr) (hSf : S ∉ fp) (xs : List Int) (hsz : xs.length = n) (hn : n < 4000)
    (hval : ∀ i v, V i v → ∃ t, v = .int (xs.getD i 0) t) : ∀ (k i : Nat) (s : Shared), n - i = k → i ≤ n → St i s → InAt w s.heap S (dset (xs.take i)) →
      (∀ s', Moved (S :: wr) G s s' → InAt w s'.heap S (dset xs) → R (.ok (.ret .none)) s') →
      codeAny (model P w) A (.builtin "set.update.loop" ⟨[.ref S, .ref I], []⟩) R s
  | 0, i, s, hk, hi, hst, F, hR => by
    have hin : i = n := by omega
    subst hin
    refine codeAny_builtin PyProof.Rows.F.entry_set_update_loop (by
      rw [Around.under_plainId PyProof.Rows.F.plain_set_update_loop _]
      show wpAny _ A.in1 (pyNext (.ref I) >>= _) _ _ s
      refine wpAny_bind (W.done s _ _ hst fun s' hm => ?_)
      rw [← hsz, List.take_length] at F
      exact wpAny_pure (hR s' (hm.mono fun b hb => List.mem_cons_of_mem _ hb) (F.at fun o ho => hm.heap S o (fun h => hSf (W.sub _ h)) ho))
)
  | k + 1, i, s, hk, hi, hst, F, hR => by
    have hlt : i < n := by omega
    have hb : (dset (xs.take i)).length + 1 < scanBound := by
      have := dset_len (xs.take i)
      rw [List.length_take] at this
      unfold scanBound; omega
    refine codeAny_builtin PyProof.Rows.F.entry_set_update_loop (by
      rw [Around.under_plainId PyProof.Rows.F.plain_set_update_loop _]
      show wpAny _ A.in1 (pyNext (.ref I) >>= _) _ _ s
      refine wpAny_bind (W.item i s _ _ hlt hst fun v s1 hP hst1 hm => ?_)
      obtain ⟨t, rfl⟩ := hval i v hP
      show wpAny _ A.in1 (holding [Value.int (xs.getD i 0) t] (setAdd S (.int (xs.getD i 0) t)) >>= _) _ _ s1
      refine wpAny_bind (wpAny_holding (inAdd (SetR.at F fun o ho => hm.heap S o (fun h => hSf (W.sub _ h)) ho) hb fun b h' F' kp => ?_))
      rw [← take_dsetI (by omega)] at F'
      refine wpAny_pure ⟨plainId_quiet PyProof.Rows.F.plain_set_update_loop _, inLoop W S hSf xs hsz hn hval k (i + 1) _ (by omega) hlt (W.frame _ s1 _ _ hst1 (Nat.le_succ _) fun b hb o e => ?_) F' fun s2 hm2 h2 => ?_⟩
      · exact kp b o (fun h => hSf (h ▸ hb)) e
      · refine hR s2 (Moved.trans W.gtrans ((hm.mono fun b hb => List.mem_cons_of_mem _ hb).then_heap (Nat.le_succ _) fun b o hb e => ?_) hm2) h2
        exact kp b o (fun h => hb (h ▸ List.mem_cons_self)) e)
theorem call_setI {l : Addr} {items : Array Value} {xs : List Int} {Q : Value → Shared → Prop} (hh : A.handled = none) (hl : s.heap.IsList l items) (hi : PyProof.Rows.IntsAre items.toList xs) (hn : xs.length < 4000)
    (h : ∀ (h' : Heap) (tk : Nat), InAt w h' s.heap.objs.size (dset xs) → (∀ b o, b < s.heap.objs.size → s.heap.get? b = some o → h'.get? b = some o) → Q (.ref s.heap.objs.size) { s with heap := h', toks := tk }) :
    wpAny (model P w) A (call (.type "set") [.ref l]) Q E s := by
  obtain ⟨c, tl, in_mro⟩ := PySem.F.called_set.mro
  have made := PySem.F.called_set.made
  have under := PySem.F.called_set.sub
  have notT := PySem.F.called_set.notType
  have canC := PySem.F.called_set.canCreate
  have oneA := PySem.F.typeCall_set_1 (.ref l)
  refine wpAny_call (codeAny_of_tree (by
    show wpAny _ _ (callAny (.type "set") _) _ _ _
    refine wpAny_pure ⟨Code.quiet_builtin _ (by decide +kernel), codeAny_builtin PySem.F.entry_type_call (by
      rw [Around.under_plain (weight_type_call_type "set" [.ref l] []) rfl]
      repeat (any_goals (first | assumption | wp_step))
      refine codeAny_mono (code_set0 (w := w) (.ref l) (E := E) (Q₁ := fun obj s₁ => obj = .ref s.heap.objs.size ∧ s₁ = { s with heap := s.heap.push (set0 w) }) ⟨rfl, rfl⟩) fun r s₁ hr => ?_
      rcases r with e | f
      · exact hr
      cases f with
      | ret obj =>
        obtain ⟨rfl, rfl⟩ := hr
        have atS : (s.heap.push (set0 w)).get? s.heap.objs.size = some (set0 w) := Heap.get?_push_size _ rfl
        have isS : Shared.TypeIs { s with heap := s.heap.push (set0 w) } (.ref s.heap.objs.size) "set" := ⟨_, atS, rfl⟩
        have look := PySem.F.called_set.init.lookup
        have bind := PySem.F.called_set.init.bind (.ref s.heap.objs.size)
        repeat (any_goals (first | assumption | wp_step))
        refine codeAny_mono (codeAny_call_builtin (R := wants (fun r s₂ => r = .none ∧ ∃ h' tk, s₂ = { s with heap := h', toks := tk } ∧ InAt w h' s.heap.objs.size (dset xs) ∧ (∀ b o, b < s.heap.objs.size → s.heap.get? b = some o → h'.get? b = some o)) E) PySem.F.called_set.init.plain PySem.F.entry_set_init (check_set_init_1 isS (by
          obtain ⟨⟨c0, d0, x0, sl0⟩, at0, hc0, n0, hd0⟩ := hl
          simp only at hc0 hd0
          subst hc0; subst hd0
          have atL : (s.heap.push (set0 w)).get? l = some { cls := .type "list", dict := d0, data := .seq items n0, slots := sl0 } := Heap.get?_push_of_some _ at0
          have ls := PySem.F.sub_list_set
          have lf := PySem.F.sub_list_frozenset
          have nd : (Value.type "list" == Value.type "dict") = false := by decide
          have isL : (s.heap.push (set0 w)).IsList l items := ⟨_, atL, rfl, n0, rfl⟩
          unfold Builtin.«set.__init__» noKeywords Builtin.Frozenset.updateFrom
          generalize hPI : pyIter = PI
          wp_walk
          subst hPI
          refine wpAny_pyIter_list isL (wpAny_bind (wpAny_runValue (by
            have lS : l < s.heap.objs.size := Heap.lt_size at0
            have calm3 : A.in1.in1.in1.handled = none := by simp [hh]
            have sz1 : (s.heap.push (set0 w)).objs.size = s.heap.objs.size + 1 := Heap.size_push _ _
            have notI : l ≠ (s.heap.push (set0 w)).objs.size := by rw [sz1]; exact Nat.ne_of_lt (Nat.lt_succ_of_lt lS)
            have notS : s.heap.objs.size ∉ [(s.heap.push (set0 w)).objs.size, l] := by
              rw [sz1]; simp only [List.mem_cons, List.not_mem_nil, or_false, not_or]
              exact ⟨Nat.ne_of_lt (Nat.lt_succ_self _), Nat.ne_of_gt lS⟩
            have len : xs.length = items.size := by rw [← hi.length, Array.length_toList]
            refine inLoop ((Walks.list calm3 _ l notI items).toS) s.heap.objs.size notS xs len (by omega) (fun i v hv => ints_at hi i v (by rw [Array.getElem?_toList]; exact hv)) (items.size - 0) 0 _ (by omega) (Nat.zero_le _) ⟨⟨_, Heap.get?_push_size _ rfl, rfl, rfl⟩, (isL.push _)⟩ (SetR.at (SetR.congr (setR_fresh w) fun k => decide_eq_false fun z => by cases dset_mem.mp z) fun o ho => Heap.get?_push_of_some _ ho) fun s' hm hS' => ?_
            obtain ⟨h', g', d', tk', os'⟩ := s'
            have eg : g' = s.gens := hm.gens
            have ed : d' = s.drawn := hm.drawn
            have eo : os' = s.os := hm.os
            subst eg ed eo
            refine wpAny_pure (wpAny_pure ⟨rfl, h', tk', rfl, hS', fun b o hb e => hm.heap b o (by
              simp only [List.mem_cons, List.not_mem_nil, or_false, not_or]
              exact ⟨Nat.ne_of_lt hb, by rw [sz1]; exact Nat.ne_of_lt (Nat.lt_succ_of_lt hb)⟩) (Heap.get?_push_of_some _ (Heap.get?_push_of_some _ e))⟩)))))
          )) fun r₂ s₂ q₂ => ?_
        rcases r₂ with e | f₂
        · exact q₂
        cases f₂ with
        | ret r =>
          obtain ⟨rfl, h', tk, rfl, q1, q2⟩ := q₂
          repeat (any_goals (first | assumption | wp_step))
          exact h _ _ q1 q2
        | _ => exact q₂.elim
      | _ => exact hr.elim)⟩))
end
section
variable {X : Cx} {G : Gm}
def rSetI (w : World) (K : PySem.W.Frag) : List V → Hp → VK → Prop := fun vs H Q => ∃ (a : Addr) (xs : List Int), vs = [V.ref a] ∧ SqL K H a (xs.map V.int) ∧ xs.length < 4000 ∧ ∀ p : Addr, H p = none → Q (.ref p) (upd H p (inSet w p (dset xs)))
theorem cr_setI (hc : X.calm = true) : CallR X (.type "set") (rSetI X.w X.K) := by
  intro pins s σ H vs us Q I r ⟨a, xs, ev, hq, hl, q⟩
  subst ev
  rw [Vals.ref1 r]
  obtain ⟨its, rv, pl, hz⟩ := I.list hq
  refine call_setI (I.ok.hd hc) pl.isList (by simpa using rv.ints) hl fun h' tk F kp => ?_
  have hn : H s.heap.objs.size = none := I.hok.fresh (Nat.le_refl _)
  have k : ∀ b u, s.heap.get? b = some u → h'.get? b = some u := fun b u z => kp b u (Heap.lt_size z) z
  exact ⟨.ref s.heap.objs.size, _, I.call (ch := []) (Un.laid k (Nat.le_refl _) hn) (I.hok.laid k (Nat.le_refl _) (setO_new F)) I.bare (fun _ z => nomatch z), rfl, q _ hn⟩
def srtSetIF : D → R D
  | .lst ys => setGo intsOf finI ys
  | _ => .bad
def mSrtSetI (m : Env → R D) : Env → R D := fun ρ => (m ρ).bind srtSetIF
theorem me_srtsetI {e : Expr} {m : Env → R D} {p p2 q pos : Pos} (ha : ME X G e m) (hx : X.mg "sorted" = none) (hx2 : X.mg "set" = none) (hK : X.K = G.K := by rfl) (hc : X.calm = true := by rfl) (hg : Gl X "sorted" := by rfl) (hg2 : Gl X "set" := by rfl)
    (he : starEach [e] X.env = (false, eval e X.env) :: starEach [] X.env := by rfl) (hst : starEach [.Call (.Name "set" p2) [e] [] q] X.env = (false, eval (.Call (.Name "set" p2) [e] [] q) X.env) :: starEach [] X.env := by rfl)
    (hpl : (backTo q (starEach [] X.env)).any (·.1) = false := by rfl) (hpl2 : (backTo pos (starEach [] X.env)).any (·.1) = false := by rfl) :
    ME X G (.Call (.Name "sorted" p) [.Call (.Name "set" p2) [e] [] q] [] pos) (mSrtSetI m) :=
  weakE (pe_callB (cr_sortedSet hc) hg hx (by decide +kernel) (pa_cons (pe_callTy (cr_setI hc) hg2 hx2 (by decide +kernel) (pa_cons ha pa_nil he) (by decide) (by decide) he hpl) pa_nil hst) (by decide) (by decide) hst hpl2) (by
    intro σ H Q ⟨ρ, F, S, P⟩
    refine ⟨ρ, F, S, (PostR.bind (rel := DvR G) P).imp fun d x F1 H1 e1 g1 q1 ⟨F2, d2, e2, g2, q2, P1⟩ => ?_⟩
    cases q2 with
    | @lst a vs ys ea r =>
      have P1 : PostR G (DvR G) F2 H1 (setGo intsOf finI ys) Q := P1
      cases e5 : intsOf ys with
      | none => unfold setGo at P1; rw [e5] at P1; exact P1.elim
      | some xs =>
        unfold setGo at P1
        rw [e5] at P1
        have P1 : PostR G (DvR G) F2 H1 (if xs.length < 4000 then finI xs else .bad) Q := P1
        have h4 : xs.length < 4000 := Decidable.byContradiction fun z => by rw [if_neg z] at P1; exact P1.elim
        rw [if_pos h4] at P1
        unfold finI at P1
        by_cases h64 : (dset xs).length < 64
        · rw [if_pos h64] at P1
          rw [intsOf_map e5] at r
          have ev := dv_ints_back r
          subst ev
          refine ⟨a, xs, rfl, by rw [hK]; exact SqL.of (g2.s _ _ ea), h4, fun p hp => ⟨p, _, _, rfl, upd_same, h64, fun ns q lt me hn hq => ?_⟩⟩
          have nd : ns.Nodup := lt.imp fun z => Int.ne_of_lt z
          have pm : ns.Perm (dset xs) := (List.perm_ext_iff_of_nodup nd (dset_nodup xs)).mpr fun k => (me k).trans ⟨fun z => of_decide_eq_true z, fun z => decide_eq_true z⟩
          rw [PySem.W.eq_sortI pm (lt.imp fun z => Int.le_of_lt z)]
          exact postNew (PostR.grow P1 (Grow.own g2.s hp)) (g2.s.upd_out (g2.s.free hp)) hq (.lst upd_same (dv_ints _))
        · rw [if_neg h64] at P1; exact P1.elim
    | _ => exact P1.elim)
/-! ### min of tuples of ints -/
abbrev toT (p : List Int) : PySem.W.Tup Int := ⟨p⟩
theorem tup_inj {p q : List Int} (h : PySem.W.Datum.toD (toT p) = PySem.W.Datum.toD (toT q)) : p = q := by
  have e1 : PyData.eqv (PySem.W.Datum.toD (toT p)) (PySem.W.Datum.toD (toT q)) = decide (toT p = toT q) := PySem.W.Datum.eqv _ _
  have e2 : PyData.eqv (PySem.W.Datum.toD (toT q)) (PySem.W.Datum.toD (toT q)) = decide (toT q = toT q) := PySem.W.Datum.eqv _ _
  rw [h, e2, decide_eq_true rfl] at e1
  exact congrArg PySem.W.Tup.items (of_decide_eq_true e1.symm)
theorem dpAll_ints {H : Hp} {K : PySem.W.Frag} : ∀ ns : List Int, DpAll K H (ns.map V.int) (ns.map PySem.W.Datum.toD)
  | [] => .nil
  | n :: ns => .cons (.int n) (dpAll_ints ns)
theorem dpAll_tups {F H : Hp} {K : PySem.W.Frag} (s : Same F H) : ∀ {vs : List V} {ps : List (List Int)}, DvAll K F vs (ps.map tupI) → DpAll K H vs (ps.map fun p => PySem.W.Datum.toD (toT p))
  | _, [], .nil => .nil
  | _, p :: ps, .cons h r => by
    refine .cons ?_ (dpAll_tups s r)
    cases h with
    | tup e r2 =>
      rw [dv_ints_back r2] at e
      exact .tup (Same.tup s e) (dpAll_ints p)
def minLF : List D → R D
  | [.lst ds] => match tupsOf ds with
    | some (p :: ps) => .ok (tupI (PySem.W.minOf (toT p) (ps.map toT)).items)
    | _ => .bad
  | _ => .bad
theorem cm_minL : CallM G (rMinD G.K) minLF := by
  intro F H vs ds Q s h P
  unfold minLF at P
  split at P
  · obtain ⟨v, rfl, q⟩ := one_of h
    cases q with
    | @lst a xs _ e r =>
      split at P
      · rename_i p ps ey
        have ed := tupsOf_eq ey
        rw [ed] at r
        have al := PySem.W.alikeAll_datum ((p :: ps).map toT)
        have dm := PySem.W.minD_map (toT p) (ps.map toT)
        rw [List.map_map] at dm al
        refine ⟨_, xs, PySem.W.Datum.toD (toT p), ps.map fun p => PySem.W.Datum.toD (toT p), rfl, SqL.of (s _ _ e), dpAll_tups s r, al, ?_, fun i v hv hi => ?_⟩
        · have := PySem.W.depthAll_map ((p :: ps).map toT)
          rw [List.map_map] at this
          exact Nat.le_trans this (by decide)
        · have dm : PySem.W.minD (PySem.W.Datum.toD (toT p)) (ps.map fun p => PySem.W.Datum.toD (toT p)) = PySem.W.Datum.toD (PySem.W.minOf (toT p) (ps.map toT)) := dm
          rw [dm] at hi
          rw [← List.map_cons (f := fun p => PySem.W.Datum.toD (toT p)), List.getElem?_map] at hi
          cases ep : (p :: ps)[i]? with
          | none => rw [ep] at hi; cases hi
          | some m =>
            rw [ep] at hi
            have em : m = (PySem.W.minOf (toT p) (ps.map toT)).items := tup_inj (Option.some.inj hi)
            obtain ⟨d, hd, rd⟩ := r.get hv
            rw [List.getElem?_map, ep] at hd
            cases hd
            rw [em] at rd
            exact postD P s rd
      · exact P.elim
  · exact P.elim
variable {e : Expr} {pos p : Pos}
theorem me_minL {m : Env → R (List D)} (hu : X.A.units + 64 < cLine) (ha : MA X G [e] m) (hx : X.mg "min" = none) (hc : X.calm = true := by rfl) (hK : X.K = G.K := by rfl) (hg : Gl X "min" := by rfl) (he : starEach [e] X.env = (false, eval e X.env) :: starEach [] X.env := by rfl) (hpl : (backTo pos (starEach [] X.env)).any (·.1) = false := by rfl) :
    ME X G (.Call (.Name "min" p) [e] [] pos) (mCall minLF m) := me_callB (cr_minD hc hu) (by rw [hK]; exact cm_minL) ha hx (by decide +kernel) hg (by decide) (by decide) he hpl
end
end Mir
/-! a, b = x, [..] where a name is a cell -/
namespace Mir
open PySem PySem.Spec PyProof.Rows L2
section
variable {X : Cx} {G : Gm} {a b : Expr} {pos : Pos} {x y : Str}
theorem POk.up {K : PySem.W.Frag} {H F' H' H'' : Hp} {v : V} {s : Slot} (h : POk K H F' H' v s) (g : Grow F' H' F' H'') : POk K H F' H'' v s :=
  ⟨h.ok.grow g, fun z => by
    obtain ⟨a, o, e1, e2, e3, e4⟩ := h.nw z
    exact ⟨a, o, e1, e2, e3, g.h _ _ e4⟩⟩
theorem PsOk.up {K : PySem.W.Frag} {F' H' H'' : Hp} (g : Grow F' H' F' H'') : ∀ {H : Hp} {vs : List V} {ss : List Slot}, PsOk K F' H' H vs ss → PsOk K F' H'' H vs ss
  | _, _, _, .nil => .nil
  | _, _, _, .cons q sm hin r => .cons (q.up g) sm hin (PsOk.up g r)
theorem ms_parC {i j : Nat} {m : Env → R (List Slot)} {px py pt : Pos} {kt k2 : Nat} {pt2 : Pos} (hN : X.N.Nodup) (ha : MPs X G [a, b] m) (hij : i ≠ j) (hi : X.N[i]? = some x := by rfl) (hj : X.N[j]? = some y := by rfl)
    (hx : L2.Loc X.env.scope x := by first | exact Or.inl rfl | exact Or.inr rfl) (hy : L2.Loc X.env.scope y := by first | exact Or.inl rfl | exact Or.inr rfl)
    (fx : X.fn x = true ∨ X.env.scope.names.lookup x = some .local := by first | exact .inl rfl | exact .inr rfl) (fy : X.fn y = true ∨ X.env.scope.names.lookup y = some .local := by first | exact .inl rfl | exact .inr rfl) (hc : X.calm = true := by rfl)
    (hs : swapsWithSole [.Tuple [.Name x px, .Name y py] kt pt] (.Tuple [a, b] k2 pt2) pos.line X.env = pure false := by rfl) (hw : swappedStores [.Tuple [.Name x px, .Name y py] kt pt] (.Tuple [a, b] k2 pt2) X.env = pure none := by rfl)
    (h1 : (assignEach [.Tuple [.Name x px, .Name y py] kt pt] X.env).map (·.2) = [assign (.Tuple [.Name x px, .Name y py] kt pt) X.env] := by rfl)
    (h2 : (assignEach [.Name x px, .Name y py] X.env).length = 2 := by rfl) (h3 : (assignEach [.Name x px, .Name y py] X.env).findIdx? (fun x => x.1) = none := by rfl)
    (h4 : (assignEach [.Name x px, .Name y py] X.env).map (·.2) = assign (.Name x px) X.env :: (assignEach [.Name y py] X.env).map (·.2) := by rfl) (h5 : (assignEach [.Name y py] X.env).map (·.2) = assign (.Name y py) X.env :: (assignEach [] X.env).map (·.2) := by rfl) :
    MS X G (.Assign [.Tuple [.Name x px, .Name y py] kt pt] (.Tuple [a, b] k2 pt2) pos) (sParP i j m) :=
  weakS (ps_asg (pe_tup ha) (pg_tup hc (pgs_cons (pg_name hN hi hx fx) (pgs_cons (pg_name hN hj hy fy) pgs_nil h5) h4) h2 h3) hs hw h1) fun D σ H ⟨ρ, F, F0, H0, S, P⟩ => by
  refine ⟨ρ, F, S.sl, P.toPs S fun ss vs F' H' g q P1 => ?_⟩
  cases q with
  | nil => exact P1.elim
  | @cons _ _ v1 _ _ _ q1 sm hin r =>
    cases r with
    | nil => exact P1.elim
    | @cons _ _ v2 _ _ _ q2 sm2 hin2 r =>
      cases r with
      | cons q3 sm3 hin3 r => exact P1.elim
      | nil =>
        refine ⟨by rw [sizeLine_eq]; exact (by decide : 2 ≤ 16777216), fun p hp => ⟨p, _, rfl, .inl (.inl upd_same), rfl, v1, _, rfl, v2, _, rfl, rfl, ?_⟩⟩
        have gp := Grow.own g.s hp (o := .tup [v1, v2])
        exact P1 _ F' _ (put_many (is := [i, j]) ((S.grow g).grow gp) S.gr.h (own_in S) (PsOk.up gp (.cons q1 sm hin (.cons q2 sm2 hin2 .nil)))) (Same.refl _)
end
end Mir
/-! sorted of a list of texts, of any length -/
namespace L2
open PySem PySem.Spec PyProof.Rows Mir
def rSortedSA (K : PySem.W.Frag) : List V → Hp → VK → Prop := fun vs H Q => ∃ (a : Addr) (xs : List Str), vs = [V.ref a] ∧ SqL K H a (xs.map V.str) ∧
  ∀ (ys : List Str) (p : Addr), ys.Perm xs → sortedS ys = true → H p = none → Q (.ref p) (upd H p (.lst (ys.map V.str)))
theorem cr_sortedSA {X : Cx} : CallR X (.builtin "sorted") (rSortedSA X.K) := by
  intro pins s σ H vs us Q I r h
  obtain ⟨a, xs, rfl, hs, q⟩ := h
  obtain ⟨its, rv, hl, hz⟩ := I.list hs
  rw [Vals.ref1 r]
  have hlen0 := rv.length
  rw [List.length_map] at hlen0
  rw [List.length_map] at hz
  refine PyProof.Rows.sorted_strsAny hl.isList rv.strs (by rw [← hlen0]; exact hz) fun out ys h1 h2 h3 => ?_
  obtain ⟨ep, he'⟩ := PyProof.Rows.sortedAll_at s.heap its out
  have hlen : (ys.map V.str).length ≤ sizeLine := by rw [List.length_map, h2.length_eq]; exact hz
  exact ⟨.ref _, upd H (s.heap.objs.size + 1) (.lst (ys.map V.str)), I.laid (t' := s.toks) (fun _ _ => PyProof.Rows.sortedAll_old) (Nat.le_succ _) ⟨hlen, out.toList, ep, vals_of_strs h1, he'⟩, rfl, q ys _ h2 h3 (I.hok.fresh (Nat.le_succ _))⟩
end L2
namespace Mir
open PySem PySem.Spec PyProof.Rows L2
def sortedTF : List D → R D
  | [.lst ds] => ofO (strsOf ds) fun ys => .ok (.lst ((sortS ys).map D.str))
  | _ => .bad
section
variable {X : Cx} {G : Gm} {e : Expr} {pos p : Pos}
theorem me_sortedT {m : Env → R (List D)} (ha : MA X G [e] m) (hx : X.mg "sorted" = none) (hK : X.K = G.K := by rfl) (hg : Gl X "sorted" := by rfl) (he : starEach [e] X.env = (false, eval e X.env) :: starEach [] X.env := by rfl) (hpl : (backTo pos (starEach [] X.env)).any (·.1) = false := by rfl) :
    ME X G (.Call (.Name "sorted" p) [e] [] pos) (mCall sortedTF m) := me_callB cr_sortedSA (by
  rw [hK]
  intro F H vs ds Q s h P
  unfold sortedTF at P
  split at P
  · rename_i es
    obtain ⟨v, rfl, q⟩ := one_of h
    cases q with
    | lst e r =>
      cases z : strsOf es with
      | none => rw [z] at P; exact P.elim
      | some ys =>
        rw [z] at P
        have ev := strs_v r z
        subst ev
        refine ⟨_, ys, rfl, SqL.of (s _ _ e), fun zs p hp hs hn => ?_⟩
        rw [eq_sortS hp hs]
        exact postNew P s hn (.lst upd_same (dv_strs _))
  · exact P.elim) ha hx (by decide +kernel) hg (by decide) (by decide) he hpl
end
end Mir
/-! a dict display as a value: {k: v, ..} -/
namespace Mir
open PySem PySem.Spec PyProof.Rows L2
def ddGo : List ((Env → R D) × (Env → R D)) → Env → R (List (Key × D))
  | [], _ => .ok []
  | p :: r, ρ => (p.1 ρ).bind fun kd => (p.2 ρ).bind fun y => (ddGo r ρ).bind fun es => ofO (keyOf kd) fun k => .ok ((k, y) :: es)
def mDd (ps : List ((Env → R D) × (Env → R D))) : Env → R D := fun ρ => (ddGo ps ρ).bind fun es => if es.length ≤ 15 then .ok (dicE (es.foldl (fun acc e => ins acc e.1 e.2) [])) else .bad
section
variable {X : Cx} {G : Gm} {pos : Pos}
inductive MDs (X : Cx) (G : Gm) (pos : Pos) : List (Option Expr) → List Expr → List ((Env → R D) × (Env → R D)) → Prop
  | nil : MDs X G pos [] [] []
  | cons {k v : Expr} {ks : List (Option Expr)} {vs : List Expr} {mk mv : Env → R D} {ps : List ((Env → R D) × (Env → R D))} : ME X G k mk → ME X G v mv → MDs X G pos ks vs ps → MDs X G pos (some k :: ks) (v :: vs) ((mk, mv) :: ps)
theorem MDs.pps {ks : List (Option Expr)} {vs : List Expr} {ps : List ((Env → R D) × (Env → R D))} (h : MDs X G pos ks vs ps) : PPs X pos ks vs (ps.map fun p => (tOf G p.1, tOf G p.2)) := by
  induction h with
  | nil => exact pps_nil
  | cons hk hv _ ih => exact pps_cons hk hv ih
abbrev DkR (G : Gm) : Hp → List (V × V) → List (Key × D) → Prop := fun F vs es => ∃ kvs : List (Key × V), vs = kvs.map (fun kv => (kV kv.1, kv.2)) ∧ kvs.map (·.1) = es.map (·.1) ∧ DvAll G.K F (kvs.map (·.2)) (es.map (·.2))
theorem pairs_read : ∀ (ps : List ((Env → R D) × (Env → R D))) {σ : L2.St} {H F : Hp} {ρ : Env} {Q : List (V × V) → Hp → Prop}, Sl G.K ρ σ F H → PostR G (DkR G) F H (ddGo ps ρ) Q → tPairs (ps.map fun p => (tOf G p.1, tOf G p.2)) σ H Q
  | [], _, _, _, _, _, S, P => PostR.go P S.sub ⟨[], rfl, rfl, .nil⟩
  | p :: r, σ, H, F, ρ, Q, S, P => by
    refine ⟨ρ, F, S, (PostR.bind (rel := DvR G) P).imp fun d x F1 H1 e1 g1 q1 ⟨F1', d', e1', g1', q1', P1⟩ => ?_⟩
    refine ⟨ρ, F1', S.grow g1', (PostR.bind (rel := DvR G) P1).imp fun d2 y F2 H2 e2 g2 q2 ⟨F2', d2', e2', g2', q2', P2⟩ => ?_⟩
    refine pairs_read r ((S.grow g1').grow g2') ((PostR.bind (rel := DkR G) P2).imp fun es vs F3 H3 e3 g3 q3 ⟨F3', es', e3', g3', ⟨kvs, h1, h2, h3⟩, P3⟩ => ?_)
    cases ek : keyOf d' with
    | none => rw [ek] at P3; exact P3.elim
    | some k =>
      rw [ek] at P3
      refine PostR.go (G := G) (rel := DkR G) (a := (k, d2') :: es') P3 g3'.s ⟨(k, y) :: kvs, ?_, ?_, ?_⟩
      · rw [h1, dv_key q1' ek]; rfl
      · rw [List.map_cons, List.map_cons, h2]
      · exact .cons (q2'.mono g3'.f) h3
theorem merge_dv {K : PySem.W.Frag} {F : Hp} : ∀ {kvs : List (Key × V)} {es : List (Key × D)} {acc : List (Key × V)} {acc' : List (Key × D)}, kvs.map (·.1) = es.map (·.1) → DvAll K F (kvs.map (·.2)) (es.map (·.2)) → acc.map (·.1) = acc'.map (·.1) → DvAll K F (acc.map (·.2)) (acc'.map (·.2)) →
    (mergeK acc kvs).map (·.1) = (es.foldl (fun acc e => ins acc e.1 e.2) acc').map (·.1) ∧ DvAll K F ((mergeK acc kvs).map (·.2)) ((es.foldl (fun acc e => ins acc e.1 e.2) acc').map (·.2))
  | [], [], _, _, _, _, h3, h4 => ⟨h3, h4⟩
  | [], _ :: _, _, _, h1, _, _, _ => by cases h1
  | _ :: _, [], _, _, h1, _, _, _ => by cases h1
  | p :: kvs, e :: es, acc, acc', h1, h2, h3, h4 => by
    rw [List.map_cons, List.map_cons] at h1 h2
    injection h1 with k1 k2
    cases h2 with
    | cons q r =>
      obtain ⟨z1, z2⟩ := put_dv (k := e.1) q h3 h4
      have e1 : mergeK acc (p :: kvs) = mergeK (putK acc p.1 p.2) kvs := rfl
      rw [e1, List.foldl_cons, k1]
      exact merge_dv k2 r z1 z2
theorem me_dd {ks : List (Option Expr)} {vs : List Expr} {ps : List ((Env → R D) × (Env → R D))} (h : MDs X G pos ks vs ps) (hall : ks.all (·.isSome) = true := by rfl) (hl : ks.length = vs.length := by rfl) (h0 : ks ≠ [] := by simp) (h15 : ks.length ≤ 15 := by exact Nat.le_of_ble_eq_true rfl) :
    ME X G (.Dict ks vs pos) (mDd ps) := weakE (pe_frz (pe_disp h.pps hall hl h0 h15)) fun σ H Q ⟨ρ, F, S, P⟩ => fun p hp => by
  have fp : F p = none := S.sub.free hp
  have g0 : Grow F H F (upd H p (.dK [])) := Grow.own S.sub hp
  refine pairs_read ps (S.grow g0) ?_
  unfold mDd at P
  cases e : ddGo ps ρ with
  | bad => rw [e] at P; exact P.elim
  | exc c =>
    rw [e] at P
    exact fun C F' H' m g => (show PostR G (DvR G) F H (.exc c) Q from P) C F' H' m (g0.trans g)
  | ok es =>
    rw [e] at P
    have P : PostR G (DvR G) F H (if es.length ≤ 15 then .ok (dicE (es.foldl (fun acc e => ins acc e.1 e.2) [])) else .bad) Q := P
    intro vs F' H' g' ⟨kvs, h1, h2, h3⟩
    have hl : es.length ≤ 15 := Decidable.byContradiction fun z => by rw [if_neg z] at P; exact P.elim
    rw [if_pos hl] at P
    have hH : H' p = some (.dK []) := g'.h _ _ upd_same
    have fF : F' p = none := (g'.o p _ upd_same).trans fp
    have lk : kvs.length ≤ 15 := by have := congrArg List.length h2; rw [List.length_map, List.length_map] at this; omega
    refine ⟨hH, kvs, h1, lk, p, mergeK [] kvs, rfl, upd_same, fun o => ?_⟩
    obtain ⟨z1, z2⟩ := merge_dv (K := G.K) (F := F') (acc := []) (acc' := []) h2 h3 rfl .nil
    have s2 : Same F' (upd F' p (.frz o (.dK (mergeK [] kvs)))) := Same.upd_new fF
    have gt := g0.trans g'
    refine P (.ref p) (upd F' p (.frz o (.dK (mergeK [] kvs)))) _ ⟨fun b u q => ?_, gt.f.trans s2, ?_, fun b u q => ?_⟩ (.dic upd_same z1 (z2.mono s2))
    · rw [upd_ne (ne_of_none q hp), upd_ne (ne_of_none q hp)]; exact gt.h b u q
    · intro b u q
      by_cases hb : b = p
      · subst hb; rw [upd_same] at q ⊢; exact q
      · rw [upd_ne hb] at q ⊢; rw [upd_ne hb]; exact g'.s b u q
    · rw [upd_ne (ne_of_none q hp)]; exact gt.o b u q
end
end Mir
/-! sorted(set(xs)) of a list of texts of the def's own -/
namespace Mir
open PySem PySem.Spec PyProof.Rows L2 PySem.Froz
section
variable {X : Cx} {G : Gm}
def mSrtSetO (i : Nat) : Env → R D := fun ρ => match ρ[i]? with
  | some (.ol ds) => srtSetF (.lst ds)
  | _ => .bad
theorem mSrtSetO_eq {i : Nat} {ρ : Env} {ds : List D} (h : ρ[i]? = some (.ol ds)) : mSrtSetO i ρ = srtSetF (.lst ds) := by unfold mSrtSetO; rw [h]
theorem me_srtsetO (i : Nat) {x : Str} {p0 p p2 q pos : Pos} (hx : X.mg "sorted" = none) (hx2 : X.mg "set" = none) (hN : X.N[i]? = some x := by rfl) (hv : Vis X.env.scope x := by first | exact Or.inl rfl | exact Or.inr (Or.inl rfl) | exact Or.inr (Or.inr rfl)) (hd : (x == ("__debug__" : Str)) = false := by decide)
    (hcd : (x == ("__classdict__" : Str)) = false := by decide) (hK : X.K = G.K := by rfl) (hc : X.calm = true := by rfl) (hg : Gl X "sorted" := by rfl) (hg2 : Gl X "set" := by rfl)
    (he : starEach [.Name x p0] X.env = (false, eval (.Name x p0) X.env) :: starEach [] X.env := by rfl) (hst : starEach [.Call (.Name "set" p2) [.Name x p0] [] q] X.env = (false, eval (.Call (.Name "set" p2) [.Name x p0] [] q) X.env) :: starEach [] X.env := by rfl)
    (hpl : (backTo q (starEach [] X.env)).any (·.1) = false := by rfl) (hpl2 : (backTo pos (starEach [] X.env)).any (·.1) = false := by rfl) :
    ME X G (.Call (.Name "sorted" p) [.Call (.Name "set" p2) [.Name x p0] [] q] [] pos) (mSrtSetO i) :=
  weakE (pe_callB (cr_sortT hc) hg hx (by decide +kernel) (pa_cons (pe_callTy (cr_setT hc) hg2 hx2 (by decide +kernel) (pa_cons (pe_var hN hv hd hcd) pa_nil he) (by decide) (by decide) he hpl) pa_nil hst) (by decide) (by decide) hst hpl2) (by
    intro σ H Q ⟨ρ, F, S, P⟩
    unfold mSrtSetO at P
    split at P
    · rename_i ys hρ
      obtain ⟨a, vs, e1, e2, e3, r⟩ := S.getOl hρ
      refine ⟨.ref a, e1, ?_⟩
      have P1 : PostR G (DvR G) F H (setGo strsOf finT ys) Q := P
      cases e5 : strsOf ys with
      | none => unfold setGo at P1; rw [e5] at P1; exact P1.elim
      | some xs =>
        unfold setGo at P1
        rw [e5] at P1
        have P1 : PostR G (DvR G) F H (if xs.length < 4000 then finT xs else .bad) Q := P1
        have h4 : xs.length < 4000 := Decidable.byContradiction fun z => by rw [if_neg z] at P1; exact P1.elim
        rw [if_pos h4] at P1
        rw [strsOf_map e5] at r
        have ev := str_vals r
        subst ev
        refine ⟨a, xs, rfl, by rw [hK]; exact SqL.of e2, h4, fun p hp => ⟨p, dset xs, rfl, upd_same, by have := dset_len xs; omega, fun ys2 q pm so hq => ?_⟩⟩
        rw [eq_sortS pm so]
        exact postNew (PostR.grow P1 (Grow.own S.sub hp)) (S.sub.upd_out (S.sub.free hp)) hq (.lst upd_same (dv_strs _))
    · exact P.elim)
end
end Mir
namespace K52
open PySem PySem.Spec PyProof.Rows L2 Mir
def topS (i : Nat) : Stmt := PySem.Challenge.pw_staybounds_k52_whole_thinned.main.body.getD i (.Pass ⟨0, 0, 0, 0⟩)
abbrev st_is_book : Stmt := topS 10
abbrev N_is_book : List Str := ["candidate", "zones", "limits", "limit"]
theorem sc_is_book : FnScope N_is_book ["candidate"] (defScope st_is_book) := ⟨rfl, rfl, rfl, by decide +kernel, rfl, by decide +kernel, by decide +kernel⟩
abbrev st_is_calendar : Stmt := topS 11
abbrev N_is_calendar : List Str := ["book", "candidate"]
theorem sc_is_calendar : FnScope N_is_calendar ["book", "candidate"] (defScope st_is_calendar) := ⟨rfl, rfl, rfl, by decide +kernel, rfl, by decide +kernel, by decide +kernel⟩
abbrev st_check_book : Stmt := topS 12
abbrev N_check_book : List Str := ["book"]
theorem sc_check_book : FnScope N_check_book ["book"] (defScope st_check_book) := ⟨rfl, rfl, rfl, by decide +kernel, rfl, by decide +kernel, by decide +kernel⟩
abbrev st_check_calendar : Stmt := topS 13
abbrev N_check_calendar : List Str := ["book", "calendar"]
theorem sc_check_calendar : FnScope N_check_calendar ["book", "calendar"] (defScope st_check_calendar) := ⟨rfl, rfl, rfl, by decide +kernel, rfl, by decide +kernel, by decide +kernel⟩
abbrev st_day_letters : Stmt := topS 14
abbrev N_day_letters : List Str := ["book"]
theorem sc_day_letters : FnScope N_day_letters ["book"] (defScope st_day_letters) := ⟨rfl, rfl, rfl, by decide +kernel, rfl, by decide +kernel, by decide +kernel⟩
abbrev st_is_text_of : Stmt := topS 15
abbrev N_is_text_of : List Str := ["letters", "most", "candidate", "letter"]
theorem sc_is_text_of : FnScope N_is_text_of ["letters", "most", "candidate"] (defScope st_is_text_of) := ⟨rfl, rfl, rfl, by decide +kernel, rfl, by decide +kernel, by decide +kernel⟩
abbrev st_is_pair : Stmt := topS 16
abbrev N_is_pair : List Str := ["candidate"]
theorem sc_is_pair : FnScope N_is_pair ["candidate"] (defScope st_is_pair) := ⟨rfl, rfl, rfl, by decide +kernel, rfl, by decide +kernel, by decide +kernel⟩
abbrev st_is_between : Stmt := topS 17
abbrev N_is_between : List Str := ["candidate", "low", "high"]
theorem sc_is_between : FnScope N_is_between ["candidate", "low", "high"] (defScope st_is_between) := ⟨rfl, rfl, rfl, by decide +kernel, rfl, by decide +kernel, by decide +kernel⟩
abbrev st__limit_zones : Stmt := topS 18
abbrev N__limit_zones : List Str := ["zones"]
theorem sc__limit_zones : FnScope N__limit_zones ["zones"] (defScope st__limit_zones) := ⟨rfl, rfl, rfl, by decide +kernel, rfl, by decide +kernel, by decide +kernel⟩
abbrev st__is_limit_within : Stmt := topS 19
abbrev N__is_limit_within : List Str := ["candidate", "zones", "kind", "bounds", "numbers", "number", "low", "high"]
theorem sc__is_limit_within : FnScope N__is_limit_within ["candidate", "zones"] (defScope st__is_limit_within) := ⟨rfl, rfl, rfl, by decide +kernel, rfl, by decide +kernel, by decide +kernel⟩
abbrev st_is_allowed : Stmt := topS 23
abbrev N_is_allowed : List Str := ["book", "calendar"]
theorem sc_is_allowed : FnScope N_is_allowed ["book", "calendar"] (defScope st_is_allowed) := ⟨rfl, rfl, rfl, by decide +kernel, rfl, by decide +kernel, by decide +kernel⟩
abbrev st_first_broken : Stmt := topS 24
abbrev N_first_broken : List Str := ["book", "calendar", "lived", "day", "number"]
theorem sc_first_broken : FnScope N_first_broken ["book", "calendar"] (defScope st_first_broken) := ⟨rfl, rfl, rfl, by decide +kernel, rfl, by decide +kernel, by decide +kernel⟩
abbrev st_days_behind : Stmt := topS 25
abbrev N_days_behind : List Str := ["book", "past", "day"]
theorem sc_days_behind : FnScope N_days_behind ["book", "past"] (defScope st_days_behind) := ⟨rfl, rfl, rfl, by decide +kernel, rfl, by decide +kernel, by decide +kernel⟩
abbrev st_limit_broken : Stmt := topS 26
abbrev N_limit_broken : List Str := ["book", "past", "day", "number", "limit"]
theorem sc_limit_broken : FnScope N_limit_broken ["book", "past", "day"] (defScope st_limit_broken) := ⟨rfl, rfl, rfl, by decide +kernel, rfl, by decide +kernel, by decide +kernel⟩
abbrev st__breaks : Stmt := topS 27
abbrev N__breaks : List Str := ["limit", "days", "kind", "zones", "count", "inside", "begun", "day", "before", "now"]
theorem sc__breaks : FnScope N__breaks ["limit", "days"] (defScope st__breaks) := ⟨rfl, rfl, rfl, by decide +kernel, rfl, by decide +kernel, by decide +kernel⟩
abbrev st_next_past : Stmt := topS 29
abbrev N_next_past : List Str := ["past", "day"]
theorem sc_next_past : FnScope N_next_past ["past", "day"] (defScope st_next_past) := ⟨rfl, rfl, rfl, by decide +kernel, rfl, by decide +kernel, by decide +kernel⟩
abbrev st_steps_of : Stmt := topS 30
abbrev N_steps_of : List Str := ["book", "steps", "waiting", "past", "day", "after"]
theorem sc_steps_of : FnScope N_steps_of ["book"] (defScope st_steps_of) := ⟨rfl, rfl, rfl, by decide +kernel, rfl, by decide +kernel, by decide +kernel⟩
abbrev st_least_costs : Stmt := topS 31
abbrev N_least_costs : List Str := ["steps", "costs", "least", "cost", "later", "place", "day", "after"]
theorem sc_least_costs : FnScope N_least_costs ["steps", "costs"] (defScope st_least_costs) := ⟨rfl, rfl, rfl, by decide +kernel, rfl, by decide +kernel, by decide +kernel⟩
abbrev st_cheapest_walk : Stmt := topS 32
abbrev N_cheapest_walk : List Str := ["steps", "costs", "start", "least", "days", "place", "at", "cost", "best", "day", "step"]
theorem sc_cheapest_walk : FnScope N_cheapest_walk ["steps", "costs", "start"] (defScope st_cheapest_walk) := ⟨rfl, rfl, rfl, by decide +kernel, rfl, by decide +kernel, by decide +kernel⟩
abbrev st_fewest_away : Stmt := topS 34
abbrev N_fewest_away : List Str := ["book", "calendar"]
theorem sc_fewest_away : FnScope N_fewest_away ["book", "calendar"] (defScope st_fewest_away) := ⟨rfl, rfl, rfl, by decide +kernel, rfl, by decide +kernel, by decide +kernel⟩
abbrev st_thinned : Stmt := topS 35
abbrev N_thinned : List Str := ["book", "calendar"]
theorem sc_thinned : FnScope N_thinned ["book", "calendar"] (defScope st_thinned) := ⟨rfl, rfl, rfl, by decide +kernel, rfl, by decide +kernel, by decide +kernel⟩
abbrev st__costs_of : Stmt := topS 36
abbrev N__costs_of : List Str := ["calendar", "day"]
theorem sc__costs_of : FnScope N__costs_of ["calendar"] (defScope st__costs_of) := ⟨rfl, rfl, rfl, by decide +kernel, rfl, by decide +kernel, by decide +kernel⟩
abbrev st__law_pick : Stmt := topS 38
abbrev N__law_pick : List Str := ["_law_script", "_law_k", "_law_many", "_law_cell", "_law_rest", "_law_again", "_law_drawn"]
theorem sc__law_pick : FnScope N__law_pick ["_law_script", "_law_k", "_law_many"] (defScope st__law_pick) := ⟨rfl, rfl, rfl, by decide +kernel, rfl, by decide +kernel, by decide +kernel⟩
abbrev st__law_limit : Stmt := topS 39
abbrev N__law_limit : List Str := ["_law_script", "_law_at", "_law_zones", "_law_kind", "_law_here", "_law_count", "_law_span"]
theorem sc__law_limit : FnScope N__law_limit ["_law_script", "_law_at", "_law_zones"] (defScope st__law_limit) := ⟨rfl, rfl, rfl, by decide +kernel, rfl, by decide +kernel, by decide +kernel⟩
abbrev st__law_book : Stmt := topS 40
abbrev N__law_book : List Str := ["_law_script", "_law_at", "_law_zones", "_law_k"]
theorem sc__law_book : FnScope N__law_book ["_law_script", "_law_at"] (defScope st__law_book) := ⟨rfl, rfl, rfl, by decide +kernel, rfl, by decide +kernel, by decide +kernel⟩
abbrev st__law_days : Stmt := topS 41
abbrev N__law_days : List Str := ["_law_script", "_law_at", "_law_book_here", "_law_many", "_law_k"]
theorem sc__law_days : FnScope N__law_days ["_law_script", "_law_at", "_law_book_here", "_law_many"] (defScope st__law_days) := ⟨rfl, rfl, rfl, by decide +kernel, rfl, by decide +kernel, by decide +kernel⟩
abbrev st__law_bad : Stmt := topS 42
abbrev N__law_bad : List Str := ["_law_limit_here", "_law_calendar", "_law_kind", "_law_zones", "_law_count", "_law_inside", "_law_found", "_law_begins", "_law_k", "_law_first", "_law_marks", "_law_final", "_law_day", "_law_n"]
theorem sc__law_bad : FnScope N__law_bad ["_law_limit_here", "_law_calendar"] (defScope st__law_bad) := ⟨rfl, rfl, rfl, by decide +kernel, rfl, by decide +kernel, by decide +kernel⟩
abbrev st__law_fine : Stmt := topS 43
abbrev N__law_fine : List Str := ["_law_book_here", "_law_calendar", "_law_limit_here"]
theorem sc__law_fine : FnScope N__law_fine ["_law_book_here", "_law_calendar"] (defScope st__law_fine) := ⟨rfl, rfl, rfl, by decide +kernel, rfl, by decide +kernel, by decide +kernel⟩
abbrev st_law : Stmt := topS 44
abbrev N_law : List Str := ["_law_script", "_law_i", "_law_book_here", "_law_calendar", "_law_level", "_law_many", "_law_good", "_law_later", "_law_one", "_law_long", "_law_found", "_law_off", "_law_short", "_law_k"]
theorem sc_law : FnScope N_law ["_law_script"] (defScope st_law) := ⟨rfl, rfl, rfl, by decide +kernel, rfl, by decide +kernel, by decide +kernel⟩
def tab_BOUNDS : List (Str × Option D) := [("most", some (.tup [(.tup [(.int 0), (.int 6)]), (.tup [(.int 1), (.int 6)])])), ("row", some (.tup [(.tup [(.int 0), (.int 5)])])), ("gap", some (.tup [(.tup [(.int 1), (.int 5)])])), ("starts", some (.tup [(.tup [(.int 0), (.int 5)]), (.tup [(.int 1), (.int 5)])])), ("stay", none)]
/-- what the top leaves -/
structure Top (K : PySem.W.Frag) (w : World) (mg : Str → Option Value) : Prop where
  d_is_book : DefT K mg "is_book" st_is_book ["candidate"]
  d_is_calendar : DefT K mg "is_calendar" st_is_calendar ["book", "candidate"]
  d_check_book : DefT K mg "check_book" st_check_book ["book"]
  d_check_calendar : DefT K mg "check_calendar" st_check_calendar ["book", "calendar"]
  d_day_letters : DefT K mg "day_letters" st_day_letters ["book"]
  d_is_text_of : DefT K mg "is_text_of" st_is_text_of ["letters", "most", "candidate"]
  d_is_pair : DefT K mg "is_pair" st_is_pair ["candidate"]
  d_is_between : DefT K mg "is_between" st_is_between ["candidate", "low", "high"]
  d__limit_zones : DefT K mg "_limit_zones" st__limit_zones ["zones"]
  d__is_limit_within : DefT K mg "_is_limit_within" st__is_limit_within ["candidate", "zones"]
  d_is_allowed : DefT K mg "is_allowed" st_is_allowed ["book", "calendar"]
  d_first_broken : DefT K mg "first_broken" st_first_broken ["book", "calendar"]
  d_days_behind : DefT K mg "days_behind" st_days_behind ["book", "past"]
  d_limit_broken : DefT K mg "limit_broken" st_limit_broken ["book", "past", "day"]
  d__breaks : DefT K mg "_breaks" st__breaks ["limit", "days"]
  d_next_past : DefT K mg "next_past" st_next_past ["past", "day"]
  d_steps_of : DefT K mg "steps_of" st_steps_of ["book"]
  d_least_costs : DefT K mg "least_costs" st_least_costs ["steps", "costs"]
  d_cheapest_walk : DefT K mg "cheapest_walk" st_cheapest_walk ["steps", "costs", "start"]
  d_fewest_away : DefT K mg "fewest_away" st_fewest_away ["book", "calendar"]
  d_thinned : DefT K mg "thinned" st_thinned ["book", "calendar"]
  d__costs_of : DefT K mg "_costs_of" st__costs_of ["calendar"]
  d__law_pick : DefT K mg "_law_pick" st__law_pick ["_law_script", "_law_k", "_law_many"]
  d__law_limit : DefT K mg "_law_limit" st__law_limit ["_law_script", "_law_at", "_law_zones"]
  d__law_book : DefT K mg "_law_book" st__law_book ["_law_script", "_law_at"]
  d__law_days : DefT K mg "_law_days" st__law_days ["_law_script", "_law_at", "_law_book_here", "_law_many"]
  d__law_bad : DefT K mg "_law_bad" st__law_bad ["_law_limit_here", "_law_calendar"]
  d__law_fine : DefT K mg "_law_fine" st__law_fine ["_law_book_here", "_law_calendar"]
  d_law : DefT K mg "law" st_law ["_law_script"]
  c_AWAY : ∃ t, mg "AWAY" = some (.str "." t)
  c_MOST_DAYS : ∃ t, mg "MOST_DAYS" = some (.int 60 t)
  c_MOST_LIMITS : ∃ t, mg "MOST_LIMITS" = some (.int 4 t)
  c_PAST_DAYS : ∃ t, mg "PAST_DAYS" = some (.int 5 t)
  c_FIRST_PAST : ∃ t, mg "FIRST_PAST" = some (.str "....." t)
  t_BOUNDS : KTab K w mg "BOUNDS" tab_BOUNDS
  dq : mg "deque" = some (.type "collections.deque")
  x_StayError : ∃ C, ExcT K mg "StayError" C
  x_InvalidBook : ∃ C, ExcT K mg "InvalidBook" C
  x_InvalidCalendar : ∃ C, ExcT K mg "InvalidCalendar" C
  z_all : mg "all" = none
  z_any : mg "any" = none
  z_bool : mg "bool" = none
  z_enumerate : mg "enumerate" = none
  z_int : mg "int" = none
  z_isinstance : mg "isinstance" = none
  z_len : mg "len" = none
  z_max : mg "max" = none
  z_min : mg "min" = none
  z_range : mg "range" = none
  z_reversed : mg "reversed" = none
  z_set : mg "set" = none
  z_sorted : mg "sorted" = none
  z_str : mg "str" = none
  z_sum : mg "sum" = none
  z_tuple : mg "tuple" = none
  z_zip : mg "zip" = none
/-! ### mirrors -/
def b_is_pair : Mir.Env → RS := (sRet (mAndV (mCall isF (mCons (mVar 0) (mCons (mC (.ty "tuple")) mNil))) (mB (cmpF .Eq) (mCall lenF (mCons (mVar 0) mNil)) (mC (.int 2)))))
def f_is_pair : List D → R D := runD 1 b_is_pair
def b_is_between : Mir.Env → RS := (sSeq (sIf (mOr (mUT truth (mCall isF (mCons (mVar 0) (mCons (mC (.ty "bool")) mNil)))) (mNot (mUT truth (mCall isF (mCons (mVar 0) (mCons (mC (.ty "int")) mNil)))))) (sRet (mC (.bl false))) sSkip)
  (sRet (mCh (cmpF .LtE) (cmpF .LtE) (mVar 1) (mVar 0) (mVar 2))))
def f_is_between : List D → R D := runD 3 b_is_between
def b__limit_zones : Mir.Env → RS := (sSeq (sIf (mTest (mB (cmpF .Eq) (mVar 0) (mC (.str "ab")))) (sRet (mTup (mCons (mC (.str "a")) (mCons (mC (.str "b")) (mCons (mC (.str "ab")) mNil))))) sSkip)
  (sRet (mTup (mCons (mC (.str "a")) mNil))))
def f__limit_zones : List D → R D := runD 1 b__limit_zones
def el__is_limit_within_1 : Mir.Env → R D := (mFn 3 f_is_between (mCons (mVar 5) (mCons (mVar 6) (mCons (mVar 7) mNil))))
def b__is_limit_within : Mir.Env → RS := (sSeq (sIf (mOr (mNot (mUT truth (mCall isF (mCons (mVar 0) (mCons (mC (.ty "tuple")) mNil))))) (mTest (mB (cmpF .Lt) (mCall lenF (mCons (mVar 0) mNil)) (mC (.int 3))))) (sRet (mC (.bl false))) sSkip)
  (sSeq (sSet 2 (mB ixD (mVar 0) (mC (.int 0))))
  (sSeq (sIf (mOr (mNot (mUT truth (mCall isF (mCons (mVar 2) (mCons (mC (.ty "str")) mNil))))) (mTest (mU (kHas tab_BOUNDS true) (mVar 2)))) (sRet (mC (.bl false))) sSkip)
  (sSeq (sSet 3 (mU (kGet tab_BOUNDS) (mVar 2)))
  (sSeq (sSet 4 (mSl (mVar 0) (mSome (mC (.int 2))) mNo))
  (sSeq (sIf (mOr (mTest (mB (cmpF .NotIn) (mB ixD (mVar 0) (mC (.int 1))) (mFn 1 f__limit_zones (mCons (mVar 1) mNil)))) (mTest (mB (cmpF .NotEq) (mCall lenF (mCons (mVar 4) mNil)) (mCall lenF (mCons (mVar 3) mNil))))) (sRet (mC (.bl false))) sSkip)
  (sRet (mCall allF (mCons (mFz (mLc [5, 6, 7] (mSeqs zipF (mCons (mVar 4) (mCons (mVar 3) mNil))) (tgTup 2 (tgCons (tgName 5) (tgCons (tgTup 2 (tgCons (tgName 6) (tgCons (tgName 7) tgNil))) tgNil))) mYes el__is_limit_within_1)) mNil)))))))))
def f__is_limit_within : List D → R D := runD 8 b__is_limit_within
def el_is_book_1 : Mir.Env → R D := (mFn 2 f__is_limit_within (mCons (mVar 3) (mCons (mVar 1) mNil)))
def b_is_book : Mir.Env → RS := (sSeq (sIf (mNot (mUT truth (mFn 1 f_is_pair (mCons (mVar 0) mNil)))) (sRet (mC (.bl false))) sSkip)
  (sSeq (sUnp (tgTup 2 (tgCons (tgName 1) (tgCons (tgName 2) tgNil))) (mVar 0))
  (sSeq (sIf (mOr (mTest (mB (cmpF .NotIn) (mVar 1) (mTup (mCons (mC (.str "a")) (mCons (mC (.str "ab")) mNil))))) (mNot (mUT truth (mCall isF (mCons (mVar 2) (mCons (mC (.ty "tuple")) mNil)))))) (sRet (mC (.bl false))) sSkip)
  (sSeq (sIf (mTest (mB (cmpF .Gt) (mCall lenF (mCons (mVar 2) mNil)) (mC (.int 4)))) (sRet (mC (.bl false))) sSkip)
  (sRet (mCall allF (mCons (mFz (mLc [3] (mSeq anyOf (mVar 2)) (tgName 3) mYes el_is_book_1)) mNil)))))))
def f_is_book : List D → R D := runD 4 b_is_book
def b_check_book : Mir.Env → RS := (sIf (mNot (mUT truth (mFn 1 f_is_book (mCons (mVar 0) mNil)))) (fun _ => .exc "InvalidBook") sSkip)
def f_check_book : List D → R D := runD 1 b_check_book
def b_day_letters : Mir.Env → RS := (sRet (mB addD (mC (.str ".")) (mB ixD (mVar 0) (mC (.int 0)))))
def f_day_letters : List D → R D := runD 1 b_day_letters
def el_is_text_of_1 : Mir.Env → R D := (mB (cmpF .In) (mVar 3) (mVar 0))
def b_is_text_of : Mir.Env → RS := (sSeq (sIf (mOr (mNot (mUT truth (mCall isF (mCons (mVar 2) (mCons (mC (.ty "str")) mNil))))) (mTest (mB (cmpF .Gt) (mCall lenF (mCons (mVar 2) mNil)) (mVar 1)))) (sRet (mC (.bl false))) sSkip)
  (sRet (mCall allF (mCons (mFz (mLc [3] (mSeq anyOf (mVar 2)) (tgName 3) mYes el_is_text_of_1)) mNil))))
def f_is_text_of : List D → R D := runD 4 b_is_text_of
def b_is_calendar : Mir.Env → RS := (sSeq (sDrop (mFn 1 f_check_book (mCons (mVar 0) mNil)))
  (sRet (mFn 3 f_is_text_of (mCons (mFn 1 f_day_letters (mCons (mVar 0) mNil)) (mCons (mC (.int 60)) (mCons (mVar 1) mNil))))))
def f_is_calendar : List D → R D := runD 2 b_is_calendar
def b_check_calendar : Mir.Env → RS := (sIf (mNot (mUT truth (mFn 2 f_is_calendar (mCons (mVar 0) (mCons (mVar 1) mNil))))) (fun _ => .exc "InvalidCalendar") sSkip)
def f_check_calendar : List D → R D := runD 2 b_check_calendar
def el__breaks_1 : Mir.Env → R D := (mB (cmpF .In) (mVar 7) (mVar 3))
def el__breaks_2 : Mir.Env → R D := (mAndV (mVar 9) (mNotV (mVar 8)))
def b__breaks : Mir.Env → RS := (sSeq (sUnp (tgTup 3 (tgCons (tgName 2) (tgCons (tgName 3) (tgCons (tgName 4) tgNil)))) (mSl (mVar 0) mNo (mSome (mC (.int 3)))))
  (sSeq (sSet 5 (mFz (mLc [7] (mSeq anyOf (mVar 1)) (tgName 7) mYes el__breaks_1)))
  (sSeq (sSet 6 (mFz (mLc [8, 9] (mSeqs zipF (mCons (mVar 5) (mCons (mSl (mVar 5) (mSome (mC (.int 1))) mNo) mNil))) (tgTup 2 (tgCons (tgName 8) (tgCons (tgName 9) tgNil))) mYes el__breaks_2)))
  (sSeq (sIf (mTest (mB (cmpF .Eq) (mVar 2) (mC (.str "most")))) (sRet (mB (cmpF .Gt) (mCall sumF (mCons (mSl (mVar 5) (mSome (mU negD (mB ixD (mVar 0) (mC (.int 3))))) mNo) mNil)) (mVar 4))) sSkip)
  (sSeq (sIf (mTest (mB (cmpF .Eq) (mVar 2) (mC (.str "starts")))) (sRet (mB (cmpF .Gt) (mCall sumF (mCons (mSl (mVar 6) (mSome (mU negD (mB ixD (mVar 0) (mC (.int 3))))) mNo) mNil)) (mVar 4))) sSkip)
  (sSeq (sIf (mTest (mB (cmpF .Eq) (mVar 2) (mC (.str "row")))) (sRet (mCall allF (mCons (mSl (mVar 5) (mSome (mB subD (mU negD (mC (.int 1))) (mVar 4))) mNo) mNil))) sSkip)
  (sRet (mAndV (mB ixD (mVar 6) (mU negD (mC (.int 1)))) (mCall anyF (mCons (mSl (mVar 5) (mSome (mB subD (mU negD (mC (.int 1))) (mVar 4))) (mSome (mU negD (mC (.int 1))))) mNil))))))))))
def f__breaks : List D → R D := runD 10 b__breaks
def bd_limit_broken_1 : Mir.Env → RS := (sIf (mUT truth (mFn 2 f__breaks (mCons (mVar 4) (mCons (mB addD (mVar 1) (mVar 2)) mNil)))) (sRet (mVar 3)) sSkip)
def b_limit_broken : Mir.Env → RS := (sSeq (sFor (mSeqs enF (mCons (mB ixD (mVar 0) (mC (.int 1))) mNil)) (tgTup 2 (tgCons (tgName 3) (tgCons (tgName 4) tgNil))) bd_limit_broken_1)
  (sRet (mC .non)))
def f_limit_broken : List D → R D := runD 5 b_limit_broken
def bd_first_broken_1 : Mir.Env → RS := (sSeq (sSet 4 (mFn 3 f_limit_broken (mCons (mVar 0) (mCons (mSl (mVar 2) (mSome (mVar 3)) (mSome (mB addD (mVar 3) (mC (.int 5))))) (mCons (mB ixD (mVar 1) (mVar 3)) mNil)))))
  (sIf (mTest (mB (cmpF .IsNot) (mVar 4) (mC .non))) (sRet (mTup (mCons (mVar 3) (mCons (mVar 4) mNil)))) sSkip))
def b_first_broken : Mir.Env → RS := (sSeq (sDrop (mFn 2 f_check_calendar (mCons (mVar 0) (mCons (mVar 1) mNil))))
  (sSeq (sSet 2 (mB addD (mC (.str ".....")) (mVar 1)))
  (sSeq (sFor (mSeqs rng1 (mCons (mCall lenF (mCons (mVar 1) mNil)) mNil)) (tgName 3) bd_first_broken_1)
  (sRet (mC .non)))))
def f_first_broken : List D → R D := runD 5 b_first_broken
def b_is_allowed : Mir.Env → RS := (sRet (mB (cmpF .Is) (mFn 2 f_first_broken (mCons (mVar 0) (mCons (mVar 1) mNil))) (mC .non)))
def f_is_allowed : List D → R D := runD 2 b_is_allowed
def el_days_behind_1 : Mir.Env → R D := (mVar 2)
def tt_days_behind_2 : Mir.Env → R Bool := (mTest (mB (cmpF .Is) (mFn 3 f_limit_broken (mCons (mVar 0) (mCons (mVar 1) (mCons (mVar 2) mNil)))) (mC .non)))
def b_days_behind : Mir.Env → RS := (sRet (mFz (mLc [2] (mSeq anyOf (mFn 1 f_day_letters (mCons (mVar 0) mNil))) (tgName 2) tt_days_behind_2 el_days_behind_1)))
def f_days_behind : List D → R D := runD 3 b_days_behind
def b_next_past : Mir.Env → RS := (sRet (mB addD (mSl (mVar 0) (mSome (mC (.int 1))) mNo) (mVar 1)))
def f_next_past : List D → R D := runD 2 b_next_past
def el_steps_of_1 : Mir.Env → R D := (mTup (mCons (mVar 4) (mCons (mFn 2 f_next_past (mCons (mVar 3) (mCons (mVar 4) mNil))) mNil)))
def el_steps_of_2 : Mir.Env → R D := (mVar 5)
def wt_steps_of_3 : Mir.Env → R Bool := (mQT 2)
def wb_steps_of_4 : Mir.Env → RS := (sSeq (sPopl 3 2)
  (sIf (mTest (mDhasO true 1 (mVar 3))) (sSeq (sPutD 1 (mFz (mLc [4] (mSeq anyOf (mFn 2 f_days_behind (mCons (mVar 0) (mCons (mVar 3) mNil)))) (tgName 4) mYes el_steps_of_1)) (mVar 3))
  (sExtQ 2 (mFz (mLc [4, 5] (mSeq anyOf (mDgetO 1 (mVar 3))) (tgTup 2 (tgCons (tgName 4) (tgCons (tgName 5) tgNil))) mYes el_steps_of_2)))) sSkip))
def b_steps_of : Mir.Env → RS := (sSeq (sSetD 1)
  (sSeq (sSetQ 2 (mCons (mFz (mLst (mCons (mC (.str ".....")) mNil))) mNil))
  (sSeq (sWhile (fun _ => 1000) wt_steps_of_3 wb_steps_of_4)
  (sRetD 1))))
def f_steps_of : List D → R D := runD 6 b_steps_of
def ky_least_costs_1 : Mir.Env → R D := (mVar 5)
def el_least_costs_2 : Mir.Env → R D := (mC (.int 0))
def ky_least_costs_3 : Mir.Env → R D := (mVar 5)
def el_least_costs_4 : Mir.Env → R D := (mB addD (mB dgetD (mVar 3) (mVar 6)) (mB dgetD (mVar 4) (mVar 7)))
def tt_least_costs_5 : Mir.Env → R Bool := (mTest (mB (dhasD false) (mVar 6) (mVar 3)))
def el_least_costs_6 : Mir.Env → R D := (mCall (mmF minL) (mCons (mFz (mLc [6, 7] (mSeq anyOf (mB dgetD (mVar 0) (mVar 5))) (tgTup 2 (tgCons (tgName 6) (tgCons (tgName 7) tgNil))) tt_least_costs_5 el_least_costs_4)) mNil))
def bd_least_costs_7 : Mir.Env → RS := (sSeq (sSet 4 (mIxO 2 (mU negD (mC (.int 1)))))
  (sApp 2 (mDc [5] (mSeq keysOf (mVar 0)) (tgName 5) mYes ky_least_costs_3 el_least_costs_6)))
def b_least_costs : Mir.Env → RS := (sSeq (sSetO 2 (mLst (mCons (mDc [5] (mSeq keysOf (mVar 0)) (tgName 5) mYes ky_least_costs_1 el_least_costs_2) mNil)))
  (sSeq (sFor (mSeqs revF (mCons (mVar 1) mNil)) (tgName 3) bd_least_costs_7)
  (sRet (mFz (mRevO 2)))))
def f_least_costs : List D → R D := runD 8 b_least_costs
def el_cheapest_walk_1 : Mir.Env → R D := (mVar 10)
def tt_cheapest_walk_2 : Mir.Env → R Bool := (mAnd (mTest (mB (dhasD false) (mB ixD (mVar 10) (mC (.int 0))) (mVar 7))) (mTest (mB (cmpF .Eq) (mB addD (mB dgetD (mVar 7) (mB ixD (mVar 10) (mC (.int 0)))) (mB dgetD (mB ixD (mVar 3) (mB addD (mVar 6) (mC (.int 1)))) (mB ixD (mVar 10) (mC (.int 1))))) (mB dgetD (mB ixD (mVar 3) (mVar 6)) (mVar 5)))))
def bd_cheapest_walk_3 : Mir.Env → RS := (sSeq (sSet 8 (mFz (mLc [10] (mSeq anyOf (mB dgetD (mVar 0) (mVar 5))) (tgName 10) tt_cheapest_walk_2 el_cheapest_walk_1)))
  (sSeq (sUnp (tgTup 2 (tgCons (tgName 9) (tgCons (tgName 5) tgNil))) (mB ixD (mVar 8) (mC (.int 0))))
  (sSet 4 (mB addD (mVar 4) (mVar 9)))))
def b_cheapest_walk : Mir.Env → RS := (sSeq (sSet 3 (mFn 2 f_least_costs (mCons (mVar 0) (mCons (mVar 1) mNil))))
  (sSeq (sSet 4 (mC (.str "")))
  (sSeq (sSet 5 (mVar 2))
  (sSeq (sFor (mSeqs enF (mCons (mVar 1) mNil)) (tgTup 2 (tgCons (tgName 6) (tgCons (tgName 7) tgNil))) bd_cheapest_walk_3)
  (sRet (mVar 4))))))
def f_cheapest_walk : List D → R D := runD 11 b_cheapest_walk
def el__costs_of_1 : Mir.Env → R D := (mDd (((mC (.str ".")), (mCall intF (mCons (mB (cmpF .NotEq) (mVar 1) (mC (.str "."))) mNil))) :: (((mVar 1), (mC (.int 0))) :: [])))
def b__costs_of : Mir.Env → RS := (sRet (mFz (mLc [1] (mSeq anyOf (mVar 0)) (tgName 1) mYes el__costs_of_1)))
def f__costs_of : List D → R D := runD 2 b__costs_of
def b_fewest_away : Mir.Env → RS := (sSeq (sDrop (mFn 2 f_check_calendar (mCons (mVar 0) (mCons (mVar 1) mNil))))
  (sRet (mB dgetD (mB ixD (mFn 2 f_least_costs (mCons (mFn 1 f_steps_of (mCons (mVar 0) mNil)) (mCons (mFn 1 f__costs_of (mCons (mVar 1) mNil)) mNil))) (mC (.int 0))) (mC (.str ".....")))))
def f_fewest_away : List D → R D := runD 2 b_fewest_away
def b_thinned : Mir.Env → RS := (sSeq (sDrop (mFn 2 f_check_calendar (mCons (mVar 0) (mCons (mVar 1) mNil))))
  (sRet (mFn 3 f_cheapest_walk (mCons (mFn 1 f_steps_of (mCons (mVar 0) mNil)) (mCons (mFn 1 f__costs_of (mCons (mVar 1) mNil)) (mCons (mC (.str ".....")) mNil))))))
def f_thinned : List D → R D := runD 2 b_thinned
def wt__law_pick_1 : Mir.Env → R Bool := (mAnd (mTest (mB (cmpF .Gt) (mVar 4) (mC (.int 0)))) (mTest (mB (cmpF .Gt) (mVar 5) (mC (.int 0)))))
def wb__law_pick_2 : Mir.Env → RS := (sPar 4 5 (mCons (mB fdivD (mVar 4) (mC (.int 840))) (mCons (mB subD (mVar 5) (mC (.int 1))) mNil)))
def b__law_pick : Mir.Env → RS := (sSeq (sSet 3 (mIf (mTest (mB (cmpF .NotEq) (mVar 0) (mFz (mLst mNil)))) (mB ixD (mVar 0) (mB modD (mCall intF (mCons (mVar 1) mNil)) (mCall lenF (mCons (mVar 0) mNil)))) (mC (.int 0))))
  (sSeq (sPar 4 5 (mCons (mB fdivD (mVar 3) (mB powD (mC (.int 10)) (mC (.int 18)))) (mCons (mB fdivD (mVar 1) (mCall max2F (mCons (mCall lenF (mCons (mVar 0) mNil)) (mCons (mC (.int 1)) mNil)))) mNil)))
  (sSeq (sWhile (fun _ => 1000) wt__law_pick_1 wb__law_pick_2)
  (sSeq (sIf (mTest (mB (cmpF .Gt) (mVar 4) (mC (.int 0)))) (sRet (mB modD (mCall intF (mCons (mB modD (mCall intF (mCons (mVar 4) mNil)) (mC (.int 840))) mNil)) (mVar 2))) sSkip)
  (sSeq (sSet 6 (mB modD (mCall intF (mCons (mB mulD (mB addD (mB mulD (mVar 3) (mC (.int 31))) (mB mulD (mC (.int 6151)) (mB addD (mVar 1) (mC (.int 1))))) (mC (.int 40692))) mNil)) (mC (.int 2147483399))))
  (sRet (mB modD (mCall intF (mCons (mB modD (mCall intF (mCons (mB addD (mB mulD (mVar 6) (mVar 6)) (mB fdivD (mVar 6) (mC (.int 31)))) mNil)) (mC (.int 2147483629))) mNil)) (mVar 2))))))))
def f__law_pick : List D → R D := runD 7 b__law_pick
def b__law_limit : Mir.Env → RS := (sSeq (sSet 3 (mB ixD (mTup (mCons (mC (.str "most")) (mCons (mC (.str "row")) (mCons (mC (.str "gap")) (mCons (mC (.str "starts")) (mCons (mC (.str "most")) mNil)))))) (mFn 3 f__law_pick (mCons (mVar 0) (mCons (mVar 1) (mCons (mC (.int 5)) mNil))))))
  (sSeq (sSet 4 (mIf (mTest (mB (cmpF .Eq) (mVar 2) (mC (.str "ab")))) (mB ixD (mTup (mCons (mC (.str "a")) (mCons (mC (.str "b")) (mCons (mC (.str "ab")) mNil)))) (mFn 3 f__law_pick (mCons (mVar 0) (mCons (mB addD (mVar 1) (mC (.int 1))) (mCons (mC (.int 3)) mNil))))) (mC (.str "a"))))
  (sSeq (sPar 5 6 (mCons (mFn 3 f__law_pick (mCons (mVar 0) (mCons (mB addD (mVar 1) (mC (.int 2))) (mCons (mC (.int 4)) mNil)))) (mCons (mB addD (mC (.int 1)) (mFn 3 f__law_pick (mCons (mVar 0) (mCons (mB addD (mVar 1) (mC (.int 3))) (mCons (mC (.int 5)) mNil))))) mNil)))
  (sSeq (sIf (mTest (mB (cmpF .In) (mVar 3) (mTup (mCons (mC (.str "most")) (mCons (mC (.str "starts")) mNil))))) (sRet (mTup (mCons (mVar 3) (mCons (mVar 4) (mCons (mVar 5) (mCons (mVar 6) mNil)))))) sSkip)
  (sRet (mTup (mCons (mVar 3) (mCons (mVar 4) (mCons (mIf (mTest (mB (cmpF .Eq) (mVar 3) (mC (.str "row")))) (mVar 5) (mB addD (mC (.int 1)) (mVar 5))) mNil)))))))))
def f__law_limit : List D → R D := runD 7 b__law_limit
def el__law_book_1 : Mir.Env → R D := (mFn 3 f__law_limit (mCons (mVar 0) (mCons (mB addD (mB addD (mVar 1) (mC (.int 2))) (mB mulD (mC (.int 4)) (mVar 3))) (mCons (mVar 2) mNil))))
def b__law_book : Mir.Env → RS := (sSeq (sSet 2 (mB ixD (mTup (mCons (mC (.str "a")) (mCons (mC (.str "ab")) (mCons (mC (.str "ab")) mNil)))) (mFn 3 f__law_pick (mCons (mVar 0) (mCons (mVar 1) (mCons (mC (.int 3)) mNil))))))
  (sRet (mTup (mCons (mVar 2) (mCons (mCall tupF (mCons (mFz (mLc [3] (mSeqs rng1 (mCons (mFn 3 f__law_pick (mCons (mVar 0) (mCons (mB addD (mVar 1) (mC (.int 1))) (mCons (mC (.int 4)) mNil)))) mNil)) (tgName 3) mYes el__law_book_1)) mNil)) mNil)))))
def f__law_book : List D → R D := runD 4 b__law_book
def el__law_days_1 : Mir.Env → R D := (mB ixD (mB addD (mB addD (mC (.str ".")) (mB ixD (mVar 2) (mC (.int 0)))) (mC (.str "a"))) (mFn 3 f__law_pick (mCons (mVar 0) (mCons (mB addD (mVar 1) (mVar 4)) (mCons (mB addD (mCall lenF (mCons (mB ixD (mVar 2) (mC (.int 0))) mNil)) (mC (.int 2))) mNil)))))
def b__law_days : Mir.Env → RS := (sRet (mJoin (mC (.str "")) (mFz (mLc [4] (mSeqs rng1 (mCons (mVar 3) mNil)) (tgName 4) mYes el__law_days_1))))
def f__law_days : List D → R D := runD 5 b__law_days
def el__law_bad_1 : Mir.Env → R D := (mB (cmpF .In) (mVar 12) (mVar 3))
def el__law_bad_2 : Mir.Env → R D := (mVar 8)
def tt__law_bad_3 : Mir.Env → R Bool := (mAnd (mUT truth (mB ixD (mVar 5) (mVar 8))) (mOr (mTest (mB (cmpF .Eq) (mVar 8) (mC (.int 0)))) (mNot (mUT truth (mB ixD (mVar 5) (mB subD (mVar 8) (mC (.int 1))))))))
def el__law_bad_4 : Mir.Env → R D := (mVar 13)
def tt__law_bad_5 : Mir.Env → R Bool := (mUT truth (mB ixD (mVar 5) (mVar 13)))
def el__law_bad_6 : Mir.Env → R D := (mVar 13)
def tt__law_bad_7 : Mir.Env → R Bool := (mTest (mCh (cmpF .LtE) (cmpF .LtE) (mVar 9) (mVar 13) (mVar 8)))
def el__law_bad_8 : Mir.Env → R D := (mVar 13)
def tt__law_bad_9 : Mir.Env → R Bool := (mTest (mB (cmpF .LtE) (mVar 13) (mVar 8)))
def el__law_bad_10 : Mir.Env → R D := (mVar 13)
def tt__law_bad_11 : Mir.Env → R Bool := (mUT truth (mB ixD (mVar 5) (mVar 13)))
def bd__law_bad_12 : Mir.Env → RS := (sIf (mTest (mB (cmpF .In) (mVar 2) (mTup (mCons (mC (.str "most")) (mCons (mC (.str "starts")) mNil))))) (sSeq (sSet 9 (mB addD (mB subD (mVar 8) (mB ixD (mVar 0) (mC (.int 3)))) (mC (.int 1))))
  (sSeq (sSet 10 (mFz (mLc [13] (mSeqs rng1 (mCons (mCall lenF (mCons (mVar 1) mNil)) mNil)) (tgName 13) tt__law_bad_5 el__law_bad_4)))
  (sSeq (sSet 10 (mIf (mTest (mB (cmpF .Eq) (mVar 2) (mC (.str "starts")))) (mVar 7) (mVar 10)))
  (sExt 6 (mIf (mTest (mB (cmpF .Gt) (mCall lenF (mCons (mFz (mLc [13] (mSeq anyOf (mVar 10)) (tgName 13) tt__law_bad_7 el__law_bad_6)) mNil)) (mVar 4))) (mFz (mLst (mCons (mTup (mCons (mVar 8) (mCons (mVar 9) mNil))) mNil))) (mFz (mLst mNil))))))) (sIf (mUT truth (mB ixD (mVar 5) (mVar 8))) (sSeq (sSet 9 (mCall (mmF maxL) (mCons (mFz (mLc [13] (mSeq anyOf (mVar 7)) (tgName 13) tt__law_bad_9 el__law_bad_8)) mNil)))
  (sIf (mTest (mB (cmpF .Eq) (mVar 2) (mC (.str "row")))) (sExt 6 (mIf (mTest (mB (cmpF .GtE) (mB subD (mVar 8) (mVar 9)) (mVar 4))) (mFz (mLst (mCons (mTup (mCons (mVar 8) (mCons (mVar 9) mNil))) mNil))) (mFz (mLst mNil)))) (sIf (mAnd (mTest (mB (cmpF .Eq) (mVar 9) (mVar 8))) (mAnd (mTest (mB (cmpF .Gt) (mVar 8) (mC (.int 0)))) (mTest (mB (cmpF .In) (mC (.bl true)) (mSl (mVar 5) mNo (mSome (mVar 8))))))) (sSeq (sSet 11 (mCall (mmF maxL) (mCons (mFz (mLc [13] (mSeqs rng1 (mCons (mVar 8) mNil)) (tgName 13) tt__law_bad_11 el__law_bad_10)) mNil)))
  (sExt 6 (mIf (mTest (mB (cmpF .Lt) (mB subD (mB subD (mVar 8) (mVar 11)) (mC (.int 1))) (mVar 4))) (mFz (mLst (mCons (mTup (mCons (mVar 8) (mCons (mVar 11) mNil))) mNil))) (mFz (mLst mNil))))) sSkip))) sSkip))
def b__law_bad : Mir.Env → RS := (sSeq (sUnp (tgTup 3 (tgCons (tgName 2) (tgCons (tgName 3) (tgCons (tgName 4) tgNil)))) (mSl (mVar 0) mNo (mSome (mC (.int 3)))))
  (sSeq (sParP 5 6 (mpCons (mpF (mFz (mLc [12] (mSeq anyOf (mVar 1)) (tgName 12) mYes el__law_bad_1))) (mpCons (mpL (mLst mNil)) mpNil)))
  (sSeq (sSet 7 (mFz (mLc [8] (mSeqs rng1 (mCons (mCall lenF (mCons (mVar 1) mNil)) mNil)) (tgName 8) tt__law_bad_3 el__law_bad_2)))
  (sSeq (sFor (mSeqs rng1 (mCons (mCall lenF (mCons (mVar 1) mNil)) mNil)) (tgName 8) bd__law_bad_12)
  (sRetO 6)))))
def f__law_bad : List D → R D := runD 14 b__law_bad
def el__law_fine_1 : Mir.Env → R D := (mVar 2)
def tt__law_fine_2 : Mir.Env → R Bool := (mTest (mB (cmpF .NotEq) (mFn 2 f__law_bad (mCons (mVar 2) (mCons (mVar 1) mNil))) (mFz (mLst mNil))))
def b__law_fine : Mir.Env → RS := (sRet (mB (cmpF .Eq) (mFz (mLc [2] (mSeq anyOf (mB ixD (mVar 0) (mC (.int 1)))) (tgName 2) tt__law_fine_2 el__law_fine_1)) (mFz (mLst mNil))))
def f__law_fine : List D → R D := runD 3 b__law_fine
def el_law_1 : Mir.Env → R D := (mVar 8)
def tt_law_2 : Mir.Env → R Bool := (mUT truth (mFn 2 f__law_fine (mCons (mVar 2) (mCons (mVar 8) mNil))))
def el_law_3 : Mir.Env → R D := (mB addD (mB addD (mSl (mVar 8) mNo (mSome (mVar 13))) (mC (.str "."))) (mSl (mVar 8) (mSome (mB addD (mVar 13) (mC (.int 1)))) mNo))
def tt_law_4 : Mir.Env → R Bool := (mTest (mB (cmpF .NotEq) (mB ixD (mVar 8) (mVar 13)) (mC (.str "."))))
def bd_law_5 : Mir.Env → RS := (sExt 7 (mFz (mLc [13] (mSeqs rng1 (mCons (mCall lenF (mCons (mVar 8) mNil)) mNil)) (tgName 13) tt_law_4 el_law_3)))
def bd_law_6 : Mir.Env → RS := (sSeq (sSet 6 (mFz (mLc [8] (mSeq anyOf (mVar 4)) (tgName 8) tt_law_2 el_law_1)))
  (sSeq (sIf (mTest (mB (cmpF .NotEq) (mVar 6) (mFz (mLst mNil)))) (sIf (mOr (mTest (mB (cmpF .NotEq) (mFn 2 f_fewest_away (mCons (mVar 2) (mCons (mVar 3) mNil))) (mVar 5))) (mTest (mB (cmpF .NotEq) (mFn 2 f_thinned (mCons (mVar 2) (mCons (mVar 3) mNil))) (mCall minTF (mCons (mVar 6) mNil))))) (sRet (mC (.bl false))) sSkip) sSkip)
  (sSeq (sSetO 7 (mLst mNil))
  (sSeq (sFor (mSeq anyOf (mIf (mTest (mB (cmpF .Eq) (mVar 6) (mFz (mLst mNil)))) (mVar 4) (mFz (mLst mNil)))) (tgName 8) bd_law_5)
  (sSet 4 (mSrtSetO 7))))))
def el_law_7 : Mir.Env → R D := (mVar 13)
def tt_law_8 : Mir.Env → R Bool := (mTest (mB (cmpF .NotEq) (mB ixD (mVar 10) (mVar 13)) (mB ixD (mVar 9) (mVar 13))))
def el_law_9 : Mir.Env → R D := (mVar 13)
def tt_law_10 : Mir.Env → R Bool := (mTest (mB (cmpF .NotEq) (mB ixD (mVar 10) (mVar 13)) (mC (.str "."))))
def bd_law_11 : Mir.Env → RS := (sSeq (sSet 2 (mFn 2 f__law_book (mCons (mVar 0) (mCons (mB mulD (mC (.int 60)) (mVar 1)) mNil))))
  (sSeq (sSet 3 (mFn 4 f__law_days (mCons (mVar 0) (mCons (mB addD (mB mulD (mC (.int 60)) (mVar 1)) (mC (.int 20))) (mCons (mVar 2) (mCons (mFn 3 f__law_pick (mCons (mVar 0) (mCons (mB addD (mB mulD (mC (.int 60)) (mVar 1)) (mC (.int 19))) (mCons (mC (.int 8)) mNil)))) mNil))))))
  (sSeq (sSet 4 (mFz (mLst (mCons (mVar 3) mNil))))
  (sSeq (sFor (mSeqs rng1 (mCons (mB addD (mCall lenF (mCons (mVar 3) mNil)) (mC (.int 1))) mNil)) (tgName 5) bd_law_6)
  (sSeq (sSet 9 (mFn 4 f__law_days (mCons (mVar 0) (mCons (mB addD (mB mulD (mC (.int 60)) (mVar 1)) (mC (.int 30))) (mCons (mVar 2) (mCons (mC (.int 20)) mNil))))))
  (sSeq (sSet 10 (mFn 2 f_thinned (mCons (mVar 2) (mCons (mVar 9) mNil))))
  (sSeq (sIf (mOr (mTest (mB (cmpF .NotEq) (mCall lenF (mCons (mVar 10) mNil)) (mC (.int 20)))) (mNot (mUT truth (mFn 2 f__law_fine (mCons (mVar 2) (mCons (mVar 10) mNil)))))) (sRet (mC (.bl false))) sSkip)
  (sSeq (sSet 11 (mFz (mLc [13] (mSeqs rng1 (mCons (mC (.int 20)) mNil)) (tgName 13) tt_law_8 el_law_7)))
  (sSeq (sIf (mOr (mTest (mB (cmpF .NotEq) (mCall lenF (mCons (mVar 11) mNil)) (mFn 2 f_fewest_away (mCons (mVar 2) (mCons (mVar 9) mNil))))) (mTest (mB (cmpF .NotEq) (mFz (mLc [13] (mSeq anyOf (mVar 11)) (tgName 13) tt_law_10 el_law_9)) (mFz (mLst mNil))))) (sRet (mC (.bl false))) sSkip)
  (sIf (mTest (mB (cmpF .NotEq) (mB (cmpF .Eq) (mVar 11) (mFz (mLst mNil))) (mFn 2 f_is_allowed (mCons (mVar 2) (mCons (mVar 9) mNil))))) (sRet (mC (.bl false))) sSkip))))))))))
def b_law : Mir.Env → RS := (sSeq (sFor (mSeqs rng1 (mCons (mC (.int 4)) mNil)) (tgName 1) bd_law_11)
  (sSeq (sSet 12 (mTup (mCons (mC (.str "a")) (mCons (mTup (mCons (mTup (mCons (mC (.str "most")) (mCons (mC (.str "a")) (mCons (mC (.int 2)) (mCons (mC (.int 4)) mNil))))) mNil)) mNil))))
  (sRet (mAndV (mB (cmpF .Eq) (mFn 2 f_thinned (mCons (mVar 12) (mCons (mC (.str "aaaa")) mNil))) (mC (.str "..aa"))) (mAndV (mB (cmpF .Eq) (mFn 2 f_fewest_away (mCons (mVar 12) (mCons (mC (.str "aaaaaaaa")) mNil))) (mC (.int 4))) (mB (cmpF .Eq) (mFn 2 f_thinned (mCons (mVar 12) (mCons (mC (.str "")) mNil))) (mC (.str ""))))))))
def f_law : List D → R D := runD 14 b_law
/-! ### the defs keep to them -/
section
variable {P : Program} {w : World} {K : PySem.W.Frag} {mg : Str → Option Value} {base : Heap}
theorem df_is_pair (T : Top K w mg) : Df P w K mg base 1 "is_pair" ["candidate"] f_is_pair := by
  refine df_mk T.d_is_pair sc_is_pair fun f cdv A outer s H E hr tk hx hpo => ?_
  exact (ss_one (ms_ret (me_and (me_isi (ma_cons (me_var 0) (ma_cons (me_ty T.z_tuple (by decide +kernel)) ma_nil)) T.z_isinstance) (me_one (me_cm hr (me_len (ma_cons (me_var 0) ma_nil) T.z_len) me_int)))))
theorem df_is_between (T : Top K w mg) : Df P w K mg base 1 "is_between" ["candidate", "low", "high"] f_is_between := by
  refine df_mk T.d_is_between sc_is_between fun f cdv A outer s H E hr tk hx hpo => ?_
  exact (ss_cons (ms_if (PW.pt (mw_or (mt_truth (me_isi (ma_cons (me_var 0) (ma_cons (me_ty T.z_bool (by decide +kernel)) ma_nil)) T.z_isinstance)) (mw_or1 (mt_not (mt_truth (me_isi (ma_cons (me_var 0) (ma_cons (me_ty T.z_int (by decide +kernel)) ma_nil)) T.z_isinstance)))))) (ss_one (ms_ret me_bl)) ss_nil)
    (ss_one (ms_ret (me_ch hr (me_var 1) (me_var 0) (me_var 2)))))
theorem df__limit_zones (T : Top K w mg) : Df P w K mg base 1 "_limit_zones" ["zones"] f__limit_zones := by
  refine df_mk T.d__limit_zones sc__limit_zones fun f cdv A outer s H E hr tk hx hpo => ?_
  exact (ss_cons (ms_if (mt_cm hr (me_var 0) me_str) (ss_one (ms_ret (me_tup (ma_cons me_str (ma_cons me_str (ma_cons me_str ma_nil)))))) ss_nil)
    (ss_one (ms_ret (me_tup (ma_cons me_str ma_nil)))))
theorem df__is_limit_within (T : Top K w mg) : Df P w K mg base 2 "_is_limit_within" ["candidate", "zones"] f__is_limit_within := by
  refine df_mk T.d__is_limit_within sc__is_limit_within fun f cdv A outer s H E hr tk hx hpo => ?_
  exact (ss_cons (ms_if (PW.pt (mw_or (mt_not (mt_truth (me_isi (ma_cons (me_var 0) (ma_cons (me_ty T.z_tuple (by decide +kernel)) ma_nil)) T.z_isinstance))) (mw_or1 (mt_cm hr (me_len (ma_cons (me_var 0) ma_nil) T.z_len) me_int)))) (ss_one (ms_ret me_bl)) ss_nil)
    (ss_cons (ms_set sc__is_limit_within.nd (me_ix (me_var 0) me_int))
    (ss_cons (ms_if (PW.pt (mw_or (mt_not (mt_truth (me_isi (ma_cons (me_var 2) (ma_cons (me_ty T.z_str (by decide +kernel)) ma_nil)) T.z_isinstance))) (mw_or1 (mt_knin T.t_BOUNDS (me_var 2))))) (ss_one (ms_ret me_bl)) ss_nil)
    (ss_cons (ms_set sc__is_limit_within.nd (me_kget T.t_BOUNDS (me_var 2)))
    (ss_cons (ms_set sc__is_limit_within.nd (me_sl (me_var 0) (mo_some me_int) mo_none))
    (ss_cons (ms_if (PW.pt (mw_or (mt_cm hr (me_ix (me_var 0) me_int) (me_df (df__limit_zones T) hr (by decide) hx (ma_cons (me_var 1) ma_nil))) (mw_or1 (mt_cm hr (me_len (ma_cons (me_var 4) ma_nil) T.z_len) (me_len (ma_cons (me_var 3) ma_nil) T.z_len))))) (ss_one (ms_ret me_bl)) ss_nil)
    (ss_one (ms_ret (me_all (ma_cons (me_fz (mf_lc (own := [("number", 5), ("low", 6), ("high", 7)]) sc__is_limit_within.nd (mi_zip (ma_cons (me_var 4) (ma_cons (me_var 3) ma_nil)) T.z_zip) (blkOk_by (own := [("number", 5), ("low", 6), ("high", 7)]) (N := N__is_limit_within) (sc := defScope st__is_limit_within) (by decide +kernel)) (fun _ _ _ _ _ => (pg_tup rfl (pgs_cons (pg_name (i := 5) sc__is_limit_within.nd rfl (by first | exact Or.inl rfl | exact Or.inr rfl)) (pgs_cons (pg_tup rfl (pgs_cons (pg_name (i := 6) sc__is_limit_within.nd rfl (by first | exact Or.inl rfl | exact Or.inr rfl)) (pgs_cons (pg_name (i := 7) sc__is_limit_within.nd rfl (by first | exact Or.inl rfl | exact Or.inr rfl)) pgs_nil))) pgs_nil)))) (tg_tup (tg_cons (tg_name (by decide)) (tg_cons (tg_tup (tg_cons (tg_name (by decide)) (tg_cons (tg_name (by decide)) tg_nil))) tg_nil))) (fun _ _ _ _ _ => mts_nil) (fun _ _ _ _ _ => (me_df (df_is_between T) hr (by decide) passL (ma_cons (me_var 5) (ma_cons (me_var 6) (ma_cons (me_var 7) ma_nil))))))) ma_nil) T.z_all)))))))))
theorem df_is_book (T : Top K w mg) : Df P w K mg base 3 "is_book" ["candidate"] f_is_book := by
  refine df_mk T.d_is_book sc_is_book fun f cdv A outer s H E hr tk hx hpo => ?_
  exact (ss_cons (ms_if (mt_not (mt_truth (me_df (df_is_pair T) hr (by decide) hx (ma_cons (me_var 0) ma_nil)))) (ss_one (ms_ret me_bl)) ss_nil)
    (ss_cons (ms_unp (vs := [1, 2]) (me_var 0) (pg_tup rfl (pgs_cons (pg_name (i := 1) sc_is_book.nd rfl (by first | exact Or.inl rfl | exact Or.inr rfl)) (pgs_cons (pg_name (i := 2) sc_is_book.nd rfl (by first | exact Or.inl rfl | exact Or.inr rfl)) pgs_nil))) (tg_tup (tg_cons (tg_name (by decide)) (tg_cons (tg_name (by decide)) tg_nil))))
    (ss_cons (ms_if (PW.pt (mw_or (mt_cm hr (me_var 1) (me_tup (ma_cons me_str (ma_cons me_str ma_nil)))) (mw_or1 (mt_not (mt_truth (me_isi (ma_cons (me_var 2) (ma_cons (me_ty T.z_tuple (by decide +kernel)) ma_nil)) T.z_isinstance)))))) (ss_one (ms_ret me_bl)) ss_nil)
    (ss_cons (ms_if (mt_cm hr (me_len (ma_cons (me_var 2) ma_nil) T.z_len) (me_gInt T.c_MOST_LIMITS)) (ss_one (ms_ret me_bl)) ss_nil)
    (ss_one (ms_ret (me_all (ma_cons (me_fz (mf_lc (own := [("limit", 3)]) sc_is_book.nd (mi_any (me_var 2)) (blkOk_by (own := [("limit", 3)]) (N := N_is_book) (sc := defScope st_is_book) (by decide +kernel)) (fun _ _ _ _ _ => (pg_name (i := 3) sc_is_book.nd rfl (by first | exact Or.inl rfl | exact Or.inr rfl))) (tg_name (by decide)) (fun _ _ _ _ _ => mts_nil) (fun _ _ _ _ _ => (me_df (df__is_limit_within T) hr (by decide) passL (ma_cons (me_var 3) (ma_cons (me_var 1) ma_nil)))))) ma_nil) T.z_all)))))))
theorem df_check_book (T : Top K w mg) : Df P w K mg base 4 "check_book" ["book"] f_check_book := by
  obtain ⟨C_InvalidBook, x_InvalidBook⟩ := T.x_InvalidBook
  refine df_mk T.d_check_book sc_check_book fun f cdv A outer s H E hr tk hx hpo => ?_
  exact (ss_one (ms_if (mt_not (mt_truth (me_df (df_is_book T) hr (by decide) hx (ma_cons (me_var 0) ma_nil)))) (ss_one (ms_raise x_InvalidBook tk)) ss_nil))
theorem df_day_letters (T : Top K w mg) : Df P w K mg base 1 "day_letters" ["book"] f_day_letters := by
  refine df_mk T.d_day_letters sc_day_letters fun f cdv A outer s H E hr tk hx hpo => ?_
  exact (ss_one (ms_ret (me_add (me_gStr T.c_AWAY) (me_ix (me_var 0) me_int))))
theorem df_is_text_of (T : Top K w mg) : Df P w K mg base 1 "is_text_of" ["letters", "most", "candidate"] f_is_text_of := by
  refine df_mk T.d_is_text_of sc_is_text_of fun f cdv A outer s H E hr tk hx hpo => ?_
  exact (ss_cons (ms_if (PW.pt (mw_or (mt_not (mt_truth (me_isi (ma_cons (me_var 2) (ma_cons (me_ty T.z_str (by decide +kernel)) ma_nil)) T.z_isinstance))) (mw_or1 (mt_cm hr (me_len (ma_cons (me_var 2) ma_nil) T.z_len) (me_var 1))))) (ss_one (ms_ret me_bl)) ss_nil)
    (ss_one (ms_ret (me_all (ma_cons (me_fz (mf_lc (own := [("letter", 3)]) sc_is_text_of.nd (mi_any (me_var 2)) (blkOk_by (own := [("letter", 3)]) (N := N_is_text_of) (sc := defScope st_is_text_of) (by decide +kernel)) (fun _ _ _ _ _ => (pg_name (i := 3) sc_is_text_of.nd rfl (by first | exact Or.inl rfl | exact Or.inr rfl))) (tg_name (by decide)) (fun _ _ _ _ _ => mts_nil) (fun _ _ _ _ _ => (me_cm hr (me_var 3) (me_var 0))))) ma_nil) T.z_all))))
theorem df_is_calendar (T : Top K w mg) : Df P w K mg base 5 "is_calendar" ["book", "candidate"] f_is_calendar := by
  refine df_mk T.d_is_calendar sc_is_calendar fun f cdv A outer s H E hr tk hx hpo => ?_
  exact (ss_cons (ms_expr (me_df (df_check_book T) hr (by decide) hx (ma_cons (me_var 0) ma_nil)))
    (ss_one (ms_ret (me_df (df_is_text_of T) hr (by decide) hx (ma_cons (me_df (df_day_letters T) hr (by decide) hx (ma_cons (me_var 0) ma_nil)) (ma_cons (me_gInt T.c_MOST_DAYS) (ma_cons (me_var 1) ma_nil)))))))
theorem df_check_calendar (T : Top K w mg) : Df P w K mg base 6 "check_calendar" ["book", "calendar"] f_check_calendar := by
  obtain ⟨C_InvalidCalendar, x_InvalidCalendar⟩ := T.x_InvalidCalendar
  refine df_mk T.d_check_calendar sc_check_calendar fun f cdv A outer s H E hr tk hx hpo => ?_
  exact (ss_one (ms_if (mt_not (mt_truth (me_df (df_is_calendar T) hr (by decide) hx (ma_cons (me_var 0) (ma_cons (me_var 1) ma_nil))))) (ss_one (ms_raise x_InvalidCalendar tk)) ss_nil))
theorem df__breaks (T : Top K w mg) : Df P w K mg base 1 "_breaks" ["limit", "days"] f__breaks := by
  refine df_mk T.d__breaks sc__breaks fun f cdv A outer s H E hr tk hx hpo => ?_
  exact (ss_cons (ms_unp (vs := [2, 3, 4]) (me_sl (me_var 0) mo_none (mo_some me_int)) (pg_tup rfl (pgs_cons (pg_name (i := 2) sc__breaks.nd rfl (by first | exact Or.inl rfl | exact Or.inr rfl)) (pgs_cons (pg_name (i := 3) sc__breaks.nd rfl (by first | exact Or.inl rfl | exact Or.inr rfl)) (pgs_cons (pg_name (i := 4) sc__breaks.nd rfl (by first | exact Or.inl rfl | exact Or.inr rfl)) pgs_nil)))) (tg_tup (tg_cons (tg_name (by decide)) (tg_cons (tg_name (by decide)) (tg_cons (tg_name (by decide)) tg_nil)))))
    (ss_cons (ms_setLc (own := [("day", 7)]) sc__breaks.nd (mi_any (me_var 1)) (blkOk_by (own := [("day", 7)]) (N := N__breaks) (sc := defScope st__breaks) (by decide +kernel)) (fun _ _ _ _ _ => (pg_name (i := 7) sc__breaks.nd rfl (by first | exact Or.inl rfl | exact Or.inr rfl))) (tg_name (by decide)) (fun _ _ _ _ _ => mts_nil) (fun _ _ _ _ _ => (me_cm hr (me_var 7) (me_var 3))) (sw_true rfl rfl rfl (by decide +kernel)))
    (ss_cons (ms_setLc (own := [("before", 8), ("now", 9)]) sc__breaks.nd (mi_zip (ma_cons (me_var 5) (ma_cons (me_sl (me_var 5) (mo_some me_int) mo_none) ma_nil)) T.z_zip) (blkOk_by (own := [("before", 8), ("now", 9)]) (N := N__breaks) (sc := defScope st__breaks) (by decide +kernel)) (fun _ _ _ _ _ => (pg_tup rfl (pgs_cons (pg_name (i := 8) sc__breaks.nd rfl (by first | exact Or.inl rfl | exact Or.inr rfl)) (pgs_cons (pg_name (i := 9) sc__breaks.nd rfl (by first | exact Or.inl rfl | exact Or.inr rfl)) pgs_nil)))) (tg_tup (tg_cons (tg_name (by decide)) (tg_cons (tg_name (by decide)) tg_nil))) (fun _ _ _ _ _ => mts_nil) (fun _ _ _ _ _ => (me_and (me_var 9) (me_one (me_not (me_var 8))))) (sw_true rfl rfl rfl (by decide +kernel)))
    (ss_cons (ms_if (mt_cm hr (me_var 2) me_str) (ss_one (ms_ret (me_cm hr (me_sum (ma_cons (me_sl (me_var 5) (mo_some (me_neg (me_ix (me_var 0) me_int))) mo_none) ma_nil) T.z_sum) (me_var 4)))) ss_nil)
    (ss_cons (ms_if (mt_cm hr (me_var 2) me_str) (ss_one (ms_ret (me_cm hr (me_sum (ma_cons (me_sl (me_var 6) (mo_some (me_neg (me_ix (me_var 0) me_int))) mo_none) ma_nil) T.z_sum) (me_var 4)))) ss_nil)
    (ss_cons (ms_if (mt_cm hr (me_var 2) me_str) (ss_one (ms_ret (me_all (ma_cons (me_sl (me_var 5) (mo_some (me_sub (me_neg me_int) (me_var 4))) mo_none) ma_nil) T.z_all))) ss_nil)
    (ss_one (ms_ret (me_and (me_ix (me_var 6) (me_neg me_int)) (me_one (me_any (ma_cons (me_sl (me_var 5) (mo_some (me_sub (me_neg me_int) (me_var 4))) (mo_some (me_neg me_int))) ma_nil) T.z_any)))))))))))
theorem df_limit_broken (T : Top K w mg) : Df P w K mg base 2 "limit_broken" ["book", "past", "day"] f_limit_broken := by
  refine df_mk T.d_limit_broken sc_limit_broken fun f cdv A outer s H E hr tk hx hpo => ?_
  exact (ss_cons (ms_for (vs := [3, 4]) hpo (mi_enum (ma_cons (me_ix (me_var 0) me_int) ma_nil) T.z_enumerate) (pg_tup rfl (pgs_cons (pg_name (i := 3) sc_limit_broken.nd rfl (by first | exact Or.inl rfl | exact Or.inr rfl)) (pgs_cons (pg_name (i := 4) sc_limit_broken.nd rfl (by first | exact Or.inl rfl | exact Or.inr rfl)) pgs_nil))) (tg_tup (tg_cons (tg_name (by decide)) (tg_cons (tg_name (by decide)) tg_nil))) (ss_one (ms_if (mt_truth (me_df (df__breaks T) hr (by decide) hx (ma_cons (me_var 4) (ma_cons (me_add (me_var 1) (me_var 2)) ma_nil)))) (ss_one (ms_ret (me_var 3))) ss_nil)))
    (ss_one (ms_ret me_non)))
theorem df_first_broken (T : Top K w mg) : Df P w K mg base 7 "first_broken" ["book", "calendar"] f_first_broken := by
  refine df_mk T.d_first_broken sc_first_broken fun f cdv A outer s H E hr tk hx hpo => ?_
  exact (ss_cons (ms_expr (me_df (df_check_calendar T) hr (by decide) hx (ma_cons (me_var 0) (ma_cons (me_var 1) ma_nil))))
    (ss_cons (ms_set sc_first_broken.nd (me_add (me_gStr T.c_FIRST_PAST) (me_var 1)))
    (ss_cons (ms_for (vs := [3]) hpo (mi_range1 (ma_cons (me_len (ma_cons (me_var 1) ma_nil) T.z_len) ma_nil) T.z_range) (pg_name (i := 3) sc_first_broken.nd rfl (by first | exact Or.inl rfl | exact Or.inr rfl)) (tg_name (by decide)) (ss_cons (ms_set sc_first_broken.nd (me_df (df_limit_broken T) hr (by decide) hx (ma_cons (me_var 0) (ma_cons (me_sl (me_var 2) (mo_some (me_var 3)) (mo_some (me_add (me_var 3) (me_gInt T.c_PAST_DAYS)))) (ma_cons (me_ix (me_var 1) (me_var 3)) ma_nil)))))
    (ss_one (ms_if (mt_cm hr (me_var 4) me_non) (ss_one (ms_ret (me_tup (ma_cons (me_var 3) (ma_cons (me_var 4) ma_nil))))) ss_nil))))
    (ss_one (ms_ret me_non)))))
theorem df_is_allowed (T : Top K w mg) : Df P w K mg base 8 "is_allowed" ["book", "calendar"] f_is_allowed := by
  refine df_mk T.d_is_allowed sc_is_allowed fun f cdv A outer s H E hr tk hx hpo => ?_
  exact (ss_one (ms_ret (me_cm hr (me_df (df_first_broken T) hr (by decide) hx (ma_cons (me_var 0) (ma_cons (me_var 1) ma_nil))) me_non)))
theorem df_days_behind (T : Top K w mg) : Df P w K mg base 3 "days_behind" ["book", "past"] f_days_behind := by
  refine df_mk T.d_days_behind sc_days_behind fun f cdv A outer s H E hr tk hx hpo => ?_
  exact (ss_one (ms_ret (me_fz (mf_lc (own := [("day", 2)]) sc_days_behind.nd (mi_any (me_df (df_day_letters T) hr (by decide) hx (ma_cons (me_var 0) ma_nil))) (blkOk_by (own := [("day", 2)]) (N := N_days_behind) (sc := defScope st_days_behind) (by decide +kernel)) (fun _ _ _ _ _ => (pg_name (i := 2) sc_days_behind.nd rfl (by first | exact Or.inl rfl | exact Or.inr rfl))) (tg_name (by decide)) (fun _ _ _ _ _ => (mts_one (mt_cm hr (me_df (df_limit_broken T) hr (by decide) passL (ma_cons (me_var 0) (ma_cons (me_var 1) (ma_cons (me_var 2) ma_nil)))) me_non))) (fun _ _ _ _ _ => (me_var 2))))))
theorem df_next_past (T : Top K w mg) : Df P w K mg base 1 "next_past" ["past", "day"] f_next_past := by
  refine df_mk T.d_next_past sc_next_past fun f cdv A outer s H E hr tk hx hpo => ?_
  exact (ss_one (ms_ret (me_add (me_sl (me_var 0) (mo_some me_int) mo_none) (me_var 1))))
theorem df_steps_of (T : Top K w mg) : Df P w K mg base 4 "steps_of" ["book"] f_steps_of := by
  refine df_mk T.d_steps_of sc_steps_of fun f cdv A outer s H E hr tk hx hpo => ?_
  exact (ss_cons (ms_setD sc_steps_of.nd)
    (ss_cons (ms_setQ sc_steps_of.nd T.dq (ma_cons (me_fz (mf_lst (ma_cons (me_gStr T.c_FIRST_PAST) ma_nil))) ma_nil))
    (ss_cons (ms_while (fun _ => 1000) hpo (mt_q 2) (ss_cons (ms_popl 2 sc_steps_of.nd)
    (ss_one (ms_if (mt_dninO hr 1 (me_var 3)) (ss_cons (ms_putD hr 1 (me_fz (mf_lc (own := [("day", 4)]) sc_steps_of.nd (mi_any (me_df (df_days_behind T) hr (by decide) hx (ma_cons (me_var 0) (ma_cons (me_var 3) ma_nil)))) (blkOk_by (own := [("day", 4)]) (N := N_steps_of) (sc := defScope st_steps_of) (by decide +kernel)) (fun _ _ _ _ _ => (pg_name (i := 4) sc_steps_of.nd rfl (by first | exact Or.inl rfl | exact Or.inr rfl))) (tg_name (by decide)) (fun _ _ _ _ _ => mts_nil) (fun _ _ _ _ _ => (me_tup (ma_cons (me_var 4) (ma_cons (me_df (df_next_past T) hr (by decide) passL (ma_cons (me_var 3) (ma_cons (me_var 4) ma_nil))) ma_nil)))))) (me_var 3))
    (ss_one (ms_extQ 2 (me_fz (mf_lc (own := [("day", 4), ("after", 5)]) sc_steps_of.nd (mi_any (me_dgetO hr 1 (me_var 3))) (blkOk_by (own := [("day", 4), ("after", 5)]) (N := N_steps_of) (sc := defScope st_steps_of) (by decide +kernel)) (fun _ _ _ _ _ => (pg_tup rfl (pgs_cons (pg_name (i := 4) sc_steps_of.nd rfl (by first | exact Or.inl rfl | exact Or.inr rfl)) (pgs_cons (pg_name (i := 5) sc_steps_of.nd rfl (by first | exact Or.inl rfl | exact Or.inr rfl)) pgs_nil)))) (tg_tup (tg_cons (tg_name (by decide)) (tg_cons (tg_name (by decide)) tg_nil))) (fun _ _ _ _ _ => mts_nil) (fun _ _ _ _ _ => (me_var 5))))))) ss_nil))))
    (ss_one (ms_retD 1)))))
theorem df_least_costs (T : Top K w mg) : Df P w K mg base 1 "least_costs" ["steps", "costs"] f_least_costs := by
  refine df_mk T.d_least_costs sc_least_costs fun f cdv A outer s H E hr tk hx hpo => ?_
  exact (ss_cons (ms_setO sc_least_costs.nd (mf_lst (ma_cons (me_dc (own := [("place", 5)]) sc_least_costs.nd (mi_keys (me_var 0)) (blkOk_by (own := [("place", 5)]) (N := N_least_costs) (sc := defScope st_least_costs) (by decide +kernel)) (fun _ _ _ _ _ => (pg_name (i := 5) sc_least_costs.nd rfl (by first | exact Or.inl rfl | exact Or.inr rfl))) (tg_name (by decide)) (fun _ _ _ _ _ => mts_nil) (fun _ _ _ _ _ => (me_var 5)) (fun _ _ _ _ _ => me_int)) ma_nil)))
    (ss_cons (ms_for (vs := [3]) hpo (mi_rev (ma_cons (me_var 1) ma_nil) T.z_reversed) (pg_name (i := 3) sc_least_costs.nd rfl (by first | exact Or.inl rfl | exact Or.inr rfl)) (tg_name (by decide)) (ss_cons (ms_set sc_least_costs.nd (me_ixO 2 (me_neg me_int)))
    (ss_one (ms_app 2 (me_dc (own := [("place", 5)]) sc_least_costs.nd (mi_keys (me_var 0)) (blkOk_by (own := [("place", 5)]) (N := N_least_costs) (sc := defScope st_least_costs) (by decide +kernel)) (fun _ _ _ _ _ => (pg_name (i := 5) sc_least_costs.nd rfl (by first | exact Or.inl rfl | exact Or.inr rfl))) (tg_name (by decide)) (fun _ _ _ _ _ => mts_nil) (fun _ _ _ _ _ => (me_var 5)) (fun _ _ _ _ _ => (me_minI (ma_cons (me_fz (mf_lc (own := [("day", 6), ("after", 7)]) sc_least_costs.nd (mi_any (me_dget hr (me_var 0) (me_var 5))) (blkOk_by (own := [("day", 6), ("after", 7)]) (by kernel_rfl)) (fun _ _ _ _ _ => (pg_tup rfl (pgs_cons (pg_name (i := 6) sc_least_costs.nd rfl (by first | exact Or.inl rfl | exact Or.inr rfl)) (pgs_cons (pg_name (i := 7) sc_least_costs.nd rfl (by first | exact Or.inl rfl | exact Or.inr rfl)) pgs_nil)))) (tg_tup (tg_cons (tg_name (by decide)) (tg_cons (tg_name (by decide)) tg_nil))) (fun _ _ _ _ _ => (mts_one (mt_din hr (me_var 6) (me_var 3)))) (fun _ _ _ _ _ => (me_add (me_dget hr (me_var 3) (me_var 6)) (me_dget hr (me_var 4) (me_var 7)))))) ma_nil) T.z_min)))))))
    (ss_one (ms_ret (me_fz (mf_revO 2))))))
theorem df_cheapest_walk (T : Top K w mg) : Df P w K mg base 2 "cheapest_walk" ["steps", "costs", "start"] f_cheapest_walk := by
  refine df_mk T.d_cheapest_walk sc_cheapest_walk fun f cdv A outer s H E hr tk hx hpo => ?_
  exact (ss_cons (ms_set sc_cheapest_walk.nd (me_df (df_least_costs T) hr (by decide) hx (ma_cons (me_var 0) (ma_cons (me_var 1) ma_nil))))
    (ss_cons (ms_set sc_cheapest_walk.nd me_str)
    (ss_cons (ms_set sc_cheapest_walk.nd (me_var 2))
    (ss_cons (ms_for (vs := [6, 7]) hpo (mi_enum (ma_cons (me_var 1) ma_nil) T.z_enumerate) (pg_tup rfl (pgs_cons (pg_name (i := 6) sc_cheapest_walk.nd rfl (by first | exact Or.inl rfl | exact Or.inr rfl)) (pgs_cons (pg_name (i := 7) sc_cheapest_walk.nd rfl (by first | exact Or.inl rfl | exact Or.inr rfl)) pgs_nil))) (tg_tup (tg_cons (tg_name (by decide)) (tg_cons (tg_name (by decide)) tg_nil))) (ss_cons (ms_setLc (own := [("step", 10)]) sc_cheapest_walk.nd (mi_any (me_dget hr (me_var 0) (me_var 5))) (blkOk_by (own := [("step", 10)]) (N := N_cheapest_walk) (sc := defScope st_cheapest_walk) (by decide +kernel)) (fun _ _ _ _ _ => (pg_name (i := 10) sc_cheapest_walk.nd rfl (by first | exact Or.inl rfl | exact Or.inr rfl))) (tg_name (by decide)) (fun _ _ _ _ _ => (mts_one (PW.pt (mw_and (mt_din hr (me_ix (me_var 10) me_int) (me_var 7)) (mw_and1 (mt_cm hr (me_add (me_dget hr (me_var 7) (me_ix (me_var 10) me_int)) (me_dget hr (me_ix (me_var 3) (me_add (me_var 6) me_int)) (me_ix (me_var 10) me_int))) (me_dget hr (me_ix (me_var 3) (me_var 6)) (me_var 5)))))))) (fun _ _ _ _ _ => (me_var 10)) (sw_true rfl rfl rfl (by decide +kernel)))
    (ss_cons (ms_unp (vs := [9, 5]) (me_ix (me_var 8) me_int) (pg_tup rfl (pgs_cons (pg_name (i := 9) sc_cheapest_walk.nd rfl (by first | exact Or.inl rfl | exact Or.inr rfl)) (pgs_cons (pg_name (i := 5) sc_cheapest_walk.nd rfl (by first | exact Or.inl rfl | exact Or.inr rfl)) pgs_nil))) (tg_tup (tg_cons (tg_name (by decide)) (tg_cons (tg_name (by decide)) tg_nil))))
    (ss_one (ms_set sc_cheapest_walk.nd (me_add (me_var 4) (me_var 9)))))))
    (ss_one (ms_ret (me_var 4)))))))
theorem df__costs_of (T : Top K w mg) : Df P w K mg base 1 "_costs_of" ["calendar"] f__costs_of := by
  refine df_mk T.d__costs_of sc__costs_of fun f cdv A outer s H E hr tk hx hpo => ?_
  exact (ss_one (ms_ret (me_fz (mf_lc (own := [("day", 1)]) sc__costs_of.nd (mi_any (me_var 0)) (blkOk_by (own := [("day", 1)]) (N := N__costs_of) (sc := defScope st__costs_of) (by decide +kernel)) (fun _ _ _ _ _ => (pg_name (i := 1) sc__costs_of.nd rfl (by first | exact Or.inl rfl | exact Or.inr rfl))) (tg_name (by decide)) (fun _ _ _ _ _ => mts_nil) (fun _ _ _ _ _ => (me_dd (.cons (me_gStr T.c_AWAY) (me_int1 (ma_cons (me_cm hr (me_var 1) (me_gStr T.c_AWAY)) ma_nil) T.z_int) (.cons (me_var 1) me_int .nil))))))))
theorem df_fewest_away (T : Top K w mg) : Df P w K mg base 7 "fewest_away" ["book", "calendar"] f_fewest_away := by
  refine df_mk T.d_fewest_away sc_fewest_away fun f cdv A outer s H E hr tk hx hpo => ?_
  exact (ss_cons (ms_expr (me_df (df_check_calendar T) hr (by decide) hx (ma_cons (me_var 0) (ma_cons (me_var 1) ma_nil))))
    (ss_one (ms_ret (me_dget hr (me_ix (me_df (df_least_costs T) hr (by decide) hx (ma_cons (me_df (df_steps_of T) hr (by decide) hx (ma_cons (me_var 0) ma_nil)) (ma_cons (me_df (df__costs_of T) hr (by decide) hx (ma_cons (me_var 1) ma_nil)) ma_nil))) me_int) (me_gStr T.c_FIRST_PAST)))))
theorem df_thinned (T : Top K w mg) : Df P w K mg base 7 "thinned" ["book", "calendar"] f_thinned := by
  refine df_mk T.d_thinned sc_thinned fun f cdv A outer s H E hr tk hx hpo => ?_
  exact (ss_cons (ms_expr (me_df (df_check_calendar T) hr (by decide) hx (ma_cons (me_var 0) (ma_cons (me_var 1) ma_nil))))
    (ss_one (ms_ret (me_df (df_cheapest_walk T) hr (by decide) hx (ma_cons (me_df (df_steps_of T) hr (by decide) hx (ma_cons (me_var 0) ma_nil)) (ma_cons (me_df (df__costs_of T) hr (by decide) hx (ma_cons (me_var 1) ma_nil)) (ma_cons (me_gStr T.c_FIRST_PAST) ma_nil)))))))
theorem df__law_pick (T : Top K w mg) : Df P w K mg base 1 "_law_pick" ["_law_script", "_law_k", "_law_many"] f__law_pick := by
  refine df_mk T.d__law_pick sc__law_pick fun f cdv A outer s H E hr tk hx hpo => ?_
  exact (ss_cons (ms_set sc__law_pick.nd (me_if (mt_cm hr (me_var 0) (me_fz (mf_lst ma_nil))) (me_ix (me_var 0) (me_mod (me_int1 (ma_cons (me_var 1) ma_nil) T.z_int) (me_len (ma_cons (me_var 0) ma_nil) T.z_len))) me_int))
    (ss_cons (ms_par (i := 4) (j := 5) sc__law_pick.nd (ma_cons (me_fdiv (me_var 3) (me_pow me_int me_int)) (ma_cons (me_fdiv (me_var 1) (me_max2 (ma_cons (me_len (ma_cons (me_var 0) ma_nil) T.z_len) (ma_cons me_int ma_nil)) T.z_max)) ma_nil)) rfl (by decide))
    (ss_cons (ms_while (fun _ => 1000) hpo (PW.pt (mw_and (mt_cm hr (me_var 4) me_int) (mw_and1 (mt_cm hr (me_var 5) me_int)))) (ss_one (ms_par (i := 4) (j := 5) sc__law_pick.nd (ma_cons (me_fdiv (me_var 4) me_int) (ma_cons (me_sub (me_var 5) me_int) ma_nil)) rfl (by decide))))
    (ss_cons (ms_if (mt_cm hr (me_var 4) me_int) (ss_one (ms_ret (me_mod (me_int1 (ma_cons (me_mod (me_int1 (ma_cons (me_var 4) ma_nil) T.z_int) me_int) ma_nil) T.z_int) (me_var 2)))) ss_nil)
    (ss_cons (ms_set sc__law_pick.nd (me_mod (me_int1 (ma_cons (me_mul (me_add (me_mul (me_var 3) me_int) (me_mul me_int (me_add (me_var 1) me_int))) me_int) ma_nil) T.z_int) me_int))
    (ss_one (ms_ret (me_mod (me_int1 (ma_cons (me_mod (me_int1 (ma_cons (me_add (me_mul (me_var 6) (me_var 6)) (me_fdiv (me_var 6) me_int)) ma_nil) T.z_int) me_int) ma_nil) T.z_int) (me_var 2)))))))))
theorem df__law_limit (T : Top K w mg) : Df P w K mg base 2 "_law_limit" ["_law_script", "_law_at", "_law_zones"] f__law_limit := by
  refine df_mk T.d__law_limit sc__law_limit fun f cdv A outer s H E hr tk hx hpo => ?_
  exact (ss_cons (ms_set sc__law_limit.nd (me_ix (me_tup (ma_cons me_str (ma_cons me_str (ma_cons me_str (ma_cons me_str (ma_cons me_str ma_nil)))))) (me_df (df__law_pick T) hr (by decide) hx (ma_cons (me_var 0) (ma_cons (me_var 1) (ma_cons me_int ma_nil))))))
    (ss_cons (ms_set sc__law_limit.nd (me_if (mt_cm hr (me_var 2) me_str) (me_ix (me_tup (ma_cons me_str (ma_cons me_str (ma_cons me_str ma_nil)))) (me_df (df__law_pick T) hr (by decide) hx (ma_cons (me_var 0) (ma_cons (me_add (me_var 1) me_int) (ma_cons me_int ma_nil))))) me_str))
    (ss_cons (ms_par (i := 5) (j := 6) sc__law_limit.nd (ma_cons (me_df (df__law_pick T) hr (by decide) hx (ma_cons (me_var 0) (ma_cons (me_add (me_var 1) me_int) (ma_cons me_int ma_nil)))) (ma_cons (me_add me_int (me_df (df__law_pick T) hr (by decide) hx (ma_cons (me_var 0) (ma_cons (me_add (me_var 1) me_int) (ma_cons me_int ma_nil))))) ma_nil)) rfl (by decide))
    (ss_cons (ms_if (mt_cm hr (me_var 3) (me_tup (ma_cons me_str (ma_cons me_str ma_nil)))) (ss_one (ms_ret (me_tup (ma_cons (me_var 3) (ma_cons (me_var 4) (ma_cons (me_var 5) (ma_cons (me_var 6) ma_nil))))))) ss_nil)
    (ss_one (ms_ret (me_tup (ma_cons (me_var 3) (ma_cons (me_var 4) (ma_cons (me_if (mt_cm hr (me_var 3) me_str) (me_var 5) (me_add me_int (me_var 5))) ma_nil))))))))))
theorem df__law_book (T : Top K w mg) : Df P w K mg base 3 "_law_book" ["_law_script", "_law_at"] f__law_book := by
  refine df_mk T.d__law_book sc__law_book fun f cdv A outer s H E hr tk hx hpo => ?_
  exact (ss_cons (ms_set sc__law_book.nd (me_ix (me_tup (ma_cons me_str (ma_cons me_str (ma_cons me_str ma_nil)))) (me_df (df__law_pick T) hr (by decide) hx (ma_cons (me_var 0) (ma_cons (me_var 1) (ma_cons me_int ma_nil))))))
    (ss_one (ms_ret (me_tup (ma_cons (me_var 2) (ma_cons (me_tuple (ma_cons (me_fz (mf_lc (own := [("_law_k", 3)]) sc__law_book.nd (mi_range1 (ma_cons (me_df (df__law_pick T) hr (by decide) hx (ma_cons (me_var 0) (ma_cons (me_add (me_var 1) me_int) (ma_cons me_int ma_nil)))) ma_nil) T.z_range) (blkOk_by (own := [("_law_k", 3)]) (N := N__law_book) (sc := defScope st__law_book) (by decide +kernel)) (fun _ _ _ _ _ => (pg_name (i := 3) sc__law_book.nd rfl (by first | exact Or.inl rfl | exact Or.inr rfl))) (tg_name (by decide)) (fun _ _ _ _ _ => mts_nil) (fun _ _ _ _ _ => (me_df (df__law_limit T) hr (by decide) passL (ma_cons (me_var 0) (ma_cons (me_add (me_add (me_var 1) me_int) (me_mul me_int (me_var 3))) (ma_cons (me_var 2) ma_nil))))))) ma_nil) T.z_tuple) ma_nil))))))
theorem df__law_days (T : Top K w mg) : Df P w K mg base 2 "_law_days" ["_law_script", "_law_at", "_law_book_here", "_law_many"] f__law_days := by
  refine df_mk T.d__law_days sc__law_days fun f cdv A outer s H E hr tk hx hpo => ?_
  exact (ss_one (ms_ret (me_join me_str (me_fz (mf_lc (own := [("_law_k", 4)]) sc__law_days.nd (mi_range1 (ma_cons (me_var 3) ma_nil) T.z_range) (blkOk_by (own := [("_law_k", 4)]) (N := N__law_days) (sc := defScope st__law_days) (by decide +kernel)) (fun _ _ _ _ _ => (pg_name (i := 4) sc__law_days.nd rfl (by first | exact Or.inl rfl | exact Or.inr rfl))) (tg_name (by decide)) (fun _ _ _ _ _ => mts_nil) (fun _ _ _ _ _ => (me_ix (me_add (me_add me_str (me_ix (me_var 2) me_int)) me_str) (me_df (df__law_pick T) hr (by decide) passL (ma_cons (me_var 0) (ma_cons (me_add (me_var 1) (me_var 4)) (ma_cons (me_add (me_len (ma_cons (me_ix (me_var 2) me_int) ma_nil) T.z_len) me_int) ma_nil)))))))))))
theorem df__law_bad (T : Top K w mg) : Df P w K mg base 1 "_law_bad" ["_law_limit_here", "_law_calendar"] f__law_bad := by
  refine df_mk T.d__law_bad sc__law_bad fun f cdv A outer s H E hr tk hx hpo => ?_
  exact (ss_cons (ms_unp (vs := [2, 3, 4]) (me_sl (me_var 0) mo_none (mo_some me_int)) (pg_tup rfl (pgs_cons (pg_name (i := 2) sc__law_bad.nd rfl (by first | exact Or.inl rfl | exact Or.inr rfl)) (pgs_cons (pg_name (i := 3) sc__law_bad.nd rfl (by first | exact Or.inl rfl | exact Or.inr rfl)) (pgs_cons (pg_name (i := 4) sc__law_bad.nd rfl (by first | exact Or.inl rfl | exact Or.inr rfl)) pgs_nil)))) (tg_tup (tg_cons (tg_name (by decide)) (tg_cons (tg_name (by decide)) (tg_cons (tg_name (by decide)) tg_nil)))))
    (ss_cons (ms_parC (i := 5) (j := 6) sc__law_bad.nd (mps_cons (mp_f (me_fz (mf_lc (own := [("_law_day", 12)]) sc__law_bad.nd (mi_any (me_var 1)) (blkOk_by (own := [("_law_day", 12)]) (N := N__law_bad) (sc := defScope st__law_bad) (by decide +kernel)) (fun _ _ _ _ _ => (pg_name (i := 12) sc__law_bad.nd rfl (by first | exact Or.inl rfl | exact Or.inr rfl))) (tg_name (by decide)) (fun _ _ _ _ _ => mts_nil) (fun _ _ _ _ _ => (me_cm hr (me_var 12) (me_var 3)))))) (mps_cons (mp_l (mf_lst ma_nil)) mps_nil)) (by decide))
    (ss_cons (ms_setLc (own := [("_law_k", 8)]) sc__law_bad.nd (mi_range1 (ma_cons (me_len (ma_cons (me_var 1) ma_nil) T.z_len) ma_nil) T.z_range) (blkOk_by (own := [("_law_k", 8)]) (N := N__law_bad) (sc := defScope st__law_bad) (by decide +kernel)) (fun _ _ _ _ _ => (pg_name (i := 8) sc__law_bad.nd rfl (by first | exact Or.inl rfl | exact Or.inr rfl))) (tg_name (by decide)) (fun _ _ _ _ _ => (mts_one (PW.pt (mw_and (mt_truth (me_ix (me_var 5) (me_var 8))) (mw_and1 (PW.pt (mw_or (mt_cm hr (me_var 8) me_int) (mw_or1 (mt_not (mt_truth (me_ix (me_var 5) (me_sub (me_var 8) me_int)))))))))))) (fun _ _ _ _ _ => (me_var 8)) (sw_true rfl rfl rfl (by decide +kernel)))
    (ss_cons (ms_for (vs := [8]) hpo (mi_range1 (ma_cons (me_len (ma_cons (me_var 1) ma_nil) T.z_len) ma_nil) T.z_range) (pg_name (i := 8) sc__law_bad.nd rfl (by first | exact Or.inl rfl | exact Or.inr rfl)) (tg_name (by decide)) (ss_one (ms_if (mt_cm hr (me_var 2) (me_tup (ma_cons me_str (ma_cons me_str ma_nil)))) (ss_cons (ms_set sc__law_bad.nd (me_add (me_sub (me_var 8) (me_ix (me_var 0) me_int)) me_int))
    (ss_cons (ms_setLc (own := [("_law_n", 13)]) sc__law_bad.nd (mi_range1 (ma_cons (me_len (ma_cons (me_var 1) ma_nil) T.z_len) ma_nil) T.z_range) (blkOk_by (own := [("_law_n", 13)]) (N := N__law_bad) (sc := defScope st__law_bad) (by decide +kernel)) (fun _ _ _ _ _ => (pg_name (i := 13) sc__law_bad.nd rfl (by first | exact Or.inl rfl | exact Or.inr rfl))) (tg_name (by decide)) (fun _ _ _ _ _ => (mts_one (mt_truth (me_ix (me_var 5) (me_var 13))))) (fun _ _ _ _ _ => (me_var 13)) (sw_true rfl rfl rfl (by decide +kernel)))
    (ss_cons (ms_set sc__law_bad.nd (me_if (mt_cm hr (me_var 2) me_str) (me_var 7) (me_var 10)))
    (ss_one (ms_ext 6 (me_if (mt_cm hr (me_len (ma_cons (me_fz (mf_lc (own := [("_law_n", 13)]) sc__law_bad.nd (mi_any (me_var 10)) (blkOk_by (own := [("_law_n", 13)]) (N := N__law_bad) (sc := defScope st__law_bad) (by decide +kernel)) (fun _ _ _ _ _ => (pg_name (i := 13) sc__law_bad.nd rfl (by first | exact Or.inl rfl | exact Or.inr rfl))) (tg_name (by decide)) (fun _ _ _ _ _ => (mts_one (mt_ch hr (me_var 9) (me_var 13) (me_var 8)))) (fun _ _ _ _ _ => (me_var 13)))) ma_nil) T.z_len) (me_var 4)) (me_fz (mf_lst (ma_cons (me_tup (ma_cons (me_var 8) (ma_cons (me_var 9) ma_nil))) ma_nil))) (me_fz (mf_lst ma_nil)))))))) (ss_one (ms_if (mt_truth (me_ix (me_var 5) (me_var 8))) (ss_cons (ms_set sc__law_bad.nd (me_maxI (ma_cons (me_fz (mf_lc (own := [("_law_n", 13)]) sc__law_bad.nd (mi_any (me_var 7)) (blkOk_by (own := [("_law_n", 13)]) (N := N__law_bad) (sc := defScope st__law_bad) (by decide +kernel)) (fun _ _ _ _ _ => (pg_name (i := 13) sc__law_bad.nd rfl (by first | exact Or.inl rfl | exact Or.inr rfl))) (tg_name (by decide)) (fun _ _ _ _ _ => (mts_one (mt_cm hr (me_var 13) (me_var 8)))) (fun _ _ _ _ _ => (me_var 13)))) ma_nil) T.z_max))
    (ss_one (ms_if (mt_cm hr (me_var 2) me_str) (ss_one (ms_ext 6 (me_if (mt_cm hr (me_sub (me_var 8) (me_var 9)) (me_var 4)) (me_fz (mf_lst (ma_cons (me_tup (ma_cons (me_var 8) (ma_cons (me_var 9) ma_nil))) ma_nil))) (me_fz (mf_lst ma_nil))))) (ss_one (ms_if (PW.pt (mw_and (mt_cm hr (me_var 9) (me_var 8)) (mw_and (mt_cm hr (me_var 8) me_int) (mw_and1 (mt_cm hr me_bl (me_sl (me_var 5) mo_none (mo_some (me_var 8)))))))) (ss_cons (ms_set sc__law_bad.nd (me_maxI (ma_cons (me_fz (mf_lc (own := [("_law_n", 13)]) sc__law_bad.nd (mi_range1 (ma_cons (me_var 8) ma_nil) T.z_range) (blkOk_by (own := [("_law_n", 13)]) (N := N__law_bad) (sc := defScope st__law_bad) (by decide +kernel)) (fun _ _ _ _ _ => (pg_name (i := 13) sc__law_bad.nd rfl (by first | exact Or.inl rfl | exact Or.inr rfl))) (tg_name (by decide)) (fun _ _ _ _ _ => (mts_one (mt_truth (me_ix (me_var 5) (me_var 13))))) (fun _ _ _ _ _ => (me_var 13)))) ma_nil) T.z_max))
    (ss_one (ms_ext 6 (me_if (mt_cm hr (me_sub (me_sub (me_var 8) (me_var 11)) me_int) (me_var 4)) (me_fz (mf_lst (ma_cons (me_tup (ma_cons (me_var 8) (ma_cons (me_var 11) ma_nil))) ma_nil))) (me_fz (mf_lst ma_nil)))))) ss_nil))))) ss_nil)))))
    (ss_one (ms_retO 6))))))
theorem df__law_fine (T : Top K w mg) : Df P w K mg base 2 "_law_fine" ["_law_book_here", "_law_calendar"] f__law_fine := by
  refine df_mk T.d__law_fine sc__law_fine fun f cdv A outer s H E hr tk hx hpo => ?_
  exact (ss_one (ms_ret (me_cm hr (me_fz (mf_lc (own := [("_law_limit_here", 2)]) sc__law_fine.nd (mi_any (me_ix (me_var 0) me_int)) (blkOk_by (own := [("_law_limit_here", 2)]) (N := N__law_fine) (sc := defScope st__law_fine) (by decide +kernel)) (fun _ _ _ _ _ => (pg_name (i := 2) sc__law_fine.nd rfl (by first | exact Or.inl rfl | exact Or.inr rfl))) (tg_name (by decide)) (fun _ _ _ _ _ => (mts_one (mt_cm hr (me_df (df__law_bad T) hr (by decide) passL (ma_cons (me_var 2) (ma_cons (me_var 1) ma_nil))) (me_fz (mf_lst ma_nil))))) (fun _ _ _ _ _ => (me_var 2)))) (me_fz (mf_lst ma_nil)))))
theorem fn_law (T : Top K w mg) {fa : Addr} {fd : FuncData} (FF : Fun K "law" "law" st_law fa fd) : FnM P w K mg base 9 fa fd ["_law_script"] f_law := by
  refine fn_mk2 FF sc_law fun f cdv A outer s H E hr tk hx hpo => ?_
  exact (ss_cons (ms_for (vs := [1]) hpo (mi_range1 (ma_cons me_int ma_nil) T.z_range) (pg_name (i := 1) sc_law.nd rfl (by first | exact Or.inl rfl | exact Or.inr rfl)) (tg_name (by decide)) (ss_cons (ms_set sc_law.nd (me_df (df__law_book T) hr (by decide) hx (ma_cons (me_var 0) (ma_cons (me_mul me_int (me_var 1)) ma_nil))))
    (ss_cons (ms_set sc_law.nd (me_df (df__law_days T) hr (by decide) hx (ma_cons (me_var 0) (ma_cons (me_add (me_mul me_int (me_var 1)) me_int) (ma_cons (me_var 2) (ma_cons (me_df (df__law_pick T) hr (by decide) hx (ma_cons (me_var 0) (ma_cons (me_add (me_mul me_int (me_var 1)) me_int) (ma_cons me_int ma_nil)))) ma_nil))))))
    (ss_cons (ms_set sc_law.nd (me_fz (mf_lst (ma_cons (me_var 3) ma_nil))))
    (ss_cons (ms_for (vs := [5]) hpo (mi_range1 (ma_cons (me_add (me_len (ma_cons (me_var 3) ma_nil) T.z_len) me_int) ma_nil) T.z_range) (pg_name (i := 5) sc_law.nd rfl (by first | exact Or.inl rfl | exact Or.inr rfl)) (tg_name (by decide)) (ss_cons (ms_setLc (own := [("_law_one", 8)]) sc_law.nd (mi_any (me_var 4)) (blkOk_by (own := [("_law_one", 8)]) (N := N_law) (sc := defScope st_law) (by decide +kernel)) (fun _ _ _ _ _ => (pg_name (i := 8) sc_law.nd rfl (by first | exact Or.inl rfl | exact Or.inr rfl))) (tg_name (by decide)) (fun _ _ _ _ _ => (mts_one (mt_truth (me_df (df__law_fine T) hr (by decide) passL (ma_cons (me_var 2) (ma_cons (me_var 8) ma_nil)))))) (fun _ _ _ _ _ => (me_var 8)) (sw_true rfl rfl rfl (by decide +kernel)))
    (ss_cons (ms_if (mt_cm hr (me_var 6) (me_fz (mf_lst ma_nil))) (ss_one (ms_if (PW.pt (mw_or (mt_cm hr (me_df (df_fewest_away T) hr (by decide) hx (ma_cons (me_var 2) (ma_cons (me_var 3) ma_nil))) (me_var 5)) (mw_or1 (mt_cm hr (me_df (df_thinned T) hr (by decide) hx (ma_cons (me_var 2) (ma_cons (me_var 3) ma_nil))) (me_minT hr (ma_cons (me_var 6) ma_nil) T.z_min))))) (ss_one (ms_ret me_bl)) ss_nil)) ss_nil)
    (ss_cons (ms_setO sc_law.nd (mf_lst ma_nil))
    (ss_cons (ms_for (vs := [8]) hpo (mi_any (me_if (mt_cm hr (me_var 6) (me_fz (mf_lst ma_nil))) (me_var 4) (me_fz (mf_lst ma_nil)))) (pg_name (i := 8) sc_law.nd rfl (by first | exact Or.inl rfl | exact Or.inr rfl)) (tg_name (by decide)) (ss_one (ms_ext 7 (me_fz (mf_lc (own := [("_law_k", 13)]) sc_law.nd (mi_range1 (ma_cons (me_len (ma_cons (me_var 8) ma_nil) T.z_len) ma_nil) T.z_range) (blkOk_by (own := [("_law_k", 13)]) (N := N_law) (sc := defScope st_law) (by decide +kernel)) (fun _ _ _ _ _ => (pg_name (i := 13) sc_law.nd rfl (by first | exact Or.inl rfl | exact Or.inr rfl))) (tg_name (by decide)) (fun _ _ _ _ _ => (mts_one (mt_cm hr (me_ix (me_var 8) (me_var 13)) me_str))) (fun _ _ _ _ _ => (me_add (me_add (me_sl (me_var 8) mo_none (mo_some (me_var 13))) me_str) (me_sl (me_var 8) (mo_some (me_add (me_var 13) me_int)) mo_none))))))))
    (ss_one (ms_set sc_law.nd (me_srtsetO 7 T.z_sorted T.z_set))))))))
    (ss_cons (ms_set sc_law.nd (me_df (df__law_days T) hr (by decide) hx (ma_cons (me_var 0) (ma_cons (me_add (me_mul me_int (me_var 1)) me_int) (ma_cons (me_var 2) (ma_cons me_int ma_nil))))))
    (ss_cons (ms_set sc_law.nd (me_df (df_thinned T) hr (by decide) hx (ma_cons (me_var 2) (ma_cons (me_var 9) ma_nil))))
    (ss_cons (ms_if (PW.pt (mw_or (mt_cm hr (me_len (ma_cons (me_var 10) ma_nil) T.z_len) me_int) (mw_or1 (mt_not (mt_truth (me_df (df__law_fine T) hr (by decide) hx (ma_cons (me_var 2) (ma_cons (me_var 10) ma_nil)))))))) (ss_one (ms_ret me_bl)) ss_nil)
    (ss_cons (ms_setLc (own := [("_law_k", 13)]) sc_law.nd (mi_range1 (ma_cons me_int ma_nil) T.z_range) (blkOk_by (own := [("_law_k", 13)]) (N := N_law) (sc := defScope st_law) (by decide +kernel)) (fun _ _ _ _ _ => (pg_name (i := 13) sc_law.nd rfl (by first | exact Or.inl rfl | exact Or.inr rfl))) (tg_name (by decide)) (fun _ _ _ _ _ => (mts_one (mt_cm hr (me_ix (me_var 10) (me_var 13)) (me_ix (me_var 9) (me_var 13))))) (fun _ _ _ _ _ => (me_var 13)) (sw_true rfl rfl rfl (by decide +kernel)))
    (ss_cons (ms_if (PW.pt (mw_or (mt_cm hr (me_len (ma_cons (me_var 11) ma_nil) T.z_len) (me_df (df_fewest_away T) hr (by decide) hx (ma_cons (me_var 2) (ma_cons (me_var 9) ma_nil)))) (mw_or1 (mt_cm hr (me_fz (mf_lc (own := [("_law_k", 13)]) sc_law.nd (mi_any (me_var 11)) (blkOk_by (own := [("_law_k", 13)]) (N := N_law) (sc := defScope st_law) (by decide +kernel)) (fun _ _ _ _ _ => (pg_name (i := 13) sc_law.nd rfl (by first | exact Or.inl rfl | exact Or.inr rfl))) (tg_name (by decide)) (fun _ _ _ _ _ => (mts_one (mt_cm hr (me_ix (me_var 10) (me_var 13)) me_str))) (fun _ _ _ _ _ => (me_var 13)))) (me_fz (mf_lst ma_nil)))))) (ss_one (ms_ret me_bl)) ss_nil)
    (ss_one (ms_if (mt_cm hr (me_cm hr (me_var 11) (me_fz (mf_lst ma_nil))) (me_df (df_is_allowed T) hr (by decide) hx (ma_cons (me_var 2) (ma_cons (me_var 9) ma_nil)))) (ss_one (ms_ret me_bl)) ss_nil))))))))))))
    (ss_cons (ms_set sc_law.nd (me_tup (ma_cons me_str (ma_cons (me_tup (ma_cons (me_tup (ma_cons me_str (ma_cons me_str (ma_cons me_int (ma_cons me_int ma_nil))))) ma_nil)) ma_nil))))
    (ss_one (ms_ret (me_and (me_cm hr (me_df (df_thinned T) hr (by decide) hx (ma_cons (me_var 12) (ma_cons me_str ma_nil))) me_str) (me_and (me_cm hr (me_df (df_fewest_away T) hr (by decide) hx (ma_cons (me_var 12) (ma_cons me_str ma_nil))) me_int) (me_one (me_cm hr (me_df (df_thinned T) hr (by decide) hx (ma_cons (me_var 12) (ma_cons me_str ma_nil))) me_str))))))))
end
end K52
namespace K52
open PySem PySem.Spec PyProof.Rows L2 Mir
/-! ### a draw -/
theorem pick_loop (rest again : Int) (S : List Int) (k many cell : Int) (s6 : Slot) : ∀ n : Nat, again.toNat < n → ∃ rest' again' : Int, whGo wt__law_pick_1 wb__law_pick_2 n [.fz (.rol (S.map D.int)), .fz (.int k), .fz (.int many), .fz (.int cell), .fz (.int rest), .fz (.int again), s6] = .nx [.fz (.rol (S.map D.int)), .fz (.int k), .fz (.int many), .fz (.int cell), .fz (.int rest'), .fz (.int again'), s6]
  | 0, h => absurd h (Nat.not_lt_zero _)
  | n + 1, h => by
    by_cases h1 : 0 < rest
    · by_cases h2 : 0 < again
      · obtain ⟨r', t', e⟩ := pick_loop (rest / 840) (again - 1) S k many cell s6 n (by omega)
        refine ⟨r', t', ?_⟩
        rw [← e]
        simp [whGo, wt__law_pick_1, wb__law_pick_2, h1, h2]
      · exact ⟨rest, again, by simp [whGo, wt__law_pick_1, h1, h2]⟩
    · exact ⟨rest, again, by simp [whGo, wt__law_pick_1, h1]⟩
def pick_end : Mir.Env → RS := (sSeq (sIf (mTest (mB (cmpF .Gt) (mVar 4) (mC (.int 0)))) (sRet (mB modD (mCall intF (mCons (mB modD (mCall intF (mCons (mVar 4) mNil)) (mC (.int 840))) mNil)) (mVar 2))) sSkip)
  (sSeq (sSet 6 (mB modD (mCall intF (mCons (mB mulD (mB addD (mB mulD (mVar 3) (mC (.int 31))) (mB mulD (mC (.int 6151)) (mB addD (mVar 1) (mC (.int 1))))) (mC (.int 40692))) mNil)) (mC (.int 2147483399))))
  (sRet (mB modD (mCall intF (mCons (mB modD (mCall intF (mCons (mB addD (mB mulD (mVar 6) (mVar 6)) (mB fdivD (mVar 6) (mC (.int 31)))) mNil)) (mC (.int 2147483629))) mNil)) (mVar 2)))))
theorem pick_end_ok (a : Slot) (k many cell rest again : Int) (s6 : Slot) (hm : 0 < many) : ∃ i : Int, outR (pick_end [a, .fz (.int k), .fz (.int many), .fz (.int cell), .fz (.int rest), .fz (.int again), s6]) = .ok (.int i) ∧ 0 ≤ i ∧ i < many := by
  have b2 : ∀ c : Int, -18446744073709551616 < c % 2147483399 ∧ c % 2147483399 < 18446744073709551616 := fun c => by omega
  by_cases hr : 0 < rest
  · simp [pick_end, hm, hr]
    exact ⟨Int.emod_nonneg _ (Int.ne_of_gt hm), Int.emod_lt_of_pos _ hm⟩
  · simp [pick_end, hm, hr, b2]
    exact ⟨Int.emod_nonneg _ (Int.ne_of_gt hm), Int.emod_lt_of_pos _ hm⟩
theorem pick_ok (S : List Int) (k many : Int) (hS : S.length ≤ 63) (hk : 0 ≤ k) (hk2 : k < 900) (hm : 0 < many) : ∃ i : Int, f__law_pick [.rol (S.map D.int), .int k, .int many] = .ok (.int i) ∧ 0 ≤ i ∧ i < many := by
  have ar : f__law_pick [.rol (S.map D.int), .int k, .int many] = outR (b__law_pick [.fz (.rol (S.map D.int)), .fz (.int k), .fz (.int many), .un, .un, .un, .un]) := runD_eq _ _ _
  have br : b__law_pick = (sSeq (sSet 3 (mIf (mTest (mB (cmpF .NotEq) (mVar 0) (mFz (mLst mNil)))) (mB ixD (mVar 0) (mB modD (mCall intF (mCons (mVar 1) mNil)) (mCall lenF (mCons (mVar 0) mNil)))) (mC (.int 0))))
    (sSeq (sPar 4 5 (mCons (mB fdivD (mVar 3) (mB powD (mC (.int 10)) (mC (.int 18)))) (mCons (mB fdivD (mVar 1) (mCall max2F (mCons (mCall lenF (mCons (mVar 0) mNil)) (mCons (mC (.int 1)) mNil)))) mNil)))
    (sSeq (sWhile (fun _ => 1000) wt__law_pick_1 wb__law_pick_2) pick_end))) := rfl
  rw [ar, br]
  have mx : ∀ n : Nat, max2F [.int (n : Nat), .int 1] = .ok (.int (if (1 : Int) > (n : Nat) then 1 else (n : Nat))) := fun n => rfl
  by_cases hz : S = []
  · subst hz
    have z : neD (.rol []) (.lst []) = .ok (.bl false) := ne_rol_nil []
    obtain ⟨r', t', e⟩ := pick_loop 0 (k / 1) [] k many 0 .un 1000 (by omega)
    obtain ⟨i, q, b⟩ := pick_end_ok (.fz (.rol [])) k many 0 r' t' .un hm
    refine ⟨i, ?_, b⟩
    have mx0 : max2F [.int 0, .int 1] = .ok (.int 1) := rfl
    rw [show k / 1 = k from Int.ediv_one k] at e
    have e : whGo wt__law_pick_1 wb__law_pick_2 1000 [.fz (.rol []), .fz (.int k), .fz (.int many), .fz (.int 0), .fz (.int 0), .fz (.int k), .un] = .nx [.fz (.rol []), .fz (.int k), .fz (.int many), .fz (.int 0), .fz (.int r'), .fz (.int t'), .un] := e
    simp [z, mx0, e]
    exact q
  · have hl : 0 < (S.length : Int) := by
      cases S with
      | nil => exact absurd rfl hz
      | cons x r => simp
    have z : neD (.rol (S.map D.int)) (.lst []) = .ok (.bl true) := by
      rw [ne_rol_nil S]
      cases S with
      | nil => exact absurd rfl hz
      | cons x r => rfl
    obtain ⟨c, hat⟩ : ∃ c, atI (S.map D.int) (k % (S.length : Int)) = some (.int c) := by
      obtain ⟨h, e⟩ := at_lt (S.map D.int) (k := k % (S.length : Int)) (Int.emod_nonneg _ (by omega)) (by rw [List.length_map]; exact Int.emod_lt_of_pos _ hl)
      exact ⟨_, e.trans (by rw [List.getElem_map])⟩
    have hl2 : (S.length : Int) < 18446744073709551616 := by omega
    have hN : 0 < S.length := by omega
    have mxS : max2F [.int (S.length : Nat), .int 1] = .ok (.int (S.length : Nat)) := by rw [mx, if_neg (by omega)]
    have hk3 : k / (S.length : Int) ≤ k := Int.ediv_le_self _ hk
    obtain ⟨r', t', e⟩ := pick_loop (c / 1000000000000000000) (k / (S.length : Int)) S k many c .un 1000 (by omega)
    obtain ⟨i, q, b⟩ := pick_end_ok (.fz (.rol (S.map D.int))) k many c r' t' .un hm
    refine ⟨i, ?_, b⟩
    simp [z, hl, hl2, hat, mxS, hN, e]
    exact q
/-! ### a limit -/
def zz : Bool → Str
  | true => "ab"
  | false => "a"
def zl : Bool → List Str
  | true => ["a", "b", "ab"]
  | false => ["a"]
def isLim (two : Bool) (d : D) : Prop := ∃ z ∈ zl two, (∃ c s : Int, 0 ≤ c ∧ c ≤ 3 ∧ 1 ≤ s ∧ s ≤ 5 ∧ d = .tup [.str "most", .str z, .int c, .int s]) ∨ (∃ c : Int, 0 ≤ c ∧ c ≤ 3 ∧ d = .tup [.str "row", .str z, .int c]) ∨ (∃ c : Int, 1 ≤ c ∧ c ≤ 4 ∧ d = .tup [.str "gap", .str z, .int c]) ∨ (∃ c s : Int, 0 ≤ c ∧ c ≤ 3 ∧ 1 ≤ s ∧ s ≤ 5 ∧ d = .tup [.str "starts", .str z, .int c, .int s])
theorem eqs_mm : eqD (.str "most") (.str "most") = .ok (.bl true) := of_isBl (by decide +kernel)
theorem eqs_ms : eqD (.str "most") (.str "starts") = .ok (.bl false) := of_isBl (by decide +kernel)
theorem eqs_mr : eqD (.str "most") (.str "row") = .ok (.bl false) := of_isBl (by decide +kernel)
theorem eqs_mg : eqD (.str "most") (.str "gap") = .ok (.bl false) := of_isBl (by decide +kernel)
theorem eqs_sm : eqD (.str "starts") (.str "most") = .ok (.bl false) := of_isBl (by decide +kernel)
theorem eqs_ss : eqD (.str "starts") (.str "starts") = .ok (.bl true) := of_isBl (by decide +kernel)
theorem eqs_sr : eqD (.str "starts") (.str "row") = .ok (.bl false) := of_isBl (by decide +kernel)
theorem eqs_sg : eqD (.str "starts") (.str "gap") = .ok (.bl false) := of_isBl (by decide +kernel)
theorem eqs_rm : eqD (.str "row") (.str "most") = .ok (.bl false) := of_isBl (by decide +kernel)
theorem eqs_rs : eqD (.str "row") (.str "starts") = .ok (.bl false) := of_isBl (by decide +kernel)
theorem eqs_rr : eqD (.str "row") (.str "row") = .ok (.bl true) := of_isBl (by decide +kernel)
theorem eqs_rg : eqD (.str "row") (.str "gap") = .ok (.bl false) := of_isBl (by decide +kernel)
theorem eqs_gm : eqD (.str "gap") (.str "most") = .ok (.bl false) := of_isBl (by decide +kernel)
theorem eqs_gs : eqD (.str "gap") (.str "starts") = .ok (.bl false) := of_isBl (by decide +kernel)
theorem eqs_gr : eqD (.str "gap") (.str "row") = .ok (.bl false) := of_isBl (by decide +kernel)
theorem eqs_gg : eqD (.str "gap") (.str "gap") = .ok (.bl true) := of_isBl (by decide +kernel)
theorem eqs_za (two : Bool) : eqD (.str (zz two)) (.str "a") = .ok (.bl (!two)) := by
  cases two <;> exact of_isBl (by decide +kernel)
theorem size5 : (5 : Nat) ≤ sizeLine := by rw [sizeLine_eq]; omega
theorem size4 : (4 : Nat) ≤ sizeLine := by rw [sizeLine_eq]; omega
theorem size3 : (3 : Nat) ≤ sizeLine := by rw [sizeLine_eq]; omega
theorem plimit_ok (S : List Int) (k : Int) (two : Bool) (hS : S.length ≤ 63) (hk : 0 ≤ k) (hk2 : k < 800) : ∃ d, f__law_limit [.rol (S.map D.int), .int k, .str (zz two)] = .ok d ∧ isLim two d := by
  obtain ⟨i0, e0, l0, u0⟩ := pick_ok S k 5 hS hk (by omega) (by omega)
  obtain ⟨i1, e1, l1, u1⟩ := pick_ok S (k + 1) 3 hS (by omega) (by omega) (by omega)
  obtain ⟨i2, e2, l2, u2⟩ := pick_ok S (k + 2) 4 hS (by omega) (by omega) (by omega)
  obtain ⟨i3, e3, l3, u3⟩ := pick_ok S (k + 3) 5 hS (by omega) (by omega) (by omega)
  have zb : eqD (.str (zz two)) (.str "ab") = .ok (.bl two) := by cases two <;> exact of_isBl (by decide +kernel)
  obtain ⟨z, hz, ez⟩ : ∃ z ∈ zl two, ∀ s3 s4 s5 s6 : Slot, (mIf (mTest (mB (cmpF .Eq) (mVar 2) (mC (.str "ab")))) (mB ixD (mTup (mCons (mC (.str "a")) (mCons (mC (.str "b")) (mCons (mC (.str "ab")) mNil)))) (mFn 3 f__law_pick (mCons (mVar 0) (mCons (mB addD (mVar 1) (mC (.int 1))) (mCons (mC (.int 3)) mNil))))) (mC (.str "a"))) [.fz (.rol (S.map D.int)), .fz (.int k), .fz (.str (zz two)), s3, s4, s5, s6] = .ok (.str z) := by
    cases two with
    | false => exact ⟨"a", .head _, fun s3 s4 s5 s6 => by simp -implicitDefEqProofs (disch := omega) only [↓reduceIte, mIf_eq, mTest_eq, mB_eq, mVar_eq, mC_eq, List.getElem?_cons_succ, gz, slotD_fz, R_bind_ok, cmp_eq, zb, blOf_bl, Bool.false_eq_true]⟩
    | true =>
      have : i1 = 0 ∨ i1 = 1 ∨ i1 = 2 := by omega
      rcases this with rfl | rfl | rfl
      · exact ⟨"a", by simp [zl], fun s3 s4 s5 s6 => by simp -implicitDefEqProofs (disch := omega) only [↓reduceIte, mIf_eq, mTest_eq, mB_eq, mTup_eq, mFn_eq, mCons_eq, mNil_eq, mVar_eq, mC_eq, List.getElem?_cons_succ, gz, slotD_fz, R_bind_ok, cmp_eq, zb, blOf_bl, List.length_cons, List.length_nil, sizeLine_eq, ite_yes, addD_int, e1, ixD_tup, atE_0, ofO_some]⟩
      · exact ⟨"b", by simp [zl], fun s3 s4 s5 s6 => by simp -implicitDefEqProofs (disch := omega) only [↓reduceIte, mIf_eq, mTest_eq, mB_eq, mTup_eq, mFn_eq, mCons_eq, mNil_eq, mVar_eq, mC_eq, List.getElem?_cons_succ, gz, slotD_fz, R_bind_ok, cmp_eq, zb, blOf_bl, List.length_cons, List.length_nil, sizeLine_eq, ite_yes, addD_int, e1, ixD_tup, atE_1, ofO_some]⟩
      · exact ⟨"ab", by simp [zl], fun s3 s4 s5 s6 => by simp -implicitDefEqProofs (disch := omega) only [↓reduceIte, mIf_eq, mTest_eq, mB_eq, mTup_eq, mFn_eq, mCons_eq, mNil_eq, mVar_eq, mC_eq, List.getElem?_cons_succ, gz, slotD_fz, R_bind_ok, cmp_eq, zb, blOf_bl, List.length_cons, List.length_nil, sizeLine_eq, ite_yes, addD_int, e1, ixD_tup, atE_2, ofO_some]⟩
  have im : inD (.str "most") (.tup [.str "most", .str "starts"]) = .ok (.bl true) := of_isBl (by decide +kernel)
  have ir : inD (.str "row") (.tup [.str "most", .str "starts"]) = .ok (.bl false) := of_isBl (by decide +kernel)
  have ig : inD (.str "gap") (.tup [.str "most", .str "starts"]) = .ok (.bl false) := of_isBl (by decide +kernel)
  have is : inD (.str "starts") (.tup [.str "most", .str "starts"]) = .ok (.bl true) := of_isBl (by decide +kernel)
  have start : f__law_limit [.rol (S.map D.int), .int k, .str (zz two)] = outR (b__law_limit [.fz (.rol (S.map D.int)), .fz (.int k), .fz (.str (zz two)), .un, .un, .un, .un]) := runD_eq _ _ _
  rw [start]
  have go : ∀ kd : Str, atI [D.str "most", .str "row", .str "gap", .str "starts", .str "most"] i0 = some (.str kd) → outR (b__law_limit [.fz (.rol (S.map D.int)), .fz (.int k), .fz (.str (zz two)), .un, .un, .un, .un]) = outR ((sSeq (sIf (mTest (mB (cmpF .In) (mVar 3) (mTup (mCons (mC (.str "most")) (mCons (mC (.str "starts")) mNil))))) (sRet (mTup (mCons (mVar 3) (mCons (mVar 4) (mCons (mVar 5) (mCons (mVar 6) mNil)))))) sSkip)
  (sRet (mTup (mCons (mVar 3) (mCons (mVar 4) (mCons (mIf (mTest (mB (cmpF .Eq) (mVar 3) (mC (.str "row")))) (mVar 5) (mB addD (mC (.int 1)) (mVar 5))) mNil)))))) [.fz (.rol (S.map D.int)), .fz (.int k), .fz (.str (zz two)), .fz (.str kd), .fz (.str z), .fz (.int i2), .fz (.int (1 + i3))]) := fun kd hk => by
    unfold b__law_limit
    rw [sSeq_eq, sSet_eq]
    have q : (mB ixD (mTup (mCons (mC (.str "most")) (mCons (mC (.str "row")) (mCons (mC (.str "gap")) (mCons (mC (.str "starts")) (mCons (mC (.str "most")) mNil)))))) (mFn 3 f__law_pick (mCons (mVar 0) (mCons (mVar 1) (mCons (mC (.int 5)) mNil))))) [.fz (.rol (S.map D.int)), .fz (.int k), .fz (.str (zz two)), .un, .un, .un, .un] = .ok (.str kd) := by
      simp -implicitDefEqProofs (disch := omega) only [↓reduceIte, mB_eq, mTup_eq, mFn_eq, mCons_eq, mNil_eq, mVar_eq, mC_eq, List.getElem?_cons_succ, gz, slotD_fz, R_bind_ok, List.length_cons, List.length_nil, sizeLine_eq, ite_yes, e0, ixD_tup, hk, ofO_some]
    rw [q, R_to_ok, seqR_nx, sSeq_eq, sSet_eq]
    rw [show ([.fz (.rol (S.map D.int)), .fz (.int k), .fz (.str (zz two)), .un, .un, .un, .un] : Mir.Env).set 3 (.fz (.str kd)) = [.fz (.rol (S.map D.int)), .fz (.int k), .fz (.str (zz two)), .fz (.str kd), .un, .un, .un] from rfl, ez, R_to_ok, seqR_nx]
    rw [show ([.fz (.rol (S.map D.int)), .fz (.int k), .fz (.str (zz two)), .fz (.str kd), .un, .un, .un] : Mir.Env).set 4 (.fz (.str z)) = [.fz (.rol (S.map D.int)), .fz (.int k), .fz (.str (zz two)), .fz (.str kd), .fz (.str z), .un, .un] from rfl, sSeq_eq]
    have q2 : sPar 5 6 (mCons (mFn 3 f__law_pick (mCons (mVar 0) (mCons (mB addD (mVar 1) (mC (.int 2))) (mCons (mC (.int 4)) mNil)))) (mCons (mB addD (mC (.int 1)) (mFn 3 f__law_pick (mCons (mVar 0) (mCons (mB addD (mVar 1) (mC (.int 3))) (mCons (mC (.int 5)) mNil))))) mNil)) [.fz (.rol (S.map D.int)), .fz (.int k), .fz (.str (zz two)), .fz (.str kd), .fz (.str z), .un, .un] = .nx [.fz (.rol (S.map D.int)), .fz (.int k), .fz (.str (zz two)), .fz (.str kd), .fz (.str z), .fz (.int i2), .fz (.int (1 + i3))] := by
      simp -implicitDefEqProofs (disch := omega) only [↓reduceIte, sPar_eq, parS_two, mB_eq, mFn_eq, mCons_eq, mNil_eq, mVar_eq, mC_eq, List.getElem?_cons_succ, gz, slotD_fz, R_bind_ok, R_to_ok, List.length_cons, List.length_nil, addD_int, e2, e3, List.set_cons_succ, List.set_cons_zero]
    rw [q2, seqR_nx]
  have : i0 = 0 ∨ i0 = 1 ∨ i0 = 2 ∨ i0 = 3 ∨ i0 = 4 := by omega
  have fin : ∀ kd : Str, True := fun _ => trivial
  rcases this with rfl | rfl | rfl | rfl | rfl
  · refine ⟨.tup [.str "most", .str z, .int i2, .int (1 + i3)], ?_, z, hz, .inl ⟨_, _, by omega, by omega, by omega, by omega, rfl⟩⟩
    rw [go "most" (atE_0 _ _)]
    simp -implicitDefEqProofs (disch := omega) only [↓reduceIte, sSeq_eq, sIf_eq, sRet_eq, mTest_eq, mB_eq, mTup_eq, mCons_eq, mNil_eq, mVar_eq, mC_eq, List.getElem?_cons_succ, gz, slotD_fz, R_bind_ok, R_to_ok, List.length_cons, List.length_nil, sizeLine_eq, ite_yes, cmp_in, im, blOf_bl, seqR_ret, outR_ret]
  · refine ⟨.tup [.str "row", .str z, .int i2], ?_, z, hz, .inr (.inl ⟨_, by omega, by omega, rfl⟩)⟩
    rw [go "row" (atE_1 _ _ _)]
    simp -implicitDefEqProofs (disch := omega) only [↓reduceIte, sSeq_eq, sIf_eq, sRet_eq, sSkip_eq, mIf_eq, mTest_eq, mB_eq, mTup_eq, mCons_eq, mNil_eq, mVar_eq, mC_eq, List.getElem?_cons_succ, gz, slotD_fz, R_bind_ok, R_to_ok, List.length_cons, List.length_nil, sizeLine_eq, ite_yes, cmp_in, cmp_eq, ir, eqs_rr, blOf_bl, seqR_nx, Bool.false_eq_true, outR_ret]
  · refine ⟨.tup [.str "gap", .str z, .int (1 + i2)], ?_, z, hz, .inr (.inr (.inl ⟨_, by omega, by omega, rfl⟩))⟩
    rw [go "gap" (atE_2 _ _ _ _)]
    simp -implicitDefEqProofs (disch := omega) only [↓reduceIte, sSeq_eq, sIf_eq, sRet_eq, sSkip_eq, mIf_eq, mTest_eq, mB_eq, mTup_eq, mCons_eq, mNil_eq, mVar_eq, mC_eq, List.getElem?_cons_succ, gz, slotD_fz, R_bind_ok, R_to_ok, List.length_cons, List.length_nil, sizeLine_eq, ite_yes, cmp_in, cmp_eq, ig, eqs_gr, blOf_bl, seqR_nx, Bool.false_eq_true, addD_int, outR_ret]
  · refine ⟨.tup [.str "starts", .str z, .int i2, .int (1 + i3)], ?_, z, hz, .inr (.inr (.inr ⟨_, _, by omega, by omega, by omega, by omega, rfl⟩))⟩
    rw [go "starts" (atE_3 _ _ _ _ _)]
    simp -implicitDefEqProofs (disch := omega) only [↓reduceIte, sSeq_eq, sIf_eq, sRet_eq, mTest_eq, mB_eq, mTup_eq, mCons_eq, mNil_eq, mVar_eq, mC_eq, List.getElem?_cons_succ, gz, slotD_fz, R_bind_ok, R_to_ok, List.length_cons, List.length_nil, sizeLine_eq, ite_yes, cmp_in, is, blOf_bl, seqR_ret, outR_ret]
  · refine ⟨.tup [.str "most", .str z, .int i2, .int (1 + i3)], ?_, z, hz, .inl ⟨_, _, by omega, by omega, by omega, by omega, rfl⟩⟩
    rw [go "most" (atE_4 _ _ _ _ _ _)]
    simp -implicitDefEqProofs (disch := omega) only [↓reduceIte, sSeq_eq, sIf_eq, sRet_eq, mTest_eq, mB_eq, mTup_eq, mCons_eq, mNil_eq, mVar_eq, mC_eq, List.getElem?_cons_succ, gz, slotD_fz, R_bind_ok, R_to_ok, List.length_cons, List.length_nil, sizeLine_eq, ite_yes, cmp_in, im, blOf_bl, seqR_ret, outR_ret]
/-! ### a book -/
theorem pbook_ok (S : List Int) (k : Int) (hS : S.length ≤ 63) (hk : 0 ≤ k) (hk2 : k < 700) : ∃ two ls, f__law_book [.rol (S.map D.int), .int k] = .ok (.tup [.str (zz two), .tup ls]) ∧ ls.length ≤ 3 ∧ ∀ d ∈ ls, isLim two d := by
  obtain ⟨i0, e0, l0, u0⟩ := pick_ok S k 3 hS hk (by omega) (by omega)
  obtain ⟨i1, e1, l1, u1⟩ := pick_ok S (k + 1) 4 hS (by omega) (by omega) (by omega)
  obtain ⟨two, hz⟩ : ∃ two, atI [D.str "a", .str "ab", .str "ab"] i0 = some (.str (zz two)) := by
    have : i0 = 0 ∨ i0 = 1 ∨ i0 = 2 := by omega
    rcases this with rfl | rfl | rfl
    · exact ⟨false, rfl⟩
    · exact ⟨true, rfl⟩
    · exact ⟨true, rfl⟩
  obtain ⟨ls, el, ll, hl⟩ := lcGo_rel (mt := tgName 3) (me := el__law_book_1) (ρ := [.fz (.rol (S.map D.int)), .fz (.int k), .fz (.str (zz two)), .un]) (r := isLim two) (rangeD 0 i1.toNat) (fun d hd => by
    obtain ⟨j, hj, rfl⟩ := range_mem hd
    obtain ⟨y, ey, hy⟩ := plimit_ok S (k + 2 + 4 * (0 + (j : Int))) two hS (by omega) (by omega)
    have g : (-18446744073709551616 : Int) < 4 := by omega
    refine ⟨_, y, rfl, ?_, hy⟩
    simp [el__law_book_1]
    simpa using ey)
  refine ⟨two, ls, ?_, by rw [ll, range_len]; omega, hl⟩
  have g1 : i1.toNat ≤ 1000000 := by omega
  simp [f__law_book, runD_eq, b__law_book, Mir.envOf, e0, e1, hz, sizeLine_eq, g1, el]
  omega
/-! ### a book and days -/
def lets : Bool → List Nat
  | true => [46, 97, 98]
  | false => [46, 97]
/-! ### books and calendars, and what is none -/
theorem chk_bad {d : D} (h : f_is_book [d] = .ok (.bl false)) : f_check_book [d] = .exc "InvalidBook" := by
  simp [f_check_book, runD_eq, b_check_book, Mir.envOf, h]
theorem chk_good {d : D} (h : f_is_book [d] = .ok (.bl true)) : f_check_book [d] = .ok .non := by
  simp [f_check_book, runD_eq, b_check_book, Mir.envOf, h]
theorem chkcal_badbook {d : D} (x : D) (h : f_is_book [d] = .ok (.bl false)) : f_check_calendar [d, x] = .exc "InvalidBook" := by
  have h1 : f_is_calendar [d, x] = .exc "InvalidBook" := by
    simp [f_is_calendar, runD_eq, b_is_calendar, Mir.envOf, chk_bad h]
  simp [f_check_calendar, runD_eq, b_check_calendar, Mir.envOf, h1]
theorem chkcal_bad {d x : D} (h : f_is_calendar [d, x] = .ok (.bl false)) : f_check_calendar [d, x] = .exc "InvalidCalendar" := by
  simp [f_check_calendar, runD_eq, b_check_calendar, Mir.envOf, h]
theorem chkcal_good {d x : D} (h : f_is_calendar [d, x] = .ok (.bl true)) : f_check_calendar [d, x] = .ok .non := by
  simp [f_check_calendar, runD_eq, b_check_calendar, Mir.envOf, h]
theorem letters_ok (two : Bool) (l : D) : f_day_letters [.tup [.str (zz two), l]] = .ok (txt (lets two)) := by
  cases two with
  | true =>
    have h1 : addD (.str ".") (.str "ab") = .ok (txt [46, 97, 98]) := of_isTxt (by decide +kernel)
    simp [f_day_letters, runD_eq, b_day_letters, Mir.envOf, zz, h1, lets, show atI [D.str "ab", l] 0 = some (.str "ab") from rfl]
  | false =>
    have h1 : addD (.str ".") (.str "a") = .ok (txt [46, 97]) := of_isTxt (by decide +kernel)
    simp [f_day_letters, runD_eq, b_day_letters, Mir.envOf, zz, h1, lets, show atI [D.str "a", l] 0 = some (.str "a") from rfl]
theorem text_ok (L : List Nat) (m : Int) (w : List Nat) (hw : w.length ≤ 1000) : f_is_text_of [txt L, .int m, txt w] = .ok (.bl (decide ((w.length : Int) ≤ m) && w.all fun c => decide (c ∈ L))) := by
  have hs : isF [txt w, .ty "str"] = .ok (.bl true) := of_isBl (show isBl true (isF [.str ⟨w.toArray⟩, .ty "str"]) = true from rfl)
  have e : lcGo (tgName 3) mYes el_is_text_of_1 [.fz (txt L), .fz (.int m), .fz (txt w), .un] (w.map fun c => txt [c]) = .ok ((w.map fun c => D.bl (decide (c ∈ L)))) := by
    have := lcGo_all (mt := tgName 3) (me := el_is_text_of_1) (ρ := [.fz (txt L), .fz (.int m), .fz (txt w), .un]) (g := fun d => match inD d (txt L) with
      | .ok y => y
      | _ => .non) (w.map fun c => txt [c]) (fun d hd => by
      obtain ⟨c, hc, rfl⟩ := List.mem_map.mp hd
      refine ⟨_, rfl, ?_⟩
      simp [el_is_text_of_1])
    rw [this, List.map_map]
    rfl
  have g1 : w.length ≤ 16777216 := by omega
  have g2 : w.length ≤ 1000000 := by omega
  by_cases h7 : m < (w.length : Int)
  · have h8 : ¬ (w.length : Int) ≤ m := by omega
    simp [f_is_text_of, runD_eq, b_is_text_of, Mir.envOf, hs, sizeLine_eq, g1, h7, h8]
  · have h8 : (w.length : Int) ≤ m := by omega
    simp [f_is_text_of, runD_eq, b_is_text_of, Mir.envOf, hs, sizeLine_eq, g1, g2, h7, h8, e]
theorem text_other {l m x : D} (hx : isF [x, .ty "str"] = .ok (.bl false)) : f_is_text_of [l, m, x] = .ok (.bl false) := by
  simp [f_is_text_of, runD_eq, b_is_text_of, Mir.envOf, hx]
theorem iscal_txt {two : Bool} {l : D} (w : List Nat) (hb : f_is_book [.tup [.str (zz two), l]] = .ok (.bl true)) (hw : w.length ≤ 1000) : f_is_calendar [.tup [.str (zz two), l], txt w] = .ok (.bl (decide (w.length ≤ 60) && w.all fun c => decide (c ∈ lets two))) := by
  have e : decide ((w.length : Int) ≤ 60) = decide (w.length ≤ 60) := decide_eq_decide.mpr ⟨fun h => by omega, fun h => by omega⟩
  have t := text_ok (lets two) 60 w hw
  rw [e] at t
  simp [f_is_calendar, runD_eq, b_is_calendar, Mir.envOf, chk_good hb, letters_ok, t]
theorem iscal_other {two : Bool} {l x : D} (hb : f_is_book [.tup [.str (zz two), l]] = .ok (.bl true)) (hx : isF [x, .ty "str"] = .ok (.bl false)) : f_is_calendar [.tup [.str (zz two), l], x] = .ok (.bl false) := by
  simp [f_is_calendar, runD_eq, b_is_calendar, Mir.envOf, chk_good hb, letters_ok, text_other hx]
theorem islim_ok {two : Bool} {d : D} (h : isLim two d) : f__is_limit_within [d, .str (zz two)] = .ok (.bl true) := by
  have m : ∀ z ∈ zl two, ∀ c ∈ ([0, 1, 2, 3] : List Int), ∀ s ∈ ([1, 2, 3, 4, 5] : List Int), isBl true (f__is_limit_within [.tup [.str "most", .str z, .int c, .int s], .str (zz two)]) = true := by cases two <;> decide +kernel
  have r : ∀ z ∈ zl two, ∀ c ∈ ([0, 1, 2, 3] : List Int), isBl true (f__is_limit_within [.tup [.str "row", .str z, .int c], .str (zz two)]) = true := by cases two <;> decide +kernel
  have g : ∀ z ∈ zl two, ∀ c ∈ ([1, 2, 3, 4] : List Int), isBl true (f__is_limit_within [.tup [.str "gap", .str z, .int c], .str (zz two)]) = true := by cases two <;> decide +kernel
  have q : ∀ z ∈ zl two, ∀ c ∈ ([0, 1, 2, 3] : List Int), ∀ s ∈ ([1, 2, 3, 4, 5] : List Int), isBl true (f__is_limit_within [.tup [.str "starts", .str z, .int c, .int s], .str (zz two)]) = true := by cases two <;> decide +kernel
  obtain ⟨z, hz, ⟨c, s, h1, h2, h3, h4, rfl⟩ | ⟨c, h1, h2, rfl⟩ | ⟨c, h1, h2, rfl⟩ | ⟨c, s, h1, h2, h3, h4, rfl⟩⟩ := h
  · exact of_isBl (m z hz c (by simp; omega) s (by simp; omega))
  · exact of_isBl (r z hz c (by simp; omega))
  · exact of_isBl (g z hz c (by simp; omega))
  · exact of_isBl (q z hz c (by simp; omega) s (by simp; omega))
theorem pair_ok (x y : D) : f_is_pair [.tup [x, y]] = .ok (.bl true) := by
  have t1 : isF [.tup [x, y], .ty "tuple"] = .ok (.bl true) := of_isBl rfl
  have n2 : eqD (.int 2) (.int 2) = .ok (.bl true) := of_isBl (by decide +kernel)
  simp [f_is_pair, runD_eq, b_is_pair, Mir.envOf, t1, n2, sizeLine_eq]
theorem isbook_ok {two : Bool} {ls : List D} (hl : ls.length ≤ 4) (h : ∀ d ∈ ls, isLim two d) : f_is_book [.tup [.str (zz two), .tup ls]] = .ok (.bl true) := by
  have t1 : isF [.tup [.str (zz two), .tup ls], .ty "tuple"] = .ok (.bl true) := of_isBl rfl
  have t2 : isF [.tup ls, .ty "tuple"] = .ok (.bl true) := of_isBl rfl
  have t3 : ninD (.str (zz two)) (.tup [.str "a", .str "ab"]) = .ok (.bl false) := by cases two <;> exact of_isBl (by decide +kernel)
  have e : lcGo (tgName 3) mYes el_is_book_1 [.fz (.tup [.str (zz two), .tup ls]), .fz (.str (zz two)), .fz (.tup ls), .un] ls = .ok (ls.map fun _ => D.bl true) :=
    lcGo_all (mt := tgName 3) (me := el_is_book_1) (g := fun _ => D.bl true) ls fun d hd => ⟨_, rfl, by simp [el_is_book_1, islim_ok (h d hd)]⟩
  have l4 : ¬ (4 : Int) < ls.length := by omega
  have l5 : ¬ 4 < ls.length := by omega
  have l6 : ls.length ≤ 1000000 := by omega
  have n2 : neD (.int 2) (.int 2) = .ok (.bl false) := of_isBl (by decide +kernel)
  have al : allF [.lst (ls.map fun _ => D.bl true)] = .ok (.bl true) := by rw [allF_map ls fun _ => true]; simp
  simp only [List.map_const'] at e al
  simp [f_is_book, runD_eq, b_is_book, Mir.envOf, pair_ok, t2, t3, l4, l5, l6, n2, e, sizeLine_eq, al]
def inz (z : Str) (c : Nat) : Bool := decide (c ∈ z.cps.toList)
theorem inD_z (z : Str) (c : Nat) : inD (txt [c]) (.str z) = .ok (.bl (inz z c)) := rfl
theorem cut3 (a b c : D) (r : List D) : Mir.cutD (a :: b :: c :: r) none (some 3) = [a, b, c] := by
  simp [Mir.cutD, HT.sIx]
theorem lit_le (n : Nat) (h : n ≤ 16777216) : n ≤ sizeLine := by rw [sizeLine_eq]; exact h
theorem r1 (w : List Nat) (hw : w.length ≤ 1000) : rng1 [.int (w.length : Nat)] = .ok (rangeD 0 w.length) := by
  unfold rng1
  exact if_pos ⟨by omega, by omega⟩
/-! ### a day, by the program and by the law -/
def beg (bs : List Bool) : List Bool := bs.zipWith (fun p n => n && !p) bs.tail
def pbM (c : Int) (s : Nat) (q : List Bool) : Bool := decide (c < cnt (q.drop (6 - s)))
def pbS (c : Int) (s : Nat) (q : List Bool) : Bool := decide (c < cnt ((beg q).drop (5 - s)))
def pbR (c : Nat) (q : List Bool) : Bool := (q.drop (5 - c)).all id
def lastBeg (q : List Bool) : Bool := (beg q).getLastD false
def pbG (c : Nat) (q : List Bool) : Bool := lastBeg q && ((q.drop (5 - c)).take c).any id
def breaks_rest : Mir.Env → RS := (sSeq (sIf (mTest (mB (cmpF .Eq) (mVar 2) (mC (.str "most")))) (sRet (mB (cmpF .Gt) (mCall sumF (mCons (mSl (mVar 5) (mSome (mU negD (mB ixD (mVar 0) (mC (.int 3))))) mNo) mNil)) (mVar 4))) sSkip)
  (sSeq (sIf (mTest (mB (cmpF .Eq) (mVar 2) (mC (.str "starts")))) (sRet (mB (cmpF .Gt) (mCall sumF (mCons (mSl (mVar 6) (mSome (mU negD (mB ixD (mVar 0) (mC (.int 3))))) mNo) mNil)) (mVar 4))) sSkip)
  (sSeq (sIf (mTest (mB (cmpF .Eq) (mVar 2) (mC (.str "row")))) (sRet (mCall allF (mCons (mSl (mVar 5) (mSome (mB subD (mU negD (mC (.int 1))) (mVar 4))) mNo) mNil))) sSkip)
  (sRet (mAndV (mB ixD (mVar 6) (mU negD (mC (.int 1)))) (mCall anyF (mCons (mSl (mVar 5) (mSome (mB subD (mU negD (mC (.int 1))) (mVar 4))) (mSome (mU negD (mC (.int 1))))) mNil)))))))
theorem breaks_start (k z : Str) (c : D) (r : List D) (w : List Nat) (hw : w.length ≤ 1000) : f__breaks [.tup (.str k :: .str z :: c :: r), txt w] = outR (breaks_rest [.fz (.tup (.str k :: .str z :: c :: r)), .fz (txt w), .fz (.str k), .fz (.str z), .fz c, .fz (.lst (bls (w.map (inz z)))), .fz (.lst (bls (beg (w.map (inz z))))), .un, .un, .un]) := by
  have e1 := lcGo_bls (i := 7) (me := el__breaks_1) (ρ := [.fz (.tup (.str k :: .str z :: c :: r)), .fz (txt w), .fz (.str k), .fz (.str z), .fz c, .un, .un, .un, .un, .un]) (p := inz z) w (fun x hx => by simp [el__breaks_1, inD_z])
  have e2 := lcGo_bzip (i := 8) (j := 9) (me := el__breaks_2) (ρ := [.fz (.tup (.str k :: .str z :: c :: r)), .fz (txt w), .fz (.str k), .fz (.str z), .fz c, .fz (.lst (bls (w.map (inz z)))), .un, .un, .un, .un]) (g := fun p n => n && !p) (w.map (inz z)) (w.map (inz z)).tail (fun x y => by cases y <;> cases x <;> simp [el__breaks_2])
  have ar : b__breaks = (sSeq (sUnp (tgTup 3 (tgCons (tgName 2) (tgCons (tgName 3) (tgCons (tgName 4) tgNil)))) (mSl (mVar 0) mNo (mSome (mC (.int 3)))))
    (sSeq (sSet 5 (mFz (mLc [7] (mSeq anyOf (mVar 1)) (tgName 7) mYes el__breaks_1)))
    (sSeq (sSet 6 (mFz (mLc [8, 9] (mSeqs zipF (mCons (mVar 5) (mCons (mSl (mVar 5) (mSome (mC (.int 1))) mNo) mNil))) (tgTup 2 (tgCons (tgName 8) (tgCons (tgName 9) tgNil))) mYes el__breaks_2))) breaks_rest))) := rfl
  have hl : (w.map (inz z)).length = w.length := List.length_map ..
  unfold beg
  generalize w.map (inz z) = bs at *
  have ct : Mir.cutD bs (some 1) none = bs.tail := by rw [show (1 : Int) = ((1 : Nat) : Int) from rfl, cut_from, List.drop_one]
  have g1 : w.length ≤ 1000000 := by omega
  have g2 : (zipD (bls bs) (bls bs.tail)).length ≤ 1000000 := by rw [zipD_len, len_bls]; omega
  show runD 10 b__breaks _ = _
  rw [ar]
  simp [-List.map_map, runD_eq, Mir.envOf, cut3, e1, g1, ct, g2, e2]
theorem breaks_most (z : Str) (c : Int) (s : Nat) (w : List Nat) (hw : w.length = 6) (h1 : 1 ≤ s) (h2 : s ≤ 6) : f__breaks [.tup [.str "most", .str z, .int c, .int s], txt w] = .ok (.bl (pbM c s (w.map (inz z)))) := by
  rw [breaks_start _ _ _ _ _ (by omega)]
  have hl : (w.map (inz z)).length = 6 := by rw [List.length_map, hw]
  generalize w.map (inz z) = bs at *
  have ct : Mir.cutD bs (some (-(s : Int))) none = bs.drop (6 - s) := by rw [cut_neg _ _ (by omega) (by omega), hl]; congr 1; omega
  simp [breaks_rest, eqs_mm, show atI [D.str "most", .str z, .int c, .int s] 3 = some (.int s) from rfl, ct, pbM]
theorem breaks_starts (z : Str) (c : Int) (s : Nat) (w : List Nat) (hw : w.length = 6) (h1 : 1 ≤ s) (h2 : s ≤ 5) : f__breaks [.tup [.str "starts", .str z, .int c, .int s], txt w] = .ok (.bl (pbS c s (w.map (inz z)))) := by
  rw [breaks_start _ _ _ _ _ (by omega)]
  have hl : (beg (w.map (inz z))).length = 5 := by unfold beg; rw [List.length_zipWith, List.length_tail, List.length_map, hw]; rfl
  unfold pbS
  generalize beg (w.map (inz z)) = bs at *
  have ct : Mir.cutD bs (some (-(s : Int))) none = bs.drop (5 - s) := by rw [cut_neg _ _ (by omega) (by omega), hl]; congr 1; omega
  simp [breaks_rest, eqs_sm, eqs_ss, show atI [D.str "starts", .str z, .int c, .int s] 3 = some (.int s) from rfl, ct]
theorem breaks_row (z : Str) (c : Nat) (w : List Nat) (hw : w.length = 6) (h2 : c ≤ 3) : f__breaks [.tup [.str "row", .str z, .int c], txt w] = .ok (.bl (pbR c (w.map (inz z)))) := by
  rw [breaks_start _ _ _ _ _ (by omega)]
  have hl : (w.map (inz z)).length = 6 := by rw [List.length_map, hw]
  unfold pbR
  generalize w.map (inz z) = bs at *
  have ct : Mir.cutD bs (some (-1 - (c : Int))) none = bs.drop (5 - c) := by rw [cut_neg _ _ (by omega) (by omega), hl]; congr 1; omega
  simp [breaks_rest, eqs_rm, eqs_rs, eqs_rr, ct]
theorem at_last (bs : List Bool) (h : 0 < bs.length) : atI bs (-1) = some (bs.getLastD false) := by
  unfold atI ixN
  rw [if_neg (by omega), if_pos (by omega)]
  show bs[((bs.length : Int) + -1).toNat]? = _
  rw [show ((bs.length : Int) + -1).toNat = bs.length - 1 by omega, ← List.getLast?_eq_getElem?, List.getLastD_eq_getLast?]
  cases bs with
  | nil => cases h
  | cons b r => rw [List.getLast?_cons]; rfl
theorem breaks_gap (z : Str) (c : Nat) (w : List Nat) (hw : w.length = 6) (h2 : c ≤ 4) : f__breaks [.tup [.str "gap", .str z, .int c], txt w] = .ok (.bl (pbG c (w.map (inz z)))) := by
  rw [breaks_start _ _ _ _ _ (by omega)]
  have hl : (w.map (inz z)).length = 6 := by rw [List.length_map, hw]
  have hl2 : (beg (w.map (inz z))).length = 5 := by unfold beg; rw [List.length_zipWith, List.length_tail, List.length_map, hw]; rfl
  unfold pbG
  have al : atI (bls (beg (w.map (inz z)))) (-1) = some (.bl (lastBeg (w.map (inz z)))) := at_bls (at_last (beg (w.map (inz z))) (by omega))
  generalize lastBeg (w.map (inz z)) = g at *
  generalize beg (w.map (inz z)) = gs at *
  generalize w.map (inz z) = bs at *
  have ct : Mir.cutD bs (some (-1 - (c : Int))) (some (-1)) = (bs.drop (5 - c)).take c := by
    unfold Mir.cutD HT.sIx
    simp only
    rw [if_pos (by omega), if_pos (by omega), hl]
    congr 1
    · omega
    · congr 1
      omega
  simp [breaks_rest, eqs_gm, eqs_gs, eqs_gr, ct, al]
  cases g <;> simp
def win (bs : List Bool) (d : Nat) : List Bool := ((List.replicate 5 false ++ bs).drop d).take 6
theorem six {q : List Bool} (h : q.length = 6) : ∃ q0 q1 q2 q3 q4 q5, q = [q0, q1, q2, q3, q4, q5] := by
  match q, h with
  | [q0, q1, q2, q3, q4, q5], _ => exact ⟨q0, q1, q2, q3, q4, q5, rfl⟩
theorem early_cnt (s : Nat) (h1 : 1 ≤ s) (h2 : s ≤ 5) (x : Bool) (q : List Bool) (hq : q.length = 6) (h : lastBeg q = false) : Mir.cnt ((beg q).drop (5 - s)) ≤ Mir.cnt ((beg (x :: q.take 5)).drop (5 - s)) := by
  obtain ⟨q0, q1, q2, q3, q4, q5, rfl⟩ := six hq
  have hs : s = 1 ∨ s = 2 ∨ s = 3 ∨ s = 4 ∨ s = 5 := by omega
  clear h1 h2 hq
  revert x q0 q1 q2 q3 q4 q5
  rcases hs with rfl | rfl | rfl | rfl | rfl <;> decide +kernel
/-! ### all limits of a book -/
def bk (two : Bool) (ls : List D) : D := .tup [.str (zz two), .tup ls]
def brk (d : D) (v : List Nat) : Bool := match f__breaks [d, txt v] with
  | .ok (.bl b) => b
  | _ => false
def liv (w : List Nat) : List Nat := List.replicate 5 46 ++ w
def winN (w : List Nat) (k : Nat) : List Nat := ((liv w).drop k).take 6
def pre (w : List Nat) (k : Nat) : List Nat := List.replicate 7 46 ++ w.take (k + 1)
theorem liv_len (w : List Nat) : (liv w).length = w.length + 5 := by unfold liv; rw [List.length_append, List.length_replicate]; omega
theorem winN_len {w : List Nat} {k : Nat} (h : k < w.length) : (winN w k).length = 6 := by
  unfold winN
  rw [List.length_take, List.length_drop, liv_len]
  omega
theorem pre_win (w : List Nat) (k : Nat) : pre w k = (List.replicate 2 46 ++ (liv w).take k) ++ winN w k := by
  unfold winN
  rw [List.append_assoc, ← List.take_add]
  unfold pre liv
  rw [show (List.replicate 7 46 : List Nat) = List.replicate 2 46 ++ List.replicate 5 46 from rfl, List.append_assoc]
  congr 1
theorem win_map {z : Str} (hz : inz z 46 = false) (w : List Nat) (k : Nat) : (winN w k).map (inz z) = win (w.map (inz z)) k := by
  unfold winN win liv
  rw [List.map_take, List.map_drop, List.map_append, List.map_replicate, hz]
section
variable {two : Bool} {d : D} (h : isLim two d)
include h
include h in
theorem brk_ok (v : List Nat) (hv : v.length = 6) : f__breaks [d, txt v] = .ok (.bl (brk d v)) := by
  have key : ∀ b : Bool, f__breaks [d, txt v] = .ok (.bl b) → f__breaks [d, txt v] = .ok (.bl (brk d v)) := fun b e => by
    have : brk d v = b := by unfold brk; rw [e]
    rw [e, this]
  obtain ⟨z, hz, ⟨c, s, h1, h2, h3, h4, rfl⟩ | ⟨c, h1, h2, rfl⟩ | ⟨c, h1, h2, rfl⟩ | ⟨c, s, h1, h2, h3, h4, rfl⟩⟩ := h
  · obtain ⟨s, rfl⟩ := Int.eq_ofNat_of_zero_le (show 0 ≤ s by omega)
    exact key _ (breaks_most z c s v hv (by omega) (by omega))
  · obtain ⟨c, rfl⟩ := Int.eq_ofNat_of_zero_le (show 0 ≤ c by omega)
    exact key _ (breaks_row z c v hv (by omega))
  · obtain ⟨c, rfl⟩ := Int.eq_ofNat_of_zero_le (show 0 ≤ c by omega)
    exact key _ (breaks_gap z c v hv (by omega))
  · obtain ⟨s, rfl⟩ := Int.eq_ofNat_of_zero_le (show 0 ≤ s by omega)
    exact key _ (breaks_starts z c s v hv (by omega) (by omega))
end
theorem limbr_loop (two : Bool) (b v c : D) (u : List Nat) (hu : u.length = 6) (hvc : addD v c = .ok (txt u)) : ∀ (ls : List D) (i : Nat) (s t : Slot), (∀ d ∈ ls, isLim two d) → outR (seqR (forGo (tgTup 2 (tgCons (tgName 3) (tgCons (tgName 4) tgNil))) bd_limit_broken_1 (enumFrom i ls) [.fz b, .fz v, .fz c, s, t]) (sRet (mC .non))) = .ok (firstOf i (ls.map fun d => brk d u))
  | [], i, s, t, _ => rfl
  | d :: r, i, s, t, h => by
    have ih := fun s t => limbr_loop two b v c u hu hvc r (i + 1) s t fun x hx => h x (.tail _ hx)
    rw [enumFrom_cons]
    unfold forGo
    have e : tgTup 2 (tgCons (tgName 3) (tgCons (tgName 4) tgNil)) (.tup [.int (i : Nat), d]) [.fz b, .fz v, .fz c, s, t] = .ok [.fz b, .fz v, .fz c, .fz (.int (i : Nat)), .fz d] := rfl
    have bo := brk_ok (h d (.head _)) u hu
    rw [e, nx_ok', R_to_ok, List.map_cons]
    cases hb : brk d u with
    | true =>
      rw [hb] at bo
      have q : bd_limit_broken_1 [.fz b, .fz v, .fz c, .fz (.int (i : Nat)), .fz d] = .ret (.int (i : Nat)) := by simp [bd_limit_broken_1, hvc, bo]
      rw [q]
      rfl
    | false =>
      rw [hb] at bo
      have q : bd_limit_broken_1 [.fz b, .fz v, .fz c, .fz (.int (i : Nat)), .fz d] = .nx [.fz b, .fz v, .fz c, .fz (.int (i : Nat)), .fz d] := by simp [bd_limit_broken_1, hvc, bo]
      rw [q]
      exact ih _ _
theorem limbr_ok {two : Bool} {ls : List D} (h : ∀ d ∈ ls, isLim two d) (v : List Nat) (c : Nat) (hv : v.length = 5) : f_limit_broken [bk two ls, txt v, txt [c]] = .ok (firstOf 0 (ls.map fun d => brk d (v ++ [c]))) := by
  have hvc : addD (txt v) (txt [c]) = .ok (txt (v ++ [c])) := by rw [addD_txt, if_pos (lit_le _ (by rw [hv, List.length_singleton]; decide))]
  have := limbr_loop two (bk two ls) (txt v) (txt [c]) (v ++ [c]) (by rw [List.length_append, hv]; rfl) hvc ls 0 .un .un h
  rw [← this]
  show runD 5 b_limit_broken _ = _
  rw [← enum_from]
  simp [runD_eq, b_limit_broken, Mir.envOf, bk, show atI [D.str (zz two), D.tup ls] 1 = some (.tup ls) from rfl]
def rowP (ls : List D) (w : List Nat) (k : Nat) : List Bool := ls.map fun d => brk d (winN w k)
theorem win_split {w : List Nat} {k : Nat} (h : k < w.length) : winN w k = ((liv w).drop k).take 5 ++ [w[k]] := by
  unfold winN
  have h5 : 5 < ((liv w).drop k).length := by rw [List.length_drop, liv_len]; omega
  rw [show (6 : Nat) = 5 + 1 from rfl, List.take_succ_eq_append_getElem h5]
  congr 2
  rw [List.getElem_drop]
  unfold liv
  rw [List.getElem_append_right (by simp)]
  congr 1
theorem firstbr_loop {two : Bool} {ls : List D} (h : ∀ d ∈ ls, isLim two d) (w : List Nat) (hw : w.length ≤ 60) : ∀ (m k : Nat) (s t : Slot), k + m = w.length → outR (seqR (forGo (tgName 3) bd_first_broken_1 ((List.range' k m).map fun j : Nat => D.int (j : Nat)) [.fz (bk two ls), .fz (txt w), .fz (txt (liv w)), s, t]) (sRet (mC .non))) = .ok (fbG k ((List.range' k m).map (rowP ls w)))
  | 0, k, s, t, _ => rfl
  | m + 1, k, s, t, hk => by
    have ih := fun s t => firstbr_loop h w hw m (k + 1) s t (by omega)
    have hk2 : k < w.length := by omega
    rw [List.range'_succ, List.map_cons, List.map_cons]
    unfold forGo fbG
    have e : tgName 3 (.int (k : Nat)) [.fz (bk two ls), .fz (txt w), .fz (txt (liv w)), s, t] = .ok [.fz (bk two ls), .fz (txt w), .fz (txt (liv w)), .fz (.int (k : Nat)), t] := rfl
    rw [e, nx_ok', R_to_ok]
    have lb := limbr_ok h (((liv w).drop k).take 5) w[k] (by rw [List.length_take, List.length_drop, liv_len]; omega)
    rw [← win_split hk2] at lb
    have c5 : Mir.cutD (liv w) (some (k : Nat)) (some ((k : Int) + 5)) = ((liv w).drop k).take 5 := by
      unfold Mir.cutD HT.sIx
      simp only
      rw [if_neg (by omega), if_neg (by omega), liv_len, show min ((k : Nat) : Int).toNat (w.length + 5) = k by omega, show min ((k : Int) + 5).toNat (w.length + 5) = k + 5 by omega, show k + 5 - k = 5 by omega]
    obtain ⟨_, at1⟩ := at_lt w (k := (k : Nat)) (by omega) (by omega)
    have at1 : atI w (k : Nat) = some w[k] := at1
    have g1 : (liv w).length ≤ 16777216 := by rw [liv_len]; omega
    have g2 : w.length ≤ 16777216 := by omega
    have fn := firstOf_non (rowP ls w k) 0
    change f_limit_broken _ = .ok (firstOf 0 (rowP ls w k)) at lb
    by_cases hb : (rowP ls w k).any id = true
    · rw [if_pos hb]
      rw [hb] at fn
      have q : bd_first_broken_1 [.fz (bk two ls), .fz (txt w), .fz (txt (liv w)), .fz (.int (k : Nat)), t] = .ret (.tup [.int (k : Nat), firstOf 0 (rowP ls w k)]) := by
        simp [bd_first_broken_1, sizeLine_eq, g1, g2, c5, at1, lb, fn]
      rw [q]
      rfl
    · rw [if_neg hb]
      rw [Bool.eq_false_iff.mpr hb] at fn
      have q : bd_first_broken_1 [.fz (bk two ls), .fz (txt w), .fz (txt (liv w)), .fz (.int (k : Nat)), t] = .nx [.fz (bk two ls), .fz (txt w), .fz (txt (liv w)), .fz (.int (k : Nat)), .fz (firstOf 0 (rowP ls w k))] := by
        simp [bd_first_broken_1, sizeLine_eq, g1, g2, c5, at1, lb, fn]
      rw [q]
      exact ih _ _
theorem firstbr_ok {two : Bool} {ls : List D} (hl : ls.length ≤ 4) (h : ∀ d ∈ ls, isLim two d) (w : List Nat) (hw : w.length ≤ 60) (hc : ∀ c ∈ w, c ∈ lets two) : f_first_broken [bk two ls, txt w] = .ok (fbG 0 ((List.range' 0 w.length).map (rowP ls w))) := by
  have ck : f_check_calendar [bk two ls, txt w] = .ok .non := chkcal_good ((iscal_txt w (isbook_ok hl h) (by omega)).trans (by
    have : (w.all fun c => decide (c ∈ lets two)) = true := List.all_eq_true.mpr fun c hx => decide_eq_true (hc c hx)
    rw [this, decide_eq_true hw]; rfl))
  have lo := firstbr_loop h w hw w.length 0 .un .un (by omega)
  rw [← lo]
  have al : addD (txt [46, 46, 46, 46, 46]) (txt w) = .ok (txt (liv w)) := by
    rw [addD_txt, if_pos (lit_le _ (by show 5 + w.length ≤ _; omega))]
    rfl
  have le : lenF [txt w] = .ok (.int w.length) := by rw [lenF_txt, if_pos (lit_le _ (by omega))]
  have rg := r1 w (by omega)
  have rr : rangeD 0 w.length = (List.range' 0 w.length).map fun j : Nat => D.int (j : Nat) := by
    rw [Mir.range_map, List.map_map, List.range_eq_range']
    rfl
  rw [rr] at rg
  rw [show f_first_broken [bk two ls, txt w] = outR (b_first_broken [.fz (bk two ls), .fz (txt w), .un, .un, .un]) from runD_eq _ _ _]
  generalize ((List.range' 0 w.length).map fun j : Nat => D.int (j : Nat)) = X at *
  generalize bk two ls = B at *
  have s1 : (mFn 2 f_check_calendar (mCons (mVar 0) (mCons (mVar 1) mNil))) [.fz B, .fz (txt w), .un, .un, .un] = .ok .non := ck
  have s2 : (mB addD (mC (.str ".....")) (mVar 1)) [.fz B, .fz (txt w), .un, .un, .un] = .ok (txt (liv w)) := by
    rw [mB_eq, mC_eq, R_bind_ok]
    exact al
  have s3 : (mSeqs rng1 (mCons (mCall lenF (mCons (mVar 1) mNil)) mNil)) [.fz B, .fz (txt w), .fz (txt (liv w)), .un, .un] = .ok X := by
    have q : (mCall lenF (mCons (mVar 1) mNil)) [.fz B, .fz (txt w), .fz (txt (liv w)), .un, .un] = .ok (.int w.length) := le
    rw [mSeqs_eq, mCons_eq, q, R_bind_ok, mNil_eq, R_bind_ok, R_bind_ok, rg]
  unfold b_first_broken
  rw [sSeq_eq, sDrop_eq, s1, R_to_ok, seqR_nx, sSeq_eq, sSet_eq, s2, R_to_ok, show ([.fz B, .fz (txt w), .un, .un, .un] : Mir.Env).set 2 (.fz (txt (liv w))) = [.fz B, .fz (txt w), .fz (txt (liv w)), .un, .un] from rfl, seqR_nx, sSeq_eq, sFor_eq, s3, R_to_ok]
def pst (w : List Nat) : List Nat := (liv w).drop w.length
theorem pst_len (w : List Nat) : (pst w).length = 5 := by unfold pst; rw [List.length_drop, liv_len]; omega
/-! ### allowed -/
def alw (ls : List D) (w : List Nat) : Bool := !((List.range' 0 w.length).map (rowP ls w)).any fun B => B.any id
theorem alw_iff (ls : List D) (w : List Nat) : alw ls w = true ↔ ∀ k, k < w.length → ∀ d ∈ ls, brk d (winN w k) = false := by
  unfold alw
  rw [Bool.not_eq_true', List.any_eq_false]
  constructor
  · intro h k hk d hd
    have := h (rowP ls w k) (List.mem_map.mpr ⟨k, by rw [List.mem_range'_1]; omega, rfl⟩)
    rw [Bool.not_eq_true, List.any_eq_false] at this
    have := this (brk d (winN w k)) (List.mem_map.mpr ⟨d, hd, rfl⟩)
    exact Bool.eq_false_iff.mpr this
  · intro h B hB
    obtain ⟨k, hk, rfl⟩ := List.mem_map.mp hB
    rw [List.mem_range'_1] at hk
    rw [Bool.not_eq_true, List.any_eq_false]
    intro b hb
    obtain ⟨d, hd, rfl⟩ := List.mem_map.mp hb
    exact Bool.eq_false_iff.mp (h k (by omega) d hd)
theorem allowed_ok {two : Bool} {ls : List D} (hl : ls.length ≤ 4) (h : ∀ d ∈ ls, isLim two d) (w : List Nat) (hw : w.length ≤ 60) (hc : ∀ c ∈ w, c ∈ lets two) : f_is_allowed [bk two ls, txt w] = .ok (.bl (alw ls w)) := by
  have fb := firstbr_ok hl h w hw hc
  unfold alw
  rw [← fbG_non _ 0]
  have q : (mFn 2 f_first_broken (mCons (mVar 0) (mCons (mVar 1) mNil))) [.fz (bk two ls), .fz (txt w)] = .ok (fbG 0 ((List.range' 0 w.length).map (rowP ls w))) := fb
  rw [show f_is_allowed [bk two ls, txt w] = outR (b_is_allowed [.fz (bk two ls), .fz (txt w)]) from runD_eq _ _ _]
  unfold b_is_allowed
  rw [sRet_eq, mB_eq, q, R_bind_ok, mC_eq, R_bind_ok, cmp_is, isD_non, R_to_ok, outR_ret]
theorem winN_app (w u : List Nat) (k : Nat) (h : k < w.length) : winN (w ++ u) k = winN w k := by
  unfold winN liv
  rw [← List.append_assoc, List.drop_append_of_le_length (by simp; omega), List.take_append_of_le_length (by simp; omega)]
theorem winN_take (w : List Nat) (m k : Nat) (h : k < m) (h2 : m ≤ w.length) : winN (w.take m) k = winN w k := by
  have := winN_app (w.take m) (w.drop m) k (by rw [List.length_take]; omega)
  rw [List.take_append_drop] at this
  exact this.symm
theorem liv_app (w u : List Nat) : liv (w ++ u) = liv w ++ u := by unfold liv; rw [List.append_assoc]
theorem winN_last (w : List Nat) (c : Nat) : winN (w ++ [c]) w.length = pst w ++ [c] := by
  unfold winN pst
  rw [liv_app, List.drop_append_of_le_length (by rw [liv_len]; omega), List.take_of_length_le (by rw [List.length_append, List.length_drop, liv_len, List.length_singleton]; omega)]
theorem pst_app (w : List Nat) (c : Nat) : pst (w ++ [c]) = (pst w).drop 1 ++ [c] := by
  unfold pst
  rw [liv_app, List.length_append, List.length_singleton, List.drop_append_of_le_length (by rw [liv_len]; omega), List.drop_drop]
theorem winN_prev (w : List Nat) (h : 0 < w.length) : ∃ x, winN w (w.length - 1) = x :: pst w := by
  have hk : w.length - 1 < (liv w).length := by rw [liv_len]; omega
  refine ⟨(liv w)[w.length - 1], ?_⟩
  unfold winN pst
  rw [List.drop_eq_getElem_cons hk, show w.length - 1 + 1 = w.length by omega, List.take_of_length_le (by rw [List.length_cons, List.length_drop, liv_len]; omega)]
theorem alw_snoc (ls : List D) (w : List Nat) (c : Nat) : alw ls (w ++ [c]) = (alw ls w && !ls.any fun d => brk d (pst w ++ [c])) := by
  rw [Bool.eq_iff_iff, alw_iff, Bool.and_eq_true, alw_iff, Bool.not_eq_true', List.any_eq_false]
  constructor
  · intro h
    refine ⟨fun k hk d hd => ?_, fun d hd => ?_⟩
    · rw [← winN_app w [c] k hk]
      exact h k (by rw [List.length_append]; omega) d hd
    · rw [← winN_last]
      exact Bool.eq_false_iff.mp (h w.length (by rw [List.length_append, List.length_singleton]; omega) d hd)
  · rintro ⟨h1, h2⟩ k hk d hd
    rw [List.length_append, List.length_singleton] at hk
    by_cases hk2 : k < w.length
    · rw [winN_app w [c] k hk2]
      exact h1 k hk2 d hd
    · rw [show k = w.length by omega, winN_last]
      exact Bool.eq_false_iff.mpr (h2 d hd)
theorem alw_take {ls : List D} {w : List Nat} (m : Nat) (h : alw ls w = true) : alw ls (w.take m) = true := by
  rw [alw_iff] at h ⊢
  intro k hk d hd
  rw [List.length_take] at hk
  by_cases hm : m ≤ w.length
  · rw [winN_take w m k (by omega) hm]
    exact h k (by omega) d hd
  · rw [List.take_of_length_le (by omega)]
    exact h k (by omega) d hd
theorem any_filter {α : Type} (l : List α) (p : α → Bool) : (!(l.filter p).isEmpty) = l.any p := by
  induction l with
  | nil => rfl
  | cons x r ih =>
    rw [List.filter_cons, List.any_cons]
    cases h : p x with
    | true => rfl
    | false => exact ih
theorem any_same {α : Type} {f g : α → Bool} : ∀ l : List α, (∀ x ∈ l, f x = g x) → l.any f = l.any g
  | [], _ => rfl
  | x :: r, h => by rw [List.any_cons, List.any_cons, h x (.head _), any_same r fun y hy => h y (.tail _ hy)]
theorem shp_lims {two : Bool} : ∀ ls : List D, (∀ d ∈ ls, isLim two d) → PyData.canLayAll0 (toPyAll ls) = true ∧ PyData.depthAll (toPyAll ls) ≤ 3
  | [], _ => ⟨rfl, Nat.zero_le _⟩
  | d :: r, h => by
    have ih := shp_lims r fun x hx => h x (.tail _ hx)
    have so : ∀ z ∈ zl two, PyData.strOk z = true := by cases two <;> decide +kernel
    have s1 : PyData.strOk "most" = true := by decide +kernel
    have s2 : PyData.strOk "row" = true := by decide +kernel
    have s3 : PyData.strOk "gap" = true := by decide +kernel
    have s4 : PyData.strOk "starts" = true := by decide +kernel
    have hd : PyData.canLay0 (toPy d) = true ∧ PyData.depth (toPy d) ≤ 3 := by
      obtain ⟨z, hz, ⟨c, s, h1, h2, h3, h4, rfl⟩ | ⟨c, h1, h2, rfl⟩ | ⟨c, h1, h2, rfl⟩ | ⟨c, s, h1, h2, h3, h4, rfl⟩⟩ := h d (.head _)
      all_goals
        have := so z hz
        simp [toPy, toPyAll, PyData.canLay0, PyData.canLayAll0, PyData.depth, PyData.depthAll, s1, s2, s3, s4, this]
    rw [toPyAll, PyData.canLayAll0, PyData.depthAll, hd.1, ih.1]
    exact ⟨rfl, Nat.max_le.mpr ⟨hd.2, ih.2⟩⟩
theorem eq_lims_nil {two : Bool} (ls : List D) (h : ∀ d ∈ ls, isLim two d) : eqD (.lst ls) (.lst []) = .ok (.bl ls.isEmpty) := by
  have hs : shp (.lst ls) = true := by
    unfold shp SeqAt.shaped
    have := shp_lims ls h
    rw [toPy, PyData.canLay0, this.1, PyData.depth]
    simp only [Bool.true_and, decide_eq_true_eq]
    omega
  unfold eqD
  rw [if_pos ⟨hs, rfl⟩]
  cases ls <;> rfl
theorem filter_lims {two : Bool} {ls : List D} (h : ∀ d ∈ ls, isLim two d) (p : D → Bool) : ∀ d ∈ ls.filter p, isLim two d := fun d hd => h d (List.mem_filter.mp hd).1
theorem filter_empty {α : Type} (l : List α) (p : α → Bool) : (l.filter p).isEmpty = !l.any p := by
  rw [← any_filter, Bool.not_not]
theorem lcGo_txt {i : Nat} {tt : Mir.Env → R Bool} {me : Mir.Env → R D} {ρ : Mir.Env} {p : Nat → Bool} (l : List Nat) (h : ∀ c ∈ l, tt (ρ.set i (.fz (txt [c]))) = .ok (p c)) (h2 : ∀ c ∈ l, me (ρ.set i (.fz (txt [c]))) = .ok (txt [c])) : lcGo (tgName i) tt me ρ (l.map fun c => txt [c]) = .ok ((l.filter p).map fun c => txt [c]) := by
  induction l with
  | nil => rfl
  | cons m l ih =>
    have ih := ih (fun x hx => h x (.tail _ hx)) fun x hx => h2 x (.tail _ hx)
    rw [List.map_cons]
    unfold lcGo
    rw [tgName_eq, nx_ok', R_bind_ok, h m (.head _), nx_ok', R_bind_ok, List.filter_cons, ih]
    cases p m with
    | true => rw [if_pos rfl, if_pos rfl, h2 m (.head _), nx_ok', R_bind_ok]; rfl
    | false => rfl
def ableN (two : Bool) (ls : List D) (w : List Nat) : List Nat := (lets two).filter fun c => !ls.any fun d => brk d (pst w ++ [c])
theorem ne_same_bl (b : Bool) : neD (.bl b) (.bl b) = .ok (.bl false) := by cases b <;> exact of_isBl (by decide +kernel)
theorem fbG_form (rows : List (List Bool)) (n : Nat) : fbG n rows = .non ∨ ∃ a b : Int, fbG n rows = .tup [.int a, .int b] := by
  induction rows generalizing n with
  | nil => exact .inl rfl
  | cons B r ih =>
    unfold fbG
    by_cases hb : B.any id = true
    · rw [if_pos hb]
      rcases firstOf_held B 0 with ⟨_, e⟩ | ⟨x, _, _, e⟩
      · have := firstOf_non B 0
        rw [e, hb] at this
        cases this
      · exact .inr ⟨_, _, by rw [e]⟩
    · rw [if_neg hb]
      exact ih _
theorem eqv_int_self (a : Int) : eqv (.int a) (.int a) = true := by
  show (a == a) = true
  simp
theorem ne_same_fb (x : D) (h : x = .non ∨ ∃ a b : Int, x = .tup [.int a, .int b]) : neD x x = .ok (.bl false) := by
  rcases h with rfl | ⟨a, b, rfl⟩
  · exact of_isBl (by decide +kernel)
  · unfold neD
    have hs : shp (.tup [.int a, .int b]) = true := rfl
    rw [if_pos ⟨hs, hs⟩]
    have : eqv (.tup [.int a, .int b]) (.tup [.int a, .int b]) = true := by
      show ((a == a) && ((b == b) && true)) = true
      simp
    rw [this]
    rfl
theorem ne_same_txt (u : List Nat) (h : abc u = true) : neD (txt u) (txt u) = .ok (.bl false) := by
  unfold neD
  rw [if_pos ⟨txt_shp u h, txt_shp u h⟩]
  have : eqv (txt u) (txt u) = true := by
    show ((⟨u.toArray⟩ : Str) == ⟨u.toArray⟩) = true
    exact beq_self_eq_true _
  rw [this]
  rfl
theorem abc_pst {two : Bool} (w : List Nat) (hc : ∀ c ∈ w, c ∈ lets two) : abc (pst w) = true := by
  unfold abc
  rw [List.all_eq_true]
  intro c h
  have h := List.mem_of_mem_drop h
  unfold liv at h
  rcases List.mem_append.mp h with h | h
  · rw [(List.mem_replicate.mp h).2]; rfl
  · have := hc c h
    cases two <;> simp [lets] at this <;> rcases this with rfl | rfl | rfl <;> rfl
theorem ne_same_able (two : Bool) (p : Nat → Bool) : neD (.lst (((lets two).filter p).map fun c => txt [c])) (.lst (((lets two).filter p).map fun c => txt [c])) = .ok (.bl false) := by
  cases two with
  | true =>
    unfold lets
    simp only [List.filter_cons, List.filter_nil]
    cases p 46 <;> cases p 97 <;> cases p 98 <;> exact of_isBl (by decide +kernel)
  | false =>
    unfold lets
    simp only [List.filter_cons, List.filter_nil]
    cases p 46 <;> cases p 97 <;> exact of_isBl (by decide +kernel)
theorem at_zero (d : D) (r ds : List D) (e : ds = d :: r) : atI ds 0 = some d := by
  subst e
  obtain ⟨q, e⟩ := at_lt (d :: r) (k := 0) (Int.le_refl _) (by rw [List.length_cons]; omega)
  exact e
/-- the days that break nothing behind a past -/
def dbh (two : Bool) (ls : List D) (p : List Nat) : List Nat := (lets two).filter fun c => !ls.any fun d => brk d (p ++ [c])
theorem dbh_ok {two : Bool} {ls : List D} (h : ∀ d ∈ ls, isLim two d) (p : List Nat) (hp : p.length = 5) : f_days_behind [bk two ls, txt p] = .ok (.lst ((dbh two ls p).map fun c => txt [c])) := by
  have dl : f_day_letters [bk two ls] = .ok (txt (lets two)) := letters_ok two (.tup ls)
  have lc := lcGo_txt (i := 2) (tt := tt_days_behind_2) (me := el_days_behind_1) (ρ := [.fz (bk two ls), .fz (txt p), .un]) (p := fun c => !ls.any fun d => brk d (p ++ [c])) (lets two) (fun c hc => by
    have q : (mFn 3 f_limit_broken (mCons (mVar 0) (mCons (mVar 1) (mCons (mVar 2) mNil)))) [.fz (bk two ls), .fz (txt p), .fz (txt [c])] = .ok (firstOf 0 (ls.map fun d => brk d (p ++ [c]))) := limbr_ok h p c hp
    show tt_days_behind_2 [.fz (bk two ls), .fz (txt p), .fz (txt [c])] = _
    unfold tt_days_behind_2
    rw [mTest_eq, mB_eq, q, R_bind_ok, mC_eq, R_bind_ok, cmp_is, isD_non, R_bind_ok, blOf_bl, firstOf_non, List.any_map]
    rfl) fun c hc => rfl
  rw [show f_days_behind [bk two ls, txt p] = outR (b_days_behind [.fz (bk two ls), .fz (txt p), .un]) from runD_eq _ _ _]
  have s2 : (mFn 1 f_day_letters (mCons (mVar 0) mNil)) [.fz (bk two ls), .fz (txt p), .un] = .ok (txt (lets two)) := dl
  unfold b_days_behind
  rw [sRet_eq, mFz_eq, mLc_eq, mSeq_eq, s2, R_bind_ok, anyOf_txt, R_bind_ok, if_pos (by cases two <;> decide)]
  rw [show wipeE ([.fz (bk two ls), .fz (txt p), .un] : Mir.Env) [2] = [.fz (bk two ls), .fz (txt p), .un] from rfl, lc, nx_ok', R_bind_ok, R_to_ok, outR_ret]
  rfl
def within (marks : List Int) (a b : Int) : Nat := (marks.filter fun n => decide (a ≤ n) && decide (n ≤ b)).length
/-! ### the law's own breaches -/
def begL (q : List Bool) : List Int := ((List.range q.length).filter fun k => q.getD k false && (decide (k = 0) || !q.getD (k - 1) false)).map fun k : Nat => (k : Int)
def mx : List Int → Int
  | [] => 0
  | x :: xs => maxL x xs
theorem mx_ok {l : List Int} (h : l ≠ []) : mmF maxL [.lst (l.map D.int)] = .ok (.int (mx l)) := by
  cases l with
  | nil => exact absurd rfl h
  | cons x r =>
    show (match intsOf ((x :: r).map D.int) with | some (x :: xs) => R.ok (D.int (maxL x xs)) | _ => .bad) = _
    have e : ∀ l : List Int, intsOf (l.map D.int) = some l := fun l => by
      induction l with
      | nil => rfl
      | cons y s ih => rw [List.map_cons]; unfold intsOf; rw [ih]; rfl
    rw [e]; rfl
def fst1 (q : List Bool) (k : Nat) : Int := mx ((begL q).filter fun n => decide (n ≤ (k : Int)))
def fin1 (q : List Bool) (k : Nat) : Int := mx (((List.range k).filter fun n => q.getD n false).map fun n : Nat => (n : Int))
def rowD1 (c : Int) (q : List Bool) (k : Nat) : List (Int × Int) := if q.getD k false = true then (if c ≤ (k : Int) - fst1 q k then [((k : Int), fst1 q k)] else []) else []
def gapD1 (c : Int) (q : List Bool) (k : Nat) : List (Int × Int) := if q.getD k false = true then (if (decide (fst1 q k = (k : Int)) && (decide (0 < k) && decide (true ∈ q.take k))) = true then (if (k : Int) - fin1 q k - 1 < c then [((k : Int), fin1 q k)] else []) else []) else []
def cntD1 (marks : List Int) (c s : Int) (k : Nat) : List (Int × Int) := if c < (within marks ((k : Int) - s + 1) k : Nat) then [((k : Int), (k : Int) - s + 1)] else []
theorem beg_ex (q : List Bool) : ∀ k : Nat, q.getD k false = true → ∃ b ∈ begL q, b ≤ (k : Int)
  | k, h => by
    have hk : k < q.length := by
      by_cases z : k < q.length
      · exact z
      · rw [List.getD_eq_getElem?_getD, List.getElem?_eq_none (by omega)] at h; cases h
    by_cases h0 : k = 0
    · subst h0
      exact ⟨0, List.mem_map.mpr ⟨0, List.mem_filter.mpr ⟨List.mem_range.mpr hk, by rw [h]; rfl⟩, rfl⟩, Int.le_refl _⟩
    · cases hp : q.getD (k - 1) false with
      | true =>
        obtain ⟨b, hb, hl⟩ := beg_ex q (k - 1) hp
        exact ⟨b, hb, by omega⟩
      | false => exact ⟨k, List.mem_map.mpr ⟨k, List.mem_filter.mpr ⟨List.mem_range.mpr hk, by rw [h, hp]; simp⟩, rfl⟩, Int.le_refl _⟩
termination_by k => k
def pr2 (x : Int × Int) : D := .tup [.int x.1, .int x.2]
abbrev lb (L W : D) (kd z : Str) (c : Int) (q : List Bool) (acc : List (Int × Int)) (s8 s9 s10 s11 : Slot) : Mir.Env := [.fz L, .fz W, .fz (.str kd), .fz (.str z), .fz (.int c), .fz (.lst (q.map D.bl)), .ol (acc.map pr2), .fz (.lst ((begL q).map D.int)), s8, s9, s10, s11, .un, .un]
theorem bl_at {q : List Bool} {k : Nat} (h : k < q.length) : ixD (.lst (q.map D.bl)) (.int (k : Nat)) = .ok (.bl (q.getD k false)) := by
  rw [ixD_lst, atE_nat, List.getElem?_map, List.getD_eq_getElem?_getD, List.getElem?_eq_getElem h]; rfl
theorem sl_seq (q : List Bool) (k : Nat) : inD (.bl true) (.lst ((q.take k).map D.bl)) = .ok (.bl (decide (true ∈ q.take k))) := by
  generalize q.take k = bs
  have p2 : shp (.lst (bs.map D.bl)) = true := pl_shp (n := 2) (pl_lst (n := 1) fun d hd => by
    obtain ⟨b, _, rfl⟩ := List.mem_map.mp hd
    exact pl_bl b) (by omega)
  have e : ((bs.map D.bl).any fun z => eqv z (.bl true)) = decide (true ∈ bs) := by
    clear p2
    induction bs with
    | nil => rfl
    | cons b r ih =>
      rw [List.map_cons, List.any_cons, ih, eqv_bb]
      cases b <;> simp
  show ((if shp (.bl true) = true ∧ shp (.lst (bs.map D.bl)) = true then R.ok ((bs.map D.bl).any fun z => eqv z (.bl true)) else .bad).bind fun b => R.ok (D.bl b)) = _
  rw [if_pos ⟨by decide +kernel, p2⟩, e]
  rfl
section
variable (L W : D) (z : Str) (c : Int) (q : List Bool) (hq : q.length ≤ 60) (hW : lenF [W] = .ok (.int (q.length : Nat)))
include hq hW
theorem row_step (acc : List (Int × Int)) (ha : acc.length ≤ 1000) (k : Nat) (hk : k < q.length) (s9 s10 s11 : Slot) : ∃ t9 t10 t11, bd__law_bad_12 (lb L W "row" z c q acc (.fz (.int (k : Nat))) s9 s10 s11) = .nx (lb L W "row" z c q (acc ++ rowD1 c q k) (.fz (.int (k : Nat))) t9 t10 t11) := by
  have ir : inD (.str "row") (.tup [.str "most", .str "starts"]) = .ok (.bl false) := of_isBl (by decide +kernel)
  have x5 := bl_at hk
  unfold rowD1
  cases hb : q.getD k false with
  | false =>
    rw [hb] at x5
    refine ⟨s9, s10, s11, ?_⟩
    rw [if_neg Bool.false_ne_true, List.append_nil]
    simp -implicitDefEqProofs (disch := omega) only [↓reduceIte, bd__law_bad_12, sIf_eq, sSkip_eq, mTest_eq, mUT_eq, mB_eq, mTup_eq, mCons_eq, mNil_eq, mVar_eq, mC_eq, List.getElem?_cons_succ, gz, slotD_fz, R_bind_ok, R_to_ok, List.length_cons, List.length_nil, sizeLine_eq, ite_yes, cmp_in, ir, blOf_bl, x5, truth_bl, Bool.false_eq_true]
  | true =>
    rw [hb] at x5
    obtain ⟨b, hb1, hb2⟩ := beg_ex q k hb
    have lg := lcGo_fm (mt := tgName 13) (tt := tt__law_bad_9) (me := el__law_bad_8) (ρ := lb L W "row" z c q acc (.fz (.int (k : Nat))) s9 s10 s11) D.int D.int (fun n => decide (n ≤ (k : Int))) (begL q) (fun n _ => ⟨_, rfl, by
      simp -implicitDefEqProofs (disch := omega) only [tt__law_bad_9, mTest_eq, mB_eq, mVar_eq, List.set_cons_succ, List.set_cons_zero, List.getElem?_cons_succ, gz, slotD_fz, R_bind_ok, cmp_le, blOf_bl], fun _ => rfl⟩)
    have ne : (begL q).filter (fun n => decide (n ≤ (k : Int))) ≠ [] := fun e => by
      have : b ∈ (begL q).filter (fun n => decide (n ≤ (k : Int))) := List.mem_filter.mpr ⟨hb1, decide_eq_true hb2⟩
      rw [e] at this; cases this
    have m1 := mx_ok ne
    have bl1 : (begL q).length ≤ 60 := by
      unfold begL
      rw [List.length_map]
      exact Nat.le_trans (List.length_filter_le _ _) (by rw [List.length_range]; exact hq)
    refine ⟨.fz (.int (fst1 q k)), s10, s11, ?_⟩
    rw [if_pos rfl]
    have m1 : mmF maxL [.lst (((begL q).filter fun n => decide (n ≤ (k : Int))).map D.int)] = .ok (.int (fst1 q k)) := m1
    have al : (acc.map pr2).length ≤ 1000 := by rw [List.length_map]; exact ha
    by_cases h1 : c ≤ (k : Int) - fst1 q k
    · rw [if_pos h1]
      simp -implicitDefEqProofs (disch := omega) only [↓reduceIte, bd__law_bad_12, sSeq_eq, sSet_eq, sIf_eq, sSkip_eq, sExt_eq, mIf_eq, mTest_eq, mUT_eq, mB_eq, mTup_eq, mCall_eq, mFz_eq, mLst_eq, mLc_eq, mSeq_eq, mCons_eq, mNil_eq, mVar_eq, mC_eq, List.getElem?_cons_succ, gz, slotD_fz, olS_ol, lstS_lst, R_bind_ok, R_to_ok, List.length_cons, List.length_nil, sizeLine_eq, ite_yes, cmp_in, ir, blOf_bl, x5, truth_bl, Bool.false_eq_true, anyOf_lst, List.length_map, wipe_cons, wipe_nil, List.set_cons_succ, List.set_cons_zero, lg, nx_ok', m1, seqR_nx, cmp_eq, eqs_rr, subD_int, cmp_ge, h1, decide_true]
      simp only [lb, List.map_append, List.map_cons, List.map_nil, pr2]
    · rw [if_neg h1, List.append_nil]
      have h1' : decide (c ≤ (k : Int) - fst1 q k) = false := decide_eq_false h1
      simp -implicitDefEqProofs (disch := omega) only [↓reduceIte, bd__law_bad_12, sSeq_eq, sSet_eq, sIf_eq, sSkip_eq, sExt_eq, mIf_eq, mTest_eq, mUT_eq, mB_eq, mTup_eq, mCall_eq, mFz_eq, mLst_eq, mLc_eq, mSeq_eq, mCons_eq, mNil_eq, mVar_eq, mC_eq, List.getElem?_cons_succ, gz, slotD_fz, olS_ol, lstS_lst, R_bind_ok, R_to_ok, List.length_cons, List.length_nil, sizeLine_eq, ite_yes, cmp_in, ir, blOf_bl, x5, truth_bl, Bool.false_eq_true, anyOf_lst, List.length_map, wipe_cons, wipe_nil, List.set_cons_succ, List.set_cons_zero, lg, nx_ok', m1, seqR_nx, cmp_eq, eqs_rr, subD_int, cmp_ge, h1', List.append_nil]
theorem gap_step (acc : List (Int × Int)) (ha : acc.length ≤ 1000) (k : Nat) (hk : k < q.length) (s9 s10 s11 : Slot) : ∃ t9 t10 t11, bd__law_bad_12 (lb L W "gap" z c q acc (.fz (.int (k : Nat))) s9 s10 s11) = .nx (lb L W "gap" z c q (acc ++ gapD1 c q k) (.fz (.int (k : Nat))) t9 t10 t11) := by
  have ir : inD (.str "gap") (.tup [.str "most", .str "starts"]) = .ok (.bl false) := of_isBl (by decide +kernel)
  have x5 := bl_at hk
  unfold gapD1
  cases hb : q.getD k false with
  | false =>
    rw [hb] at x5
    refine ⟨s9, s10, s11, ?_⟩
    rw [if_neg Bool.false_ne_true, List.append_nil]
    simp -implicitDefEqProofs (disch := omega) only [↓reduceIte, bd__law_bad_12, sIf_eq, sSkip_eq, mTest_eq, mUT_eq, mB_eq, mTup_eq, mCons_eq, mNil_eq, mVar_eq, mC_eq, List.getElem?_cons_succ, gz, slotD_fz, R_bind_ok, R_to_ok, List.length_cons, List.length_nil, sizeLine_eq, ite_yes, cmp_in, ir, blOf_bl, x5, truth_bl, Bool.false_eq_true]
  | true =>
    rw [hb] at x5
    obtain ⟨b, hb1, hb2⟩ := beg_ex q k hb
    have lg := lcGo_fm (mt := tgName 13) (tt := tt__law_bad_9) (me := el__law_bad_8) (ρ := lb L W "gap" z c q acc (.fz (.int (k : Nat))) s9 s10 s11) D.int D.int (fun n => decide (n ≤ (k : Int))) (begL q) (fun n _ => ⟨_, rfl, by
      simp -implicitDefEqProofs (disch := omega) only [tt__law_bad_9, mTest_eq, mB_eq, mVar_eq, List.set_cons_succ, List.set_cons_zero, List.getElem?_cons_succ, gz, slotD_fz, R_bind_ok, cmp_le, blOf_bl], fun _ => rfl⟩)
    have ne : (begL q).filter (fun n => decide (n ≤ (k : Int))) ≠ [] := fun e => by
      have : b ∈ (begL q).filter (fun n => decide (n ≤ (k : Int))) := List.mem_filter.mpr ⟨hb1, decide_eq_true hb2⟩
      rw [e] at this; cases this
    have m1 : mmF maxL [.lst (((begL q).filter fun n => decide (n ≤ (k : Int))).map D.int)] = .ok (.int (fst1 q k)) := mx_ok ne
    have bl1 : (begL q).length ≤ 60 := by
      unfold begL
      rw [List.length_map]
      exact Nat.le_trans (List.length_filter_le _ _) (by rw [List.length_range]; exact hq)
    rw [if_pos rfl]
    have al : (acc.map pr2).length ≤ 1000 := by rw [List.length_map]; exact ha
    have cut : cutD (q.map D.bl) none (some ((k : Nat) : Int)) = (q.take k).map D.bl := by rw [cutE_to, List.map_take]
    have sq := sl_seq q k
    have e1 : decide ((0 : Int) < ((k : Nat) : Int)) = decide (0 < k) := decide_eq_decide.mpr (by omega)
    have cnd : (mAnd (mTest (mB (cmpF .Eq) (mVar 9) (mVar 8))) (mAnd (mTest (mB (cmpF .Gt) (mVar 8) (mC (.int 0)))) (mTest (mB (cmpF .In) (mC (.bl true)) (mSl (mVar 5) mNo (mSome (mVar 8))))))) (lb L W "gap" z c q acc (.fz (.int (k : Nat))) (.fz (.int (fst1 q k))) s10 s11) = .ok (decide (fst1 q k = (k : Int)) && (decide (0 < k) && decide (true ∈ q.take k))) := by
      simp -implicitDefEqProofs (disch := omega) only [↓reduceIte, mAnd_eq, mTest_eq, mB_eq, mSl_eq, mNo_eq, mSome_eq, mVar_eq, mC_eq, List.getElem?_cons_succ, gz, slotD_fz, R_bind_ok, intO_int, slD_lst, cut, sq, cmp_eq, cmp_in, cmp_gt, eq_ii, blOf_bl, e1]
      generalize decide (true ∈ q.take k) = b3
      generalize decide (fst1 q k = (k : Int)) = b1
      generalize decide (0 < k) = b2
      cases b1 <;> cases b2 <;> rfl
    cases c1 : (decide (fst1 q k = (k : Int)) && (decide (0 < k) && decide (true ∈ q.take k))) with
    | false =>
      rw [c1] at cnd
      rw [if_neg Bool.false_ne_true, List.append_nil]
      refine ⟨.fz (.int (fst1 q k)), s10, s11, ?_⟩
      simp -implicitDefEqProofs (disch := omega) only [↓reduceIte, bd__law_bad_12, sSeq_eq, sSet_eq, sIf_eq, sSkip_eq, mTest_eq, mUT_eq, mB_eq, mTup_eq, mCall_eq, mFz_eq, mLc_eq, mSeq_eq, mCons_eq, mNil_eq, mVar_eq, mC_eq, List.getElem?_cons_succ, gz, slotD_fz, R_bind_ok, R_to_ok, List.length_cons, List.length_nil, sizeLine_eq, ite_yes, cmp_in, ir, blOf_bl, x5, truth_bl, Bool.false_eq_true, anyOf_lst, List.length_map, wipe_cons, wipe_nil, List.set_cons_succ, List.set_cons_zero, lg, nx_ok', m1, seqR_nx, cmp_eq, eqs_gr, cnd]
    | true =>
      rw [c1] at cnd
      rw [if_pos rfl]
      have tk : true ∈ q.take k := by
        have := (Bool.and_eq_true_iff.mp (Bool.and_eq_true_iff.mp c1).2).2
        exact of_decide_eq_true this
      have lg2 := lcGo_fm (mt := tgName 13) (tt := tt__law_bad_11) (me := el__law_bad_10) (ρ := lb L W "gap" z c q acc (.fz (.int (k : Nat))) (.fz (.int (fst1 q k))) s10 s11) (fun n : Nat => D.int ((n : Nat) : Int)) (fun n : Nat => D.int ((n : Nat) : Int)) (fun n => q.getD n false) (List.range k) (fun n hn => ⟨lb L W "gap" z c q acc (.fz (.int (k : Nat))) (.fz (.int (fst1 q k))) s10 s11 |>.set 13 (.fz (.int (n : Nat))), rfl, by
        have x := bl_at (show n < q.length by have := List.mem_range.mp hn; omega)
        simp -implicitDefEqProofs (disch := omega) only [tt__law_bad_11, mUT_eq, mB_eq, mVar_eq, List.set_cons_succ, List.set_cons_zero, List.getElem?_cons_succ, gz, slotD_fz, R_bind_ok, x, truth_bl], fun _ => rfl⟩)
      have em : (((List.range k).filter fun n => q.getD n false).map fun n : Nat => D.int ((n : Nat) : Int)) = (((List.range k).filter fun n => q.getD n false).map fun n : Nat => (n : Int)).map D.int := by rw [List.map_map]; rfl
      rw [em] at lg2
      have ne2 : (((List.range k).filter fun n => q.getD n false).map fun n : Nat => (n : Int)) ≠ [] := fun e => by
        obtain ⟨i, hi, hi2⟩ := List.getElem_of_mem tk
        rw [List.length_take] at hi
        rw [List.getElem_take] at hi2
        have hm : i ∈ (List.range k).filter fun n => q.getD n false := List.mem_filter.mpr ⟨List.mem_range.mpr (by omega), by
          rw [List.getD_eq_getElem?_getD, List.getElem?_eq_getElem (by omega), hi2]; rfl⟩
        rw [List.map_eq_nil_iff.mp e] at hm
        cases hm
      have m2 : mmF maxL [.lst ((((List.range k).filter fun n => q.getD n false).map fun n : Nat => (n : Int)).map D.int)] = .ok (.int (fin1 q k)) := mx_ok ne2
      have rk : rng1 [.int (k : Nat)] = .ok ((List.range k).map fun n : Nat => D.int ((n : Nat) : Int)) := by
        have e : rangeD 0 k = (List.range k).map fun n : Nat => D.int ((n : Nat) : Int) := by
          unfold rangeD
          exact List.map_congr_left fun i _ => by show D.int (0 + (i : Int)) = _; rw [Int.zero_add]
        rw [← e]
        have h1 : -(2 ^ 62) ≤ ((k : Nat) : Int) ∧ ((k : Nat) : Int) < 2 ^ 62 := by omega
        unfold rng1
        exact if_pos h1
      refine ⟨.fz (.int (fst1 q k)), s10, .fz (.int (fin1 q k)), ?_⟩
      by_cases h1 : (k : Int) - fin1 q k - 1 < c
      · rw [if_pos h1]
        simp -implicitDefEqProofs (disch := omega) only [↓reduceIte, bd__law_bad_12, sSeq_eq, sSet_eq, sIf_eq, sSkip_eq, sExt_eq, mIf_eq, mTest_eq, mUT_eq, mB_eq, mTup_eq, mCall_eq, mFz_eq, mLst_eq, mLc_eq, mSeq_eq, mSeqs_eq, mCons_eq, mNil_eq, mVar_eq, mC_eq, List.getElem?_cons_succ, gz, slotD_fz, olS_ol, lstS_lst, R_bind_ok, R_to_ok, List.length_cons, List.length_nil, sizeLine_eq, ite_yes, cmp_in, ir, blOf_bl, x5, truth_bl, Bool.false_eq_true, anyOf_lst, List.length_map, List.length_range, wipe_cons, wipe_nil, List.set_cons_succ, List.set_cons_zero, lg, nx_ok', m1, seqR_nx, cmp_eq, eqs_gr, cnd, rk, lg2, m2, subD_int, cmp_lt, h1, decide_true]
        simp only [lb, List.map_append, List.map_cons, List.map_nil, pr2]
      · rw [if_neg h1, List.append_nil]
        have h1' : decide ((k : Int) - fin1 q k - 1 < c) = false := decide_eq_false h1
        simp -implicitDefEqProofs (disch := omega) only [↓reduceIte, bd__law_bad_12, sSeq_eq, sSet_eq, sIf_eq, sSkip_eq, sExt_eq, mIf_eq, mTest_eq, mUT_eq, mB_eq, mTup_eq, mCall_eq, mFz_eq, mLst_eq, mLc_eq, mSeq_eq, mSeqs_eq, mCons_eq, mNil_eq, mVar_eq, mC_eq, List.getElem?_cons_succ, gz, slotD_fz, olS_ol, lstS_lst, R_bind_ok, R_to_ok, List.length_cons, List.length_nil, sizeLine_eq, ite_yes, cmp_in, ir, blOf_bl, x5, truth_bl, Bool.false_eq_true, anyOf_lst, List.length_map, List.length_range, wipe_cons, wipe_nil, List.set_cons_succ, List.set_cons_zero, lg, nx_ok', m1, seqR_nx, cmp_eq, eqs_gr, cnd, rk, lg2, m2, subD_int, cmp_lt, h1', List.append_nil]
end
def heldN (q : List Bool) : List Int := ((List.range q.length).filter fun n => q.getD n false).map fun n : Nat => (n : Int)
section
variable (W : D) (z : Str) (c s : Int) (q : List Bool) (hq : q.length ≤ 60) (hW : lenF [W] = .ok (.int (q.length : Nat)))
include hq hW
theorem cnt_step (st : Bool) (acc : List (Int × Int)) (ha : acc.length ≤ 1000) (k : Nat) (hk : k < q.length) (s9 s10 s11 : Slot) : ∃ t9 t10 t11, bd__law_bad_12 (lb (.tup [.str (if st then "starts" else "most"), .str z, .int c, .int s]) W (if st then "starts" else "most") z c q acc (.fz (.int (k : Nat))) s9 s10 s11) = .nx (lb (.tup [.str (if st then "starts" else "most"), .str z, .int c, .int s]) W (if st then "starts" else "most") z c q (acc ++ cntD1 (if st then begL q else heldN q) c s k) (.fz (.int (k : Nat))) t9 t10 t11) := by
  have ir : inD (.str (if st then "starts" else "most")) (.tup [.str "most", .str "starts"]) = .ok (.bl true) := by cases st <;> exact of_isBl (by decide +kernel)
  have ie : eqD (.str (if st then "starts" else "most")) (.str "starts") = .ok (.bl st) := by cases st <;> exact of_isBl (by decide +kernel)
  generalize hkd : (if st then ("starts" : Str) else "most") = kd at *
  have rk : rng1 [.int (q.length : Nat)] = .ok ((List.range q.length).map fun n : Nat => D.int ((n : Nat) : Int)) := by
    have e : rangeD 0 q.length = (List.range q.length).map fun n : Nat => D.int ((n : Nat) : Int) := by
      unfold rangeD
      exact List.map_congr_left fun i _ => by show D.int (0 + (i : Int)) = _; rw [Int.zero_add]
    rw [← e]
    have h1 : -(2 ^ 62) ≤ ((q.length : Nat) : Int) ∧ ((q.length : Nat) : Int) < 2 ^ 62 := by omega
    unfold rng1
    exact if_pos h1
  have lg1 := lcGo_fm (mt := tgName 13) (tt := tt__law_bad_5) (me := el__law_bad_4) (ρ := lb (.tup [.str kd, .str z, .int c, .int s]) W kd z c q acc (.fz (.int (k : Nat))) (.fz (.int ((k : Int) - s + 1))) s10 s11) (fun n : Nat => D.int ((n : Nat) : Int)) (fun n : Nat => D.int ((n : Nat) : Int)) (fun n => q.getD n false) (List.range q.length) (fun n hn => ⟨lb (.tup [.str kd, .str z, .int c, .int s]) W kd z c q acc (.fz (.int (k : Nat))) (.fz (.int ((k : Int) - s + 1))) s10 s11 |>.set 13 (.fz (.int (n : Nat))), rfl, by
    have x := bl_at (List.mem_range.mp hn)
    simp -implicitDefEqProofs (disch := omega) only [tt__law_bad_5, mUT_eq, mB_eq, mVar_eq, List.set_cons_succ, List.set_cons_zero, List.getElem?_cons_succ, gz, slotD_fz, R_bind_ok, x, truth_bl], fun _ => rfl⟩)
  have em : (((List.range q.length).filter fun n => q.getD n false).map fun n : Nat => D.int ((n : Nat) : Int)) = (heldN q).map D.int := by unfold heldN; rw [List.map_map]; rfl
  rw [em] at lg1
  have hlN : (heldN q).length ≤ 60 := by
    unfold heldN
    rw [List.length_map]
    exact Nat.le_trans (List.length_filter_le _ _) (by rw [List.length_range]; exact hq)
  have blN : (begL q).length ≤ 60 := by
    unfold begL
    rw [List.length_map]
    exact Nat.le_trans (List.length_filter_le _ _) (by rw [List.length_range]; exact hq)
  have mkl : (if st then begL q else heldN q).length ≤ 60 := by cases st <;> simp [hlN, blN]
  have sel : (if st = true then R.ok (D.lst ((begL q).map D.int)) else R.ok (D.lst ((heldN q).map D.int))) = R.ok (D.lst ((if st then begL q else heldN q).map D.int)) := by cases st <;> rfl
  generalize (if st then begL q else heldN q) = mk at *
  have lg2 := lcGo_fm (mt := tgName 13) (tt := tt__law_bad_7) (me := el__law_bad_6) (ρ := lb (.tup [.str kd, .str z, .int c, .int s]) W kd z c q acc (.fz (.int (k : Nat))) (.fz (.int ((k : Int) - s + 1))) (.fz (.lst (mk.map D.int))) s11) D.int D.int (fun n => decide (((k : Int) - s + 1) ≤ n) && decide (n ≤ (k : Int))) mk (fun n _ => ⟨_, rfl, by
    simp [tt__law_bad_7, gz]
    by_cases h1 : ((k : Int) - s + 1) ≤ n <;> by_cases h2 : n ≤ (k : Int) <;> simp [h1, h2], fun _ => rfl⟩)
  have wl : (mk.filter fun n => decide (((k : Int) - s + 1) ≤ n) && decide (n ≤ (k : Int))).length = within mk ((k : Int) - s + 1) k := rfl
  have al : (acc.map pr2).length ≤ 1000 := by rw [List.length_map]; exact ha
  refine ⟨.fz (.int ((k : Int) - s + 1)), .fz (.lst (mk.map D.int)), s11, ?_⟩
  unfold cntD1
  by_cases h1 : c < (within mk ((k : Int) - s + 1) k : Nat)
  · rw [if_pos h1]
    simp -implicitDefEqProofs (disch := omega) only [↓reduceIte, bd__law_bad_12, sSeq_eq, sSet_eq, sIf_eq, sExt_eq, mIf_eq, mTest_eq, mB_eq, mTup_eq, mCall_eq, mFz_eq, mLst_eq, mLc_eq, mSeq_eq, mSeqs_eq, mCons_eq, mNil_eq, mVar_eq, mC_eq, List.getElem?_cons_succ, gz, slotD_fz, olS_ol, lstS_lst, R_bind_ok, R_to_ok, List.length_cons, List.length_nil, sizeLine_eq, ite_yes, cmp_in, ir, blOf_bl, anyOf_lst, List.length_map, List.length_range, wipe_cons, wipe_nil, List.set_cons_succ, List.set_cons_zero, ixD_tup, atE_3, ofO_some, subD_int, addD_int, hW, rk, lg1, nx_ok', seqR_nx, cmp_eq, ie, sel, lg2, lenF_lst, wl, cmp_gt, h1, decide_true]
    simp only [lb, List.map_append, List.map_cons, List.map_nil, pr2]
  · rw [if_neg h1, List.append_nil]
    have h1' : decide (c < ((within mk ((k : Int) - s + 1) k : Nat) : Int)) = false := decide_eq_false h1
    simp -implicitDefEqProofs (disch := omega) only [↓reduceIte, bd__law_bad_12, sSeq_eq, sSet_eq, sIf_eq, sExt_eq, mIf_eq, mTest_eq, mB_eq, mTup_eq, mCall_eq, mFz_eq, mLst_eq, mLc_eq, mSeq_eq, mSeqs_eq, mCons_eq, mNil_eq, mVar_eq, mC_eq, List.getElem?_cons_succ, gz, slotD_fz, olS_ol, lstS_lst, R_bind_ok, R_to_ok, List.length_cons, List.length_nil, sizeLine_eq, ite_yes, cmp_in, ir, blOf_bl, anyOf_lst, List.length_map, List.length_range, wipe_cons, wipe_nil, List.set_cons_succ, List.set_cons_zero, ixD_tup, atE_3, ofO_some, subD_int, addD_int, hW, rk, lg1, nx_ok', seqR_nx, cmp_eq, ie, sel, lg2, lenF_lst, wl, cmp_gt, h1', Bool.false_eq_true, List.append_nil]
end
theorem bad_loop (L W : D) (kd z : Str) (c : Int) (q : List Bool) (f : Nat → List (Int × Int)) (hf : ∀ k, (f k).length ≤ 1) (hq : q.length ≤ 60)
    (stp : ∀ acc : List (Int × Int), acc.length ≤ 1000 → ∀ k, k < q.length → ∀ s9 s10 s11 : Slot, ∃ t9 t10 t11, bd__law_bad_12 (lb L W kd z c q acc (.fz (.int (k : Nat))) s9 s10 s11) = .nx (lb L W kd z c q (acc ++ f k) (.fz (.int (k : Nat))) t9 t10 t11)) :
    ∀ (m k : Nat) (acc : List (Int × Int)) (s8 s9 s10 s11 : Slot), k + m = q.length → acc.length ≤ k → ∃ t8 t9 t10 t11, forGo (tgName 8) bd__law_bad_12 ((List.range' k m).map fun i : Nat => D.int ((i : Nat) : Int)) (lb L W kd z c q acc s8 s9 s10 s11) = .nx (lb L W kd z c q (acc ++ (List.range' k m).flatMap f) t8 t9 t10 t11)
  | 0, k, acc, s8, s9, s10, s11, _, _ => ⟨s8, s9, s10, s11, by
    show forGo _ _ [] _ = _
    rw [forGo_nil, show (List.range' k 0).flatMap f = [] from rfl, List.append_nil]⟩
  | m + 1, k, acc, s8, s9, s10, s11, hk, ha => by
    obtain ⟨t9, t10, t11, e⟩ := stp acc (by omega) k (by omega) s9 s10 s11
    obtain ⟨u8, u9, u10, u11, ih⟩ := bad_loop L W kd z c q f hf hq stp m (k + 1) (acc ++ f k) (.fz (.int (k : Nat))) t9 t10 t11 (by omega) (by rw [List.length_append]; have := hf k; omega)
    refine ⟨u8, u9, u10, u11, ?_⟩
    rw [List.range'_succ, List.map_cons, forGo_cons, show nx (tgName 8 (.int ((k : Nat) : Int)) (lb L W kd z c q acc s8 s9 s10 s11)) = .ok (lb L W kd z c q acc (.fz (.int (k : Nat))) s9 s10 s11) from rfl, R_to_ok, e, loopR_nx]
    refine ih.trans ?_
    rw [List.flatMap_cons, List.append_assoc]
theorem bad_head (kd z : Str) (c : Int) (r : List D) (w : List Nat) (hw : w.length ≤ 60) (f : Nat → List (Int × Int)) (hf : ∀ k, (f k).length ≤ 1)
    (stp : ∀ acc : List (Int × Int), acc.length ≤ 1000 → ∀ k, k < (w.map (inz z)).length → ∀ s9 s10 s11 : Slot, ∃ t9 t10 t11, bd__law_bad_12 (lb (.tup (.str kd :: .str z :: .int c :: r)) (txt w) kd z c (w.map (inz z)) acc (.fz (.int (k : Nat))) s9 s10 s11) = .nx (lb (.tup (.str kd :: .str z :: .int c :: r)) (txt w) kd z c (w.map (inz z)) (acc ++ f k) (.fz (.int (k : Nat))) t9 t10 t11)) :
    f__law_bad [.tup (.str kd :: .str z :: .int c :: r), txt w] = .ok (.lst (((List.range w.length).flatMap f).map pr2)) := by
  have hql : (w.map (inz z)).length = w.length := List.length_map _
  obtain ⟨t8, t9, t10, t11, lo⟩ := bad_loop (.tup (.str kd :: .str z :: .int c :: r)) (txt w) kd z c (w.map (inz z)) f hf (by omega) stp w.length 0 [] .un .un .un .un (by omega) (Nat.le_refl _)
  rw [List.nil_append, ← List.range_eq_range'] at lo
  have rk : rng1 [.int (w.length : Nat)] = .ok ((List.range w.length).map fun n : Nat => D.int ((n : Nat) : Int)) := by
    have e : rangeD 0 w.length = (List.range w.length).map fun n : Nat => D.int ((n : Nat) : Int) := by
      unfold rangeD
      exact List.map_congr_left fun i _ => by show D.int (0 + (i : Int)) = _; rw [Int.zero_add]
    rw [← e]
    have h1 : -(2 ^ 62) ≤ ((w.length : Nat) : Int) ∧ ((w.length : Nat) : Int) < 2 ^ 62 := by omega
    unfold rng1
    exact if_pos h1
  have l1 := lcGo_fa (mt := tgName 12) (me := el__law_bad_1) (ρ := [.fz (.tup (.str kd :: .str z :: .int c :: r)), .fz (txt w), .fz (.str kd), .fz (.str z), .fz (.int c), .un, .un, .un, .un, .un, .un, .un, .un, .un]) (fun d : Nat => txt [d]) (fun d => D.bl (inz z d)) w (fun d _ => ⟨_, rfl, by
    have i1 : inD (txt [d]) (.str z) = .ok (.bl (inz z d)) := rfl
    simp -implicitDefEqProofs (disch := omega) only [el__law_bad_1, mB_eq, mVar_eq, List.set_cons_succ, List.set_cons_zero, List.getElem?_cons_succ, gz, slotD_fz, R_bind_ok, cmp_in, i1]⟩)
  have e1 : (w.map fun d => D.bl (inz z d)) = (w.map (inz z)).map D.bl := by rw [List.map_map]; rfl
  rw [e1] at l1
  generalize hq : w.map (inz z) = q at *
  have l2 := lcGo_fm (mt := tgName 8) (tt := tt__law_bad_3) (me := el__law_bad_2) (ρ := [.fz (.tup (.str kd :: .str z :: .int c :: r)), .fz (txt w), .fz (.str kd), .fz (.str z), .fz (.int c), .fz (.lst (q.map D.bl)), .ol [], .un, .un, .un, .un, .un, .un, .un]) (fun n : Nat => D.int ((n : Nat) : Int)) (fun n : Nat => D.int ((n : Nat) : Int)) (fun k => q.getD k false && (decide (k = 0) || !q.getD (k - 1) false)) (List.range w.length) (fun k hk => ⟨_, rfl, by
    have hk : k < q.length := by have := List.mem_range.mp hk; omega
    have x := bl_at hk
    have e0 : decide (((k : Nat) : Int) = 0) = decide (k = 0) := decide_eq_decide.mpr (by omega)
    by_cases h0 : k = 0
    · have e0' : decide (k = 0) = true := decide_eq_true h0
      rw [e0'] at e0 ⊢
      simp -implicitDefEqProofs (disch := omega) only [↓reduceIte, tt__law_bad_3, mAnd_eq, mOr_eq, mUT_eq, mTest_eq, mB_eq, mVar_eq, mC_eq, List.set_cons_succ, List.set_cons_zero, List.getElem?_cons_succ, gz, slotD_fz, R_bind_ok, x, truth_bl, cmp_eq, eq_ii, e0, blOf_bl, Bool.true_or, Bool.and_true]
      cases q.getD k false <;> rfl
    · have e0' : decide (k = 0) = false := decide_eq_false h0
      rw [e0'] at e0 ⊢
      have x2 := bl_at (show k - 1 < q.length by omega)
      have e3 : ((k - 1 : Nat) : Int) = (k : Int) - 1 := by omega
      rw [e3] at x2
      simp -implicitDefEqProofs (disch := omega) only [↓reduceIte, tt__law_bad_3, mAnd_eq, mOr_eq, mNot_eq, mUT_eq, mTest_eq, mB_eq, mVar_eq, mC_eq, List.set_cons_succ, List.set_cons_zero, List.getElem?_cons_succ, gz, slotD_fz, R_bind_ok, x, x2, truth_bl, cmp_eq, eq_ii, e0, blOf_bl, subD_int, Bool.false_or, Bool.false_eq_true]
      cases q.getD k false <;> rfl, fun _ => rfl⟩)
  have e2 : (((List.range w.length).filter fun k => q.getD k false && (decide (k = 0) || !q.getD (k - 1) false)).map fun n : Nat => D.int ((n : Nat) : Int)) = (begL q).map D.int := by
    unfold begL
    rw [List.map_map, hql]; rfl
  rw [e2] at l2
  have lo : forGo (tgName 8) bd__law_bad_12 ((List.range w.length).map fun i : Nat => D.int ((i : Nat) : Int)) [.fz (.tup (.str kd :: .str z :: .int c :: r)), .fz (txt w), .fz (.str kd), .fz (.str z), .fz (.int c), .fz (.lst (q.map D.bl)), .ol [], .fz (.lst ((begL q).map D.int)), .un, .un, .un, .un, .un, .un] = _ := lo
  have par : ∀ ρ : Mir.Env, ρ = [.fz (.tup (.str kd :: .str z :: .int c :: r)), .fz (txt w), .fz (.str kd), .fz (.str z), .fz (.int c), .un, .un, .un, .un, .un, .un, .un, .un, .un] → (sParP 5 6 (mpCons (mpF (mFz (mLc [12] (mSeq anyOf (mVar 1)) (tgName 12) mYes el__law_bad_1))) (mpCons (mpL (mLst mNil)) mpNil))) ρ = .nx [.fz (.tup (.str kd :: .str z :: .int c :: r)), .fz (txt w), .fz (.str kd), .fz (.str z), .fz (.int c), .fz (.lst (q.map D.bl)), .ol [], .un, .un, .un, .un, .un, .un, .un] := fun ρ e => by
    subst e
    have a1 : (mFz (mLc [12] (mSeq anyOf (mVar 1)) (tgName 12) mYes el__law_bad_1)) [.fz (.tup (.str kd :: .str z :: .int c :: r)), .fz (txt w), .fz (.str kd), .fz (.str z), .fz (.int c), .un, .un, .un, .un, .un, .un, .un, .un, .un] = .ok (.lst (q.map D.bl)) := by
      simp -implicitDefEqProofs (disch := omega) only [↓reduceIte, mFz_eq, mLc_eq, mSeq_eq, mVar_eq, List.getElem?_cons_succ, gz, slotD_fz, R_bind_ok, anyOf_txt, List.length_map, ite_yes, wipe_cons, wipe_nil, List.set_cons_succ, List.set_cons_zero, l1, nx_ok']
    have a2 : (mLst mNil) [.fz (.tup (.str kd :: .str z :: .int c :: r)), .fz (txt w), .fz (.str kd), .fz (.str z), .fz (.int c), .un, .un, .un, .un, .un, .un, .un, .un, .un] = .ok [] := by
      simp -implicitDefEqProofs (disch := omega) only [↓reduceIte, mLst_eq, mNil_eq, R_bind_ok, List.length_nil, sizeLine_eq, ite_yes]
    unfold sParP mpCons mpF mpL mpNil
    simp only [a1, a2, R_bind_ok, R_to_ok]
    rfl
  simp -implicitDefEqProofs (disch := omega) only [↓reduceIte, f__law_bad, runD_eq, b__law_bad, Mir.envOf, List.map_cons, List.map_nil, List.replicate, List.append_nil, List.cons_append, List.nil_append, List.length_cons, List.length_nil, sSeq_eq, sSet_eq, sUnp_eq, sFor_eq, sRetO_eq, mSl_eq, mNo_eq, mSome_eq, mC_eq, mVar_eq, intO_int, slD_tup, cutE_t3, List.take, tgTup_eq, tgCons_eq, tgNil_eq, tgName_eq, List.getElem?_cons_succ, gz, slotD_fz, R_bind_ok, R_to_ok, nx_ok', List.set_cons_succ, List.set_cons_zero, seqR_nx, par _ rfl, mFz_eq, mLc_eq, mSeqs_eq, mCall_eq, mCons_eq, mNil_eq, len_txt, rk, List.length_map, List.length_range, ite_yes, wipe_cons, wipe_nil, l2, lo, olS_ol, outR_ret]
/-! ### days and windows, for calendars of any length -/
theorem getD_ge {q : List Bool} {k : Nat} (h : q.length ≤ k) : q.getD k false = false := by
  rw [List.getD_eq_getElem?_getD, List.getElem?_eq_none h]; rfl
theorem mx_is {l : List Int} {m : Int} (h : m ∈ l) (hu : ∀ x ∈ l, x ≤ m) : mx l = m := by
  cases l with
  | nil => cases h
  | cons x r =>
    have a := maxL_le x r m h
    have b := hu _ (maxL_mem x r)
    show maxL x r = m
    omega
/-- a day's truth, away before the first -/
def gq (q : List Bool) (i : Int) : Bool := decide (0 ≤ i) && q.getD i.toNat false
theorem gq_nat (q : List Bool) (k : Nat) : gq q (k : Int) = q.getD k false := by
  unfold gq; rw [decide_eq_true (Int.natCast_nonneg k), Bool.true_and, Int.toNat_natCast]
theorem gq_neg (q : List Bool) {i : Int} (h : i < 0) : gq q i = false := by
  unfold gq; rw [decide_eq_false (by omega), Bool.false_and]
theorem gq_ge (q : List Bool) {i : Int} (h : (q.length : Int) ≤ i) : gq q i = false := by
  unfold gq; rw [getD_ge (by omega), Bool.and_false]
theorem gq_in {q : List Bool} {i : Int} (h : gq q i = true) : 0 ≤ i ∧ i < q.length := by
  constructor
  · by_cases z : 0 ≤ i
    · exact z
    · rw [gq_neg q (by omega)] at h; cases h
  · by_cases z : i < q.length
    · exact z
    · rw [gq_ge q (by omega)] at h; cases h
theorem gq_snoc (q : List Bool) (b : Bool) (i : Int) : gq (q ++ [b]) i = if i = (q.length : Int) then b else gq q i := by
  by_cases h : i = (q.length : Int)
  · rw [if_pos h, h, gq_nat, List.getD_eq_getElem?_getD, List.getElem?_append_right (Nat.le_refl _), Nat.sub_self]; rfl
  · rw [if_neg h]
    by_cases h0 : i < 0
    · rw [gq_neg _ h0, gq_neg _ h0]
    · by_cases h1 : (q.length : Int) < i
      · rw [gq_ge _ (by rw [List.length_append, List.length_singleton]; omega), gq_ge _ (by omega)]
      · unfold gq
        rw [List.getD_eq_getElem?_getD, List.getD_eq_getElem?_getD, List.getElem?_append_left (by omega)]
theorem mem_beg {q : List Bool} {b : Int} : b ∈ begL q ↔ gq q b = true ∧ gq q (b - 1) = false := by
  unfold begL
  constructor
  · intro h
    obtain ⟨k, hk, rfl⟩ := List.mem_map.mp h
    obtain ⟨h1, h2⟩ := List.mem_filter.mp hk
    obtain ⟨h3, h4⟩ := Bool.and_eq_true_iff.mp h2
    refine ⟨by rw [gq_nat]; exact h3, ?_⟩
    by_cases h0 : k = 0
    · exact gq_neg _ (by omega)
    · rw [decide_eq_false h0, Bool.false_or] at h4
      rw [show ((k : Int) - 1) = ((k - 1 : Nat) : Int) by omega, gq_nat]
      simpa using h4
  · intro ⟨h1, h2⟩
    obtain ⟨g0, g1⟩ := gq_in h1
    obtain ⟨k, rfl⟩ := Int.eq_ofNat_of_zero_le g0
    rw [gq_nat] at h1
    refine List.mem_map.mpr ⟨k, List.mem_filter.mpr ⟨List.mem_range.mpr (by omega), ?_⟩, rfl⟩
    rw [h1, Bool.true_and]
    by_cases h0 : k = 0
    · rw [decide_eq_true h0, Bool.true_or]
    · rw [show ((k : Int) - 1) = ((k - 1 : Nat) : Int) by omega, gq_nat] at h2
      rw [h2, decide_eq_false h0]; rfl
theorem mem_held {q : List Bool} {b : Int} : b ∈ heldN q ↔ gq q b = true := by
  unfold heldN
  constructor
  · intro h
    obtain ⟨k, hk, rfl⟩ := List.mem_map.mp h
    rw [gq_nat]; exact (List.mem_filter.mp hk).2
  · intro h1
    obtain ⟨g0, g1⟩ := gq_in h1
    obtain ⟨k, rfl⟩ := Int.eq_ofNat_of_zero_le g0
    rw [gq_nat] at h1
    exact List.mem_map.mpr ⟨k, List.mem_filter.mpr ⟨List.mem_range.mpr (by omega), h1⟩, rfl⟩
theorem win_gq (q : List Bool) {k : Nat} (h : k < q.length) : win q k = [gq q ((k : Int) - 5), gq q ((k : Int) - 4), gq q ((k : Int) - 3), gq q ((k : Int) - 2), gq q ((k : Int) - 1), gq q (k : Int)] := by
  have key : ∀ j : Nat, j < q.length + 5 → (List.replicate 5 false ++ q)[j]? = some (gq q ((j : Int) - 5)) := fun j hj => by
    by_cases h5 : j < 5
    · rw [List.getElem?_append_left (by simpa using h5), List.getElem?_replicate, if_pos h5, gq_neg _ (by omega)]
    · rw [List.getElem?_append_right (by simpa using Nat.le_of_not_lt h5), List.length_replicate, show ((j : Int) - 5) = ((j - 5 : Nat) : Int) by omega, gq_nat, List.getD_eq_getElem?_getD, List.getElem?_eq_getElem (by omega)]; rfl
  have kk : ∀ i : Nat, i < 6 → (win q k)[i]? = some (gq q ((k : Int) + i - 5)) := fun i hi => by
    unfold win
    rw [List.getElem?_take, if_pos hi, List.getElem?_drop, key (k + i) (by omega)]
    congr 2
  apply List.ext_getElem?
  intro i
  match i with
  | 0 => rw [kk 0 (by omega)]; show some _ = some _; congr 2
  | 1 => rw [kk 1 (by omega)]; show some _ = some _; congr 2; omega
  | 2 => rw [kk 2 (by omega)]; show some _ = some _; congr 2; omega
  | 3 => rw [kk 3 (by omega)]; show some _ = some _; congr 2; omega
  | 4 => rw [kk 4 (by omega)]; show some _ = some _; congr 2; omega
  | 5 => rw [kk 5 (by omega)]; show some _ = some _; congr 2; omega
  | i + 6 =>
    rw [List.getElem?_eq_none (by unfold win; rw [List.length_take]; omega)]
    rfl
/-- counting -/
def Mk (n : Nat) (p : Nat → Bool) : List Int := ((List.range n).filter p).map fun k : Nat => (k : Int)
theorem within_app (x y : List Int) (a b : Int) : within (x ++ y) a b = within x a b + within y a b := by
  unfold within; rw [List.filter_append, List.length_append]
theorem within_one (x a b : Int) : within [x] a b = (decide (a ≤ x) && decide (x ≤ b)).toNat := by
  unfold within
  rw [List.filter_cons]
  cases (decide (a ≤ x) && decide (x ≤ b)) <;> rfl
theorem Mk_succ (n : Nat) (p : Nat → Bool) : Mk (n + 1) p = Mk n p ++ if p n = true then [(n : Int)] else [] := by
  unfold Mk
  rw [List.range_succ, List.filter_append, List.map_append]
  congr 1
  rw [List.filter_cons]
  cases p n <;> rfl
def pI (n : Nat) (p : Nat → Bool) (i : Int) : Bool := decide (0 ≤ i) && (decide (i < n) && p i.toNat)
theorem pI_succ (n : Nat) (p : Nat → Bool) (i : Int) : (pI (n + 1) p i).toNat = (pI n p i).toNat + (decide (i = n) && p n).toNat := by
  unfold pI
  by_cases h : i = n
  · subst h
    rw [decide_eq_true (show (0 : Int) ≤ (n : Int) by omega), decide_eq_true (show (n : Int) < ((n + 1 : Nat) : Int) by omega), decide_eq_false (show ¬ (n : Int) < (n : Int) by omega), Int.toNat_natCast]
    simp
  · rw [decide_eq_false h, show decide (i < ((n + 1 : Nat) : Int)) = decide (i < (n : Int)) from decide_eq_decide.mpr (by omega)]
    simp
theorem within_step : ∀ (n : Nat) (p : Nat → Bool) (a k : Int), a ≤ k → within (Mk n p) a k = (pI n p a).toNat + within (Mk n p) (a + 1) k
  | 0, p, a, k, h => by
    have : pI 0 p a = false := by
      unfold pI
      by_cases z : 0 ≤ a
      · rw [decide_eq_false (show ¬ a < ((0 : Nat) : Int) by omega)]; simp
      · rw [decide_eq_false z]; rfl
    rw [this]; rfl
  | n + 1, p, a, k, h => by
    have ih := within_step n p a k h
    rw [Mk_succ, within_app, within_app, ih, pI_succ]
    cases hp : p n with
    | false => rw [if_neg Bool.false_ne_true, Bool.and_false]; show _ + 0 = _ + 0 + (_ + 0); omega
    | true =>
      rw [if_pos rfl, within_one, within_one, Bool.and_true]
      by_cases e : a = n
      · rw [decide_eq_true (show a ≤ (n : Int) by omega), decide_eq_true e, decide_eq_false (show ¬ a + 1 ≤ (n : Int) by omega), decide_eq_true (show (n : Int) ≤ k by omega)]
        simp; omega
      · rw [decide_eq_false e, show decide (a + 1 ≤ (n : Int)) = decide (a ≤ (n : Int)) from decide_eq_decide.mpr (by omega)]
        simp; omega
theorem within_end (mk : List Int) (k : Int) : within mk (k + 1) k = 0 := by
  unfold within
  rw [List.filter_eq_nil_iff.mpr]; · rfl
  intro x _ h
  obtain ⟨h1, h2⟩ := Bool.and_eq_true_iff.mp h
  have := of_decide_eq_true h1
  have := of_decide_eq_true h2
  omega
theorem held_Mk (q : List Bool) : heldN q = Mk q.length fun n => q.getD n false := rfl
theorem beg_Mk (q : List Bool) : begL q = Mk q.length fun k => q.getD k false && (decide (k = 0) || !q.getD (k - 1) false) := rfl
theorem pI_held (q : List Bool) (i : Int) : pI q.length (fun n => q.getD n false) i = gq q i := by
  unfold pI gq
  by_cases h : i < q.length
  · rw [decide_eq_true h, Bool.true_and]
  · rw [show (fun n => q.getD n false) i.toNat = q.getD i.toNat false from rfl, getD_ge (by omega)]; simp
theorem pI_beg (q : List Bool) (i : Int) : pI q.length (fun k => q.getD k false && (decide (k = 0) || !q.getD (k - 1) false)) i = (gq q i && !gq q (i - 1)) := by
  by_cases h0 : 0 ≤ i
  · obtain ⟨k, rfl⟩ := Int.eq_ofNat_of_zero_le h0
    unfold pI
    rw [gq_nat, decide_eq_true h0, Bool.true_and, Int.toNat_natCast]
    show (decide ((k : Int) < (q.length : Int)) && (q.getD k false && (decide (k = 0) || !q.getD (k - 1) false))) = _
    by_cases h : k < q.length
    · rw [decide_eq_true (show (k : Int) < (q.length : Int) by omega), Bool.true_and]
      by_cases z : k = 0
      · rw [decide_eq_true z, gq_neg _ (by omega)]; rfl
      · rw [decide_eq_false z, show ((k : Int) - 1) = ((k - 1 : Nat) : Int) by omega, gq_nat]; rfl
    · rw [getD_ge (by omega), Bool.false_and, Bool.false_and, Bool.and_false]
  · rw [gq_neg _ (by omega)]; unfold pI; rw [decide_eq_false h0]; rfl
theorem cnt_cons (b : Bool) (r : List Bool) : cnt (b :: r) = b.toNat + cnt r := by
  unfold Mir.cnt
  rw [List.filter_cons]
  cases b
  · rw [if_neg (by simp)]; simp
  · rw [if_pos (by rfl), List.length_cons]; simp; omega
theorem cnt_nil : cnt [] = 0 := rfl
theorem held_win (q : List Bool) {k : Nat} (h : k < q.length) (s : Nat) (h1 : 1 ≤ s) (h6 : s ≤ 6) : within (heldN q) ((k : Int) - (s : Int) + 1) k = cnt ((win q k).drop (6 - s)) := by
  have st : ∀ a : Int, a ≤ k → within (heldN q) a k = (gq q a).toNat + within (heldN q) (a + 1) k := fun a ha => by rw [← pI_held, held_Mk]; exact within_step _ _ _ _ ha
  have en := within_end (heldN q) k
  have t1 := st ((k : Int) - 1 + 1) (by omega)
  have t2 := st ((k : Int) - 2 + 1) (by omega)
  have t3 := st ((k : Int) - 3 + 1) (by omega)
  have t4 := st ((k : Int) - 4 + 1) (by omega)
  have t5 := st ((k : Int) - 5 + 1) (by omega)
  have t6 := st ((k : Int) - 6 + 1) (by omega)
  rw [show (k : Int) - 1 + 1 = k by omega] at t1
  rw [show (k : Int) - 2 + 1 = k - 1 by omega, show (k : Int) - 1 + 1 = k by omega] at t2
  rw [show (k : Int) - 3 + 1 = k - 2 by omega, show (k : Int) - 2 + 1 = k - 1 by omega] at t3
  rw [show (k : Int) - 4 + 1 = k - 3 by omega, show (k : Int) - 3 + 1 = k - 2 by omega] at t4
  rw [show (k : Int) - 5 + 1 = k - 4 by omega, show (k : Int) - 4 + 1 = k - 3 by omega] at t5
  rw [show (k : Int) - 6 + 1 = k - 5 by omega, show (k : Int) - 5 + 1 = k - 4 by omega] at t6
  rw [win_gq q h]
  have : s = 1 ∨ s = 2 ∨ s = 3 ∨ s = 4 ∨ s = 5 ∨ s = 6 := by omega
  rcases this with rfl | rfl | rfl | rfl | rfl | rfl
  · rw [show (k : Int) - ((1 : Nat) : Int) + 1 = k by omega]; simp only [Nat.reduceSub, List.drop_succ_cons, List.drop_zero, cnt_cons, cnt_nil]; omega
  · rw [show (k : Int) - ((2 : Nat) : Int) + 1 = k - 1 by omega]; simp only [Nat.reduceSub, List.drop_succ_cons, List.drop_zero, cnt_cons, cnt_nil]; omega
  · rw [show (k : Int) - ((3 : Nat) : Int) + 1 = k - 2 by omega]; simp only [Nat.reduceSub, List.drop_succ_cons, List.drop_zero, cnt_cons, cnt_nil]; omega
  · rw [show (k : Int) - ((4 : Nat) : Int) + 1 = k - 3 by omega]; simp only [Nat.reduceSub, List.drop_succ_cons, List.drop_zero, cnt_cons, cnt_nil]; omega
  · rw [show (k : Int) - ((5 : Nat) : Int) + 1 = k - 4 by omega]; simp only [Nat.reduceSub, List.drop_succ_cons, List.drop_zero, cnt_cons, cnt_nil]; omega
  · rw [show (k : Int) - ((6 : Nat) : Int) + 1 = k - 5 by omega]; simp only [Nat.reduceSub, List.drop_succ_cons, List.drop_zero, cnt_cons, cnt_nil]; omega
theorem beg_win (q : List Bool) {k : Nat} (h : k < q.length) (s : Nat) (h1 : 1 ≤ s) (h6 : s ≤ 5) : within (begL q) ((k : Int) - (s : Int) + 1) k = cnt ((beg (win q k)).drop (5 - s)) := by
  have st : ∀ a : Int, a ≤ k → within (begL q) a k = (gq q a && !gq q (a - 1)).toNat + within (begL q) (a + 1) k := fun a ha => by rw [← pI_beg, beg_Mk]; exact within_step _ _ _ _ ha
  have en := within_end (begL q) k
  have t1 := st ((k : Int) - 1 + 1) (by omega)
  have t2 := st ((k : Int) - 2 + 1) (by omega)
  have t3 := st ((k : Int) - 3 + 1) (by omega)
  have t4 := st ((k : Int) - 4 + 1) (by omega)
  have t5 := st ((k : Int) - 5 + 1) (by omega)
  rw [show (k : Int) - 1 + 1 = k by omega] at t1
  rw [show (k : Int) - 2 + 1 = k - 1 by omega, show (k : Int) - 1 + 1 = k by omega, show (k : Int) - 1 - 1 = k - 2 by omega] at t2
  rw [show (k : Int) - 3 + 1 = k - 2 by omega, show (k : Int) - 2 + 1 = k - 1 by omega, show (k : Int) - 2 - 1 = k - 3 by omega] at t3
  rw [show (k : Int) - 4 + 1 = k - 3 by omega, show (k : Int) - 3 + 1 = k - 2 by omega, show (k : Int) - 3 - 1 = k - 4 by omega] at t4
  rw [show (k : Int) - 5 + 1 = k - 4 by omega, show (k : Int) - 4 + 1 = k - 3 by omega, show (k : Int) - 4 - 1 = k - 5 by omega] at t5
  rw [win_gq q h]
  unfold beg
  simp only [List.tail_cons, List.zipWith_cons_cons, List.zipWith_nil_right]
  have : s = 1 ∨ s = 2 ∨ s = 3 ∨ s = 4 ∨ s = 5 := by omega
  rcases this with rfl | rfl | rfl | rfl | rfl
  · rw [show (k : Int) - ((1 : Nat) : Int) + 1 = k by omega]; simp only [Nat.reduceSub, List.drop_succ_cons, List.drop_zero, cnt_cons, cnt_nil]; omega
  · rw [show (k : Int) - ((2 : Nat) : Int) + 1 = k - 1 by omega]; simp only [Nat.reduceSub, List.drop_succ_cons, List.drop_zero, cnt_cons, cnt_nil]; omega
  · rw [show (k : Int) - ((3 : Nat) : Int) + 1 = k - 2 by omega]; simp only [Nat.reduceSub, List.drop_succ_cons, List.drop_zero, cnt_cons, cnt_nil]; omega
  · rw [show (k : Int) - ((4 : Nat) : Int) + 1 = k - 3 by omega]; simp only [Nat.reduceSub, List.drop_succ_cons, List.drop_zero, cnt_cons, cnt_nil]; omega
  · rw [show (k : Int) - ((5 : Nat) : Int) + 1 = k - 4 by omega]; simp only [Nat.reduceSub, List.drop_succ_cons, List.drop_zero, cnt_cons, cnt_nil]; omega
theorem fst1_spec (q : List Bool) : ∀ k : Nat, gq q k = true → ∃ j : Nat, j ≤ k ∧ fst1 q k = j ∧ (∀ i : Int, (j : Int) ≤ i → i ≤ k → gq q i = true) ∧ gq q ((j : Int) - 1) = false := by
  intro k hk
  have ex : ∀ k : Nat, gq q k = true → ∃ j : Nat, j ≤ k ∧ (∀ i : Int, (j : Int) ≤ i → i ≤ k → gq q i = true) ∧ gq q ((j : Int) - 1) = false := fun k => by
    induction k with
    | zero => exact fun h => ⟨0, Nat.le_refl _, fun i h1 h2 => by rw [show i = ((0 : Nat) : Int) by omega]; exact h, gq_neg _ (by omega)⟩
    | succ k ih =>
      intro h
      cases hp : gq q (k : Int) with
      | true =>
        obtain ⟨j, h1, h2, h3⟩ := ih hp
        refine ⟨j, by omega, fun i g1 g2 => ?_, h3⟩
        by_cases e : i = ((k + 1 : Nat) : Int)
        · rw [e]; exact h
        · exact h2 i g1 (by omega)
      | false => exact ⟨k + 1, Nat.le_refl _, fun i g1 g2 => by rw [show i = ((k + 1 : Nat) : Int) by omega]; exact h, by rw [show (((k + 1 : Nat) : Int) - 1) = (k : Int) by omega]; exact hp⟩
  obtain ⟨j, h1, h2, h3⟩ := ex k hk
  refine ⟨j, h1, ?_, h2, h3⟩
  unfold fst1
  refine mx_is (List.mem_filter.mpr ⟨mem_beg.mpr ⟨h2 j (by omega) (by omega), h3⟩, decide_eq_true (by omega)⟩) fun x hx => ?_
  obtain ⟨g1, g2⟩ := List.mem_filter.mp hx
  obtain ⟨g3, g4⟩ := mem_beg.mp g1
  have g2 := of_decide_eq_true g2
  by_cases z : x ≤ j
  · exact z
  · rw [h2 (x - 1) (by omega) (by omega)] at g4; cases g4
theorem rowD1_gq (c : Nat) (q : List Bool) (k : Nat) : (!(rowD1 c q k).isEmpty) = true ↔ ∀ i : Int, (k : Int) - c ≤ i → i ≤ k → gq q i = true := by
  unfold rowD1
  rw [← gq_nat]
  cases hk : gq q (k : Int) with
  | false => rw [if_neg Bool.false_ne_true]; exact ⟨fun h => (by cases h), fun h => by have := h k (by omega) (by omega); rw [hk] at this; cases this⟩
  | true =>
    obtain ⟨j, h1, h2, h3, h4⟩ := fst1_spec q k hk
    rw [if_pos rfl, h2]
    by_cases hc : (c : Int) ≤ (k : Int) - j
    · rw [if_pos hc]
      exact ⟨fun _ i g1 g2 => h3 i (by omega) g2, fun _ => rfl⟩
    · rw [if_neg hc]
      refine ⟨fun h => (by cases h), fun h => ?_⟩
      rw [h ((j : Int) - 1) (by omega) (by omega)] at h4; cases h4
theorem mem_take_gq (q : List Bool) (k : Nat) : true ∈ q.take k ↔ ∃ n : Nat, n < k ∧ gq q n = true := by
  constructor
  · intro h
    obtain ⟨n, hn, e⟩ := List.mem_iff_getElem.mp h
    rw [List.length_take] at hn
    refine ⟨n, by omega, ?_⟩
    rw [gq_nat, List.getD_eq_getElem?_getD, List.getElem?_eq_getElem (by omega)]
    rw [List.getElem_take] at e
    exact e
  · intro ⟨n, hn, e⟩
    have hl := (gq_in e).2
    rw [gq_nat, List.getD_eq_getElem?_getD, List.getElem?_eq_getElem (by omega)] at e
    exact List.mem_iff_getElem.mpr ⟨n, by rw [List.length_take]; omega, by rw [List.getElem_take]; exact e⟩
theorem fin1_spec (q : List Bool) (k : Nat) (h : ∃ n : Nat, n < k ∧ gq q n = true) : ∃ m : Nat, fin1 q k = m ∧ m < k ∧ gq q m = true ∧ ∀ n : Nat, n < k → gq q n = true → n ≤ m := by
  have ex : ∀ k : Nat, (∃ n : Nat, n < k ∧ gq q n = true) → ∃ m : Nat, m < k ∧ gq q m = true ∧ ∀ n : Nat, n < k → gq q n = true → n ≤ m := fun k => by
    induction k with
    | zero => exact fun ⟨n, h, _⟩ => absurd h (Nat.not_lt_zero _)
    | succ k ih =>
      intro ⟨n, h1, h2⟩
      cases hp : gq q (k : Int) with
      | true => exact ⟨k, by omega, hp, fun n hn _ => by omega⟩
      | false =>
        have hn : n ≠ k := fun e => by rw [e, hp] at h2; cases h2
        obtain ⟨m, g1, g2, g3⟩ := ih ⟨n, by omega, h2⟩
        refine ⟨m, by omega, g2, fun x hx hg => ?_⟩
        have : x ≠ k := fun e => by rw [e, hp] at hg; cases hg
        exact g3 x (by omega) hg
  obtain ⟨m, h1, h2, h3⟩ := ex k h
  refine ⟨m, ?_, h1, h2, h3⟩
  unfold fin1
  refine mx_is (List.mem_map.mpr ⟨m, List.mem_filter.mpr ⟨List.mem_range.mpr h1, by rw [← gq_nat]; exact h2⟩, rfl⟩) fun x hx => ?_
  obtain ⟨n, hn, rfl⟩ := List.mem_map.mp hx
  obtain ⟨g1, g2⟩ := List.mem_filter.mp hn
  have := h3 n (List.mem_range.mp g1) (by rw [gq_nat]; exact g2)
  omega
theorem gapD1_gq (c : Nat) (q : List Bool) (k : Nat) : (!(gapD1 c q k).isEmpty) = true ↔ gq q k = true ∧ gq q ((k : Int) - 1) = false ∧ ∃ i : Int, (k : Int) - c ≤ i ∧ i < k ∧ gq q i = true := by
  unfold gapD1
  rw [← gq_nat]
  cases hk : gq q (k : Int) with
  | false => rw [if_neg Bool.false_ne_true]; exact ⟨fun h => (by cases h), fun h => nomatch h.1⟩
  | true =>
    obtain ⟨j, h1, h2, h3, h4⟩ := fst1_spec q k hk
    rw [if_pos rfl, h2]
    by_cases hj : j = k
    · subst hj
      rw [decide_eq_true rfl, Bool.true_and]
      by_cases hm : ∃ n : Nat, n < j ∧ gq q n = true
      · obtain ⟨m, g1, g2, g3, g4⟩ := fin1_spec q j hm
        rw [decide_eq_true (show 0 < j by omega), decide_eq_true ((mem_take_gq q j).mpr hm), if_pos (by rfl), g1]
        by_cases hc : (j : Int) - m - 1 < c
        · rw [if_pos hc]
          exact ⟨fun _ => ⟨rfl, h4, m, by omega, by omega, g3⟩, fun _ => rfl⟩
        · rw [if_neg hc]
          refine ⟨fun h => (by cases h), fun ⟨_, _, i, e1, e2, e3⟩ => ?_⟩
          obtain ⟨i0, _⟩ := gq_in e3
          obtain ⟨i, rfl⟩ := Int.eq_ofNat_of_zero_le i0
          have := g4 i (by omega) e3
          omega
      · rw [decide_eq_false (fun z => hm ((mem_take_gq q j).mp z)), Bool.and_false, if_neg Bool.false_ne_true]
        refine ⟨fun h => (by cases h), fun ⟨_, _, i, e1, e2, e3⟩ => ?_⟩
        obtain ⟨i0, _⟩ := gq_in e3
        obtain ⟨i, rfl⟩ := Int.eq_ofNat_of_zero_le i0
        exact absurd ⟨i, by omega, e3⟩ hm
    · rw [decide_eq_false (by omega), Bool.false_and, if_neg Bool.false_ne_true]
      refine ⟨fun h => (by cases h), fun ⟨_, e, _⟩ => ?_⟩
      rw [h3 ((k : Int) - 1) (by omega) (by omega)] at e; cases e
theorem pbR_gq (c : Nat) (hc : c ≤ 5) (q : List Bool) {k : Nat} (h : k < q.length) : pbR c (win q k) = true ↔ ∀ i : Int, (k : Int) - c ≤ i → i ≤ k → gq q i = true := by
  rw [win_gq q h]
  unfold pbR
  rw [List.all_eq_true]
  have : c = 0 ∨ c = 1 ∨ c = 2 ∨ c = 3 ∨ c = 4 ∨ c = 5 := by omega
  constructor
  · intro g i h1 h2
    have e : i = k - 5 ∨ i = k - 4 ∨ i = k - 3 ∨ i = k - 2 ∨ i = k - 1 ∨ i = k := by omega
    refine g (gq q i) ?_
    rcases this with rfl | rfl | rfl | rfl | rfl | rfl <;> rcases e with rfl | rfl | rfl | rfl | rfl | rfl <;> first | omega | simp only [Nat.reduceSub, List.drop_succ_cons, List.drop_zero, List.mem_cons, true_or, or_true]
  · intro g x hx
    rcases this with rfl | rfl | rfl | rfl | rfl | rfl <;> simp only [Nat.reduceSub, List.drop_succ_cons, List.drop_zero, List.mem_cons, List.not_mem_nil, or_false] at hx
    · subst hx; exact g _ (by omega) (by omega)
    · rcases hx with rfl | rfl <;> exact g _ (by omega) (by omega)
    · rcases hx with rfl | rfl | rfl <;> exact g _ (by omega) (by omega)
    · rcases hx with rfl | rfl | rfl | rfl <;> exact g _ (by omega) (by omega)
    · rcases hx with rfl | rfl | rfl | rfl | rfl <;> exact g _ (by omega) (by omega)
    · rcases hx with rfl | rfl | rfl | rfl | rfl | rfl <;> exact g _ (by omega) (by omega)
theorem pbG_gq (c : Nat) (hc : c ≤ 5) (q : List Bool) {k : Nat} (h : k < q.length) : pbG c (win q k) = true ↔ gq q k = true ∧ gq q ((k : Int) - 1) = false ∧ ∃ i : Int, (k : Int) - c ≤ i ∧ i < k ∧ gq q i = true := by
  rw [win_gq q h]
  unfold pbG lastBeg beg
  simp only [List.tail_cons, List.zipWith_cons_cons, List.zipWith_nil_right]
  rw [show ∀ a b c d e : Bool, [a, b, c, d, e].getLastD false = e from fun _ _ _ _ _ => rfl, Bool.and_eq_true, Bool.and_eq_true, Bool.not_eq_true', and_assoc]
  refine and_congr_right fun _ => and_congr_right fun _ => ?_
  rw [List.any_eq_true]
  have : c = 0 ∨ c = 1 ∨ c = 2 ∨ c = 3 ∨ c = 4 ∨ c = 5 := by omega
  constructor
  · rintro ⟨x, hx, e⟩
    rcases this with rfl | rfl | rfl | rfl | rfl | rfl <;> simp only [Nat.reduceSub, List.drop_succ_cons, List.drop_zero, List.take_succ_cons, List.take_zero, List.mem_cons, List.not_mem_nil, or_false] at hx
    · rcases hx with rfl <;> exact ⟨_, by omega, by omega, e⟩
    · rcases hx with rfl | rfl <;> exact ⟨_, by omega, by omega, e⟩
    · rcases hx with rfl | rfl | rfl <;> exact ⟨_, by omega, by omega, e⟩
    · rcases hx with rfl | rfl | rfl | rfl <;> exact ⟨_, by omega, by omega, e⟩
    · rcases hx with rfl | rfl | rfl | rfl | rfl <;> exact ⟨_, by omega, by omega, e⟩
  · rintro ⟨i, h1, h2, e⟩
    have z : i = k - 5 ∨ i = k - 4 ∨ i = k - 3 ∨ i = k - 2 ∨ i = k - 1 := by omega
    refine ⟨gq q i, ?_, e⟩
    rcases this with rfl | rfl | rfl | rfl | rfl | rfl <;> rcases z with rfl | rfl | rfl | rfl | rfl <;> first | omega | simp only [Nat.reduceSub, List.drop_succ_cons, List.drop_zero, List.take_succ_cons, List.take_zero, List.mem_cons, true_or, or_true]
theorem row_pb (c : Nat) (hc : c ≤ 5) (q : List Bool) {k : Nat} (h : k < q.length) : (!(rowD1 c q k).isEmpty) = pbR c (win q k) := by
  rw [Bool.eq_iff_iff, rowD1_gq, pbR_gq c hc q h]
theorem gap_pb (c : Nat) (hc : c ≤ 5) (q : List Bool) {k : Nat} (h : k < q.length) : (!(gapD1 c q k).isEmpty) = pbG c (win q k) := by
  rw [Bool.eq_iff_iff, gapD1_gq, pbG_gq c hc q h]
/-! ### what the law finds broken, and the windows -/
def lawRow (c : Int) (q : List Bool) : List (Int × Int) := (List.range q.length).flatMap (rowD1 c q)
def lawGap (c : Int) (q : List Bool) : List (Int × Int) := (List.range q.length).flatMap (gapD1 c q)
def lawCnt (mk : List Int) (c s : Int) (n : Nat) : List (Int × Int) := (List.range n).flatMap (cntD1 mk c s)
def badQ (d : D) (q : List Bool) : List (Int × Int) := match d with
  | .tup [.str k, _, .int c] => if k = "row" then lawRow c q else lawGap c q
  | .tup [.str k, _, .int c, .int s] => lawCnt (if k = "starts" then begL q else heldN q) c s q.length
  | _ => []
theorem rowD1_len (c : Int) (q : List Bool) (k : Nat) : (rowD1 c q k).length ≤ 1 := by
  unfold rowD1
  repeat' split
  all_goals simp
theorem gapD1_len (c : Int) (q : List Bool) (k : Nat) : (gapD1 c q k).length ≤ 1 := by
  unfold gapD1
  repeat' split
  all_goals simp
theorem cntD1_len (mk : List Int) (c s : Int) (k : Nat) : (cntD1 mk c s k).length ≤ 1 := by unfold cntD1; split <;> simp
def zOf : D → Str
  | .tup (_ :: .str z :: _) => z
  | _ => ""
theorem flat_nil {α : Type} (f : Nat → List α) (n : Nat) (b : Nat → Bool) (h : ∀ k, k < n → b k = !(f k).isEmpty) : ((List.range n).flatMap f).isEmpty = !(List.range n).any b := by
  have : ∀ l : List Nat, (∀ k ∈ l, k < n) → (l.flatMap f).isEmpty = !l.any b := fun l => by
    induction l with
    | nil => intro _; rfl
    | cons x r ih =>
      intro hl
      rw [List.flatMap_cons, List.any_cons, Bool.not_or, ← ih fun k hk => hl k (.tail _ hk), h x (hl x (.head _)), Bool.not_not]
      cases f x <;> rfl
  exact this _ fun k hk => List.mem_range.mp hk
theorem lawbad_ok {two : Bool} {d : D} (h : isLim two d) (w : List Nat) (hw : w.length ≤ 60) : f__law_bad [d, txt w] = .ok (.lst ((badQ d (w.map (inz (zOf d)))).map pr2)) ∧
    (badQ d (w.map (inz (zOf d)))).isEmpty = !(List.range w.length).any fun k => brk d (winN w k) := by
  have hdot : ∀ z ∈ zl two, inz z 46 = false := by cases two <;> decide +kernel
  have hq : ∀ z, (w.map (inz z)).length = w.length := fun z => List.length_map _
  have hW : ∀ z, lenF [txt w] = .ok (.int ((w.map (inz z)).length : Nat)) := fun z => by rw [hq]; exact len_txt w (by omega)
  have bv : ∀ {v : List Nat} {b : Bool} {d : D}, f__breaks [d, txt v] = .ok (.bl b) → brk d v = b := fun e => by unfold brk; rw [e]
  obtain ⟨z, hz, ⟨c, s, h1, h2, h3, h4, rfl⟩ | ⟨c, h1, h2, rfl⟩ | ⟨c, h1, h2, rfl⟩ | ⟨c, s, h1, h2, h3, h4, rfl⟩⟩ := h
  · constructor
    · have a := bad_head "most" z c [.int s] w (by omega) (cntD1 (heldN (w.map (inz z))) c s) (cntD1_len _ _ _) fun acc ha k hk s9 s10 s11 => cnt_step (txt w) z c s (w.map (inz z)) (by rw [hq]; omega) (hW z) false acc ha k hk s9 s10 s11
      rw [← hq z] at a
      exact a
    · obtain ⟨s, rfl⟩ := Int.eq_ofNat_of_zero_le (show 0 ≤ s by omega)
      show ((List.range (w.map (inz z)).length).flatMap (cntD1 (heldN (w.map (inz z))) c s)).isEmpty = _
      rw [hq]
      refine flat_nil _ _ _ fun k hk => ?_
      rw [bv (breaks_most z c s _ (winN_len hk) (by omega) (by omega)), win_map (hdot z hz)]
      have o := held_win (w.map (inz z)) (by rw [hq]; exact hk) s (by omega) (by omega)
      unfold pbM cntD1
      rw [← o]
      by_cases q : c < (within (heldN (w.map (inz z))) ((k : Int) - (s : Int) + 1) k : Nat)
      · rw [decide_eq_true q, if_pos q]; rfl
      · rw [decide_eq_false q, if_neg q]; rfl
  · constructor
    · have a := bad_head "row" z c [] w (by omega) (rowD1 c (w.map (inz z))) (rowD1_len _ _) fun acc ha k hk s9 s10 s11 => row_step _ (txt w) z c (w.map (inz z)) (by rw [hq]; omega) (hW z) acc ha k hk s9 s10 s11
      rw [← hq z] at a
      exact a
    · obtain ⟨c, rfl⟩ := Int.eq_ofNat_of_zero_le (show 0 ≤ c by omega)
      show ((List.range (w.map (inz z)).length).flatMap (rowD1 c (w.map (inz z)))).isEmpty = _
      rw [hq]
      refine flat_nil _ _ _ fun k hk => ?_
      rw [bv (breaks_row z c _ (winN_len hk) (by omega)), win_map (hdot z hz)]
      exact (row_pb c (by omega) _ (by rw [hq]; exact hk)).symm
  · constructor
    · have a := bad_head "gap" z c [] w (by omega) (gapD1 c (w.map (inz z))) (gapD1_len _ _) fun acc ha k hk s9 s10 s11 => gap_step _ (txt w) z c (w.map (inz z)) (by rw [hq]; omega) (hW z) acc ha k hk s9 s10 s11
      rw [← hq z] at a
      exact a
    · obtain ⟨c, rfl⟩ := Int.eq_ofNat_of_zero_le (show 0 ≤ c by omega)
      show ((List.range (w.map (inz z)).length).flatMap (gapD1 c (w.map (inz z)))).isEmpty = _
      rw [hq]
      refine flat_nil _ _ _ fun k hk => ?_
      rw [bv (breaks_gap z c _ (winN_len hk) (by omega)), win_map (hdot z hz)]
      exact (gap_pb c (by omega) _ (by rw [hq]; exact hk)).symm
  · constructor
    · have a := bad_head "starts" z c [.int s] w (by omega) (cntD1 (begL (w.map (inz z))) c s) (cntD1_len _ _ _) fun acc ha k hk s9 s10 s11 => cnt_step (txt w) z c s (w.map (inz z)) (by rw [hq]; omega) (hW z) true acc ha k hk s9 s10 s11
      rw [← hq z] at a
      exact a
    · obtain ⟨s, rfl⟩ := Int.eq_ofNat_of_zero_le (show 0 ≤ s by omega)
      show ((List.range (w.map (inz z)).length).flatMap (cntD1 (begL (w.map (inz z))) c s)).isEmpty = _
      rw [hq]
      refine flat_nil _ _ _ fun k hk => ?_
      rw [bv (breaks_starts z c s _ (winN_len hk) (by omega) (by omega)), win_map (hdot z hz)]
      have o := beg_win (w.map (inz z)) (by rw [hq]; exact hk) s (by omega) (by omega)
      unfold pbS cntD1
      rw [← o]
      by_cases q : c < (within (begL (w.map (inz z))) ((k : Int) - (s : Int) + 1) k : Nat)
      · rw [decide_eq_true q, if_pos q]; rfl
      · rw [decide_eq_false q, if_neg q]; rfl
theorem pairs_shp (ps : List (Int × Int)) : shp (.lst (ps.map pr2)) = true := pl_shp (n := 3) (pl_lst fun d hd => by
  obtain ⟨x, _, rfl⟩ := List.mem_map.mp hd
  exact pl_tup fun d hd => by
    simp only [List.mem_cons, List.not_mem_nil, or_false] at hd
    rcases hd with rfl | rfl <;> exact pl_int _) (by omega)
theorem fine_ok {two : Bool} {ls : List D} (h : ∀ d ∈ ls, isLim two d) (hl : ls.length ≤ 4) (w : List Nat) (hw : w.length ≤ 60) : f__law_fine [bk two ls, txt w] = .ok (.bl (alw ls w)) := by
  have lg := lcGo_fm (mt := tgName 2) (tt := tt__law_fine_2) (me := el__law_fine_1) (ρ := [.fz (bk two ls), .fz (txt w), .un]) id id (fun d => (List.range w.length).any fun k => brk d (winN w k)) ls (fun d hd => ⟨[.fz (bk two ls), .fz (txt w), .fz d], rfl, by
    obtain ⟨e1, e2⟩ := lawbad_ok (h d hd) w hw
    have e3 := ne_nil (pairs_shp (badQ d (w.map (inz (zOf d)))))
    rw [List.isEmpty_map, e2, Bool.not_not] at e3
    simp -implicitDefEqProofs (disch := omega) only [↓reduceIte, tt__law_fine_2, mTest_eq, mB_eq, mFn_eq, mFz_eq, mLst_eq, mCons_eq, mNil_eq, mVar_eq, List.getElem?_cons_succ, gz, slotD_fz, R_bind_ok, List.length_cons, List.length_nil, sizeLine_eq, ite_yes, e1, cmp_ne, e3, blOf_bl], fun _ => rfl⟩)
  rw [List.map_id, List.map_id] at lg
  have en := eq_lims_nil (two := two) (ls.filter fun d => (List.range w.length).any fun k => brk d (winN w k)) (filter_lims h _)
  rw [filter_empty] at en
  have x1 : ixD (bk two ls) (.int 1) = .ok (.tup ls) := id rfl
  have ll : ls.length ≤ 1000000 := by omega
  have fin : (!ls.any fun d => (List.range w.length).any fun k => brk d (winN w k)) = alw ls w := by
    rw [Bool.eq_iff_iff, alw_iff, Bool.not_eq_true', List.any_eq_false]
    constructor
    · intro g k hk d hd
      have := g d hd
      rw [Bool.not_eq_true, List.any_eq_false] at this
      exact Bool.eq_false_iff.mpr (this k (List.mem_range.mpr hk))
    · intro g d hd
      rw [Bool.not_eq_true, List.any_eq_false]
      intro k hk
      exact Bool.eq_false_iff.mp (g k (List.mem_range.mp hk) d hd)
  rw [fin] at en
  simp -implicitDefEqProofs (disch := omega) only [↓reduceIte, f__law_fine, runD_eq, b__law_fine, Mir.envOf, List.map_cons, List.map_nil, List.replicate, List.append_nil, List.cons_append, List.nil_append, List.length_cons, List.length_nil, sRet_eq, mB_eq, mFz_eq, mLc_eq, mSeq_eq, mLst_eq, mNil_eq, mVar_eq, mC_eq, List.getElem?_cons_succ, gz, slotD_fz, R_bind_ok, R_to_ok, x1, anyOf_tup, ll, ite_yes, wipe_cons, wipe_nil, List.set_cons_succ, List.set_cons_zero, lg, nx_ok', sizeLine_eq, cmp_eq, en, outR_ret]
/-! ### a day away breaks nothing -/
theorem quiet_m (s : Nat) (h1 : 1 ≤ s) (h2 : s ≤ 5) (x q0 q1 q2 q3 q4 : Bool) : Mir.cnt ([q0, q1, q2, q3, q4, false].drop (6 - s)) ≤ Mir.cnt ([x, q0, q1, q2, q3, q4].drop (6 - s)) := by
  have hs : s = 1 ∨ s = 2 ∨ s = 3 ∨ s = 4 ∨ s = 5 := by omega
  clear h1 h2
  revert x q0 q1 q2 q3 q4
  rcases hs with rfl | rfl | rfl | rfl | rfl <;> decide +kernel
theorem quiet_s (s : Nat) (h1 : 1 ≤ s) (h2 : s ≤ 5) (x q0 q1 q2 q3 q4 : Bool) : Mir.cnt ((beg [q0, q1, q2, q3, q4, false]).drop (5 - s)) ≤ Mir.cnt ((beg [x, q0, q1, q2, q3, q4]).drop (5 - s)) := by
  have hs : s = 1 ∨ s = 2 ∨ s = 3 ∨ s = 4 ∨ s = 5 := by omega
  clear h1 h2
  revert x q0 q1 q2 q3 q4
  rcases hs with rfl | rfl | rfl | rfl | rfl <;> decide +kernel
theorem five {q : List Nat} (h : q.length = 5) : ∃ q0 q1 q2 q3 q4, q = [q0, q1, q2, q3, q4] := by
  match q, h with
  | [q0, q1, q2, q3, q4], _ => exact ⟨q0, q1, q2, q3, q4, rfl⟩
theorem quiet_day {two : Bool} {d : D} (h : isLim two d) (w : List Nat) (ha : ∀ k, k < w.length → brk d (winN w k) = false) : brk d (pst w ++ [46]) = false := by
  have hdot : ∀ z ∈ zl two, inz z 46 = false := by cases two <;> decide +kernel
  have bv : ∀ {v : List Nat} {b : Bool} {d : D}, f__breaks [d, txt v] = .ok (.bl b) → brk d v = b := fun e => by unfold brk; rw [e]
  have pre : ∃ x, brk d (x :: pst w) = false ∨ (x :: pst w) = [46, 46, 46, 46, 46, 46] := by
    by_cases h0 : 0 < w.length
    · obtain ⟨x, hx⟩ := winN_prev w h0
      refine ⟨x, .inl ?_⟩
      rw [← hx]
      exact ha (w.length - 1) (by omega)
    · have hw : w = [] := List.eq_nil_of_length_eq_zero (by omega)
      subst hw
      exact ⟨46, .inr rfl⟩
  obtain ⟨x, pre⟩ := pre
  obtain ⟨p0, p1, p2, p3, p4, ep⟩ := five (pst_len w)
  rw [ep] at pre ⊢
  obtain ⟨z, hz, ⟨c, s, h1, h2, h3, h4, rfl⟩ | ⟨c, h1, h2, rfl⟩ | ⟨c, h1, h2, rfl⟩ | ⟨c, s, h1, h2, h3, h4, rfl⟩⟩ := h
  · obtain ⟨s, rfl⟩ := Int.eq_ofNat_of_zero_le (show 0 ≤ s by omega)
    rw [bv (breaks_most z c s _ rfl (by omega) (by omega))]
    have m := quiet_m s (by omega) (by omega) (inz z x) (inz z p0) (inz z p1) (inz z p2) (inz z p3) (inz z p4)
    have e : ([p0, p1, p2, p3, p4] ++ [46]).map (inz z) = [inz z p0, inz z p1, inz z p2, inz z p3, inz z p4, false] := by
      show [inz z p0, inz z p1, inz z p2, inz z p3, inz z p4, inz z 46] = _
      rw [hdot z hz]
    rw [e]
    have le : ((Mir.cnt ([inz z x, inz z p0, inz z p1, inz z p2, inz z p3, inz z p4].drop (6 - s)) : Nat) : Int) ≤ c := by
      rcases pre with pre | pre
      · rw [bv (breaks_most z c s _ rfl (by omega) (by omega))] at pre
        have := of_decide_eq_false pre
        exact Int.not_lt.mp this
      · injection pre with e0 pre; injection pre with e1 pre; injection pre with e2 pre; injection pre with e3 pre; injection pre with e4 pre; injection pre with e5 pre
        subst e0; subst e1; subst e2; subst e3; subst e4; subst e5
        rw [hdot z hz]
        have : ∀ s : Nat, s ≤ 5 → Mir.cnt (([false, false, false, false, false, false] : List Bool).drop (6 - s)) = 0 := by decide +kernel
        rw [this s (by omega)]; exact h1
    unfold pbM
    exact decide_eq_false (by omega)
  · obtain ⟨c, rfl⟩ := Int.eq_ofNat_of_zero_le (show 0 ≤ c by omega)
    rw [bv (breaks_row z c _ rfl (by omega))]
    show pbR c [inz z p0, inz z p1, inz z p2, inz z p3, inz z p4, inz z 46] = false
    rw [hdot z hz]
    unfold pbR
    have : c = 0 ∨ c = 1 ∨ c = 2 ∨ c = 3 := by omega
    rcases this with rfl | rfl | rfl | rfl <;> simp
  · obtain ⟨c, rfl⟩ := Int.eq_ofNat_of_zero_le (show 0 ≤ c by omega)
    rw [bv (breaks_gap z c _ rfl (by omega))]
    show pbG c [inz z p0, inz z p1, inz z p2, inz z p3, inz z p4, inz z 46] = false
    rw [hdot z hz]
    show ((false && !inz z p4) && _) = false
    rfl
  · obtain ⟨s, rfl⟩ := Int.eq_ofNat_of_zero_le (show 0 ≤ s by omega)
    rw [bv (breaks_starts z c s _ rfl (by omega) (by omega))]
    have m := quiet_s s (by omega) (by omega) (inz z x) (inz z p0) (inz z p1) (inz z p2) (inz z p3) (inz z p4)
    have e : ([p0, p1, p2, p3, p4] ++ [46]).map (inz z) = [inz z p0, inz z p1, inz z p2, inz z p3, inz z p4, false] := by
      show [inz z p0, inz z p1, inz z p2, inz z p3, inz z p4, inz z 46] = _
      rw [hdot z hz]
    rw [e]
    have le : ((Mir.cnt ((beg [inz z x, inz z p0, inz z p1, inz z p2, inz z p3, inz z p4]).drop (5 - s)) : Nat) : Int) ≤ c := by
      rcases pre with pre | pre
      · rw [bv (breaks_starts z c s _ rfl (by omega) (by omega))] at pre
        have := of_decide_eq_false pre
        exact Int.not_lt.mp this
      · injection pre with e0 pre; injection pre with e1 pre; injection pre with e2 pre; injection pre with e3 pre; injection pre with e4 pre; injection pre with e5 pre
        subst e0; subst e1; subst e2; subst e3; subst e4; subst e5
        rw [hdot z hz]
        have : ∀ s : Nat, s ≤ 5 → Mir.cnt ((beg ([false, false, false, false, false, false] : List Bool)).drop (5 - s)) = 0 := by decide +kernel
        rw [this s (by omega)]; exact h1
    unfold pbS
    exact decide_eq_false (by omega)
/-! ### the steps of a book -/
def dots : List Nat := [46, 46, 46, 46, 46]
theorem dots_pst : pst [] = dots := rfl
def suc (two : Bool) (ls : List D) (p : List Nat) : List (List Nat) := (dbh two ls p).map fun c => p.drop 1 ++ [c]
def stD (two : Bool) (ls : List D) (p : List Nat) : D := .lst ((dbh two ls p).map fun c => .tup [txt [c], txt (p.drop 1 ++ [c])])
abbrev Rc (two : Bool) (ls : List D) (p : List Nat) : Prop := Reach (suc two ls) dots p
theorem dbh_len (two : Bool) (ls : List D) (p : List Nat) : (dbh two ls p).length ≤ 3 := by
  unfold dbh
  exact Nat.le_trans (List.length_filter_le _ _) (by cases two <;> decide)
theorem dbh_in {two : Bool} {ls : List D} {p : List Nat} {c : Nat} (h : c ∈ dbh two ls p) : c ∈ lets two ∧ (ls.any fun d => brk d (p ++ [c])) = false := by
  unfold dbh at h
  have := List.mem_filter.mp h
  exact ⟨this.1, by have z := this.2; rw [Bool.not_eq_true'] at z; exact z⟩
theorem rc_cal {two : Bool} {ls : List D} {p : List Nat} (h : Rc two ls p) : ∃ w : List Nat, alw ls w = true ∧ (∀ c ∈ w, c ∈ lets two) ∧ pst w = p := by
  induction h with
  | start => exact ⟨[], (alw_iff ls []).mpr (fun k hk => absurd hk (Nat.not_lt_zero k)), (fun _ hc => nomatch hc), rfl⟩
  | step _ hq ih =>
    obtain ⟨w, h1, h2, h3⟩ := ih
    obtain ⟨c, hc, rfl⟩ := List.mem_map.mp hq
    obtain ⟨c1, c2⟩ := dbh_in hc
    refine ⟨w ++ [c], ?_, fun x hx => (List.mem_append.mp hx).elim (h2 x) fun z => by rw [List.mem_singleton.mp z]; exact c1, by rw [pst_app, h3]⟩
    rw [alw_snoc, h1, h3, c2]
    rfl
theorem cal_rc {two : Bool} {ls : List D} : ∀ {w : List Nat}, alw ls w = true → (∀ c ∈ w, c ∈ lets two) → Rc two ls (pst w) := by
  intro w
  induction hn : w.length generalizing w with
  | zero => intro _ _; rw [List.eq_nil_of_length_eq_zero hn]; exact .start
  | succ n ih =>
    intro ha hc
    obtain ⟨u, c, rfl⟩ : ∃ u c, w = u ++ [c] := ⟨w.dropLast, w.getLast (fun z => by rw [z] at hn; cases hn), (List.dropLast_concat_getLast _).symm⟩
    rw [alw_snoc] at ha
    obtain ⟨a1, a2⟩ := Bool.and_eq_true_iff.mp ha
    rw [pst_app]
    refine .step (ih (by rw [List.length_append, List.length_singleton] at hn; omega) a1 fun x hx => hc x (List.mem_append_left _ hx)) (List.mem_map.mpr ⟨c, ?_, rfl⟩)
    unfold dbh
    exact List.mem_filter.mpr ⟨hc c (by simp), a2⟩
theorem lets_dot (two : Bool) : 46 ∈ lets two := by cases two <;> decide
theorem rc_word {two : Bool} {ls : List D} {p : List Nat} (h : Rc two ls p) : p.length = 5 ∧ ∀ c ∈ p, c ∈ lets two := by
  obtain ⟨w, h1, h2, rfl⟩ := rc_cal h
  refine ⟨pst_len w, fun c hc => ?_⟩
  have hc := List.mem_of_mem_drop hc
  unfold liv at hc
  rcases List.mem_append.mp hc with z | z
  · rw [(List.mem_replicate.mp z).2]; exact lets_dot two
  · exact h2 c z
theorem rc_words {two : Bool} {ls : List D} {p : List Nat} (h : Rc two ls p) : p ∈ wordsN (lets two) 5 := by
  obtain ⟨h1, h2⟩ := rc_word h
  have := mem_words h2
  rwa [h1] at this
theorem words_len (two : Bool) : (wordsN (lets two) 5).length ≤ 243 := by cases two <;> decide +kernel
theorem rc_abc {two : Bool} {ls : List D} {p : List Nat} (h : Rc two ls p) : abc p = true := by
  obtain ⟨w, _, h2, rfl⟩ := rc_cal h
  exact abc_pst w h2
theorem nextp_ok (p : List Nat) (c : Nat) (hp : p.length = 5) : f_next_past [txt p, txt [c]] = .ok (txt (p.drop 1 ++ [c])) := by
  rw [show f_next_past [txt p, txt [c]] = outR (b_next_past [.fz (txt p), .fz (txt [c])]) from runD_eq _ _ _]
  have v1 : (mVar 0) ([.fz (txt p), .fz (txt [c])] : Mir.Env) = .ok (txt p) := rfl
  have v3 : (mVar 1) ([.fz (txt p), .fz (txt [c])] : Mir.Env) = .ok (txt [c]) := rfl
  have v5 : (mSome (mC (.int 1))) ([.fz (txt p), .fz (txt [c])] : Mir.Env) = .ok (some ((1 : Nat) : Int)) := rfl
  unfold b_next_past
  rw [sRet_eq, mB_eq, mSl_eq, v1, R_bind_ok, v5, R_bind_ok, mNo_eq, R_bind_ok, slD_txt, if_pos (lit_le _ (by rw [hp]; decide)), cut_from, R_bind_ok, v3, R_bind_ok, addD_txt, if_pos (lit_le _ (by rw [List.length_drop, hp, List.length_singleton]; decide)), R_to_ok, outR_ret]
abbrev stE (two : Bool) (ls : List D) (kn : List (List Nat)) : List (Key × D) := tabW (stD two ls) kn
theorem steps_new {two : Bool} {ls : List D} (h : ∀ d ∈ ls, isLim two d) (p : List Nat) (hp : p.length = 5) (s1 s2 : Slot) : (mFz (mLc [4] (mSeq anyOf (mFn 2 f_days_behind (mCons (mVar 0) (mCons (mVar 3) mNil)))) (tgName 4) mYes el_steps_of_1)) [.fz (bk two ls), s1, s2, .fz (txt p), .un, .un] = .ok (stD two ls p) := by
  have q0 : (mFn 2 f_days_behind (mCons (mVar 0) (mCons (mVar 3) mNil))) [.fz (bk two ls), s1, s2, .fz (txt p), .un, .un] = .ok (.lst ((dbh two ls p).map fun c => txt [c])) := dbh_ok h p hp
  have lc := lcGo_fa (mt := tgName 4) (me := el_steps_of_1) (ρ := [.fz (bk two ls), s1, s2, .fz (txt p), .un, .un]) (fun c => txt [c]) (fun c => .tup [txt [c], txt (p.drop 1 ++ [c])]) (dbh two ls p) fun c _ => ⟨_, rfl, by
    show el_steps_of_1 [.fz (bk two ls), s1, s2, .fz (txt p), .fz (txt [c]), .un] = _
    have q : (mFn 2 f_next_past (mCons (mVar 3) (mCons (mVar 4) mNil))) [.fz (bk two ls), s1, s2, .fz (txt p), .fz (txt [c]), .un] = .ok (txt (p.drop 1 ++ [c])) := nextp_ok p c hp
    have v4 : (mVar 4) ([.fz (bk two ls), s1, s2, .fz (txt p), .fz (txt [c]), .un] : Mir.Env) = .ok (txt [c]) := rfl
    unfold el_steps_of_1
    rw [mTup_eq, mCons_eq, mCons_eq, v4, q, R_bind_ok, R_bind_ok, mNil_eq, R_bind_ok, R_bind_ok, R_bind_ok, if_pos (lit_le _ (by simp))]⟩
  rw [mFz_eq, mLc_eq, mSeq_eq, q0, R_bind_ok, anyOf_lst, R_bind_ok, if_pos (by rw [List.length_map]; exact Nat.le_trans (dbh_len two ls p) (by decide))]
  rw [show wipeE ([.fz (bk two ls), s1, s2, .fz (txt p), .un, .un] : Mir.Env) [4] = [.fz (bk two ls), s1, s2, .fz (txt p), .un, .un] from rfl, lc, nx_ok', R_bind_ok]
  rfl
theorem steps_after {two : Bool} {ls : List D} (p : List Nat) (es : List (Key × D)) (he : lk es (.inr (Wd p)) = some (stD two ls p)) (s0 s2 : Slot) : (mFz (mLc [4, 5] (mSeq anyOf (mDgetO 1 (mVar 3))) (tgTup 2 (tgCons (tgName 4) (tgCons (tgName 5) tgNil))) mYes el_steps_of_2)) [s0, .od es, s2, .fz (txt p), .un, .un] = .ok (.lst ((suc two ls p).map txt)) := by
  have q0 : (mDgetO 1 (mVar 3)) [s0, .od es, s2, .fz (txt p), .un, .un] = .ok (stD two ls p) := by
    show (ofO (lk es (.inr (Wd p))) R.ok) = _
    rw [he]
    rfl
  have lc := lcGo_fa (mt := tgTup 2 (tgCons (tgName 4) (tgCons (tgName 5) tgNil))) (me := el_steps_of_2) (ρ := [s0, .od es, s2, .fz (txt p), .un, .un]) (fun c => .tup [txt [c], txt (p.drop 1 ++ [c])]) (fun c => txt (p.drop 1 ++ [c])) (dbh two ls p) fun c _ => ⟨_, rfl, rfl⟩
  rw [mFz_eq, mLc_eq, mSeq_eq, q0, R_bind_ok]
  unfold stD
  rw [anyOf_lst, R_bind_ok, if_pos (by rw [List.length_map]; exact Nat.le_trans (dbh_len two ls p) (by decide))]
  rw [show wipeE ([s0, .od es, s2, .fz (txt p), .un, .un] : Mir.Env) [4, 5] = [s0, .od es, s2, .fz (txt p), .un, .un] from rfl, lc, nx_ok', R_bind_ok]
  unfold suc
  rw [List.map_map]
  rfl
theorem steps_ok {two : Bool} {ls : List D} (h : ∀ d ∈ ls, isLim two d) : ∃ kn, f_steps_of [bk two ls] = .ok (dicE (stE two ls kn)) ∧ Kn (suc two ls) dots kn := by
  rw [show f_steps_of [bk two ls] = outR (b_steps_of [.fz (bk two ls), .un, .un, .un, .un, .un]) from runD_eq _ _ _]
  have o2 : (mCons (mFz (mLst (mCons (mC (.str ".....")) mNil))) mNil) [.fz (bk two ls), .od [], .un, .un, .un, .un] = .ok [.lst [txt dots]] := by
    have : (D.str ".....") = txt dots := by
      have : ("....." : Str) = Wd dots := by decide +kernel
      rw [this]; rfl
    rw [mCons_eq, mFz_eq, mLst_eq, mCons_eq, mC_eq, R_bind_ok, mNil_eq, R_bind_ok, R_bind_ok, if_pos (lit_le _ (by simp)), R_bind_ok, R_bind_ok, R_bind_ok, this]
  obtain ⟨kn, q, ρ', e, ⟨s3, rfl⟩, w, hl, hq⟩ := work_loop (succ := suc two ls) (s := dots) (c := wt_steps_of_3) (mb := wb_steps_of_4) (B := 1000) (M := 243) (d := 3) (ws := wordsN (lets two) 5)
    (I := fun kn q ρ => ∃ s3, ρ = [.fz (bk two ls), .od (stE two ls kn), .oq (q.map txt), s3, .un, .un]) (words_len two) (fun p hp => rc_words hp) (fun p _ => by unfold suc; rw [List.length_map]; exact dbh_len two ls p) (by decide)
    (fun kn q ρ ⟨s3, e⟩ hl => by
      subst e
      show R.ok (!(q.map txt).isEmpty) = _
      rw [decide_eq_true (by omega), Bool.and_true]
      cases q <;> rfl)
    (fun kn p q ρ ⟨s3, e⟩ rp hl hq hp => by
      subst e
      refine ⟨_, ?_, .fz (txt p), rfl⟩
      have c : (mTest (mDhasO true 1 (mVar 3))) [.fz (bk two ls), .od (stE two ls kn), .oq (q.map txt), .fz (txt p), .un, .un] = .ok false := by
        show (R.ok (!(lk (stE two ls kn) (.inr (Wd p))).isSome)) = _
        rw [lk_tab, if_pos hp]
        rfl
      unfold wb_steps_of_4
      rw [sSeq_eq, show sPopl 3 2 [.fz (bk two ls), .od (stE two ls kn), .oq ((p :: q).map txt), s3, .un, .un] = .nx [.fz (bk two ls), .od (stE two ls kn), .oq (q.map txt), .fz (txt p), .un, .un] from rfl, seqR_nx, sIf_eq, c, R_to_ok, if_neg (by decide), sSkip_eq])
    (fun kn p q ρ ⟨s3, e⟩ rp hl hq hp => by
      subst e
      obtain ⟨p1, p2⟩ := rc_word rp
      refine ⟨_, q ++ suc two ls p, ?_, ⟨.fz (txt p), rfl⟩, List.Perm.refl _⟩
      have c : (mTest (mDhasO true 1 (mVar 3))) [.fz (bk two ls), .od (stE two ls kn), .oq (q.map txt), .fz (txt p), .un, .un] = .ok true := by
        show (R.ok (!(lk (stE two ls kn) (.inr (Wd p))).isSome)) = _
        rw [lk_tab, if_neg hp]
        rfl
      have pu : sPutD 1 (mFz (mLc [4] (mSeq anyOf (mFn 2 f_days_behind (mCons (mVar 0) (mCons (mVar 3) mNil)))) (tgName 4) mYes el_steps_of_1)) (mVar 3) [.fz (bk two ls), .od (stE two ls kn), .oq (q.map txt), .fz (txt p), .un, .un] = .nx [.fz (bk two ls), .od (stE two ls (kn ++ [p])), .oq (q.map txt), .fz (txt p), .un, .un] := by
        show ((mFz (mLc [4] (mSeq anyOf (mFn 2 f_days_behind (mCons (mVar 0) (mCons (mVar 3) mNil)))) (tgName 4) mYes el_steps_of_1)) [.fz (bk two ls), .od (stE two ls kn), .oq (q.map txt), .fz (txt p), .un, .un]).to _ = _
        rw [steps_new h p p1, R_to_ok]
        show (if (stE two ls kn).length < 16000000 then _ else _) = _
        rw [if_pos (by unfold stE tabW; rw [List.length_map]; omega)]
        show RS.nx [.fz (bk two ls), .od (ins (stE two ls kn) (.inr (Wd p)) (stD two ls p)), .oq (q.map txt), .fz (txt p), .un, .un] = _
        rw [tab_snoc _ _ _ hp]
      have ex : sExtQ 2 (mFz (mLc [4, 5] (mSeq anyOf (mDgetO 1 (mVar 3))) (tgTup 2 (tgCons (tgName 4) (tgCons (tgName 5) tgNil))) mYes el_steps_of_2)) [.fz (bk two ls), .od (stE two ls (kn ++ [p])), .oq (q.map txt), .fz (txt p), .un, .un] = .nx [.fz (bk two ls), .od (stE two ls (kn ++ [p])), .oq ((q ++ suc two ls p).map txt), .fz (txt p), .un, .un] := by
        show ((mFz (mLc [4, 5] (mSeq anyOf (mDgetO 1 (mVar 3))) (tgTup 2 (tgCons (tgName 4) (tgCons (tgName 5) tgNil))) mYes el_steps_of_2)) [.fz (bk two ls), .od (stE two ls (kn ++ [p])), .oq (q.map txt), .fz (txt p), .un, .un]).to _ = _
        rw [steps_after (two := two) (ls := ls) p _ (by rw [lk_tab, if_pos (by simp)]), R_to_ok]
        have hs : (suc two ls p).length ≤ 3 := by unfold suc; rw [List.length_map]; exact dbh_len two ls p
        show (if (q.map txt).length + ((suc two ls p).map txt).length ≤ 16000000 then _ else _) = _
        rw [if_pos (by rw [List.length_map, List.length_map]; omega), List.map_append]
        rfl
      unfold wb_steps_of_4
      rw [sSeq_eq, show sPopl 3 2 [.fz (bk two ls), .od (stE two ls kn), .oq ((p :: q).map txt), s3, .un, .un] = .nx [.fz (bk two ls), .od (stE two ls kn), .oq (q.map txt), .fz (txt p), .un, .un] from rfl, seqR_nx, sIf_eq, c, R_to_ok, if_pos rfl, sSeq_eq, pu, seqR_nx, ex])
    1000 [] [dots] [.fz (bk two ls), .od [], .oq [txt dots], .un, .un, .un] (Wk.begin _ _) ⟨.un, rfl⟩ (by simp) (by decide)
  have hq : q = [] := hq.resolve_right (by omega)
  subst hq
  refine ⟨kn, ?_, w.done⟩
  unfold b_steps_of
  rw [sSeq_eq, show sSetD 1 [.fz (bk two ls), .un, .un, .un, .un, .un] = .nx [.fz (bk two ls), .od [], .un, .un, .un, .un] from rfl, seqR_nx, sSeq_eq]
  have o3 : sSetQ 2 (mCons (mFz (mLst (mCons (mC (.str ".....")) mNil))) mNil) [.fz (bk two ls), .od [], .un, .un, .un, .un] = .nx [.fz (bk two ls), .od [], .oq [txt dots], .un, .un, .un] := by
    show ((mCons (mFz (mLst (mCons (mC (.str ".....")) mNil))) mNil) [.fz (bk two ls), .od [], .un, .un, .un, .un]).to _ = _
    rw [o2, R_to_ok]
    rfl
  rw [o3, seqR_nx, sSeq_eq, show sWhile (fun _ => 1000) wt_steps_of_3 wb_steps_of_4 [.fz (bk two ls), .od [], .oq [txt dots], .un, .un, .un] = whGo wt_steps_of_3 wb_steps_of_4 1000 [.fz (bk two ls), .od [], .oq [txt dots], .un, .un, .un] from rfl, e, seqR_nx]
  rfl
/-! ### how many ways lead through the choices -/
def cntW (two : Bool) (ls : List D) : List (List Nat) → List Nat → Nat
  | [], _ => 1
  | c :: r, p => (((dbh two ls p).filter fun d => decide (d ∈ c)).map fun d => cntW two ls r (p.drop 1 ++ [d])).sum
def up : List (List Nat) → List (List (List Nat))
  | [] => [[]]
  | c :: r => up r ++ [c :: r]
theorem up_rev : ∀ cs : List (List Nat), (up cs).reverse = (List.range (cs.length + 1)).map fun i => cs.drop i
  | [] => rfl
  | c :: r => by
    unfold up
    have e : List.range (r.length + 1 + 1) = 0 :: (List.range (r.length + 1)).map Nat.succ := List.range_succ_eq_map
    rw [List.reverse_append, up_rev r, List.length_cons, e, List.map_cons, List.map_map]
    rfl
theorem up_last (cs : List (List Nat)) : ∃ h, up cs = h ++ [cs] := by
  cases cs with
  | nil => exact ⟨[], rfl⟩
  | cons c r => exact ⟨up r, rfl⟩
theorem up_len : ∀ cs : List (List Nat), (up cs).length = cs.length + 1
  | [] => rfl
  | c :: r => by unfold up; rw [List.length_append, up_len r]; rfl
abbrev ctE (two : Bool) (ls : List D) (kn : List (List Nat)) (s : List (List Nat)) : List (Key × D) := tabW (fun p => D.int (cntW two ls s p : Nat)) kn
theorem dc_tab {i : Nat} {mk mv : Mir.Env → R D} {ρ : Mir.Env} (f : List Nat → D) : ∀ (l kn : List (List Nat)), (kn ++ l).Nodup → (∀ p ∈ l, mk (ρ.set i (.fz (txt p))) = .ok (txt p) ∧ mv (ρ.set i (.fz (txt p))) = .ok (f p)) → dcGo (tgName i) mYes mk mv ρ (l.map txt) (tabW f kn) = .ok (tabW f (kn ++ l))
  | [], kn, _, _ => by rw [List.append_nil]; rfl
  | p :: r, kn, hn, h => by
    obtain ⟨h1, h2⟩ := h p (.head _)
    have hp : p ∉ kn := fun z => (List.nodup_append.mp hn).2.2 p z p (.head _) rfl
    have e : kn ++ p :: r = (kn ++ [p]) ++ r := by rw [List.append_assoc]; rfl
    rw [e] at hn ⊢
    rw [List.map_cons]
    unfold dcGo
    rw [show tgName i (txt p) ρ = .ok (ρ.set i (.fz (txt p))) from rfl, nx_ok', R_bind_ok, show mYes (ρ.set i (.fz (txt p))) = .ok true from rfl, nx_ok', R_bind_ok, if_pos rfl, h1, nx_ok', R_bind_ok, h2, nx_ok', R_bind_ok, keyOf_txt, ofO_some, tab_snoc f kn p hp]
    exact dc_tab f r (kn ++ [p]) hn fun x hx => h x (.tail _ hx)
theorem nums_map {α : Type} (f : α → Nat) : ∀ l : List α, numsD (l.map fun x => D.int (f x : Nat)) = some (l.map fun x => ((f x : Nat) : Int))
  | [] => rfl
  | x :: r => by
    have := nums_map f r
    rw [List.map_cons, List.map_cons]
    unfold numsD
    rw [this]
    rfl
theorem sum_cast {α : Type} (f : α → Nat) : ∀ l : List α, (l.map fun x => ((f x : Nat) : Int)).sum = (((l.map f).sum : Nat) : Int)
  | [] => rfl
  | x :: r => by
    have := sum_cast f r
    rw [List.map_cons, List.map_cons, List.sum_cons, List.sum_cons, this]
    omega
theorem sum_nat {α : Type} (f : α → Nat) (l : List α) : sumF [.lst (l.map fun x => D.int (f x : Nat))] = .ok (.int ((l.map f).sum : Nat)) := by
  show (ofO (numsD (l.map fun x => D.int (f x : Nat))) fun ns => R.ok (D.int ns.sum)) = _
  rw [nums_map, ofO_some, sum_cast]
abbrev wtE (two : Bool) (ls : List D) (kn : List (List Nat)) (C : D) (t : List (List Nat)) (s3 s4 : Slot) : Mir.Env := [.fz (dicE (stE two ls kn)), .fz C, .ol ((up t).map fun s => dicE (ctE two ls kn s)), s3, s4, .un, .un, .un]
theorem keys_st (two : Bool) (ls : List D) (kn : List (List Nat)) : keysOf (dicE (stE two ls kn)) = .ok (kn.map txt) := by
  show R.ok (((stE two ls kn).map (·.1)).map keyD) = _
  unfold stE tabW
  rw [List.map_map, List.map_map]
  rfl
/-- the tables of ways, from each place on -/
theorem dots_txt : (D.str ".....") = txt dots := by
  have : ("....." : Str) = Wd dots := by decide +kernel
  rw [this]; rfl
theorem dbh_iff {two : Bool} {ls : List D} {w : List Nat} {d : Nat} (hw : alw ls w = true) (hd : d ∈ lets two) : d ∈ dbh two ls (pst w) ↔ alw ls (w ++ [d]) = true := by
  rw [alw_snoc, hw, Bool.true_and]
  exact ⟨fun h => (List.mem_filter.mp h).2, fun h => List.mem_filter.mpr ⟨hd, h⟩⟩
/-! ### the days after a past -/
theorem able_dot {two : Bool} {ls : List D} (h : ∀ d ∈ ls, isLim two d) (w : List Nat) (ha : alw ls w = true) : ∃ r, ableN two ls w = 46 :: r := by
  have e : (!ls.any fun d => brk d (pst w ++ [46])) = true := by
    rw [Bool.not_eq_true', List.any_eq_false]
    intro d hd
    exact Bool.eq_false_iff.mp (quiet_day (h d hd) w fun k hk => (alw_iff ls w).mp ha k hk d hd)
  unfold ableN
  cases two with
  | true => unfold lets; exact ⟨_, by rw [List.filter_cons, if_pos e]⟩
  | false => unfold lets; exact ⟨_, by rw [List.filter_cons, if_pos e]⟩
theorem able_mem {two : Bool} {ls : List D} {w : List Nat} {c : Nat} : c ∈ ableN two ls w ↔ c ∈ lets two ∧ (ls.any fun d => brk d (pst w ++ [c])) = false := by
  unfold ableN
  rw [List.mem_filter, Bool.not_eq_true']
/-! ### the least costs of walks -/
/-- a day's costs: the letters that it can have, and what they cost -/
abbrev CO := List Nat × (Nat → Nat)
def mnN : List Nat → Nat
  | [] => 0
  | x :: xs => xs.foldl min x
theorem mnN_cast (x : Nat) : ∀ xs : List Nat, (((xs.foldl min x : Nat)) : Int) = (xs.map fun n : Nat => (n : Int)).foldl min (x : Int)
  | [] => rfl
  | y :: xs => by
    rw [List.foldl_cons, List.map_cons, List.foldl_cons, mnN_cast (min x y) xs]
    congr 1
    omega
theorem intsOf_nats : ∀ l : List Nat, intsOf (l.map fun n : Nat => D.int (n : Nat)) = some (l.map fun n : Nat => (n : Int))
  | [] => rfl
  | x :: r => by rw [List.map_cons, List.map_cons]; unfold intsOf; rw [intsOf_nats r]; rfl
theorem mm_nats {l : List Nat} (h : l ≠ []) : mmF minL [.lst (l.map fun n : Nat => D.int (n : Nat))] = .ok (.int (mnN l : Nat)) := by
  cases l with
  | nil => exact absurd rfl h
  | cons x r =>
    have e := intsOf_nats (x :: r)
    show (match intsOf ((x :: r).map fun n : Nat => D.int (n : Nat)) with | some (x :: xs) => R.ok (D.int (minL x xs)) | _ => .bad) = _
    rw [e]
    show R.ok (D.int (minL (x : Int) (r.map fun n : Nat => (n : Int)))) = _
    unfold mnN minL
    rw [mnN_cast]
theorem mnN_le {l : List Nat} {x : Nat} (h : x ∈ l) : mnN l ≤ x := by
  have key : ∀ (xs : List Nat) (x : Nat), xs.foldl min x ≤ x ∧ ∀ y ∈ xs, xs.foldl min x ≤ y := fun xs => by
    induction xs with
    | nil => exact fun x => ⟨Nat.le_refl _, fun _ h => nomatch h⟩
    | cons z xs ih =>
      intro x
      obtain ⟨a, b⟩ := ih (min x z)
      rw [List.foldl_cons]
      exact ⟨by omega, fun y hy => (List.mem_cons.mp hy).elim (fun e => by rw [e]; omega) (b y)⟩
  cases l with
  | nil => cases h
  | cons z r =>
    rcases List.mem_cons.mp h with rfl | h
    · exact (key r x).1
    · exact (key r z).2 x h
theorem mnN_mem {l : List Nat} (h : l ≠ []) : mnN l ∈ l := by
  have key : ∀ (xs : List Nat) (x : Nat), xs.foldl min x = x ∨ xs.foldl min x ∈ xs := fun xs => by
    induction xs with
    | nil => exact fun x => .inl rfl
    | cons z xs ih =>
      intro x
      rw [List.foldl_cons]
      rcases ih (min x z) with h | h
      · rw [h]
        by_cases q : x ≤ z
        · exact .inl (by omega)
        · exact .inr (by rw [show min x z = z by omega]; exact .head _)
      · exact .inr (.tail _ h)
  cases l with
  | nil => exact absurd rfl h
  | cons z r => exact (key r z).elim (fun e => by show r.foldl min z ∈ _; rw [e]; exact .head _) fun h => .tail _ h
def coE (co : CO) : List (Key × D) := tabW (fun q => D.int (co.2 (q.headD 0) : Nat)) (co.1.map fun c => [c])
theorem one_mem {c : Nat} {l : List Nat} : [c] ∈ l.map (fun c => [c]) ↔ c ∈ l := by
  rw [List.mem_map]
  constructor
  · rintro ⟨x, hx, e⟩; cases e; exact hx
  · exact fun h => ⟨c, h, rfl⟩
theorem co_has (co : CO) (c : Nat) : dhasD false (txt [c]) (dicE (coE co)) = .ok (.bl (decide (c ∈ co.1))) := by
  rw [dhasD_E, keyOf_txt, ofO_some]
  unfold coE
  rw [lk_tab]
  by_cases h : c ∈ co.1
  · rw [if_pos (one_mem.mpr h), decide_eq_true h]; rfl
  · rw [if_neg (fun z => h (one_mem.mp z)), decide_eq_false h]; rfl
theorem co_get {co : CO} {c : Nat} (h : c ∈ co.1) : dgetD (dicE (coE co)) (txt [c]) = .ok (.int (co.2 c : Nat)) := by
  rw [dgetD_E, keyOf_txt, ofO_some]
  unfold coE
  rw [lk_tab, if_pos (one_mem.mpr h), ofO_some]
  rfl
/-- the days that can follow and that a day's costs know -/
def kno (two : Bool) (ls : List D) (co : CO) (p : List Nat) : List Nat := (dbh two ls p).filter fun d => decide (d ∈ co.1)
def lcW (two : Bool) (ls : List D) : List CO → List Nat → Nat
  | [], _ => 0
  | co :: r, p => mnN ((kno two ls co p).map fun d => co.2 d + lcW two ls r (p.drop 1 ++ [d]))
def upG {α : Type} : List α → List (List α)
  | [] => [[]]
  | c :: r => upG r ++ [c :: r]
theorem upG_rev {α : Type} : ∀ cs : List α, (upG cs).reverse = (List.range (cs.length + 1)).map fun i => cs.drop i
  | [] => rfl
  | c :: r => by
    unfold upG
    have e : List.range (r.length + 1 + 1) = 0 :: (List.range (r.length + 1)).map Nat.succ := List.range_succ_eq_map
    rw [List.reverse_append, upG_rev r, List.length_cons, e, List.map_cons, List.map_map]
    rfl
theorem upG_last {α : Type} (cs : List α) : ∃ h, upG cs = h ++ [cs] := by
  cases cs with
  | nil => exact ⟨[], rfl⟩
  | cons c r => exact ⟨upG r, rfl⟩
theorem upG_len {α : Type} : ∀ cs : List α, (upG cs).length = cs.length + 1
  | [] => rfl
  | c :: r => by unfold upG; rw [List.length_append, upG_len r]; rfl
abbrev lcE (two : Bool) (ls : List D) (kn : List (List Nat)) (s : List CO) : List (Key × D) := tabW (fun p => D.int (lcW two ls s p : Nat)) kn
abbrev lwE (two : Bool) (ls : List D) (kn : List (List Nat)) (C : D) (t : List CO) (s3 s4 : Slot) : Mir.Env := [.fz (dicE (stE two ls kn)), .fz C, .ol ((upG t).map fun s => dicE (lcE two ls kn s)), s3, s4, .un, .un, .un]
theorem rc_dot {two : Bool} {ls : List D} (h : ∀ d ∈ ls, isLim two d) {p : List Nat} (hp : Rc two ls p) : 46 ∈ dbh two ls p := by
  obtain ⟨w, h1, h2, rfl⟩ := rc_cal hp
  obtain ⟨r, e⟩ := able_dot h w h1
  show 46 ∈ ableN two ls w
  rw [e]; exact .head _
theorem kno_ne {two : Bool} {ls : List D} (h : ∀ d ∈ ls, isLim two d) {p : List Nat} (hp : Rc two ls p) {co : CO} (hc : 46 ∈ co.1) : kno two ls co p ≠ [] := fun z => by
  have : 46 ∈ kno two ls co p := List.mem_filter.mpr ⟨rc_dot h hp, decide_eq_true hc⟩
  rw [z] at this; cases this
theorem st_get {two : Bool} {ls : List D} {kn : List (List Nat)} {p : List Nat} (hp : p ∈ kn) : dgetD (dicE (stE two ls kn)) (txt p) = .ok (.lst ((dbh two ls p).map fun d => .tup [txt [d], txt (p.drop 1 ++ [d])])) := by
  rw [dgetD_E, keyOf_txt, ofO_some, lk_tab, if_pos hp, ofO_some]
  rfl
theorem tab_get {f : List Nat → D} {kn : List (List Nat)} {p : List Nat} (hp : p ∈ kn) : dgetD (dicE (tabW f kn)) (txt p) = .ok (f p) := by
  rw [dgetD_E, keyOf_txt, ofO_some, lk_tab, if_pos hp, ofO_some]
theorem least_turn {two : Bool} {ls : List D} (h : ∀ d ∈ ls, isLim two d) {kn : List (List Nat)} (hk : Kn (suc two ls) dots kn) (hkl : kn.length ≤ 243) (C : D) (t : List CO) (ht : t.length ≤ 60) (co : CO) (hco : 46 ∈ co.1) (s4 : Slot) : bd_least_costs_7 (lwE two ls kn C t (.fz (dicE (coE co))) s4) = .nx (lwE two ls kn C (co :: t) (.fz (dicE (coE co))) (.fz (dicE (lcE two ls kn t)))) := by
  obtain ⟨hh, eh⟩ := upG_last t
  have la : atI ((upG t).map fun s => dicE (lcE two ls kn s)) (-1) = some (dicE (lcE two ls kn t)) := by
    rw [eh, List.map_append]
    exact atE_last _ _
  have hm : ∀ p ∈ kn, ∀ d ∈ dbh two ls p, p.drop 1 ++ [d] ∈ kn := fun p hp d hd => (hk.iff _).mpr (.step ((hk.iff p).mp hp) (List.mem_map.mpr ⟨d, hd, rfl⟩))
  have q0 := keys_st two ls kn
  have g := dc_tab (i := 5) (mk := ky_least_costs_3) (mv := el_least_costs_6) (ρ := lwE two ls kn C t (.fz (dicE (coE co))) (.fz (dicE (lcE two ls kn t)))) (fun p => D.int (lcW two ls (co :: t) p : Nat)) kn [] (by rw [List.nil_append]; exact hk.nd) (fun p hp => by
    refine ⟨rfl, ?_⟩
    have lg := lcGo_fm (mt := tgTup 2 (tgCons (tgName 6) (tgCons (tgName 7) tgNil))) (tt := tt_least_costs_5) (me := el_least_costs_4) (ρ := [.fz (dicE (stE two ls kn)), .fz C, .ol ((upG t).map fun s => dicE (lcE two ls kn s)), .fz (dicE (coE co)), .fz (dicE (lcE two ls kn t)), .fz (txt p), .un, .un]) (fun d => D.tup [txt [d], txt (p.drop 1 ++ [d])]) (fun d => D.int ((co.2 d + lcW two ls t (p.drop 1 ++ [d]) : Nat) : Int)) (fun d => decide (d ∈ co.1)) (dbh two ls p) (fun d hd => by
      refine ⟨[.fz (dicE (stE two ls kn)), .fz C, .ol ((upG t).map fun s => dicE (lcE two ls kn s)), .fz (dicE (coE co)), .fz (dicE (lcE two ls kn t)), .fz (txt p), .fz (txt [d]), .fz (txt (p.drop 1 ++ [d]))], rfl, ?_, fun hd2 => ?_⟩
      · simp -implicitDefEqProofs (disch := omega) only [tt_least_costs_5, mTest_eq, mB_eq, mVar_eq, List.getElem?_cons_succ, gz, slotD_fz, R_bind_ok, co_has, blOf_bl]
      · simp -implicitDefEqProofs (disch := omega) only [el_least_costs_4, mB_eq, mVar_eq, List.getElem?_cons_succ, gz, slotD_fz, R_bind_ok, co_get (of_decide_eq_true hd2), tab_get (hm p hp d hd), addD_int]
        rfl)
    have ne : (kno two ls co p).map (fun d => co.2 d + lcW two ls t (p.drop 1 ++ [d])) ≠ [] := fun z => kno_ne h ((hk.iff p).mp hp) hco (List.map_eq_nil_iff.mp z)
    have mm := mm_nats ne
    rw [List.map_map] at mm
    have l3 := dbh_len two ls p
    show el_least_costs_6 [.fz (dicE (stE two ls kn)), .fz C, .ol ((upG t).map fun s => dicE (lcE two ls kn s)), .fz (dicE (coE co)), .fz (dicE (lcE two ls kn t)), .fz (txt p), .un, .un] = _
    simp -implicitDefEqProofs (disch := omega) only [el_least_costs_6, mCall_eq, mCons_eq, mNil_eq, mFz_eq, mLc_eq, mSeq_eq, mB_eq, mVar_eq, List.getElem?_cons_succ, gz, slotD_fz, R_bind_ok, st_get hp, anyOf_lst, List.length_map, ite_yes, wipe_cons, wipe_nil, List.set_cons_succ, List.set_cons_zero, lg, nx_ok']
    exact mm)
  rw [List.nil_append, show tabW (fun p => D.int (lcW two ls (co :: t) p : Nat)) [] = [] from rfl] at g
  have ul : (upG t).length = t.length + 1 := upG_len t
  unfold bd_least_costs_7
  simp -implicitDefEqProofs (disch := omega) only [sSeq_eq, sSet_eq, sApp_eq, mIxO_eq, mU_eq, mC_eq, negD_int, List.getElem?_cons_succ, gz, olR_ol, olS_ol, R_bind_ok, intR_int, la, ofO_some, R_to_ok, List.set_cons_succ, List.set_cons_zero, seqR_nx]
  rw [show (mDc [5] (mSeq keysOf (mVar 0)) (tgName 5) mYes ky_least_costs_3 el_least_costs_6) (lwE two ls kn C t (.fz (dicE (coE co))) (.fz (dicE (lcE two ls kn t)))) = .ok (dicE (lcE two ls kn (co :: t))) from by
    show ((keysOf (dicE (stE two ls kn))).bind _) = _
    rw [q0, R_bind_ok, if_pos (by rw [List.length_map]; omega)]
    rw [show wipeE (lwE two ls kn C t (.fz (dicE (coE co))) (.fz (dicE (lcE two ls kn t)))) [5] = lwE two ls kn C t (.fz (dicE (coE co))) (.fz (dicE (lcE two ls kn t))) from rfl, g, nx_ok', R_bind_ok], R_to_ok, List.length_map, if_pos (by omega)]
  show RS.nx _ = RS.nx (lwE two ls kn C (co :: t) _ _)
  unfold lwE
  rw [show upG (co :: t) = upG t ++ [co :: t] from rfl, List.map_append]
  rfl
theorem least_loop {two : Bool} {ls : List D} (h : ∀ d ∈ ls, isLim two d) {kn : List (List Nat)} (hk : Kn (suc two ls) dots kn) (hkl : kn.length ≤ 243) (C : D) : ∀ (n : Nat) (cs t : List CO), cs.length = n → (∀ co ∈ cs, 46 ∈ co.1) → ∀ (s3 s4 : Slot), cs.length + t.length ≤ 60 → ∃ t3 t4, forGo (tgName 3) bd_least_costs_7 ((cs.reverse).map fun co => dicE (coE co)) (lwE two ls kn C t s3 s4) = .nx (lwE two ls kn C (cs ++ t) t3 t4)
  | 0, cs, t, e, _, s3, s4, _ => by rw [List.length_eq_zero_iff.mp e]; exact ⟨s3, s4, rfl⟩
  | n + 1, cs, t, e, hc, s3, s4, hl => by
    have hne : cs ≠ [] := fun z => by rw [z] at e; cases e
    obtain ⟨g, co, rfl⟩ : ∃ g c, cs = g ++ [c] := ⟨_, _, (List.dropLast_concat_getLast hne).symm⟩
    rw [List.length_append, List.length_singleton] at e hl
    obtain ⟨t3, t4, q⟩ := least_loop h hk hkl C n g (co :: t) (by omega) (fun x hx => hc x (List.mem_append_left _ hx)) (.fz (dicE (coE co))) (.fz (dicE (lcE two ls kn t))) (by rw [List.length_cons]; omega)
    refine ⟨t3, t4, ?_⟩
    rw [List.reverse_append, List.reverse_singleton, List.singleton_append, List.map_cons, forGo_cons]
    rw [show (nx (tgName 3 (dicE (coE co)) (lwE two ls kn C t s3 s4))) = .ok (lwE two ls kn C t (.fz (dicE (coE co))) s4) from rfl, R_to_ok, least_turn h hk hkl C t (by omega) co (hc co (by simp)) s4, loopR_nx]
    refine q.trans ?_
    rw [List.append_assoc]
    rfl
theorem least_ok {two : Bool} {ls : List D} (h : ∀ d ∈ ls, isLim two d) {kn : List (List Nat)} (hk : Kn (suc two ls) dots kn) (hkl : kn.length ≤ 243) (cs : List CO) (hc : cs.length ≤ 60) (hd : ∀ co ∈ cs, 46 ∈ co.1) : f_least_costs [dicE (stE two ls kn), .lst (cs.map fun co => dicE (coE co))] = .ok (.lst ((List.range (cs.length + 1)).map fun i => dicE (lcE two ls kn (cs.drop i)))) := by
  obtain ⟨t3, t4, lo⟩ := least_loop h hk hkl (.lst (cs.map fun co => dicE (coE co))) cs.length cs [] rfl hd .un .un (by simp; omega)
  rw [List.append_nil] at lo
  have g := dc_tab (i := 5) (mk := ky_least_costs_1) (mv := el_least_costs_2) (ρ := [.fz (dicE (stE two ls kn)), .fz (.lst (cs.map fun co => dicE (coE co))), .un, .un, .un, .un, .un, .un]) (fun p => D.int (lcW two ls [] p : Nat)) kn [] (by rw [List.nil_append]; exact hk.nd) (fun p hp => ⟨rfl, rfl⟩)
  rw [List.nil_append, show tabW (fun p => D.int (lcW two ls [] p : Nat)) [] = [] from rfl] at g
  have dc : (mDc [5] (mSeq keysOf (mVar 0)) (tgName 5) mYes ky_least_costs_1 el_least_costs_2) [.fz (dicE (stE two ls kn)), .fz (.lst (cs.map fun co => dicE (coE co))), .un, .un, .un, .un, .un, .un] = .ok (dicE (lcE two ls kn [])) := by
    show ((keysOf (dicE (stE two ls kn))).bind _) = _
    rw [keys_st, R_bind_ok, if_pos (by rw [List.length_map]; omega)]
    rw [show wipeE ([.fz (dicE (stE two ls kn)), .fz (.lst (cs.map fun co => dicE (coE co))), .un, .un, .un, .un, .un, .un] : Mir.Env) [5] = [.fz (dicE (stE two ls kn)), .fz (.lst (cs.map fun co => dicE (coE co))), .un, .un, .un, .un, .un, .un] from rfl, g, nx_ok', R_bind_ok]
  have rv : revF [.lst (cs.map fun co => dicE (coE co))] = .ok ((cs.reverse).map fun co => dicE (coE co)) := by
    show R.ok (cs.map fun co => dicE (coE co)).reverse = _
    rw [List.map_reverse]
  have lo : forGo (tgName 3) bd_least_costs_7 ((cs.reverse).map fun co => dicE (coE co)) [.fz (dicE (stE two ls kn)), .fz (.lst (cs.map fun co => dicE (coE co))), .ol [dicE (lcE two ls kn [])], .un, .un, .un, .un, .un] = _ := lo
  simp -implicitDefEqProofs (disch := omega) only [f_least_costs, runD_eq, b_least_costs, Mir.envOf, List.map_cons, List.map_nil, List.replicate, List.append_nil, List.cons_append, List.nil_append, List.length_cons, List.length_nil, sSeq_eq, sSetO_eq, sFor_eq, sRet_eq, mLst_eq, mCons_eq, mNil_eq, mFz_eq, mSeqs_eq, mRevO_eq, mVar_eq, List.getElem?_cons_succ, gz, slotD_fz, dc, R_bind_ok, R_to_ok, sizeLine_eq, ite_yes, List.set_cons_succ, List.set_cons_zero, seqR_nx, rv, lo, olR_ol, outR_ret]
  rw [← List.map_reverse, upG_rev, List.map_map]
  rfl
/-! ### the first of the cheapest walks -/
def bst (two : Bool) (ls : List D) (co : CO) (r : List CO) (p : List Nat) : List Nat := (dbh two ls p).filter fun d => decide (d ∈ co.1) && decide (co.2 d + lcW two ls r (p.drop 1 ++ [d]) = lcW two ls (co :: r) p)
def chW (two : Bool) (ls : List D) : List CO → List Nat → List Nat
  | [], _ => []
  | co :: r, p => match bst two ls co r p with
    | d :: _ => d :: chW two ls r (p.drop 1 ++ [d])
    | [] => []
theorem bst_ne {two : Bool} {ls : List D} (h : ∀ d ∈ ls, isLim two d) {p : List Nat} (hp : Rc two ls p) {co : CO} (hc : 46 ∈ co.1) (r : List CO) : ∃ d g, bst two ls co r p = d :: g := by
  have ne : (kno two ls co p).map (fun d => co.2 d + lcW two ls r (p.drop 1 ++ [d])) ≠ [] := fun z => kno_ne h hp hc (List.map_eq_nil_iff.mp z)
  obtain ⟨d, hd, e⟩ := List.mem_map.mp (mnN_mem ne)
  obtain ⟨d1, d2⟩ := List.mem_filter.mp hd
  have hm : d ∈ bst two ls co r p := List.mem_filter.mpr ⟨d1, by rw [d2, Bool.true_and]; exact decide_eq_true e⟩
  cases z : bst two ls co r p with
  | nil => rw [z] at hm; cases hm
  | cons d g => exact ⟨d, g, rfl⟩
theorem bst_mem {two : Bool} {ls : List D} {co : CO} {r : List CO} {p : List Nat} {d : Nat} (h : d ∈ bst two ls co r p) : d ∈ dbh two ls p ∧ d ∈ co.1 ∧ co.2 d + lcW two ls r (p.drop 1 ++ [d]) = lcW two ls (co :: r) p := by
  obtain ⟨h1, h2⟩ := List.mem_filter.mp h
  obtain ⟨h3, h4⟩ := Bool.and_eq_true_iff.mp h2
  exact ⟨h1, of_decide_eq_true h3, of_decide_eq_true h4⟩
abbrev cwE (two : Bool) (ls : List D) (kn : List (List Nat)) (C L : D) (u p : List Nat) (s6 s7 s8 s9 : Slot) : Mir.Env := [.fz (dicE (stE two ls kn)), .fz C, .fz (txt dots), .fz L, .fz (txt u), .fz (txt p), s6, s7, s8, s9, .un]
theorem cheap_loop {two : Bool} {ls : List D} (h : ∀ d ∈ ls, isLim two d) {kn : List (List Nat)} (hk : Kn (suc two ls) dots kn) (C : D) (cs0 : List CO) (h60 : cs0.length ≤ 60) : ∀ (cs : List CO) (i : Nat) (u p : List Nat) (s6 s7 s8 s9 : Slot), cs0.drop i = cs → i + cs.length = cs0.length → (∀ co ∈ cs, 46 ∈ co.1) → p ∈ kn → u.length + cs.length ≤ 100 → ∃ p' t6 t7 t8 t9,
    forGo (tgTup 2 (tgCons (tgName 6) (tgCons (tgName 7) tgNil))) bd_cheapest_walk_3 (enumFrom i (cs.map fun co => dicE (coE co))) (cwE two ls kn C (.lst ((List.range (cs0.length + 1)).map fun i => dicE (lcE two ls kn (cs0.drop i)))) u p s6 s7 s8 s9)
      = .nx (cwE two ls kn C (.lst ((List.range (cs0.length + 1)).map fun i => dicE (lcE two ls kn (cs0.drop i)))) (u ++ chW two ls cs p) p' t6 t7 t8 t9)
  | [], i, u, p, s6, s7, s8, s9, _, _, _, _, _ => ⟨p, s6, s7, s8, s9, by rw [List.map_nil, show chW two ls [] p = [] from rfl, List.append_nil]; exact forGo_nil _ _ _⟩
  | co :: r, i, u, p, s6, s7, s8, s9, hi, hil, hc, hp, hu => by
    rw [List.length_cons] at hu hil
    have hr : cs0.drop (i + 1) = r := by
      have := congrArg (List.drop 1) hi
      rw [List.drop_drop] at this
      simpa [Nat.add_comm] using this
    generalize hL : (List.range (cs0.length + 1)).map (fun i => dicE (lcE two ls kn (cs0.drop i))) = L
    have a0 : atI L ((i : Nat) : Int) = some (dicE (lcE two ls kn (co :: r))) := by
      rw [← hL, atE_nat, List.getElem?_map, List.getElem?_range (by omega), ← hi]; rfl
    have a1 : atI L ((i : Int) + 1) = some (dicE (lcE two ls kn r)) := by
      rw [← hL, show ((i : Int) + 1) = ((i + 1 : Nat) : Int) from rfl, atE_nat, List.getElem?_map, List.getElem?_range (by omega), ← hr]; rfl
    have hco := hc co (.head _)
    obtain ⟨d, g, eb⟩ := bst_ne h ((hk.iff p).mp hp) hco r
    obtain ⟨d1, d2, d3⟩ := bst_mem (show d ∈ bst two ls co r p by rw [eb]; exact .head _)
    have hm : ∀ d ∈ dbh two ls p, p.drop 1 ++ [d] ∈ kn := fun d hd => (hk.iff _).mpr (.step ((hk.iff p).mp hp) (List.mem_map.mpr ⟨d, hd, rfl⟩))
    have l3 := dbh_len two ls p
    have lg := lcGo_fm (mt := tgName 10) (tt := tt_cheapest_walk_2) (me := el_cheapest_walk_1) (ρ := cwE two ls kn C (.lst L) u p (.fz (.int (i : Nat))) (.fz (dicE (coE co))) s8 s9) (fun d => D.tup [txt [d], txt (p.drop 1 ++ [d])]) (fun d => D.tup [txt [d], txt (p.drop 1 ++ [d])]) (fun d => decide (d ∈ co.1) && decide (co.2 d + lcW two ls r (p.drop 1 ++ [d]) = lcW two ls (co :: r) p)) (dbh two ls p) (fun x hx => by
      refine ⟨[.fz (dicE (stE two ls kn)), .fz C, .fz (txt dots), .fz (.lst L), .fz (txt u), .fz (txt p), .fz (.int (i : Nat)), .fz (dicE (coE co)), s8, s9, .fz (D.tup [txt [x], txt (p.drop 1 ++ [x])])], rfl, ?_, fun _ => rfl⟩
      by_cases hx2 : x ∈ co.1
      · have e2 : decide (((co.2 x : Nat) : Int) + ((lcW two ls r (p.drop 1 ++ [x]) : Nat) : Int) = ((lcW two ls (co :: r) p : Nat) : Int)) = decide (co.2 x + lcW two ls r (p.drop 1 ++ [x]) = lcW two ls (co :: r) p) := decide_eq_decide.mpr ⟨fun h => by omega, fun h => by omega⟩
        simp -implicitDefEqProofs (disch := omega) only [↓reduceIte, tt_cheapest_walk_2, mAnd_eq, mTest_eq, mB_eq, mVar_eq, mC_eq, List.getElem?_cons_succ, gz, slotD_fz, R_bind_ok, ixD_tup, ixD_lst, atE_0, atE_1, ofO_some, co_has, decide_eq_true hx2, blOf_bl, co_get hx2, addD_int, a0, a1, tab_get (hm x hx), tab_get hp, cmp_eq, eq_ii, e2, Bool.true_and]
      · simp -implicitDefEqProofs (disch := omega) only [↓reduceIte, tt_cheapest_walk_2, mAnd_eq, mTest_eq, mB_eq, mVar_eq, mC_eq, List.getElem?_cons_succ, gz, slotD_fz, R_bind_ok, ixD_tup, atE_0, ofO_some, co_has, decide_eq_false hx2, blOf_bl, Bool.false_eq_true, Bool.false_and])
    have eb2 : (dbh two ls p).filter (fun d => decide (d ∈ co.1) && decide (co.2 d + lcW two ls r (p.drop 1 ++ [d]) = lcW two ls (co :: r) p)) = d :: g := eb
    rw [eb2] at lg
    have ec : chW two ls (co :: r) p = d :: chW two ls r (p.drop 1 ++ [d]) := by
      show (match bst two ls co r p with | d :: _ => d :: chW two ls r (p.drop 1 ++ [d]) | [] => []) = _
      rw [eb]
    obtain ⟨p', t6, t7, t8, t9, ih⟩ := cheap_loop h hk C cs0 h60 r (i + 1) (u ++ [d]) (p.drop 1 ++ [d]) (.fz (.int (i : Nat))) (.fz (dicE (coE co))) (.fz (.lst ((d :: g).map fun d => D.tup [txt [d], txt (p.drop 1 ++ [d])]))) (.fz (txt [d])) hr (by omega) (fun x hx => hc x (.tail _ hx)) (hm d d1) (by rw [List.length_append, List.length_singleton]; omega)
    rw [hL] at ih
    refine ⟨p', t6, t7, t8, t9, ?_⟩
    have lu : u.length + 1 ≤ 16777216 := by omega
    have st : bd_cheapest_walk_3 (cwE two ls kn C (.lst L) u p (.fz (.int (i : Nat))) (.fz (dicE (coE co))) s8 s9) = .nx (cwE two ls kn C (.lst L) (u ++ [d]) (p.drop 1 ++ [d]) (.fz (.int (i : Nat))) (.fz (dicE (coE co))) (.fz (.lst ((d :: g).map fun d => D.tup [txt [d], txt (p.drop 1 ++ [d])]))) (.fz (txt [d]))) := by
      simp -implicitDefEqProofs (disch := omega) only [↓reduceIte, bd_cheapest_walk_3, sSeq_eq, sSet_eq, sUnp_eq, mFz_eq, mLc_eq, mSeq_eq, mB_eq, mVar_eq, mC_eq, List.getElem?_cons_succ, gz, slotD_fz, R_bind_ok, R_to_ok, st_get hp, anyOf_lst, List.length_map, ite_yes, wipe_cons, wipe_nil, List.set_cons_succ, List.set_cons_zero, lg, nx_ok', seqR_nx, ixD_lst, List.map_cons, atE_0, ofO_some, tgTup_eq, tgCons_eq, tgNil_eq, tgName_eq, List.length_cons, List.length_nil, addD_txt, sizeLine_eq]
    rw [List.map_cons, enumFrom_cons, forGo_cons]
    rw [show nx (tgTup 2 (tgCons (tgName 6) (tgCons (tgName 7) tgNil)) (.tup [.int (i : Nat), dicE (coE co)]) (cwE two ls kn C (.lst L) u p s6 s7 s8 s9)) = .ok (cwE two ls kn C (.lst L) u p (.fz (.int (i : Nat))) (.fz (dicE (coE co))) s8 s9) from rfl, R_to_ok, st, loopR_nx]
    refine ih.trans ?_
    rw [ec, List.append_assoc]
    rfl
theorem cheap_ok {two : Bool} {ls : List D} (h : ∀ d ∈ ls, isLim two d) {kn : List (List Nat)} (hk : Kn (suc two ls) dots kn) (hkl : kn.length ≤ 243) (cs : List CO) (hc : cs.length ≤ 60) (hd : ∀ co ∈ cs, 46 ∈ co.1) : f_cheapest_walk [dicE (stE two ls kn), .lst (cs.map fun co => dicE (coE co)), txt dots] = .ok (txt (chW two ls cs dots)) := by
  have lo0 := least_ok h hk hkl cs hc hd
  have hdk : dots ∈ kn := (hk.iff dots).mpr .start
  obtain ⟨p', t6, t7, t8, t9, lo⟩ := cheap_loop h hk (.lst (cs.map fun co => dicE (coE co))) cs hc cs 0 [] dots .un .un .un .un (List.drop_zero) (by omega) hd hdk (by simp; omega)
  rw [List.nil_append] at lo
  simp -implicitDefEqProofs (disch := omega) only [↓reduceIte, f_cheapest_walk, runD_eq, b_cheapest_walk, Mir.envOf, List.map_cons, List.map_nil, List.replicate, List.append_nil, List.cons_append, List.nil_append, List.length_cons, List.length_nil, sSeq_eq, sSet_eq, sFor_eq, sRet_eq, mFn_eq, mCons_eq, mNil_eq, mSeqs_eq, mC_eq, mVar_eq, List.getElem?_cons_succ, gz, slotD_fz, lo0, R_bind_ok, R_to_ok, List.set_cons_succ, List.set_cons_zero, seqR_nx, str_e, enF_lst, enum_from, lo, outR_ret]
/-- what is known of it -/
theorem ch_facts {two : Bool} {ls : List D} (h : ∀ d ∈ ls, isLim two d) : ∀ (cs : List CO) (w : List Nat), (∀ co ∈ cs, 46 ∈ co.1) → alw ls w = true → (∀ c ∈ w, c ∈ lets two) → (chW two ls cs (pst w)).length = cs.length ∧ alw ls (w ++ chW two ls cs (pst w)) = true ∧ (∀ c ∈ chW two ls cs (pst w), c ∈ lets two) ∧ ((cs.zip (chW two ls cs (pst w))).map fun x => x.1.2 x.2).sum = lcW two ls cs (pst w) ∧ ∀ x ∈ cs.zip (chW two ls cs (pst w)), x.2 ∈ x.1.1
  | [], w, _, hw, _ => ⟨rfl, by show alw ls (w ++ []) = true; rw [List.append_nil]; exact hw, fun _ h => (nomatch h), rfl, fun _ h => (nomatch h)⟩
  | co :: r, w, hc, hw, hl => by
    obtain ⟨d, g, e⟩ := bst_ne h (cal_rc hw hl) (hc co (.head _)) r
    obtain ⟨d1, d2, d3⟩ := bst_mem (show d ∈ bst two ls co r (pst w) by rw [e]; exact .head _)
    obtain ⟨k1, k2⟩ := dbh_in d1
    have hs : alw ls (w ++ [d]) = true := by rw [alw_snoc, hw, k2]; rfl
    have ih := ch_facts h r (w ++ [d]) (fun x hx => hc x (.tail _ hx)) hs fun c hcc => (List.mem_append.mp hcc).elim (hl c) fun z => by rw [List.mem_singleton.mp z]; exact k1
    rw [pst_app] at ih
    obtain ⟨i1, i2, i3, i4, i5⟩ := ih
    have ec : chW two ls (co :: r) (pst w) = d :: chW two ls r ((pst w).drop 1 ++ [d]) := by
      show (match bst two ls co r (pst w) with | d :: _ => d :: chW two ls r ((pst w).drop 1 ++ [d]) | [] => []) = _
      rw [e]
    rw [ec]
    refine ⟨by rw [List.length_cons, List.length_cons, i1], by rw [List.append_assoc] at i2; exact i2, fun c hcc => (List.mem_cons.mp hcc).elim (fun z => by rw [z]; exact k1) (i3 c), ?_, fun x hx => ?_⟩
    · rw [List.zip_cons_cons, List.map_cons, List.sum_cons, i4]
      exact d3
    · rw [List.zip_cons_cons] at hx
      rcases List.mem_cons.mp hx with rfl | hx
      · exact d2
      · exact i5 x hx
/-! ### the cheapest walk among all that its costs know -/
def gco (cs : List CO) (u : List Nat) : Nat := ((cs.zip u).map fun x => x.1.2 x.2).sum
theorem gco_cons (co : CO) (cs : List CO) (d : Nat) (u : List Nat) : gco (co :: cs) (d :: u) = co.2 d + gco cs u := by
  unfold gco; rw [List.zip_cons_cons, List.map_cons, List.sum_cons]
theorem bst_least {two : Bool} {ls : List D} {co : CO} {r : List CO} {p : List Nat} {e d : Nat} {g : List Nat} (h : bst two ls co r p = e :: g) (hd : d ∈ bst two ls co r p) : d = e ∨ e < d := by
  have pw : (bst two ls co r p).Pairwise (· < ·) := ((show (lets two).Pairwise (· < ·) by cases two <;> decide).filter _).filter _
  rw [h] at pw hd
  exact (List.mem_cons.mp hd).imp id fun z => (List.pairwise_cons.mp pw).1 d z
theorem ch_leastG {two : Bool} {ls : List D} (h : ∀ d ∈ ls, isLim two d) : ∀ (cs : List CO) (w u : List Nat), alw ls w = true → (∀ c ∈ w, c ∈ lets two) → u.length = cs.length → (∀ x ∈ cs.zip u, x.2 ∈ x.1.1) → (∀ c ∈ u, c ∈ lets two) → alw ls (w ++ u) = true → lcW two ls cs (pst w) ≤ gco cs u ∧ (gco cs u = lcW two ls cs (pst w) → u = chW two ls cs (pst w) ∨ chW two ls cs (pst w) < u)
  | [], w, u, _, _, hu, _, _, _ => by
    rw [List.length_eq_zero_iff.mp hu]
    exact ⟨Nat.le_refl _, fun _ => .inl rfl⟩
  | c :: r, w, [], _, _, hu, _, _, _ => by cases hu
  | c :: r, w, d :: u, hw, hl, hu, hz, hul, ha => by
    have ha2 : alw ls ((w ++ [d]) ++ u) = true := by rw [List.append_assoc]; exact ha
    have a1 : alw ls (w ++ [d]) = true := by
      have := alw_take (w ++ [d]).length ha2
      rwa [List.take_left] at this
    have dl := hul d (.head _)
    have dc : d ∈ c.1 := hz (c, d) (by rw [List.zip_cons_cons]; exact .head _)
    have db := (dbh_iff (two := two) hw dl).mpr a1
    have ih := ch_leastG h r (w ++ [d]) u a1 (fun c hcc => (List.mem_append.mp hcc).elim (hl c) fun z => by rw [List.mem_singleton.mp z]; exact dl) (by simpa using hu) (fun x hx => hz x (by rw [List.zip_cons_cons]; exact .tail _ hx)) (fun c hc => hul c (.tail _ hc)) ha2
    rw [pst_app] at ih
    obtain ⟨i1, i2⟩ := ih
    have le : lcW two ls (c :: r) (pst w) ≤ c.2 d + lcW two ls r ((pst w).drop 1 ++ [d]) :=
      mnN_le (List.mem_map.mpr ⟨d, List.mem_filter.mpr ⟨db, decide_eq_true dc⟩, rfl⟩)
    rw [gco_cons]
    refine ⟨by omega, fun e => ?_⟩
    have e1 : c.2 d + lcW two ls r ((pst w).drop 1 ++ [d]) = lcW two ls (c :: r) (pst w) := by omega
    have e2 : gco r u = lcW two ls r ((pst w).drop 1 ++ [d]) := by omega
    have hb : d ∈ bst two ls c r (pst w) := List.mem_filter.mpr ⟨db, by rw [decide_eq_true dc, decide_eq_true e1]; rfl⟩
    cases eb : bst two ls c r (pst w) with
    | nil => rw [eb] at hb; cases hb
    | cons b g =>
      have ec : chW two ls (c :: r) (pst w) = b :: chW two ls r ((pst w).drop 1 ++ [b]) := by
        show (match bst two ls c r (pst w) with | d :: _ => d :: chW two ls r ((pst w).drop 1 ++ [d]) | [] => []) = _
        rw [eb]
      rw [ec]
      rcases bst_least eb hb with q | q
      · subst q
        rcases i2 e2 with z | z
        · exact .inl (congrArg (d :: ·) z)
        · exact .inr (List.cons_lt_cons_iff.mpr (.inr ⟨rfl, z⟩))
      · exact .inr (List.cons_lt_cons_iff.mpr (.inl q))
/-! ### days that become days away -/
def coK (c : Nat) : CO := (if c = 46 then [46] else [46, c], fun x => if x = c then 0 else 1)
theorem coK_dot (c : Nat) : 46 ∈ (coK c).1 := by unfold coK; by_cases h : c = 46 <;> simp [h]
theorem coK_mem {c d : Nat} : d ∈ (coK c).1 ↔ d = 46 ∨ d = c := by
  unfold coK
  by_cases h : c = 46
  · simp [h]
  · simp [h]
/-- u has come of w -/
def feas : List Nat → List Nat → Prop
  | [], [] => True
  | c :: w, d :: u => (d = 46 ∨ d = c) ∧ feas w u
  | _, _ => False
theorem feas_len : ∀ {w u : List Nat}, feas w u → u.length = w.length
  | [], [], _ => rfl
  | _ :: w, _ :: u, h => congrArg (· + 1) (feas_len (w := w) (u := u) h.2)
  | [], _ :: _, h => h.elim
  | _ :: _, [], h => h.elim
theorem feas_zip : ∀ {w u : List Nat}, feas w u ↔ u.length = w.length ∧ ∀ x ∈ (w.map coK).zip u, x.2 ∈ x.1.1
  | [], [] => ⟨fun _ => ⟨rfl, fun _ h => nomatch h⟩, fun _ => trivial⟩
  | c :: w, d :: u => by
    show ((d = 46 ∨ d = c) ∧ feas w u) ↔ _
    rw [feas_zip (w := w) (u := u), List.map_cons, List.zip_cons_cons]
    constructor
    · intro ⟨h1, h2, h3⟩
      exact ⟨congrArg (· + 1) h2, fun x hx => (List.mem_cons.mp hx).elim (fun z => by rw [z]; exact coK_mem.mpr h1) (h3 x)⟩
    · intro ⟨h1, h2⟩
      exact ⟨coK_mem.mp (h2 (coK c, d) (.head _)), Nat.succ.inj h1, fun x hx => h2 x (.tail _ hx)⟩
  | [], _ :: _ => ⟨fun h => h.elim, fun h => by cases h.1⟩
  | _ :: _, [] => ⟨fun h => h.elim, fun h => by cases h.1⟩
theorem feas_lets {two : Bool} : ∀ {w u : List Nat}, feas w u → (∀ c ∈ w, c ∈ lets two) → ∀ c ∈ u, c ∈ lets two
  | [], [], _, _, _, hx => nomatch hx
  | c :: w, d :: u, h, hw, x, hx => by
    rcases List.mem_cons.mp hx with rfl | hx
    · rcases h.1 with rfl | rfl
      · exact lets_dot two
      · exact hw _ (.head _)
    · exact feas_lets (w := w) (u := u) h.2 (fun c hc => hw c (.tail _ hc)) x hx
  | [], _ :: _, h, _, _, _ => h.elim
  | _ :: _, [], h, _, _, _ => h.elim
theorem feas_self : ∀ w : List Nat, feas w w
  | [] => trivial
  | _ :: w => ⟨.inr rfl, feas_self w⟩
abbrev gk (w u : List Nat) : Nat := gco (w.map coK) u
theorem gk_cons (c d : Nat) (w u : List Nat) : gk (c :: w) (d :: u) = (if d = c then 0 else 1) + gk w u := gco_cons (coK c) (w.map coK) d u
theorem gk_nil : gk [] [] = 0 := rfl
theorem gk_self : ∀ w : List Nat, gk w w = 0
  | [] => rfl
  | c :: w => by rw [gk_cons, if_pos rfl, gk_self w]
theorem gk_zero : ∀ {w u : List Nat}, feas w u → gk w u = 0 → u = w
  | [], [], _, _ => rfl
  | c :: w, d :: u, h, e => by
    rw [gk_cons] at e
    by_cases z : d = c
    · rw [z, gk_zero (w := w) (u := u) h.2 (by rw [if_pos z] at e; omega)]
    · rw [if_neg z] at e; omega
  | [], _ :: _, h, _ => h.elim
  | _ :: _, [], h, _ => h.elim
theorem gk_le : ∀ {w u : List Nat}, feas w u → gk w u ≤ w.length
  | [], [], _ => Nat.le_refl _
  | c :: w, d :: u, h => by
    have := gk_le (w := w) (u := u) h.2
    rw [gk_cons, List.length_cons]
    split <;> omega
  | [], _ :: _, h => h.elim
  | _ :: _, [], h => h.elim
/-- one more day becomes a day away -/
theorem gk_set : ∀ {w u : List Nat} (k : Nat), feas w u → u.getD k 46 ≠ 46 → feas w (u.set k 46) ∧ gk w (u.set k 46) = gk w u + 1
  | [], [], k, _, hk => absurd (by simp) hk
  | c :: w, d :: u, 0, h, hk => by
    have hk : d ≠ 46 := hk
    have dc : d = c := h.1.resolve_left hk
    show feas (c :: w) (46 :: u) ∧ gk (c :: w) (46 :: u) = _
    refine ⟨⟨.inl rfl, h.2⟩, ?_⟩
    rw [gk_cons, gk_cons, if_neg (fun z => hk (dc.trans z.symm)), if_pos dc]; omega
  | c :: w, d :: u, k + 1, h, hk => by
    obtain ⟨i1, i2⟩ := gk_set (w := w) (u := u) k h.2 (by simpa using hk)
    show feas (c :: w) (d :: u.set k 46) ∧ gk (c :: w) (d :: u.set k 46) = _
    refine ⟨⟨h.1, i1⟩, ?_⟩
    rw [gk_cons, gk_cons, i2]; omega
  | [], _ :: _, _, h, _ => h.elim
  | _ :: _, [], _, h, _ => h.elim
theorem gk_back : ∀ {w v : List Nat}, feas w v → 0 < gk w v → ∃ u k, feas w u ∧ gk w u + 1 = gk w v ∧ k < u.length ∧ u.getD k 46 ≠ 46 ∧ v = u.set k 46
  | [], [], _, h => absurd h (Nat.lt_irrefl 0)
  | c :: w, d :: v, h, e => by
    by_cases z : d = c
    · rw [gk_cons, if_pos z] at e
      obtain ⟨u, k, h1, h2, h3, h4, h5⟩ := gk_back (w := w) (v := v) h.2 (by omega)
      exact ⟨d :: u, k + 1, ⟨h.1, h1⟩, by rw [gk_cons, gk_cons]; omega, by rw [List.length_cons]; omega, by simpa using h4, by rw [h5]; rfl⟩
    · have d46 : d = 46 := h.1.resolve_right z
      exact ⟨c :: v, 0, ⟨.inr rfl, h.2⟩, by rw [gk_cons, gk_cons, if_pos rfl, if_neg z]; omega, Nat.zero_lt_succ _, fun q => z (d46.trans (show c = 46 from q).symm), by rw [d46]; rfl⟩
  | [], _ :: _, h, _ => h.elim
  | _ :: _, [], h, _ => h.elim
def feL : List Nat → List (List Nat)
  | [] => [[]]
  | c :: w => (feL w).flatMap fun u => [46 :: u, c :: u]
theorem feL_len : ∀ w : List Nat, (feL w).length = 2 ^ w.length
  | [] => rfl
  | c :: w => by
    have : ∀ l : List (List Nat), (l.flatMap fun u => [46 :: u, c :: u]).length = 2 * l.length := fun l => by
      induction l with
      | nil => rfl
      | cons x r ih => rw [List.flatMap_cons, List.length_append, ih]; simp only [List.length_cons, List.length_nil]; omega
    show ((feL w).flatMap _).length = _
    rw [this, feL_len w, List.length_cons, Nat.pow_succ, Nat.mul_comm]
theorem mem_feL : ∀ {w u : List Nat}, feas w u → u ∈ feL w
  | [], [], _ => .head _
  | c :: w, d :: u, h => by
    refine List.mem_flatMap.mpr ⟨u, mem_feL (w := w) (u := u) h.2, ?_⟩
    rcases h.1 with rfl | rfl
    · exact .head _
    · exact .tail _ (.head _)
  | [], _ :: _, h => h.elim
  | _ :: _, [], h => h.elim
/-- the days that differ -/
def offL (u w : List Nat) (n : Nat) : List Nat := (List.range n).filter fun k => decide (u.getD k 46 ≠ w.getD k 46)
theorem off_len : ∀ {w u : List Nat}, feas w u → (offL u w w.length).length = gk w u
  | [], [], _ => rfl
  | c :: w, d :: u, h => by
    have ih := off_len (w := w) (u := u) h.2
    unfold offL at ih ⊢
    rw [List.length_cons, List.range_succ_eq_map, List.filter_cons, List.filter_map, gk_cons, ← ih]
    have e : ((List.range w.length).filter ((fun k => decide ((d :: u).getD k 46 ≠ (c :: w).getD k 46)) ∘ Nat.succ)) = (List.range w.length).filter fun k => decide (u.getD k 46 ≠ w.getD k 46) := rfl
    rw [e]
    have e0 : decide ((d :: u).getD 0 46 ≠ (c :: w).getD 0 46) = decide (d ≠ c) := rfl
    rw [e0]
    by_cases z : d = c
    · rw [if_neg (by simp [z]), if_pos z, List.length_map, Nat.zero_add]
    · rw [if_pos (by simp [z]), if_neg z, List.length_cons, List.length_map]; omega
  | [], _ :: _, h => h.elim
  | _ :: _, [], h => h.elim
theorem off_dot : ∀ {w u : List Nat}, feas w u → ∀ k, k < w.length → u.getD k 46 ≠ w.getD k 46 → u.getD k 46 = 46
  | [], [], _, k, hk, _ => absurd hk (Nat.not_lt_zero k)
  | c :: w, d :: u, h, 0, _, hne => h.1.resolve_right hne
  | c :: w, d :: u, h, k + 1, hk, hne => off_dot (w := w) (u := u) h.2 k (Nat.lt_of_succ_lt_succ hk) hne
  | [], _ :: _, h, _, _, _ => h.elim
  | _ :: _, [], h, _, _, _ => h.elim
/-! ### what the program answers -/
theorem cost_one {c : Nat} (hc : c = 46 ∨ c = 97 ∨ c = 98) (s0 : Slot) : el__costs_of_1 [s0, .fz (txt [c])] = .ok (dicE (coE (coK c))) := by
  have i0 : intF [.bl false] = .ok (.int 0) := rfl
  have i1 : intF [.bl true] = .ok (.int 1) := rfl
  have ne : neD (txt [c]) (txt [46]) = .ok (.bl (decide (c ≠ 46))) := by
    rcases hc with rfl | rfl | rfl
    · exact of_isBl (by decide +kernel)
    · exact of_isBl (by decide +kernel)
    · exact of_isBl (by decide +kernel)
  unfold el__costs_of_1 mDd
  by_cases h : c = 46
  · subst h
    have ne : neD (txt [46]) (txt [46]) = .ok (.bl false) := ne
    simp -implicitDefEqProofs (disch := omega) only [↓reduceIte, ddGo, str_d, mCall_eq, mCons_eq, mNil_eq, mB_eq, mVar_eq, mC_eq, List.getElem?_cons_succ, gz, slotD_fz, R_bind_ok, cmp_ne, ne, i0, keyOf_txt, ofO_some, List.length_cons, List.length_nil, ite_yes]
    have e : (([(Sum.inr (Wd [46]), D.int 0), (Sum.inr (Wd [46]), D.int 0)] : List (Key × D)).foldl (fun acc e => ins acc e.1 e.2) []) = coE (coK 46) := by
      simp [ins, coE, coK, tabW]
    rw [e]
  · have ne : neD (txt [c]) (txt [46]) = .ok (.bl true) := by rw [ne, decide_eq_true h]
    simp -implicitDefEqProofs (disch := omega) only [↓reduceIte, ddGo, str_d, mCall_eq, mCons_eq, mNil_eq, mB_eq, mVar_eq, mC_eq, List.getElem?_cons_succ, gz, slotD_fz, R_bind_ok, cmp_ne, ne, i1, keyOf_txt, ofO_some, List.length_cons, List.length_nil, ite_yes]
    have h2 : ¬ 46 = c := fun z => h z.symm
    have e : (([(Sum.inr (Wd [46]), D.int 1), (Sum.inr (Wd [c]), D.int 0)] : List (Key × D)).foldl (fun acc e => ins acc e.1 e.2) []) = coE (coK c) := by
      have t := tab_snoc (fun q => D.int (((coK c).2 (q.headD 0) : Nat) : Int)) [[46]] [c] (by simp [h])
      have a1 : (((coK c).2 46 : Nat) : Int) = 1 := by unfold coK; simp [h2]
      have a2 : (((coK c).2 c : Nat) : Int) = 0 := by unfold coK; simp
      have l : (coK c).1 = [46, c] := by unfold coK; rw [if_neg h]
      unfold coE
      rw [l]
      show ins (ins [] (Sum.inr (Wd [46])) (D.int 1)) (Sum.inr (Wd [c])) (D.int 0) = _
      have e0 : ins ([] : List (Key × D)) (Sum.inr (Wd [46])) (D.int 1) = tabW (fun q => D.int (((coK c).2 (q.headD 0) : Nat) : Int)) [[46]] := by
        show [(Sum.inr (Wd [46]), D.int 1)] = [(_, D.int (((coK c).2 46 : Nat) : Int))]
        rw [a1]
      rw [e0]
      have t2 : ins (tabW (fun q => D.int (((coK c).2 (q.headD 0) : Nat) : Int)) [[46]]) (Sum.inr (Wd [c])) (D.int (((coK c).2 c : Nat) : Int)) = _ := t
      rw [a2] at t2
      rw [t2]
      rfl
    rw [e]
theorem costs_ok {two : Bool} (w : List Nat) (hw : w.length ≤ 60) (hc : ∀ c ∈ w, c ∈ lets two) : f__costs_of [txt w] = .ok (.lst ((w.map coK).map fun co => dicE (coE co))) := by
  have l3 : ∀ c ∈ lets two, c = 46 ∨ c = 97 ∨ c = 98 := by cases two <;> decide
  have lg := lcGo_fa (mt := tgName 1) (me := el__costs_of_1) (ρ := [.fz (txt w), .un]) (fun c => txt [c]) (fun c => dicE (coE (coK c))) w (fun c h => ⟨[.fz (txt w), .fz (txt [c])], rfl, cost_one (l3 c (hc c h)) _⟩)
  have em : (w.map fun c => dicE (coE (coK c))) = (w.map coK).map fun co => dicE (coE co) := by rw [List.map_map]; rfl
  rw [em] at lg
  simp -implicitDefEqProofs (disch := omega) only [↓reduceIte, f__costs_of, runD_eq, b__costs_of, Mir.envOf, List.map_cons, List.map_nil, List.replicate, List.append_nil, List.cons_append, List.nil_append, List.length_cons, List.length_nil, sRet_eq, mFz_eq, mLc_eq, mSeq_eq, mVar_eq, List.getElem?_cons_succ, gz, slotD_fz, R_bind_ok, R_to_ok, anyOf_txt, List.length_map, ite_yes, wipe_cons, wipe_nil, List.set_cons_succ, List.set_cons_zero, lg, nx_ok', outR_ret]
abbrev kW (two : Bool) (ls : List D) (w : List Nat) : Nat := lcW two ls (w.map coK) dots
abbrev tW (two : Bool) (ls : List D) (w : List Nat) : List Nat := chW two ls (w.map coK) dots
section
variable {two : Bool} {ls : List D} (hl : ls.length ≤ 4) (h : ∀ d ∈ ls, isLim two d) (w : List Nat) (hw : w.length ≤ 60) (hc : ∀ c ∈ w, c ∈ lets two)
include hl h hw hc
theorem both_run : f_fewest_away [bk two ls, txt w] = .ok (.int (kW two ls w : Nat)) ∧ f_thinned [bk two ls, txt w] = .ok (txt (tW two ls w)) := by
  have ck : f_check_calendar [bk two ls, txt w] = .ok .non := chkcal_good ((iscal_txt w (isbook_ok hl h) (by omega)).trans (by
    have : (w.all fun c => decide (c ∈ lets two)) = true := List.all_eq_true.mpr fun c hx => decide_eq_true (hc c hx)
    rw [this, decide_eq_true hw]; rfl))
  obtain ⟨kn, es, hk⟩ := steps_ok h
  have kl : kn.length ≤ 243 := Nat.le_trans (nodup_len hk.nd fun p hp => rc_words ((hk.iff p).mp hp)) (words_len two)
  have co := costs_ok (two := two) w hw hc
  have hd : ∀ co ∈ w.map coK, 46 ∈ co.1 := fun x hx => by obtain ⟨c, _, rfl⟩ := List.mem_map.mp hx; exact coK_dot c
  have le := least_ok h hk kl (w.map coK) (by rw [List.length_map]; exact hw) hd
  have ch := cheap_ok h hk kl (w.map coK) (by rw [List.length_map]; exact hw) hd
  have hdk : dots ∈ kn := (hk.iff dots).mpr .start
  have a0 : ixD (.lst ((List.range ((w.map coK).length + 1)).map fun i => dicE (lcE two ls kn ((w.map coK).drop i)))) (.int 0) = .ok (dicE (lcE two ls kn (w.map coK))) := by
    rw [ixD_lst, List.range_succ_eq_map, List.map_cons, atE_0, ofO_some, List.drop_zero]
  have g0 := tab_get (f := fun p => D.int (lcW two ls (w.map coK) p : Nat)) hdk
  unfold kW tW
  generalize w.map coK = cs at *
  constructor
  · simp -implicitDefEqProofs (disch := omega) only [↓reduceIte, f_fewest_away, runD_eq, b_fewest_away, Mir.envOf, List.map_cons, List.map_nil, List.replicate, List.append_nil, List.cons_append, List.nil_append, List.length_cons, List.length_nil, sSeq_eq, sDrop_eq, sRet_eq, mFn_eq, mCons_eq, mNil_eq, mB_eq, mVar_eq, mC_eq, List.getElem?_cons_succ, gz, slotD_fz, R_bind_ok, R_to_ok, ck, seqR_nx, es, co, le, a0, dots_txt, g0, outR_ret]
  · simp -implicitDefEqProofs (disch := omega) only [↓reduceIte, f_thinned, runD_eq, b_thinned, Mir.envOf, List.map_cons, List.map_nil, List.replicate, List.append_nil, List.cons_append, List.nil_append, List.length_cons, List.length_nil, sSeq_eq, sDrop_eq, sRet_eq, mFn_eq, mCons_eq, mNil_eq, mB_eq, mVar_eq, mC_eq, List.getElem?_cons_succ, gz, slotD_fz, R_bind_ok, R_to_ok, ck, seqR_nx, es, co, dots_txt, ch, outR_ret]
omit hl
/-- what is known of both -/
theorem thin_facts : feas w (tW two ls w) ∧ alw ls (tW two ls w) = true ∧ gk w (tW two ls w) = kW two ls w ∧ (∀ u, feas w u → alw ls u = true → kW two ls w ≤ gk w u ∧ (gk w u = kW two ls w → u = tW two ls w ∨ tW two ls w < u)) := by
  have hd : ∀ co ∈ w.map coK, 46 ∈ co.1 := fun x hx => by obtain ⟨c, _, rfl⟩ := List.mem_map.mp hx; exact coK_dot c
  have an : alw ls [] = true := (alw_iff ls []).mpr fun k hk => absurd hk (Nat.not_lt_zero _)
  obtain ⟨f1, f2, f3, f4, f5⟩ := ch_facts h (w.map coK) [] hd an (fun _ h => nomatch h)
  rw [dots_pst] at f1 f2 f3 f4 f5
  rw [List.nil_append] at f2
  refine ⟨feas_zip.mpr ⟨by rw [f1, List.length_map], f5⟩, f2, f4, fun u hu ha => ?_⟩
  obtain ⟨z1, z2⟩ := feas_zip.mp hu
  have := ch_leastG h (w.map coK) [] u an (fun _ h => nomatch h) (by rw [z1, List.length_map]) z2 (feas_lets hu hc) (by rw [List.nil_append]; exact ha)
  rw [dots_pst] at this
  exact this
end
/-! ### the law -/
theorem strs_txts (l : List (List Nat)) : strsOf (l.map txt) = some (l.map Wd) := by
  induction l with
  | nil => rfl
  | cons c r ih => rw [List.map_cons, List.map_cons]; show (strsOf (r.map txt)).map _ = _; rw [ih]; rfl
theorem Wd_inj {a b : List Nat} (h : Wd a = Wd b) : a = b := by injection h with h; exact congrArg Array.toList h
theorem Wd_toList (x : Str) : Wd x.cps.toList = x := by cases x; rfl
theorem sort_pasts (xs : List (List Nat)) (h4 : xs.length < 4000) : ∃ ys : List (List Nat), setGo strsOf finT (xs.map txt) = .ok (.lst (ys.map txt)) ∧ ys.Nodup ∧ ∀ p, p ∈ ys ↔ p ∈ xs := by
  refine ⟨(sortS (dset (xs.map Wd))).map fun x => x.cps.toList, ?_, ?_, fun p => ?_⟩
  · unfold setGo
    rw [strs_txts]
    show (if (xs.map Wd).length < 4000 then finT (xs.map Wd) else .bad) = _
    rw [if_pos (by rw [List.length_map]; exact h4)]
    unfold finT
    rw [List.map_map]
    refine congrArg (fun l => R.ok (D.lst l)) (List.map_congr_left fun x _ => ?_)
    show D.str x = D.str (Wd x.cps.toList)
    rw [Wd_toList]
  · have nd : (sortS (dset (xs.map Wd))).Nodup := (List.mergeSort_perm _ leS).nodup_iff.mpr (dset_nodup _)
    exact List.Pairwise.map _ (fun a b hab z => hab (by
      have : Wd a.cps.toList = Wd b.cps.toList := congrArg Wd z
      rw [Wd_toList, Wd_toList] at this
      exact this)) nd
  · rw [List.mem_map]
    constructor
    · rintro ⟨x, hx, rfl⟩
      have := dset_mem.mp ((List.mergeSort_perm _ leS).mem_iff.mp hx)
      obtain ⟨q, hq, rfl⟩ := List.mem_map.mp this
      exact hq
    · intro hp
      exact ⟨Wd p, (List.mergeSort_perm _ leS).mem_iff.mpr (dset_mem.mpr (List.mem_map.mpr ⟨p, hp, rfl⟩)), rfl⟩
theorem minStr_is {m : List Nat} : ∀ (r : List (List Nat)) (x : List Nat), m ∈ x :: r → (∀ y ∈ x :: r, y = m ∨ m < y) → minStr (Wd x) (r.map Wd) = Wd m
  | [], x, hm, _ => by rw [List.mem_singleton.mp hm]; rfl
  | y :: r, x, hm, h => by
    unfold minStr
    rw [List.map_cons, List.foldl_cons]
    by_cases q : (Wd y).cps.toList < (Wd x).cps.toList
    · rw [if_pos q]
      have q : y < x := q
      refine minStr_is r y ?_ fun z hz => h z (.tail _ hz)
      rcases List.mem_cons.mp hm with rfl | hm
      · rcases h y (.tail _ (.head _)) with e | e
        · rw [e]; exact .head _
        · exact absurd q (List.lt_asymm e)
      · exact hm
    · rw [if_neg q]
      have q : ¬ y < x := q
      refine minStr_is r x ?_ fun z hz => h z ((List.mem_cons.mp hz).elim (fun e => by rw [e]; exact .head _) fun e => .tail _ (.tail _ e))
      rcases List.mem_cons.mp hm with rfl | hm
      · exact .head _
      · rcases List.mem_cons.mp hm with rfl | hm
        · rcases h x (.head _) with e | e
          · rw [e]; exact .head _
          · exact absurd e q
        · exact .tail _ hm
theorem min_txts {l : List (List Nat)} {m : List Nat} (hm : m ∈ l) (h : ∀ y ∈ l, y = m ∨ m < y) : minTF [.lst (l.map txt)] = .ok (txt m) := by
  cases l with
  | nil => cases hm
  | cons x r =>
    show (match strsOf ((x :: r).map txt) with
      | some (y :: ys) => R.ok (D.str (minStr y ys))
      | _ => R.bad) = _
    rw [strs_txts, List.map_cons]
    show R.ok (D.str (minStr (Wd x) (r.map Wd))) = _
    rw [minStr_is r x hm h]; rfl
theorem ne_txts {a b : List Nat} (ha : abc a = true) (hb : abc b = true) : neD (txt a) (txt b) = .ok (.bl (decide (a ≠ b))) := by
  rw [ne_pl' (plx_txt ha 0 |> fun h => pl_mono h (by omega)) (plx_txt hb 0 |> fun h => pl_mono h (by omega)), eqv_txt]
  congr 2
  by_cases h : a = b <;> simp [h]
theorem abc_lets {two : Bool} {u : List Nat} (h : ∀ c ∈ u, c ∈ lets two) : abc u = true := by
  unfold abc
  rw [List.all_eq_true]
  intro c hc
  have := h c hc
  cases two <;> simp [lets] at this <;> rcases this with rfl | rfl | rfl <;> rfl
theorem txts_pl {l : List (List Nat)} (h : ∀ u ∈ l, abc u = true) : Mir.pl 2 (.lst (l.map txt)) := pl_lst fun d hd => by
  obtain ⟨u, hu, rfl⟩ := List.mem_map.mp hd
  exact pl_txt (h u hu)
theorem rng_nat (n : Nat) (h : n ≤ 1000) : rng1 [.int (n : Nat)] = .ok ((List.range n).map fun i : Nat => D.int ((i : Nat) : Int)) := by
  have e : rangeD 0 n = (List.range n).map fun i : Nat => D.int ((i : Nat) : Int) := by
    unfold rangeD
    exact List.map_congr_left fun i _ => by show D.int (0 + (i : Int)) = _; rw [Int.zero_add]
  rw [← e]
  unfold rng1
  exact if_pos ⟨by omega, by omega⟩
theorem at_getD {u : List Nat} {k : Nat} (hk : k < u.length) (hl : u.length ≤ 1000) : ixD (txt u) (.int (k : Nat)) = .ok (txt [u.getD k 46]) := by
  rw [ixD_txtE _ (by omega), atE_nat, List.getElem?_eq_getElem hk, ofO_some, List.getD_eq_getElem?_getD, List.getElem?_eq_getElem hk]; rfl
theorem getD_in {two : Bool} {u : List Nat} (h : ∀ c ∈ u, c ∈ lets two) (k : Nat) : u.getD k 46 ∈ lets two := by
  rw [List.getD_eq_getElem?_getD]
  by_cases hk : k < u.length
  · rw [List.getElem?_eq_getElem hk]; exact h _ (List.getElem_mem hk)
  · rw [List.getElem?_eq_none (by omega)]; exact lets_dot two
def latr (u : List Nat) : List (List Nat) := ((List.range u.length).filter fun k => decide (u.getD k 46 ≠ 46)).map fun k => u.set k 46
theorem latr_len (u : List Nat) : (latr u).length ≤ u.length := by
  unfold latr
  rw [List.length_map]
  exact Nat.le_trans (List.length_filter_le _ _) (by rw [List.length_range]; exact Nat.le_refl _)
abbrev l52 (S : List Int) (s1 s2 s3 s4 s5 s6 s7 s8 s9 s10 s11 s12 : Slot) : Mir.Env := [.fz (.rol (S.map D.int)), s1, s2, s3, s4, s5, s6, s7, s8, s9, s10, s11, s12, .un]
theorem later_go {two : Bool} (S : List Int) (s1 s2 s3 s4 s5 s6 s9 s10 s11 s12 : Slot) : ∀ (us : List (List Nat)) (acc : List (List Nat)) (s8 : Slot), (∀ u ∈ us, u.length ≤ 11 ∧ ∀ c ∈ u, c ∈ lets two) → acc.length + 11 * us.length ≤ 100000 →
    ∃ t8, forGo (tgName 8) bd_law_5 (us.map txt) (l52 S s1 s2 s3 s4 s5 s6 (.ol (acc.map txt)) s8 s9 s10 s11 s12) = .nx (l52 S s1 s2 s3 s4 s5 s6 (.ol ((acc ++ us.flatMap latr).map txt)) t8 s9 s10 s11 s12)
  | [], acc, s8, _, _ => ⟨s8, by rw [List.map_nil, forGo_nil, List.flatMap_nil, List.append_nil]⟩
  | u :: r, acc, s8, hu, ha => by
    rw [List.length_cons] at ha
    obtain ⟨ul, uc⟩ := hu u (.head _)
    have ll := latr_len u
    obtain ⟨t8, ih⟩ := later_go (two := two) S s1 s2 s3 s4 s5 s6 s9 s10 s11 s12 r (acc ++ latr u) (.fz (txt u)) (fun x hx => hu x (.tail _ hx)) (by rw [List.length_append]; omega)
    refine ⟨t8, ?_⟩
    have lg := lcGo_fm (mt := tgName 13) (tt := tt_law_4) (me := el_law_3) (ρ := l52 S s1 s2 s3 s4 s5 s6 (.ol (acc.map txt)) (.fz (txt u)) s9 s10 s11 s12) (fun k : Nat => D.int ((k : Nat) : Int)) (fun k : Nat => txt (u.set k 46)) (fun k => decide (u.getD k 46 ≠ 46)) (List.range u.length) (fun k hk => ⟨[.fz (.rol (S.map D.int)), s1, s2, s3, s4, s5, s6, .ol (acc.map txt), .fz (txt u), s9, s10, s11, s12, .fz (.int (k : Nat))], rfl, by
      have a := at_getD (List.mem_range.mp hk) (show u.length ≤ 1000 by omega)
      have n := ne_txts (a := [u.getD k 46]) (b := [46]) (abc_lets (two := two) fun c hc => by rw [List.mem_singleton.mp hc]; exact getD_in uc k) rfl
      have e : decide ([u.getD k 46] ≠ [46]) = decide (u.getD k 46 ≠ 46) := decide_eq_decide.mpr ⟨fun h z => h (by rw [z]), fun h z => h (by injection z)⟩
      rw [e] at n
      simp -implicitDefEqProofs (disch := omega) only [↓reduceIte, tt_law_4, mTest_eq, mB_eq, mVar_eq, mC_eq, str_d, List.getElem?_cons_succ, gz, slotD_fz, R_bind_ok, a, cmp_ne, n, blOf_bl], fun _ => by
      have hk := List.mem_range.mp hk
      have s1' : slD (txt u) none (some ((k : Nat) : Int)) = .ok (txt (u.take k)) := by rw [slD_txt, if_pos (lit_le _ (by omega)), cutE_to]
      have s2' : slD (txt u) (some (((k : Nat) : Int) + 1)) none = .ok (txt (u.drop (k + 1))) := by rw [slD_txt, if_pos (lit_le _ (by omega)), cutE_fr1]
      have a1 : addD (txt (u.take k)) (txt [46]) = .ok (txt (u.take k ++ [46])) := by rw [addD_txt, if_pos (lit_le _ (by rw [List.length_take, List.length_singleton]; omega))]
      have a2 : addD (txt (u.take k ++ [46])) (txt (u.drop (k + 1))) = .ok (txt (u.set k 46)) := by
        rw [addD_txt, if_pos (lit_le _ (by rw [List.length_append, List.length_take, List.length_singleton, List.length_drop]; omega)), List.append_assoc, List.singleton_append, List.set_eq_take_append_cons_drop, if_pos hk]
      simp -implicitDefEqProofs (disch := omega) only [↓reduceIte, el_law_3, mB_eq, mSl_eq, mNo_eq, mSome_eq, mVar_eq, mC_eq, str_d, List.getElem?_cons_succ, gz, slotD_fz, R_bind_ok, intO_int, addD_int, s1', s2', a1, a2]⟩)
    have em : (((List.range u.length).filter fun k => decide (u.getD k 46 ≠ 46)).map fun k : Nat => txt (u.set k 46)) = (latr u).map txt := by unfold latr; rw [List.map_map]; rfl
    rw [em] at lg
    have rn := rng_nat u.length (by omega)
    have sum : (acc.map txt).length + ((latr u).map txt).length < 16000000 := by rw [List.length_map, List.length_map]; omega
    have st : bd_law_5 (l52 S s1 s2 s3 s4 s5 s6 (.ol (acc.map txt)) (.fz (txt u)) s9 s10 s11 s12) = .nx (l52 S s1 s2 s3 s4 s5 s6 (.ol ((acc ++ latr u).map txt)) (.fz (txt u)) s9 s10 s11 s12) := by
      simp -implicitDefEqProofs (disch := omega) only [↓reduceIte, bd_law_5, sExt_eq, olS_ol, lstS_lst, mFz_eq, mLc_eq, mSeqs_eq, mCall_eq, mCons_eq, mNil_eq, mVar_eq, List.getElem?_cons_succ, gz, slotD_fz, R_bind_ok, R_to_ok, len_txt, rn, List.length_map (f := fun i : Nat => D.int ((i : Nat) : Int)), List.length_range, ite_yes, wipe_cons, wipe_nil, List.set_cons_succ, List.set_cons_zero, lg, nx_ok', sum, List.map_append]
    rw [List.map_cons, forGo_cons, show nx (tgName 8 (txt u) (l52 S s1 s2 s3 s4 s5 s6 (.ol (acc.map txt)) s8 s9 s10 s11 s12)) = .ok (l52 S s1 s2 s3 s4 s5 s6 (.ol (acc.map txt)) (.fz (txt u)) s9 s10 s11 s12) from rfl, R_to_ok, st, loopR_nx, ih, List.flatMap_cons, List.append_assoc]
def lvl (w : List Nat) (k m : Nat) (L : List (List Nat)) : Prop := L.Nodup ∧ (m ≤ k → ∀ u, u ∈ L ↔ feas w u ∧ gk w u = m) ∧ (k < m → L = [])
theorem lvl_sub {w : List Nat} {k m : Nat} {L : List (List Nat)} (h : lvl w k m L) : ∀ u ∈ L, feas w u := fun u hu => by
  by_cases z : m ≤ k
  · exact ((h.2.1 z u).mp hu).1
  · rw [h.2.2 (by omega)] at hu; cases hu
theorem lvl_len {w : List Nat} {k m : Nat} {L : List (List Nat)} (h : lvl w k m L) (hw : w.length ≤ 7) : L.length ≤ 128 := by
  have := nodup_len h.1 fun u hu => mem_feL (lvl_sub h u hu)
  rw [feL_len] at this
  exact Nat.le_trans this (Nat.le_trans (Nat.pow_le_pow_right (by omega) hw) (by decide))
section
variable {two : Bool} {ls : List D} (hl : ls.length ≤ 4) (h : ∀ d ∈ ls, isLim two d) (w : List Nat) (hw : w.length ≤ 7) (hc : ∀ c ∈ w, c ∈ lets two)
include hl h hw hc
theorem lvl_step {m : Nat} {L : List (List Nat)} (H : lvl w (kW two ls w) m L) (ys : List (List Nat)) (nd : ys.Nodup) (hy : ∀ p, p ∈ ys ↔ p ∈ (if (L.filter (alw ls)).isEmpty = true then L.flatMap latr else [])) : lvl w (kW two ls w) (m + 1) ys := by
  obtain ⟨t1, t2, t3, t4⟩ := thin_facts h w (by omega) hc
  refine ⟨nd, fun hm u => ?_, fun hm => ?_⟩
  · have mem := H.2.1 (by omega)
    have e : L.filter (alw ls) = [] := List.filter_eq_nil_iff.mpr fun v hv ha => by
      obtain ⟨f, g⟩ := (mem v).mp hv
      have := (t4 v f ha).1
      omega
    rw [hy, e, if_pos (by rfl)]
    constructor
    · intro hu
      obtain ⟨v, hv, hu⟩ := List.mem_flatMap.mp hu
      obtain ⟨k, hk, rfl⟩ := List.mem_map.mp hu
      obtain ⟨f, g⟩ := (mem v).mp hv
      have := gk_set (w := w) k f (of_decide_eq_true (List.mem_filter.mp hk).2)
      exact ⟨this.1, by rw [this.2, g]⟩
    · intro ⟨f, g⟩
      obtain ⟨v, k, f1, g1, k1, k2, e⟩ := gk_back f (by omega)
      exact List.mem_flatMap.mpr ⟨v, (mem v).mpr ⟨f1, by omega⟩, List.mem_map.mpr ⟨k, List.mem_filter.mpr ⟨List.mem_range.mpr k1, decide_eq_true k2⟩, e.symm⟩⟩
  · by_cases hm2 : m ≤ kW two ls w
    · have em : m = kW two ls w := by omega
      have mem := H.2.1 hm2
      have : tW two ls w ∈ L.filter (alw ls) := List.mem_filter.mpr ⟨(mem _).mpr ⟨t1, by rw [t3, em]⟩, t2⟩
      have ne : (L.filter (alw ls)).isEmpty = false := by
        cases q : L.filter (alw ls) with
        | nil => rw [q] at this; cases this
        | cons => rfl
      rw [ne] at hy
      exact List.eq_nil_iff_forall_not_mem.mpr fun p hp => by have := (hy p).mp hp; simp at this
    · rw [H.2.2 (by omega)] at hy
      exact List.eq_nil_iff_forall_not_mem.mpr fun p hp => by have := (hy p).mp hp; simp at this
theorem lvl_good {m : Nat} {L : List (List Nat)} (H : lvl w (kW two ls w) m L) (hg : L.filter (alw ls) ≠ []) : m = kW two ls w ∧ tW two ls w ∈ L.filter (alw ls) ∧ ∀ y ∈ L.filter (alw ls), y = tW two ls w ∨ tW two ls w < y := by
  obtain ⟨t1, t2, t3, t4⟩ := thin_facts h w (by omega) hc
  have hm : m ≤ kW two ls w := by
    by_cases z : m ≤ kW two ls w
    · exact z
    · rw [H.2.2 (by omega)] at hg; exact absurd rfl hg
  have mem := H.2.1 hm
  obtain ⟨v, hv⟩ := List.exists_mem_of_ne_nil _ hg
  obtain ⟨v1, v2⟩ := List.mem_filter.mp hv
  obtain ⟨f, g⟩ := (mem v).mp v1
  have := (t4 v f v2).1
  have em : m = kW two ls w := by omega
  refine ⟨em, List.mem_filter.mpr ⟨(mem _).mpr ⟨t1, by rw [t3, em]⟩, t2⟩, fun y hy => ?_⟩
  obtain ⟨y1, y2⟩ := List.mem_filter.mp hy
  obtain ⟨f, g⟩ := (mem y).mp y1
  exact (t4 y f y2).2 (by omega)
theorem turn_ok (S : List Int) (s1 s7 s8 s9 s10 s11 s12 : Slot) (m : Nat) (L : List (List Nat)) (H : lvl w (kW two ls w) m L) (s6 : Slot) : ∃ L' t6 t7 t8, lvl w (kW two ls w) (m + 1) L' ∧ bd_law_6 (l52 S s1 (.fz (bk two ls)) (.fz (txt w)) (.fz (.lst (L.map txt))) (.fz (.int (m : Nat))) s6 s7 s8 s9 s10 s11 s12) = .nx (l52 S s1 (.fz (bk two ls)) (.fz (txt w)) (.fz (.lst (L'.map txt))) (.fz (.int (m : Nat))) t6 t7 t8 s9 s10 s11 s12) := by
  have Ll := lvl_len H hw
  have sub := lvl_sub H
  have hul : ∀ u ∈ L, u.length ≤ 7 ∧ ∀ c ∈ u, c ∈ lets two := fun u hu => ⟨by rw [feas_len (sub u hu)]; exact hw, feas_lets (sub u hu) hc⟩
  have hab : ∀ u ∈ L, abc u = true := fun u hu => abc_lets (hul u hu).2
  have stp := fun ys => lvl_step hl h w hw hc H ys
  have gd := lvl_good hl h w hw hc H
  obtain ⟨b1, b2⟩ := both_run hl h w (by omega) hc
  have lg := lcGo_fm (mt := tgName 8) (tt := tt_law_2) (me := el_law_1) (ρ := l52 S s1 (.fz (bk two ls)) (.fz (txt w)) (.fz (.lst (L.map txt))) (.fz (.int (m : Nat))) s6 s7 .un s9 s10 s11 s12) txt txt (alw ls) L (fun u hu => ⟨l52 S s1 (.fz (bk two ls)) (.fz (txt w)) (.fz (.lst (L.map txt))) (.fz (.int (m : Nat))) s6 s7 (.fz (txt u)) s9 s10 s11 s12, rfl, by
    have e := fine_ok h hl u (by have := (hul u hu).1; omega)
    simp -implicitDefEqProofs (disch := omega) only [↓reduceIte, tt_law_2, mUT_eq, mFn_eq, mCons_eq, mNil_eq, mVar_eq, List.getElem?_cons_succ, gz, slotD_fz, R_bind_ok, List.length_cons, List.length_nil, e, truth_bl], fun _ => rfl⟩)
  have hg : ∀ u ∈ L.filter (alw ls), abc u = true := fun u hu => hab u (List.mem_filter.mp hu).1
  generalize L.filter (alw ls) = good at *
  have nn := ne_nil (pl_shp (txts_pl hg) (by omega))
  have en := eq_nil (pl_shp (txts_pl hg) (by omega))
  rw [List.isEmpty_map] at nn en
  cases good with
  | nil =>
    have fl : (L.flatMap latr).length ≤ 7 * L.length := by
      have : ∀ l : List (List Nat), (∀ u ∈ l, u.length ≤ 7) → (l.flatMap latr).length ≤ 7 * l.length := fun l => by
        induction l with
        | nil => intro _; exact Nat.le_refl _
        | cons x r ih =>
          intro hx
          have a := ih fun u hu => hx u (.tail _ hu)
          have b := latr_len x
          have c := hx x (.head _)
          rw [List.flatMap_cons, List.length_append, List.length_cons]; omega
      exact this L fun u hu => (hul u hu).1
    obtain ⟨ys, e1, e2, e3⟩ := sort_pasts (L.flatMap latr) (by omega)
    obtain ⟨t8, lo⟩ := later_go (two := two) S s1 (.fz (bk two ls)) (.fz (txt w)) (.fz (.lst (L.map txt))) (.fz (.int (m : Nat))) (.fz (.lst [])) s9 s10 s11 s12 L [] s8 (fun u hu => ⟨by have := (hul u hu).1; omega, (hul u hu).2⟩) (by simp; omega)
    rw [List.nil_append] at lo
    have lo : forGo (tgName 8) bd_law_5 (L.map txt) (l52 S s1 (.fz (bk two ls)) (.fz (txt w)) (.fz (.lst (L.map txt))) (.fz (.int (m : Nat))) (.fz (.lst [])) (.ol []) s8 s9 s10 s11 s12) = _ := lo
    refine ⟨ys, .fz (.lst []), .ol ((L.flatMap latr).map txt), t8, stp ys e2 e3, ?_⟩
    have sg : srtSetF (.lst ((L.flatMap latr).map txt)) = .ok (.lst (ys.map txt)) := e1
    have nn : neD (.lst []) (.lst []) = .ok (.bl false) := nn
    have en : eqD (.lst []) (.lst []) = .ok (.bl true) := en
    have sg : mSrtSetO 7 (l52 S s1 (.fz (bk two ls)) (.fz (txt w)) (.fz (.lst (L.map txt))) (.fz (.int (m : Nat))) (.fz (.lst [])) (.ol ((L.flatMap latr).map txt)) t8 s9 s10 s11 s12) = .ok (.lst (ys.map txt)) := (mSrtSetO_eq rfl).trans sg
    simp -implicitDefEqProofs (disch := omega) only [↓reduceIte, bd_law_6, sSeq_eq, sSet_eq, sSetO_eq, sIf_eq, sFor_eq, sSkip_eq, mIf_eq, mFz_eq, mLst_eq, mLc_eq, mSeq_eq, mTest_eq, mB_eq, mNil_eq, mVar_eq, List.getElem?_cons_succ, gz, slotD_fz, R_bind_ok, R_to_ok, List.length_nil, sizeLine_eq, ite_yes, anyOf_lst, List.length_map, wipe_cons, wipe_nil, List.set_cons_succ, List.set_cons_zero, lg, nx_ok', List.map_nil, seqR_nx, cmp_ne, nn, List.isEmpty_nil, Bool.not_true, blOf_bl, Bool.false_eq_true, cmp_eq, en, lo, sg]
  | cons g0 gr =>
    obtain ⟨em, tm, mn⟩ := gd (by simp)
    obtain ⟨ys, e1, e2, e3⟩ := sort_pasts [] (by decide)
    have m1 := min_txts tm mn
    obtain ⟨t1, _, _, _⟩ := thin_facts h w (by omega) hc
    have n1 : neD (.int (kW two ls w : Nat)) (.int (m : Nat)) = .ok (.bl false) := by rw [em]; exact ne_self rfl
    have n2 : neD (txt (tW two ls w)) (txt (tW two ls w)) = .ok (.bl false) := ne_self (txt_shp _ (abc_lets (feas_lets t1 hc)))
    refine ⟨ys, .fz (.lst ((g0 :: gr).map txt)), .ol [], s8, stp ys e2 (by intro p; rw [e3]; rfl), ?_⟩
    have sg : mSrtSetO 7 (l52 S s1 (.fz (bk two ls)) (.fz (txt w)) (.fz (.lst (L.map txt))) (.fz (.int (m : Nat))) (.fz (.lst ((g0 :: gr).map txt))) (.ol []) s8 s9 s10 s11 s12) = .ok (.lst (ys.map txt)) := (mSrtSetO_eq rfl).trans (show srtSetF (.lst []) = .ok (.lst (ys.map txt)) from e1)
    have nn : neD (.lst ((g0 :: gr).map txt)) (.lst []) = .ok (.bl true) := nn
    have en : eqD (.lst ((g0 :: gr).map txt)) (.lst []) = .ok (.bl false) := en
    generalize (g0 :: gr) = gg at *
    simp -implicitDefEqProofs (disch := omega) only [↓reduceIte, bd_law_6, sSeq_eq, sSet_eq, sSetO_eq, sIf_eq, sFor_eq, sSkip_eq, mIf_eq, mOr_eq, mFz_eq, mLst_eq, mLc_eq, mSeq_eq, mTest_eq, mB_eq, mFn_eq, mCall_eq, mCons_eq, mNil_eq, mVar_eq, List.getElem?_cons_succ, gz, slotD_fz, R_bind_ok, R_to_ok, List.length_cons, List.length_nil, sizeLine_eq, ite_yes, anyOf_lst, List.length_map, wipe_cons, wipe_nil, List.set_cons_succ, List.set_cons_zero, lg, nx_ok', seqR_nx, cmp_ne, nn, blOf_bl, b1, b2, n1, n2, m1, Bool.false_eq_true, cmp_eq, en, forGo_nil, sg]
end
/-! ### a drawn calendar; sorted rows -/
theorem pdays_ok (S : List Int) (k many : Int) (two : Bool) (ls : List D) (hS : S.length ≤ 63) (hk : 0 ≤ k) (hk2 : k < 700) (hm : 0 ≤ many) (hm2 : many ≤ 100) : ∃ w : List Nat, f__law_days [.rol (S.map D.int), .int k, bk two ls, .int many] = .ok (txt w) ∧ (w.length : Int) = many ∧ ∀ c ∈ w, c ∈ lets two := by
  have b0 : ixD (bk two ls) (.int 0) = .ok (.str (zz two)) := rfl
  let L : List Nat := if two then [46, 97, 98, 97] else [46, 97, 97]
  have eL : ∀ ρ : Mir.Env, (mB addD (mB addD (mC (.str ".")) (mB ixD (mVar 2) (mC (.int 0)))) (mC (.str "a"))) ([.fz (.rol (S.map D.int)), .fz (.int k), .fz (bk two ls)] ++ ρ) = .ok (txt L) := fun ρ => by
    cases two
    · exact (of_isTxt (w := [46, 97, 97]) (r := (addD (.str ".") (.str (zz false))).bind fun x => addD x (.str "a")) (by decide +kernel))
    · exact (of_isTxt (w := [46, 97, 98, 97]) (r := (addD (.str ".") (.str (zz true))).bind fun x => addD x (.str "a")) (by decide +kernel))
  have lL : lenF [.str (zz two)] = .ok (.int ((L.length : Nat) - 2)) := by cases two <;> rfl
  have l3 : 3 ≤ L.length ∧ L.length ≤ 4 := by cases two <;> decide
  have hin : ∀ c ∈ L, c ∈ lets two := by cases two <;> decide
  obtain ⟨xs, el, ll, hl⟩ := lcGo_rel (mt := tgName 4) (me := el__law_days_1) (ρ := [.fz (.rol (S.map D.int)), .fz (.int k), .fz (bk two ls), .fz (.int many), .un]) (r := fun y => ∃ c ∈ lets two, y = txt [c]) (rangeD 0 many.toNat) (fun d hd => by
    obtain ⟨j, hj, rfl⟩ := range_mem hd
    obtain ⟨i1, e1, l1, u1⟩ := pick_ok S (k + (j : Int)) L.length hS (by omega) (by omega) (by omega)
    obtain ⟨c, hc, eq⟩ := txt_at (w := L) (by omega) l1 u1
    refine ⟨[.fz (.rol (S.map D.int)), .fz (.int k), .fz (bk two ls), .fz (.int many), .fz (.int (0 + (j : Int)))], txt [c], rfl, ?_, _, hin c hc, rfl⟩
    have e2 := eL [.fz (.int many), .fz (.int (0 + (j : Int)))]
    have e3 : ((L.length : Nat) : Int) - 2 + 2 = (L.length : Nat) := by omega
    have e4 : k + (0 + (j : Int)) = k + (j : Int) := by omega
    have e2 : (mB addD (mB addD (mC (.str ".")) (mB ixD (mVar 2) (mC (.int 0)))) (mC (.str "a"))) [.fz (.rol (S.map D.int)), .fz (.int k), .fz (bk two ls), .fz (.int many), .fz (.int (0 + (j : Int)))] = .ok (txt L) := e2
    unfold el__law_days_1
    rw [mB_eq, e2, R_bind_ok]
    simp -implicitDefEqProofs (disch := omega) only [↓reduceIte, mFn_eq, mCall_eq, mB_eq, mCons_eq, mNil_eq, mVar_eq, mC_eq, List.getElem?_cons_succ, gz, slotD_fz, R_bind_ok, b0, lL, addD_int, e3, e4, List.length_cons, List.length_nil, e1, eq])
  obtain ⟨w, ew, hw⟩ := ones_of xs hl
  have lw : w.length = many.toNat := by
    have := ll
    rw [ew, List.length_map, range_len] at this
    exact this
  refine ⟨w, ?_, by omega, hw⟩
  rw [ew] at el
  have j := joinT w (by omega)
  have rk : rng1 [.int many] = .ok (rangeD 0 many.toNat) := by
    have h1 : -(2 ^ 62) ≤ many ∧ many < 2 ^ 62 := by omega
    unfold rng1
    exact if_pos h1
  have rl : (rangeD 0 many.toNat).length ≤ 100 := by rw [range_len]; omega
  simp -implicitDefEqProofs (disch := omega) only [↓reduceIte, f__law_days, runD_eq, b__law_days, Mir.envOf, List.map_cons, List.map_nil, List.replicate, List.append_nil, List.cons_append, List.nil_append, List.length_cons, List.length_nil, sRet_eq, str_e, mJoinT, mFz_eq, mLc_eq, mSeqs_eq, mCons_eq, mNil_eq, mVar_eq, List.getElem?_cons_succ, gz, slotD_fz, R_bind_ok, R_to_ok, rk, ite_yes, wipe_cons, wipe_nil, List.set_cons_succ, List.set_cons_zero, el, nx_ok', j, outR_ret]
theorem ints_pl (l : List Nat) : shp (.lst (l.map fun k : Nat => D.int ((k : Nat) : Int))) = true := pl_shp (n := 2) (pl_lst fun d hd => by
  obtain ⟨i, _, rfl⟩ := List.mem_map.mp hd
  exact pl_int _) (by omega)
theorem lvl_go {two : Bool} {ls : List D} (hl : ls.length ≤ 4) (h : ∀ d ∈ ls, isLim two d) (w : List Nat) (hw : w.length ≤ 7) (hc : ∀ c ∈ w, c ∈ lets two) (S : List Int) (s1 s9 s10 s11 s12 : Slot) : ∀ (j m : Nat) (L : List (List Nat)) (s5 s6 s7 s8 : Slot), lvl w (kW two ls w) m L → ∃ (L' : List (List Nat)) (t5 t6 t7 t8 : Slot), forGo (tgName 5) bd_law_6 ((List.range' m j).map fun i : Nat => D.int ((i : Nat) : Int)) (l52 S s1 (.fz (bk two ls)) (.fz (txt w)) (.fz (.lst (L.map txt))) s5 s6 s7 s8 s9 s10 s11 s12) = .nx (l52 S s1 (.fz (bk two ls)) (.fz (txt w)) (.fz (.lst (L'.map txt))) t5 t6 t7 t8 s9 s10 s11 s12)
  | 0, m, L, s5, s6, s7, s8, _ => ⟨L, s5, s6, s7, s8, forGo_nil _ _ _⟩
  | j + 1, m, L, s5, s6, s7, s8, H => by
    obtain ⟨L', t6, t7, t8, H', e⟩ := turn_ok hl h w hw hc S s1 s7 s8 s9 s10 s11 s12 m L H s6
    obtain ⟨L2, u5, u6, u7, u8, ih⟩ := lvl_go hl h w hw hc S s1 s9 s10 s11 s12 j (m + 1) L' (.fz (.int (m : Nat))) t6 t7 t8 H'
    refine ⟨L2, u5, u6, u7, u8, ?_⟩
    rw [List.range'_succ, List.map_cons, forGo_cons, show nx (tgName 5 (.int ((m : Nat) : Int)) (l52 S s1 (.fz (bk two ls)) (.fz (txt w)) (.fz (.lst (L.map txt))) s5 s6 s7 s8 s9 s10 s11 s12)) = .ok (l52 S s1 (.fz (bk two ls)) (.fz (txt w)) (.fz (.lst (L.map txt))) (.fz (.int (m : Nat))) s6 s7 s8 s9 s10 s11 s12) from rfl, R_to_ok, e, loopR_nx]
    exact ih
theorem body_ok (S : List Int) (hS : S.length ≤ 63) (j : Nat) (hj : j < 4) (s2 s3 s4 s5 s6 s7 s8 s9 s10 s11 : Slot) : ∃ t2 t3 t4 t5 t6 t7 t8 t9 t10 t11, bd_law_11 (l52 S (.fz (.int (0 + (j : Nat)))) s2 s3 s4 s5 s6 s7 s8 s9 s10 s11 .un) = .nx (l52 S (.fz (.int (0 + (j : Nat)))) t2 t3 t4 t5 t6 t7 t8 t9 t10 t11 .un) := by
  have ej : ((0 : Int) + (j : Nat)) = (j : Nat) := Int.zero_add _
  rw [ej]
  have hm : mulD (.int 60) (.int (j : Nat)) = .ok (.int (60 * (j : Nat))) := by rw [mulD_int, if_pos (.inl (by decide))]
  obtain ⟨two, ls, e1, l1, h⟩ := pbook_ok S (60 * (j : Nat)) hS (by omega) (by omega)
  have e1 : f__law_book [.rol (S.map D.int), .int (60 * (j : Nat))] = .ok (bk two ls) := e1
  have hl : ls.length ≤ 4 := by omega
  obtain ⟨n, e2, n0, n1⟩ := pick_ok S (60 * (j : Nat) + 19) 8 hS (by omega) (by omega) (by omega)
  obtain ⟨w, e3, lw, hc⟩ := pdays_ok S (60 * (j : Nat) + 20) n two ls hS (by omega) (by omega) (by omega) (by omega)
  have hw : w.length ≤ 7 := by omega
  have H0 : lvl w (kW two ls w) 0 [w] := ⟨List.pairwise_singleton _ _, fun _ u => ⟨fun hu => by rw [List.mem_singleton.mp hu]; exact ⟨feas_self w, gk_self w⟩, fun ⟨f, g⟩ => by rw [gk_zero f g]; exact .head _⟩, fun h => absurd h (Nat.not_lt_zero _)⟩
  obtain ⟨L, t5, t6, t7, t8, lo⟩ := lvl_go hl h w hw hc S (.fz (.int (j : Nat))) s9 s10 s11 .un (w.length + 1) 0 [w] s5 s6 s7 s8 H0
  rw [← List.range_eq_range'] at lo
  change forGo _ _ _ (l52 S (.fz (.int (j : Nat))) (.fz (bk two ls)) (.fz (txt w)) (.fz (.lst [txt w])) s5 s6 s7 s8 s9 s10 s11 .un) = _ at lo
  have rn := rng_nat (w.length + 1) (by omega)
  rw [show ((w.length + 1 : Nat) : Int) = (w.length : Int) + 1 by omega] at rn
  obtain ⟨v, e4, lv, hv⟩ := pdays_ok S (60 * (j : Nat) + 30) 20 two ls hS (by omega) (by omega) (by omega) (by omega)
  have lv : v.length = 20 := by omega
  obtain ⟨b1, b2⟩ := both_run hl h v (by omega) hv
  obtain ⟨t1, t2, t3, t4⟩ := thin_facts h v (by omega) hv
  have al := allowed_ok hl h v (by omega) hv
  have ta : (decide (offL (tW two ls v) v 20 = [])) = alw ls v := by
    have ol := off_len t1
    rw [lv, t3] at ol
    rw [Bool.eq_iff_iff, decide_eq_true_iff]
    constructor
    · intro e
      rw [e] at ol
      have := gk_zero t1 (by rw [t3]; exact ol.symm)
      rw [← this]; exact t2
    · intro ha
      have := (t4 v (feas_self v) ha).1
      rw [gk_self] at this
      exact List.length_eq_zero_iff.mp (by omega)
  have ol := off_len t1
  rw [lv, t3] at ol
  have od := off_dot t1
  rw [lv] at od
  have ul := feas_len t1
  rw [lv] at ul
  have uc := feas_lets t1 hv
  have fi := fine_ok h hl (tW two ls v) (by omega)
  rw [t2] at fi
  generalize tW two ls v = u at *
  generalize kW two ls v = kk at *
  have lu := len_txt u (by omega)
  rw [ul] at lu
  have n20 : neD (.int ((20 : Nat) : Int)) (.int 20) = .ok (.bl false) := ne_self rfl
  have r20 := rng_nat 20 (by omega)
  have r20 : rng1 [.int 20] = .ok ((List.range 20).map fun i : Nat => D.int ((i : Nat) : Int)) := r20
  have one : ∀ {c : Nat}, c ∈ lets two → abc [c] = true := fun hx => abc_lets (two := two) fun c hc => by rw [List.mem_singleton.mp hc]; exact hx
  have lg1 := lcGo_fm (mt := tgName 13) (tt := tt_law_8) (me := el_law_7) (ρ := l52 S (.fz (.int (j : Nat))) (.fz (bk two ls)) (.fz (txt w)) (.fz (.lst (L.map txt))) t5 t6 t7 t8 (.fz (txt v)) (.fz (txt u)) s11 .un) (fun k : Nat => D.int ((k : Nat) : Int)) (fun k : Nat => D.int ((k : Nat) : Int)) (fun k => decide (u.getD k 46 ≠ v.getD k 46)) (List.range 20) (fun k hk => ⟨[.fz (.rol (S.map D.int)), .fz (.int (j : Nat)), .fz (bk two ls), .fz (txt w), .fz (.lst (L.map txt)), t5, t6, t7, t8, .fz (txt v), .fz (txt u), s11, .un, .fz (.int (k : Nat))], rfl, by
    have hk := List.mem_range.mp hk
    have a1 := at_getD (u := u) (k := k) (by omega) (by omega)
    have a2 := at_getD (u := v) (k := k) (by omega) (by omega)
    have n := ne_txts (one (getD_in uc k)) (one (getD_in hv k))
    have e : decide ([u.getD k 46] ≠ [v.getD k 46]) = decide (u.getD k 46 ≠ v.getD k 46) := decide_eq_decide.mpr ⟨fun h z => h (by rw [z]), fun h z => h (by injection z)⟩
    rw [e] at n
    simp -implicitDefEqProofs (disch := omega) only [↓reduceIte, tt_law_8, mTest_eq, mB_eq, mVar_eq, mC_eq, List.getElem?_cons_succ, gz, slotD_fz, R_bind_ok, a1, a2, cmp_ne, n, blOf_bl], fun _ => rfl⟩)
  have lg1 : lcGo (tgName 13) tt_law_8 el_law_7 (l52 S (.fz (.int (j : Nat))) (.fz (bk two ls)) (.fz (txt w)) (.fz (.lst (L.map txt))) t5 t6 t7 t8 (.fz (txt v)) (.fz (txt u)) s11 .un) ((List.range 20).map fun i : Nat => D.int ((i : Nat) : Int)) = .ok ((offL u v 20).map fun k : Nat => D.int ((k : Nat) : Int)) := lg1
  have om : ∀ k ∈ offL u v 20, k < 20 ∧ u.getD k 46 ≠ v.getD k 46 := fun k hk => by
    obtain ⟨h1, h2⟩ := List.mem_filter.mp hk
    exact ⟨List.mem_range.mp h1, of_decide_eq_true h2⟩
  generalize offL u v 20 = off at *
  have lg2 := lcGo_fm (mt := tgName 13) (tt := tt_law_10) (me := el_law_9) (ρ := l52 S (.fz (.int (j : Nat))) (.fz (bk two ls)) (.fz (txt w)) (.fz (.lst (L.map txt))) t5 t6 t7 t8 (.fz (txt v)) (.fz (txt u)) (.fz (.lst (off.map fun k : Nat => D.int ((k : Nat) : Int)))) .un) (fun k : Nat => D.int ((k : Nat) : Int)) (fun k : Nat => D.int ((k : Nat) : Int)) (fun k => decide (u.getD k 46 ≠ 46)) off (fun k hk => ⟨[.fz (.rol (S.map D.int)), .fz (.int (j : Nat)), .fz (bk two ls), .fz (txt w), .fz (.lst (L.map txt)), t5, t6, t7, t8, .fz (txt v), .fz (txt u), .fz (.lst (off.map fun k : Nat => D.int ((k : Nat) : Int))), .un, .fz (.int (k : Nat))], rfl, by
    obtain ⟨hk, _⟩ := om k hk
    have a1 := at_getD (u := u) (k := k) (by omega) (by omega)
    have n := ne_txts (b := [46]) (one (getD_in uc k)) rfl
    have e : decide ([u.getD k 46] ≠ [46]) = decide (u.getD k 46 ≠ 46) := decide_eq_decide.mpr ⟨fun h z => h (by rw [z]), fun h z => h (by injection z)⟩
    rw [e] at n
    simp -implicitDefEqProofs (disch := omega) only [↓reduceIte, tt_law_10, mTest_eq, mB_eq, mVar_eq, mC_eq, str_d, List.getElem?_cons_succ, gz, slotD_fz, R_bind_ok, a1, cmp_ne, n, blOf_bl], fun _ => rfl⟩)
  have fe : off.filter (fun k => decide (u.getD k 46 ≠ 46)) = [] := List.filter_eq_nil_iff.mpr fun k hk => by
    obtain ⟨h1, h2⟩ := om k hk
    rw [od k h1 h2]; simp
  rw [fe] at lg2
  have lo1 : lenF [.lst (off.map fun k : Nat => D.int ((k : Nat) : Int))] = .ok (.int (kk : Nat)) := by rw [lenF_lst, List.length_map, ol]
  have nk : neD (.int (kk : Nat)) (.int (kk : Nat)) = .ok (.bl false) := ne_self rfl
  have nn : neD (.lst ([] : List D)) (.lst []) = .ok (.bl false) := ne_self (pl_shp (n := 2) (pl_lst fun _ h => nomatch h) (by omega))
  have en := eq_nil (ints_pl off)
  have ie : (off.map fun k : Nat => D.int ((k : Nat) : Int)).isEmpty = alw ls v := by
    rw [← ta, List.isEmpty_map]; cases off <;> simp
  rw [ie] at en
  have nb := ne_same_bl (alw ls v)
  have o60 : off.length ≤ 1000000 := by
    rw [ol]
    have := gk_le t1
    omega
  have le1 : lenF [txt w] = .ok (.int (w.length : Nat)) := len_txt w (by omega)
  refine ⟨.fz (bk two ls), .fz (txt w), .fz (.lst (L.map txt)), t5, t6, t7, t8, .fz (txt v), .fz (txt u), .fz (.lst (off.map fun k : Nat => D.int ((k : Nat) : Int))), ?_⟩
  simp -implicitDefEqProofs (disch := omega) only [↓reduceIte, bd_law_11, sSeq_eq, sSet_eq, sIf_eq, sFor_eq, sSkip_eq, mOr_eq, mNot_eq, mUT_eq, mFz_eq, mLst_eq, mLc_eq, mSeq_eq, mSeqs_eq, mFn_eq, mCall_eq, mCons_eq, mNil_eq, mB_eq, mC_eq, mTest_eq, mVar_eq, List.getElem?_cons_succ, gz, slotD_fz, R_bind_ok, R_to_ok, List.length_cons, List.length_nil, ite_yes, addD_int, hm, e1, e2, e3, e4, sizeLine_eq, List.set_cons_succ, List.set_cons_zero, seqR_nx, le1, rn, lo, b1, b2, lu, n20, cmp_ne, blOf_bl, Bool.false_eq_true, fi, truth_bl, Bool.not_true, r20, List.length_map (f := fun i : Nat => D.int ((i : Nat) : Int)), List.length_range, wipe_cons, wipe_nil, lg1, nx_ok', lo1, nk, anyOf_lst, o60, lg2, List.map_nil, nn, cmp_eq, en, al, nb]
def q1 : D := .tup [.str "a", .tup [.tup [.str "most", .str "a", .int 2, .int 4]]]
theorem c1_ok : ((f_thinned [q1, .str "aaaa"]).bind fun x => eqD x (.str "..aa")) = .ok (.bl true) := of_isBl (by decide +kernel)
theorem c2_ok : ((f_fewest_away [q1, .str "aaaaaaaa"]).bind fun x => eqD x (.int 4)) = .ok (.bl true) := of_isBl (by decide +kernel)
theorem c3_ok : ((f_thinned [q1, .str ""]).bind fun x => eqD x (.str "")) = .ok (.bl true) := of_isBl (by decide +kernel)
theorem law_true (S : List Int) (hS : S.length ≤ 63) : f_law [.rol (S.map D.int)] = .ok (.bl true) := by
  have r4 : rng1 [.int 4] = .ok (rangeD 0 4) := by unfold rng1; exact if_pos (by decide)
  obtain ⟨ρ', lo, t1, t2, t3, t4, t5, t6, t7, t8, t9, t10, t11, rfl⟩ := forGo_nx (mt := tgName 1) (mb := bd_law_11) (I := fun ρ => ∃ t1 t2 t3 t4 t5 t6 t7 t8 t9 t10 t11, ρ = l52 S t1 t2 t3 t4 t5 t6 t7 t8 t9 t10 t11 .un) (rangeD 0 4) (l52 S .un .un .un .un .un .un .un .un .un .un .un .un) ⟨_, _, _, _, _, _, _, _, _, _, _, rfl⟩ (fun d hd ρ ⟨t1, t2, t3, t4, t5, t6, t7, t8, t9, t10, t11, e⟩ => by
    obtain ⟨j, hj, rfl⟩ := range_mem hd
    obtain ⟨u2, u3, u4, u5, u6, u7, u8, u9, u10, u11, q⟩ := body_ok S hS j hj t2 t3 t4 t5 t6 t7 t8 t9 t10 t11
    rw [e]
    exact ⟨_, _, rfl, q, _, _, _, _, _, _, _, _, _, _, _, rfl⟩)
  have c1 := c1_ok
  have c2 := c2_ok
  have c3 := c3_ok
  rw [show f_law [.rol (S.map D.int)] = outR (b_law (l52 S .un .un .un .un .un .un .un .un .un .un .un .un)) from runD_eq _ _ _]
  unfold b_law
  simp -implicitDefEqProofs (disch := omega) only [↓reduceIte, sSeq_eq, sFor_eq, mSeqs_eq, mCons_eq, mNil_eq, mC_eq, R_bind_ok, r4, R_to_ok]
  rw [lo, seqR_nx]
  unfold q1 at *
  simp -implicitDefEqProofs (disch := omega) only [↓reduceIte, sSeq_eq, sSet_eq, sRet_eq, mTup_eq, mFn_eq, mCons_eq, mNil_eq, mAndV, mB_eq, mVar_eq, mC_eq, List.getElem?_cons_succ, gz, slotD_fz, R_bind_ok, R_to_ok, List.length_cons, List.length_nil, sizeLine_eq, ite_yes, List.set_cons_succ, List.set_cons_zero, seqR_nx, cmp_eq, c1, c2, c3, blOf_bl, outR_ret]
end K52
namespace K52
open PySem PySem.Spec PyProof.Rows L2 Mir
theorem top_mk {w : World} {K : PySem.W.Frag} {h : Heap} {mg : Str → Option Value} (X : K.In h) (G : h.Ns mainGlobals mg)
    {f_is_book : Addr} {od_is_book an_is_book : Option Addr} {sl_is_book : Array (Option Value)} {oc_is_book kV_is_book dc_is_book pm_is_book cd_is_book ct_is_book : Value}
    {f_is_calendar : Addr} {od_is_calendar an_is_calendar : Option Addr} {sl_is_calendar : Array (Option Value)} {oc_is_calendar kV_is_calendar dc_is_calendar pm_is_calendar cd_is_calendar ct_is_calendar : Value}
    {f_check_book : Addr} {od_check_book an_check_book : Option Addr} {sl_check_book : Array (Option Value)} {oc_check_book kV_check_book dc_check_book pm_check_book cd_check_book ct_check_book : Value}
    {f_check_calendar : Addr} {od_check_calendar an_check_calendar : Option Addr} {sl_check_calendar : Array (Option Value)} {oc_check_calendar kV_check_calendar dc_check_calendar pm_check_calendar cd_check_calendar ct_check_calendar : Value}
    {f_day_letters : Addr} {od_day_letters an_day_letters : Option Addr} {sl_day_letters : Array (Option Value)} {oc_day_letters kV_day_letters dc_day_letters pm_day_letters cd_day_letters ct_day_letters : Value}
    {f_is_text_of : Addr} {od_is_text_of an_is_text_of : Option Addr} {sl_is_text_of : Array (Option Value)} {oc_is_text_of kV_is_text_of dc_is_text_of pm_is_text_of cd_is_text_of ct_is_text_of : Value}
    {f_is_pair : Addr} {od_is_pair an_is_pair : Option Addr} {sl_is_pair : Array (Option Value)} {oc_is_pair kV_is_pair dc_is_pair pm_is_pair cd_is_pair ct_is_pair : Value}
    {f_is_between : Addr} {od_is_between an_is_between : Option Addr} {sl_is_between : Array (Option Value)} {oc_is_between kV_is_between dc_is_between pm_is_between cd_is_between ct_is_between : Value}
    {f__limit_zones : Addr} {od__limit_zones an__limit_zones : Option Addr} {sl__limit_zones : Array (Option Value)} {oc__limit_zones kV__limit_zones dc__limit_zones pm__limit_zones cd__limit_zones ct__limit_zones : Value}
    {f__is_limit_within : Addr} {od__is_limit_within an__is_limit_within : Option Addr} {sl__is_limit_within : Array (Option Value)} {oc__is_limit_within kV__is_limit_within dc__is_limit_within pm__is_limit_within cd__is_limit_within ct__is_limit_within : Value}
    {f_is_allowed : Addr} {od_is_allowed an_is_allowed : Option Addr} {sl_is_allowed : Array (Option Value)} {oc_is_allowed kV_is_allowed dc_is_allowed pm_is_allowed cd_is_allowed ct_is_allowed : Value}
    {f_first_broken : Addr} {od_first_broken an_first_broken : Option Addr} {sl_first_broken : Array (Option Value)} {oc_first_broken kV_first_broken dc_first_broken pm_first_broken cd_first_broken ct_first_broken : Value}
    {f_days_behind : Addr} {od_days_behind an_days_behind : Option Addr} {sl_days_behind : Array (Option Value)} {oc_days_behind kV_days_behind dc_days_behind pm_days_behind cd_days_behind ct_days_behind : Value}
    {f_limit_broken : Addr} {od_limit_broken an_limit_broken : Option Addr} {sl_limit_broken : Array (Option Value)} {oc_limit_broken kV_limit_broken dc_limit_broken pm_limit_broken cd_limit_broken ct_limit_broken : Value}
    {f__breaks : Addr} {od__breaks an__breaks : Option Addr} {sl__breaks : Array (Option Value)} {oc__breaks kV__breaks dc__breaks pm__breaks cd__breaks ct__breaks : Value}
    {f_next_past : Addr} {od_next_past an_next_past : Option Addr} {sl_next_past : Array (Option Value)} {oc_next_past kV_next_past dc_next_past pm_next_past cd_next_past ct_next_past : Value}
    {f_steps_of : Addr} {od_steps_of an_steps_of : Option Addr} {sl_steps_of : Array (Option Value)} {oc_steps_of kV_steps_of dc_steps_of pm_steps_of cd_steps_of ct_steps_of : Value}
    {f_least_costs : Addr} {od_least_costs an_least_costs : Option Addr} {sl_least_costs : Array (Option Value)} {oc_least_costs kV_least_costs dc_least_costs pm_least_costs cd_least_costs ct_least_costs : Value}
    {f_cheapest_walk : Addr} {od_cheapest_walk an_cheapest_walk : Option Addr} {sl_cheapest_walk : Array (Option Value)} {oc_cheapest_walk kV_cheapest_walk dc_cheapest_walk pm_cheapest_walk cd_cheapest_walk ct_cheapest_walk : Value}
    {f_fewest_away : Addr} {od_fewest_away an_fewest_away : Option Addr} {sl_fewest_away : Array (Option Value)} {oc_fewest_away kV_fewest_away dc_fewest_away pm_fewest_away cd_fewest_away ct_fewest_away : Value}
    {f_thinned : Addr} {od_thinned an_thinned : Option Addr} {sl_thinned : Array (Option Value)} {oc_thinned kV_thinned dc_thinned pm_thinned cd_thinned ct_thinned : Value}
    {f__costs_of : Addr} {od__costs_of an__costs_of : Option Addr} {sl__costs_of : Array (Option Value)} {oc__costs_of kV__costs_of dc__costs_of pm__costs_of cd__costs_of ct__costs_of : Value}
    {f__law_pick : Addr} {od__law_pick an__law_pick : Option Addr} {sl__law_pick : Array (Option Value)} {oc__law_pick kV__law_pick dc__law_pick pm__law_pick cd__law_pick ct__law_pick : Value}
    {f__law_limit : Addr} {od__law_limit an__law_limit : Option Addr} {sl__law_limit : Array (Option Value)} {oc__law_limit kV__law_limit dc__law_limit pm__law_limit cd__law_limit ct__law_limit : Value}
    {f__law_book : Addr} {od__law_book an__law_book : Option Addr} {sl__law_book : Array (Option Value)} {oc__law_book kV__law_book dc__law_book pm__law_book cd__law_book ct__law_book : Value}
    {f__law_days : Addr} {od__law_days an__law_days : Option Addr} {sl__law_days : Array (Option Value)} {oc__law_days kV__law_days dc__law_days pm__law_days cd__law_days ct__law_days : Value}
    {f__law_bad : Addr} {od__law_bad an__law_bad : Option Addr} {sl__law_bad : Array (Option Value)} {oc__law_bad kV__law_bad dc__law_bad pm__law_bad cd__law_bad ct__law_bad : Value}
    {f__law_fine : Addr} {od__law_fine an__law_fine : Option Addr} {sl__law_fine : Array (Option Value)} {oc__law_fine kV__law_fine dc__law_fine pm__law_fine cd__law_fine ct__law_fine : Value}
    {f_law : Addr} {od_law an_law : Option Addr} {sl_law : Array (Option Value)} {oc_law kV_law dc_law pm_law cd_law ct_law : Value}
    {t_AWAY : Tok}
    {t_MOST_DAYS : Tok}
    {t_MOST_LIMITS : Tok}
    {t_PAST_DAYS : Tok}
    {t_FIRST_PAST : Tok}
    {C_StayError : Addr}
    {C_InvalidBook : Addr}
    {C_InvalidCalendar : Addr}
    {D_BOUNDS : Addr} {es_BOUNDS : Array DictEntry} {n_BOUNDS : Nat}
    {u3 : Tok}
    {u4 : Tok}
    {p2 : Addr} {pd2 : Option Addr} {pn2 : Nat} {ps2 : Array (Option Value)}
    {u6 : Tok}
    {u7 : Tok}
    {p5 : Addr} {pd5 : Option Addr} {pn5 : Nat} {ps5 : Array (Option Value)}
    {p1 : Addr} {pd1 : Option Addr} {pn1 : Nat} {ps1 : Array (Option Value)}
    {u11 : Tok}
    {u12 : Tok}
    {p10 : Addr} {pd10 : Option Addr} {pn10 : Nat} {ps10 : Array (Option Value)}
    {p9 : Addr} {pd9 : Option Addr} {pn9 : Nat} {ps9 : Array (Option Value)}
    {u16 : Tok}
    {u17 : Tok}
    {p15 : Addr} {pd15 : Option Addr} {pn15 : Nat} {ps15 : Array (Option Value)}
    {p14 : Addr} {pd14 : Option Addr} {pn14 : Nat} {ps14 : Array (Option Value)}
    {u21 : Tok}
    {u22 : Tok}
    {p20 : Addr} {pd20 : Option Addr} {pn20 : Nat} {ps20 : Array (Option Value)}
    {u24 : Tok}
    {u25 : Tok}
    {p23 : Addr} {pd23 : Option Addr} {pn23 : Nat} {ps23 : Array (Option Value)}
    {p19 : Addr} {pd19 : Option Addr} {pn19 : Nat} {ps19 : Array (Option Value)}
    (a_is_book : PySem.W.nsIn K mainGlobals "is_book" = some (some (.ref f_is_book)))
    (l_is_book : K.lookup f_is_book = some ⟨oc_is_book, od_is_book, .func (PySem.W.fnOf "is_book" "is_book" (defArgs st_is_book) (defBody st_is_book) (defScope st_is_book) .none kV_is_book dc_is_book pm_is_book an_is_book cd_is_book ct_is_book), sl_is_book⟩)
    (c_is_book : PySem.W.codeIn K cd_is_book "is_book" = true)
    (k_is_book : PySem.W.keepIn K (.ref f_is_book) = true)
    (a_is_calendar : PySem.W.nsIn K mainGlobals "is_calendar" = some (some (.ref f_is_calendar)))
    (l_is_calendar : K.lookup f_is_calendar = some ⟨oc_is_calendar, od_is_calendar, .func (PySem.W.fnOf "is_calendar" "is_calendar" (defArgs st_is_calendar) (defBody st_is_calendar) (defScope st_is_calendar) .none kV_is_calendar dc_is_calendar pm_is_calendar an_is_calendar cd_is_calendar ct_is_calendar), sl_is_calendar⟩)
    (c_is_calendar : PySem.W.codeIn K cd_is_calendar "is_calendar" = true)
    (k_is_calendar : PySem.W.keepIn K (.ref f_is_calendar) = true)
    (a_check_book : PySem.W.nsIn K mainGlobals "check_book" = some (some (.ref f_check_book)))
    (l_check_book : K.lookup f_check_book = some ⟨oc_check_book, od_check_book, .func (PySem.W.fnOf "check_book" "check_book" (defArgs st_check_book) (defBody st_check_book) (defScope st_check_book) .none kV_check_book dc_check_book pm_check_book an_check_book cd_check_book ct_check_book), sl_check_book⟩)
    (c_check_book : PySem.W.codeIn K cd_check_book "check_book" = true)
    (k_check_book : PySem.W.keepIn K (.ref f_check_book) = true)
    (a_check_calendar : PySem.W.nsIn K mainGlobals "check_calendar" = some (some (.ref f_check_calendar)))
    (l_check_calendar : K.lookup f_check_calendar = some ⟨oc_check_calendar, od_check_calendar, .func (PySem.W.fnOf "check_calendar" "check_calendar" (defArgs st_check_calendar) (defBody st_check_calendar) (defScope st_check_calendar) .none kV_check_calendar dc_check_calendar pm_check_calendar an_check_calendar cd_check_calendar ct_check_calendar), sl_check_calendar⟩)
    (c_check_calendar : PySem.W.codeIn K cd_check_calendar "check_calendar" = true)
    (k_check_calendar : PySem.W.keepIn K (.ref f_check_calendar) = true)
    (a_day_letters : PySem.W.nsIn K mainGlobals "day_letters" = some (some (.ref f_day_letters)))
    (l_day_letters : K.lookup f_day_letters = some ⟨oc_day_letters, od_day_letters, .func (PySem.W.fnOf "day_letters" "day_letters" (defArgs st_day_letters) (defBody st_day_letters) (defScope st_day_letters) .none kV_day_letters dc_day_letters pm_day_letters an_day_letters cd_day_letters ct_day_letters), sl_day_letters⟩)
    (c_day_letters : PySem.W.codeIn K cd_day_letters "day_letters" = true)
    (k_day_letters : PySem.W.keepIn K (.ref f_day_letters) = true)
    (a_is_text_of : PySem.W.nsIn K mainGlobals "is_text_of" = some (some (.ref f_is_text_of)))
    (l_is_text_of : K.lookup f_is_text_of = some ⟨oc_is_text_of, od_is_text_of, .func (PySem.W.fnOf "is_text_of" "is_text_of" (defArgs st_is_text_of) (defBody st_is_text_of) (defScope st_is_text_of) .none kV_is_text_of dc_is_text_of pm_is_text_of an_is_text_of cd_is_text_of ct_is_text_of), sl_is_text_of⟩)
    (c_is_text_of : PySem.W.codeIn K cd_is_text_of "is_text_of" = true)
    (k_is_text_of : PySem.W.keepIn K (.ref f_is_text_of) = true)
    (a_is_pair : PySem.W.nsIn K mainGlobals "is_pair" = some (some (.ref f_is_pair)))
    (l_is_pair : K.lookup f_is_pair = some ⟨oc_is_pair, od_is_pair, .func (PySem.W.fnOf "is_pair" "is_pair" (defArgs st_is_pair) (defBody st_is_pair) (defScope st_is_pair) .none kV_is_pair dc_is_pair pm_is_pair an_is_pair cd_is_pair ct_is_pair), sl_is_pair⟩)
    (c_is_pair : PySem.W.codeIn K cd_is_pair "is_pair" = true)
    (k_is_pair : PySem.W.keepIn K (.ref f_is_pair) = true)
    (a_is_between : PySem.W.nsIn K mainGlobals "is_between" = some (some (.ref f_is_between)))
    (l_is_between : K.lookup f_is_between = some ⟨oc_is_between, od_is_between, .func (PySem.W.fnOf "is_between" "is_between" (defArgs st_is_between) (defBody st_is_between) (defScope st_is_between) .none kV_is_between dc_is_between pm_is_between an_is_between cd_is_between ct_is_between), sl_is_between⟩)
    (c_is_between : PySem.W.codeIn K cd_is_between "is_between" = true)
    (k_is_between : PySem.W.keepIn K (.ref f_is_between) = true)
    (a__limit_zones : PySem.W.nsIn K mainGlobals "_limit_zones" = some (some (.ref f__limit_zones)))
    (l__limit_zones : K.lookup f__limit_zones = some ⟨oc__limit_zones, od__limit_zones, .func (PySem.W.fnOf "_limit_zones" "_limit_zones" (defArgs st__limit_zones) (defBody st__limit_zones) (defScope st__limit_zones) .none kV__limit_zones dc__limit_zones pm__limit_zones an__limit_zones cd__limit_zones ct__limit_zones), sl__limit_zones⟩)
    (c__limit_zones : PySem.W.codeIn K cd__limit_zones "_limit_zones" = true)
    (k__limit_zones : PySem.W.keepIn K (.ref f__limit_zones) = true)
    (a__is_limit_within : PySem.W.nsIn K mainGlobals "_is_limit_within" = some (some (.ref f__is_limit_within)))
    (l__is_limit_within : K.lookup f__is_limit_within = some ⟨oc__is_limit_within, od__is_limit_within, .func (PySem.W.fnOf "_is_limit_within" "_is_limit_within" (defArgs st__is_limit_within) (defBody st__is_limit_within) (defScope st__is_limit_within) .none kV__is_limit_within dc__is_limit_within pm__is_limit_within an__is_limit_within cd__is_limit_within ct__is_limit_within), sl__is_limit_within⟩)
    (c__is_limit_within : PySem.W.codeIn K cd__is_limit_within "_is_limit_within" = true)
    (k__is_limit_within : PySem.W.keepIn K (.ref f__is_limit_within) = true)
    (a_is_allowed : PySem.W.nsIn K mainGlobals "is_allowed" = some (some (.ref f_is_allowed)))
    (l_is_allowed : K.lookup f_is_allowed = some ⟨oc_is_allowed, od_is_allowed, .func (PySem.W.fnOf "is_allowed" "is_allowed" (defArgs st_is_allowed) (defBody st_is_allowed) (defScope st_is_allowed) .none kV_is_allowed dc_is_allowed pm_is_allowed an_is_allowed cd_is_allowed ct_is_allowed), sl_is_allowed⟩)
    (c_is_allowed : PySem.W.codeIn K cd_is_allowed "is_allowed" = true)
    (k_is_allowed : PySem.W.keepIn K (.ref f_is_allowed) = true)
    (a_first_broken : PySem.W.nsIn K mainGlobals "first_broken" = some (some (.ref f_first_broken)))
    (l_first_broken : K.lookup f_first_broken = some ⟨oc_first_broken, od_first_broken, .func (PySem.W.fnOf "first_broken" "first_broken" (defArgs st_first_broken) (defBody st_first_broken) (defScope st_first_broken) .none kV_first_broken dc_first_broken pm_first_broken an_first_broken cd_first_broken ct_first_broken), sl_first_broken⟩)
    (c_first_broken : PySem.W.codeIn K cd_first_broken "first_broken" = true)
    (k_first_broken : PySem.W.keepIn K (.ref f_first_broken) = true)
    (a_days_behind : PySem.W.nsIn K mainGlobals "days_behind" = some (some (.ref f_days_behind)))
    (l_days_behind : K.lookup f_days_behind = some ⟨oc_days_behind, od_days_behind, .func (PySem.W.fnOf "days_behind" "days_behind" (defArgs st_days_behind) (defBody st_days_behind) (defScope st_days_behind) .none kV_days_behind dc_days_behind pm_days_behind an_days_behind cd_days_behind ct_days_behind), sl_days_behind⟩)
    (c_days_behind : PySem.W.codeIn K cd_days_behind "days_behind" = true)
    (k_days_behind : PySem.W.keepIn K (.ref f_days_behind) = true)
    (a_limit_broken : PySem.W.nsIn K mainGlobals "limit_broken" = some (some (.ref f_limit_broken)))
    (l_limit_broken : K.lookup f_limit_broken = some ⟨oc_limit_broken, od_limit_broken, .func (PySem.W.fnOf "limit_broken" "limit_broken" (defArgs st_limit_broken) (defBody st_limit_broken) (defScope st_limit_broken) .none kV_limit_broken dc_limit_broken pm_limit_broken an_limit_broken cd_limit_broken ct_limit_broken), sl_limit_broken⟩)
    (c_limit_broken : PySem.W.codeIn K cd_limit_broken "limit_broken" = true)
    (k_limit_broken : PySem.W.keepIn K (.ref f_limit_broken) = true)
    (a__breaks : PySem.W.nsIn K mainGlobals "_breaks" = some (some (.ref f__breaks)))
    (l__breaks : K.lookup f__breaks = some ⟨oc__breaks, od__breaks, .func (PySem.W.fnOf "_breaks" "_breaks" (defArgs st__breaks) (defBody st__breaks) (defScope st__breaks) .none kV__breaks dc__breaks pm__breaks an__breaks cd__breaks ct__breaks), sl__breaks⟩)
    (c__breaks : PySem.W.codeIn K cd__breaks "_breaks" = true)
    (k__breaks : PySem.W.keepIn K (.ref f__breaks) = true)
    (a_next_past : PySem.W.nsIn K mainGlobals "next_past" = some (some (.ref f_next_past)))
    (l_next_past : K.lookup f_next_past = some ⟨oc_next_past, od_next_past, .func (PySem.W.fnOf "next_past" "next_past" (defArgs st_next_past) (defBody st_next_past) (defScope st_next_past) .none kV_next_past dc_next_past pm_next_past an_next_past cd_next_past ct_next_past), sl_next_past⟩)
    (c_next_past : PySem.W.codeIn K cd_next_past "next_past" = true)
    (k_next_past : PySem.W.keepIn K (.ref f_next_past) = true)
    (a_steps_of : PySem.W.nsIn K mainGlobals "steps_of" = some (some (.ref f_steps_of)))
    (l_steps_of : K.lookup f_steps_of = some ⟨oc_steps_of, od_steps_of, .func (PySem.W.fnOf "steps_of" "steps_of" (defArgs st_steps_of) (defBody st_steps_of) (defScope st_steps_of) .none kV_steps_of dc_steps_of pm_steps_of an_steps_of cd_steps_of ct_steps_of), sl_steps_of⟩)
    (c_steps_of : PySem.W.codeIn K cd_steps_of "steps_of" = true)
    (k_steps_of : PySem.W.keepIn K (.ref f_steps_of) = true)
    (a_least_costs : PySem.W.nsIn K mainGlobals "least_costs" = some (some (.ref f_least_costs)))
    (l_least_costs : K.lookup f_least_costs = some ⟨oc_least_costs, od_least_costs, .func (PySem.W.fnOf "least_costs" "least_costs" (defArgs st_least_costs) (defBody st_least_costs) (defScope st_least_costs) .none kV_least_costs dc_least_costs pm_least_costs an_least_costs cd_least_costs ct_least_costs), sl_least_costs⟩)
    (c_least_costs : PySem.W.codeIn K cd_least_costs "least_costs" = true)
    (k_least_costs : PySem.W.keepIn K (.ref f_least_costs) = true)
    (a_cheapest_walk : PySem.W.nsIn K mainGlobals "cheapest_walk" = some (some (.ref f_cheapest_walk)))
    (l_cheapest_walk : K.lookup f_cheapest_walk = some ⟨oc_cheapest_walk, od_cheapest_walk, .func (PySem.W.fnOf "cheapest_walk" "cheapest_walk" (defArgs st_cheapest_walk) (defBody st_cheapest_walk) (defScope st_cheapest_walk) .none kV_cheapest_walk dc_cheapest_walk pm_cheapest_walk an_cheapest_walk cd_cheapest_walk ct_cheapest_walk), sl_cheapest_walk⟩)
    (c_cheapest_walk : PySem.W.codeIn K cd_cheapest_walk "cheapest_walk" = true)
    (k_cheapest_walk : PySem.W.keepIn K (.ref f_cheapest_walk) = true)
    (a_fewest_away : PySem.W.nsIn K mainGlobals "fewest_away" = some (some (.ref f_fewest_away)))
    (l_fewest_away : K.lookup f_fewest_away = some ⟨oc_fewest_away, od_fewest_away, .func (PySem.W.fnOf "fewest_away" "fewest_away" (defArgs st_fewest_away) (defBody st_fewest_away) (defScope st_fewest_away) .none kV_fewest_away dc_fewest_away pm_fewest_away an_fewest_away cd_fewest_away ct_fewest_away), sl_fewest_away⟩)
    (c_fewest_away : PySem.W.codeIn K cd_fewest_away "fewest_away" = true)
    (k_fewest_away : PySem.W.keepIn K (.ref f_fewest_away) = true)
    (a_thinned : PySem.W.nsIn K mainGlobals "thinned" = some (some (.ref f_thinned)))
    (l_thinned : K.lookup f_thinned = some ⟨oc_thinned, od_thinned, .func (PySem.W.fnOf "thinned" "thinned" (defArgs st_thinned) (defBody st_thinned) (defScope st_thinned) .none kV_thinned dc_thinned pm_thinned an_thinned cd_thinned ct_thinned), sl_thinned⟩)
    (c_thinned : PySem.W.codeIn K cd_thinned "thinned" = true)
    (k_thinned : PySem.W.keepIn K (.ref f_thinned) = true)
    (a__costs_of : PySem.W.nsIn K mainGlobals "_costs_of" = some (some (.ref f__costs_of)))
    (l__costs_of : K.lookup f__costs_of = some ⟨oc__costs_of, od__costs_of, .func (PySem.W.fnOf "_costs_of" "_costs_of" (defArgs st__costs_of) (defBody st__costs_of) (defScope st__costs_of) .none kV__costs_of dc__costs_of pm__costs_of an__costs_of cd__costs_of ct__costs_of), sl__costs_of⟩)
    (c__costs_of : PySem.W.codeIn K cd__costs_of "_costs_of" = true)
    (k__costs_of : PySem.W.keepIn K (.ref f__costs_of) = true)
    (a__law_pick : PySem.W.nsIn K mainGlobals "_law_pick" = some (some (.ref f__law_pick)))
    (l__law_pick : K.lookup f__law_pick = some ⟨oc__law_pick, od__law_pick, .func (PySem.W.fnOf "_law_pick" "_law_pick" (defArgs st__law_pick) (defBody st__law_pick) (defScope st__law_pick) .none kV__law_pick dc__law_pick pm__law_pick an__law_pick cd__law_pick ct__law_pick), sl__law_pick⟩)
    (c__law_pick : PySem.W.codeIn K cd__law_pick "_law_pick" = true)
    (k__law_pick : PySem.W.keepIn K (.ref f__law_pick) = true)
    (a__law_limit : PySem.W.nsIn K mainGlobals "_law_limit" = some (some (.ref f__law_limit)))
    (l__law_limit : K.lookup f__law_limit = some ⟨oc__law_limit, od__law_limit, .func (PySem.W.fnOf "_law_limit" "_law_limit" (defArgs st__law_limit) (defBody st__law_limit) (defScope st__law_limit) .none kV__law_limit dc__law_limit pm__law_limit an__law_limit cd__law_limit ct__law_limit), sl__law_limit⟩)
    (c__law_limit : PySem.W.codeIn K cd__law_limit "_law_limit" = true)
    (k__law_limit : PySem.W.keepIn K (.ref f__law_limit) = true)
    (a__law_book : PySem.W.nsIn K mainGlobals "_law_book" = some (some (.ref f__law_book)))
    (l__law_book : K.lookup f__law_book = some ⟨oc__law_book, od__law_book, .func (PySem.W.fnOf "_law_book" "_law_book" (defArgs st__law_book) (defBody st__law_book) (defScope st__law_book) .none kV__law_book dc__law_book pm__law_book an__law_book cd__law_book ct__law_book), sl__law_book⟩)
    (c__law_book : PySem.W.codeIn K cd__law_book "_law_book" = true)
    (k__law_book : PySem.W.keepIn K (.ref f__law_book) = true)
    (a__law_days : PySem.W.nsIn K mainGlobals "_law_days" = some (some (.ref f__law_days)))
    (l__law_days : K.lookup f__law_days = some ⟨oc__law_days, od__law_days, .func (PySem.W.fnOf "_law_days" "_law_days" (defArgs st__law_days) (defBody st__law_days) (defScope st__law_days) .none kV__law_days dc__law_days pm__law_days an__law_days cd__law_days ct__law_days), sl__law_days⟩)
    (c__law_days : PySem.W.codeIn K cd__law_days "_law_days" = true)
    (k__law_days : PySem.W.keepIn K (.ref f__law_days) = true)
    (a__law_bad : PySem.W.nsIn K mainGlobals "_law_bad" = some (some (.ref f__law_bad)))
    (l__law_bad : K.lookup f__law_bad = some ⟨oc__law_bad, od__law_bad, .func (PySem.W.fnOf "_law_bad" "_law_bad" (defArgs st__law_bad) (defBody st__law_bad) (defScope st__law_bad) .none kV__law_bad dc__law_bad pm__law_bad an__law_bad cd__law_bad ct__law_bad), sl__law_bad⟩)
    (c__law_bad : PySem.W.codeIn K cd__law_bad "_law_bad" = true)
    (k__law_bad : PySem.W.keepIn K (.ref f__law_bad) = true)
    (a__law_fine : PySem.W.nsIn K mainGlobals "_law_fine" = some (some (.ref f__law_fine)))
    (l__law_fine : K.lookup f__law_fine = some ⟨oc__law_fine, od__law_fine, .func (PySem.W.fnOf "_law_fine" "_law_fine" (defArgs st__law_fine) (defBody st__law_fine) (defScope st__law_fine) .none kV__law_fine dc__law_fine pm__law_fine an__law_fine cd__law_fine ct__law_fine), sl__law_fine⟩)
    (c__law_fine : PySem.W.codeIn K cd__law_fine "_law_fine" = true)
    (k__law_fine : PySem.W.keepIn K (.ref f__law_fine) = true)
    (a_law : PySem.W.nsIn K mainGlobals "law" = some (some (.ref f_law)))
    (l_law : K.lookup f_law = some ⟨oc_law, od_law, .func (PySem.W.fnOf "law" "law" (defArgs st_law) (defBody st_law) (defScope st_law) .none kV_law dc_law pm_law an_law cd_law ct_law), sl_law⟩)
    (c_law : PySem.W.codeIn K cd_law "law" = true)
    (k_law : PySem.W.keepIn K (.ref f_law) = true)
    (q_AWAY : PySem.W.nsIn K mainGlobals "AWAY" = some (some (.str "." t_AWAY)))
    (q_MOST_DAYS : PySem.W.nsIn K mainGlobals "MOST_DAYS" = some (some (.int 60 t_MOST_DAYS)))
    (q_MOST_LIMITS : PySem.W.nsIn K mainGlobals "MOST_LIMITS" = some (some (.int 4 t_MOST_LIMITS)))
    (q_PAST_DAYS : PySem.W.nsIn K mainGlobals "PAST_DAYS" = some (some (.int 5 t_PAST_DAYS)))
    (q_FIRST_PAST : PySem.W.nsIn K mainGlobals "FIRST_PAST" = some (some (.str "....." t_FIRST_PAST)))
    (qq_deque : PySem.W.nsIn K mainGlobals "deque" = some (some (.type "collections.deque")))
    (ga_StayError : PySem.W.nsIn K mainGlobals "StayError" = some (some (.ref C_StayError)))
    (ge_StayError : PySem.W.excIn K C_StayError [.type "ValueError", .type "Exception", .type "BaseException", .type "object"] "ValueError.__new__" = true)
    (gk_StayError : PySem.W.keepIn K (.ref C_StayError) = true)
    (gs_StayError : PySem.W.subIn K (.ref C_StayError) (.type "BaseException") = some true)
    (gt_StayError : PySem.W.typeIn K (.ref C_StayError) = some (.type "type"))
    (ga_InvalidBook : PySem.W.nsIn K mainGlobals "InvalidBook" = some (some (.ref C_InvalidBook)))
    (ge_InvalidBook : PySem.W.excIn K C_InvalidBook [.type "ValueError", .type "Exception", .type "BaseException", .type "object"] "ValueError.__new__" = true)
    (gk_InvalidBook : PySem.W.keepIn K (.ref C_InvalidBook) = true)
    (gs_InvalidBook : PySem.W.subIn K (.ref C_InvalidBook) (.type "BaseException") = some true)
    (gt_InvalidBook : PySem.W.typeIn K (.ref C_InvalidBook) = some (.type "type"))
    (ga_InvalidCalendar : PySem.W.nsIn K mainGlobals "InvalidCalendar" = some (some (.ref C_InvalidCalendar)))
    (ge_InvalidCalendar : PySem.W.excIn K C_InvalidCalendar [.type "ValueError", .type "Exception", .type "BaseException", .type "object"] "ValueError.__new__" = true)
    (gk_InvalidCalendar : PySem.W.keepIn K (.ref C_InvalidCalendar) = true)
    (gs_InvalidCalendar : PySem.W.subIn K (.ref C_InvalidCalendar) (.type "BaseException") = some true)
    (gt_InvalidCalendar : PySem.W.typeIn K (.ref C_InvalidCalendar) = some (.type "type"))
    (ta_BOUNDS : PySem.W.nsIn K mainGlobals "BOUNDS" = some (some (.ref D_BOUNDS)))
    (tl_BOUNDS : K.lookup D_BOUNDS = some ⟨.type "dict", none, .dict es_BOUNDS n_BOUNDS, #[]⟩)
    (tk_BOUNDS : PySem.W.KeysLit w.params es_BOUNDS.toList)
    (tn_BOUNDS : (D_BOUNDS == sysModules) = false)
    (ti_BOUNDS_8 : PySem.W.nsIn K D_BOUNDS "most" = some (some (.ref p1)))
    (pl1 : K.lookup p1 = some ⟨.type "tuple", pd1, .seq #[.ref p2, .ref p5] pn1, ps1⟩)
    (pl2 : K.lookup p2 = some ⟨.type "tuple", pd2, .seq #[.int 0 u3, .int 6 u4] pn2, ps2⟩)
    (pl5 : K.lookup p5 = some ⟨.type "tuple", pd5, .seq #[.int 1 u6, .int 6 u7] pn5, ps5⟩)
    (ti_BOUNDS_13 : PySem.W.nsIn K D_BOUNDS "row" = some (some (.ref p9)))
    (pl9 : K.lookup p9 = some ⟨.type "tuple", pd9, .seq #[.ref p10] pn9, ps9⟩)
    (pl10 : K.lookup p10 = some ⟨.type "tuple", pd10, .seq #[.int 0 u11, .int 5 u12] pn10, ps10⟩)
    (ti_BOUNDS_18 : PySem.W.nsIn K D_BOUNDS "gap" = some (some (.ref p14)))
    (pl14 : K.lookup p14 = some ⟨.type "tuple", pd14, .seq #[.ref p15] pn14, ps14⟩)
    (pl15 : K.lookup p15 = some ⟨.type "tuple", pd15, .seq #[.int 1 u16, .int 5 u17] pn15, ps15⟩)
    (ti_BOUNDS_26 : PySem.W.nsIn K D_BOUNDS "starts" = some (some (.ref p19)))
    (pl19 : K.lookup p19 = some ⟨.type "tuple", pd19, .seq #[.ref p20, .ref p23] pn19, ps19⟩)
    (pl20 : K.lookup p20 = some ⟨.type "tuple", pd20, .seq #[.int 0 u21, .int 5 u22] pn20, ps20⟩)
    (pl23 : K.lookup p23 = some ⟨.type "tuple", pd23, .seq #[.int 1 u24, .int 5 u25] pn23, ps23⟩)
    (ti_BOUNDS_27 : PySem.W.nsIn K D_BOUNDS "stay" = some none)
    (z_all : PySem.W.nsIn K mainGlobals "all" = some none)
    (z_any : PySem.W.nsIn K mainGlobals "any" = some none)
    (z_bool : PySem.W.nsIn K mainGlobals "bool" = some none)
    (z_enumerate : PySem.W.nsIn K mainGlobals "enumerate" = some none)
    (z_int : PySem.W.nsIn K mainGlobals "int" = some none)
    (z_isinstance : PySem.W.nsIn K mainGlobals "isinstance" = some none)
    (z_len : PySem.W.nsIn K mainGlobals "len" = some none)
    (z_max : PySem.W.nsIn K mainGlobals "max" = some none)
    (z_min : PySem.W.nsIn K mainGlobals "min" = some none)
    (z_range : PySem.W.nsIn K mainGlobals "range" = some none)
    (z_reversed : PySem.W.nsIn K mainGlobals "reversed" = some none)
    (z_set : PySem.W.nsIn K mainGlobals "set" = some none)
    (z_sorted : PySem.W.nsIn K mainGlobals "sorted" = some none)
    (z_str : PySem.W.nsIn K mainGlobals "str" = some none)
    (z_sum : PySem.W.nsIn K mainGlobals "sum" = some none)
    (z_tuple : PySem.W.nsIn K mainGlobals "tuple" = some none)
    (z_zip : PySem.W.nsIn K mainGlobals "zip" = some none) : Top K w mg where
  d_is_book := ⟨f_is_book, _, fun_mk (st := st_is_book) l_is_book c_is_book k_is_book, (fun_mk (st := st_is_book) l_is_book c_is_book k_is_book).binds (ps := ["candidate"]) fun _ _ _ _ _ _ us hl => match us, hl with | [_], _ => rfl, PySem.W.mg_of X G a_is_book⟩
  d_is_calendar := ⟨f_is_calendar, _, fun_mk (st := st_is_calendar) l_is_calendar c_is_calendar k_is_calendar, (fun_mk (st := st_is_calendar) l_is_calendar c_is_calendar k_is_calendar).binds (ps := ["book", "candidate"]) fun _ _ _ _ _ _ us hl => match us, hl with | [_, _], _ => rfl, PySem.W.mg_of X G a_is_calendar⟩
  d_check_book := ⟨f_check_book, _, fun_mk (st := st_check_book) l_check_book c_check_book k_check_book, (fun_mk (st := st_check_book) l_check_book c_check_book k_check_book).binds (ps := ["book"]) fun _ _ _ _ _ _ us hl => match us, hl with | [_], _ => rfl, PySem.W.mg_of X G a_check_book⟩
  d_check_calendar := ⟨f_check_calendar, _, fun_mk (st := st_check_calendar) l_check_calendar c_check_calendar k_check_calendar, (fun_mk (st := st_check_calendar) l_check_calendar c_check_calendar k_check_calendar).binds (ps := ["book", "calendar"]) fun _ _ _ _ _ _ us hl => match us, hl with | [_, _], _ => rfl, PySem.W.mg_of X G a_check_calendar⟩
  d_day_letters := ⟨f_day_letters, _, fun_mk (st := st_day_letters) l_day_letters c_day_letters k_day_letters, (fun_mk (st := st_day_letters) l_day_letters c_day_letters k_day_letters).binds (ps := ["book"]) fun _ _ _ _ _ _ us hl => match us, hl with | [_], _ => rfl, PySem.W.mg_of X G a_day_letters⟩
  d_is_text_of := ⟨f_is_text_of, _, fun_mk (st := st_is_text_of) l_is_text_of c_is_text_of k_is_text_of, (fun_mk (st := st_is_text_of) l_is_text_of c_is_text_of k_is_text_of).binds (ps := ["letters", "most", "candidate"]) fun _ _ _ _ _ _ us hl => match us, hl with | [_, _, _], _ => rfl, PySem.W.mg_of X G a_is_text_of⟩
  d_is_pair := ⟨f_is_pair, _, fun_mk (st := st_is_pair) l_is_pair c_is_pair k_is_pair, (fun_mk (st := st_is_pair) l_is_pair c_is_pair k_is_pair).binds (ps := ["candidate"]) fun _ _ _ _ _ _ us hl => match us, hl with | [_], _ => rfl, PySem.W.mg_of X G a_is_pair⟩
  d_is_between := ⟨f_is_between, _, fun_mk (st := st_is_between) l_is_between c_is_between k_is_between, (fun_mk (st := st_is_between) l_is_between c_is_between k_is_between).binds (ps := ["candidate", "low", "high"]) fun _ _ _ _ _ _ us hl => match us, hl with | [_, _, _], _ => rfl, PySem.W.mg_of X G a_is_between⟩
  d__limit_zones := ⟨f__limit_zones, _, fun_mk (st := st__limit_zones) l__limit_zones c__limit_zones k__limit_zones, (fun_mk (st := st__limit_zones) l__limit_zones c__limit_zones k__limit_zones).binds (ps := ["zones"]) fun _ _ _ _ _ _ us hl => match us, hl with | [_], _ => rfl, PySem.W.mg_of X G a__limit_zones⟩
  d__is_limit_within := ⟨f__is_limit_within, _, fun_mk (st := st__is_limit_within) l__is_limit_within c__is_limit_within k__is_limit_within, (fun_mk (st := st__is_limit_within) l__is_limit_within c__is_limit_within k__is_limit_within).binds (ps := ["candidate", "zones"]) fun _ _ _ _ _ _ us hl => match us, hl with | [_, _], _ => rfl, PySem.W.mg_of X G a__is_limit_within⟩
  d_is_allowed := ⟨f_is_allowed, _, fun_mk (st := st_is_allowed) l_is_allowed c_is_allowed k_is_allowed, (fun_mk (st := st_is_allowed) l_is_allowed c_is_allowed k_is_allowed).binds (ps := ["book", "calendar"]) fun _ _ _ _ _ _ us hl => match us, hl with | [_, _], _ => rfl, PySem.W.mg_of X G a_is_allowed⟩
  d_first_broken := ⟨f_first_broken, _, fun_mk (st := st_first_broken) l_first_broken c_first_broken k_first_broken, (fun_mk (st := st_first_broken) l_first_broken c_first_broken k_first_broken).binds (ps := ["book", "calendar"]) fun _ _ _ _ _ _ us hl => match us, hl with | [_, _], _ => rfl, PySem.W.mg_of X G a_first_broken⟩
  d_days_behind := ⟨f_days_behind, _, fun_mk (st := st_days_behind) l_days_behind c_days_behind k_days_behind, (fun_mk (st := st_days_behind) l_days_behind c_days_behind k_days_behind).binds (ps := ["book", "past"]) fun _ _ _ _ _ _ us hl => match us, hl with | [_, _], _ => rfl, PySem.W.mg_of X G a_days_behind⟩
  d_limit_broken := ⟨f_limit_broken, _, fun_mk (st := st_limit_broken) l_limit_broken c_limit_broken k_limit_broken, (fun_mk (st := st_limit_broken) l_limit_broken c_limit_broken k_limit_broken).binds (ps := ["book", "past", "day"]) fun _ _ _ _ _ _ us hl => match us, hl with | [_, _, _], _ => rfl, PySem.W.mg_of X G a_limit_broken⟩
  d__breaks := ⟨f__breaks, _, fun_mk (st := st__breaks) l__breaks c__breaks k__breaks, (fun_mk (st := st__breaks) l__breaks c__breaks k__breaks).binds (ps := ["limit", "days"]) fun _ _ _ _ _ _ us hl => match us, hl with | [_, _], _ => rfl, PySem.W.mg_of X G a__breaks⟩
  d_next_past := ⟨f_next_past, _, fun_mk (st := st_next_past) l_next_past c_next_past k_next_past, (fun_mk (st := st_next_past) l_next_past c_next_past k_next_past).binds (ps := ["past", "day"]) fun _ _ _ _ _ _ us hl => match us, hl with | [_, _], _ => rfl, PySem.W.mg_of X G a_next_past⟩
  d_steps_of := ⟨f_steps_of, _, fun_mk (st := st_steps_of) l_steps_of c_steps_of k_steps_of, (fun_mk (st := st_steps_of) l_steps_of c_steps_of k_steps_of).binds (ps := ["book"]) fun _ _ _ _ _ _ us hl => match us, hl with | [_], _ => rfl, PySem.W.mg_of X G a_steps_of⟩
  d_least_costs := ⟨f_least_costs, _, fun_mk (st := st_least_costs) l_least_costs c_least_costs k_least_costs, (fun_mk (st := st_least_costs) l_least_costs c_least_costs k_least_costs).binds (ps := ["steps", "costs"]) fun _ _ _ _ _ _ us hl => match us, hl with | [_, _], _ => rfl, PySem.W.mg_of X G a_least_costs⟩
  d_cheapest_walk := ⟨f_cheapest_walk, _, fun_mk (st := st_cheapest_walk) l_cheapest_walk c_cheapest_walk k_cheapest_walk, (fun_mk (st := st_cheapest_walk) l_cheapest_walk c_cheapest_walk k_cheapest_walk).binds (ps := ["steps", "costs", "start"]) fun _ _ _ _ _ _ us hl => match us, hl with | [_, _, _], _ => rfl, PySem.W.mg_of X G a_cheapest_walk⟩
  d_fewest_away := ⟨f_fewest_away, _, fun_mk (st := st_fewest_away) l_fewest_away c_fewest_away k_fewest_away, (fun_mk (st := st_fewest_away) l_fewest_away c_fewest_away k_fewest_away).binds (ps := ["book", "calendar"]) fun _ _ _ _ _ _ us hl => match us, hl with | [_, _], _ => rfl, PySem.W.mg_of X G a_fewest_away⟩
  d_thinned := ⟨f_thinned, _, fun_mk (st := st_thinned) l_thinned c_thinned k_thinned, (fun_mk (st := st_thinned) l_thinned c_thinned k_thinned).binds (ps := ["book", "calendar"]) fun _ _ _ _ _ _ us hl => match us, hl with | [_, _], _ => rfl, PySem.W.mg_of X G a_thinned⟩
  d__costs_of := ⟨f__costs_of, _, fun_mk (st := st__costs_of) l__costs_of c__costs_of k__costs_of, (fun_mk (st := st__costs_of) l__costs_of c__costs_of k__costs_of).binds (ps := ["calendar"]) fun _ _ _ _ _ _ us hl => match us, hl with | [_], _ => rfl, PySem.W.mg_of X G a__costs_of⟩
  d__law_pick := ⟨f__law_pick, _, fun_mk (st := st__law_pick) l__law_pick c__law_pick k__law_pick, (fun_mk (st := st__law_pick) l__law_pick c__law_pick k__law_pick).binds (ps := ["_law_script", "_law_k", "_law_many"]) fun _ _ _ _ _ _ us hl => match us, hl with | [_, _, _], _ => rfl, PySem.W.mg_of X G a__law_pick⟩
  d__law_limit := ⟨f__law_limit, _, fun_mk (st := st__law_limit) l__law_limit c__law_limit k__law_limit, (fun_mk (st := st__law_limit) l__law_limit c__law_limit k__law_limit).binds (ps := ["_law_script", "_law_at", "_law_zones"]) fun _ _ _ _ _ _ us hl => match us, hl with | [_, _, _], _ => rfl, PySem.W.mg_of X G a__law_limit⟩
  d__law_book := ⟨f__law_book, _, fun_mk (st := st__law_book) l__law_book c__law_book k__law_book, (fun_mk (st := st__law_book) l__law_book c__law_book k__law_book).binds (ps := ["_law_script", "_law_at"]) fun _ _ _ _ _ _ us hl => match us, hl with | [_, _], _ => rfl, PySem.W.mg_of X G a__law_book⟩
  d__law_days := ⟨f__law_days, _, fun_mk (st := st__law_days) l__law_days c__law_days k__law_days, (fun_mk (st := st__law_days) l__law_days c__law_days k__law_days).binds (ps := ["_law_script", "_law_at", "_law_book_here", "_law_many"]) fun _ _ _ _ _ _ us hl => match us, hl with | [_, _, _, _], _ => rfl, PySem.W.mg_of X G a__law_days⟩
  d__law_bad := ⟨f__law_bad, _, fun_mk (st := st__law_bad) l__law_bad c__law_bad k__law_bad, (fun_mk (st := st__law_bad) l__law_bad c__law_bad k__law_bad).binds (ps := ["_law_limit_here", "_law_calendar"]) fun _ _ _ _ _ _ us hl => match us, hl with | [_, _], _ => rfl, PySem.W.mg_of X G a__law_bad⟩
  d__law_fine := ⟨f__law_fine, _, fun_mk (st := st__law_fine) l__law_fine c__law_fine k__law_fine, (fun_mk (st := st__law_fine) l__law_fine c__law_fine k__law_fine).binds (ps := ["_law_book_here", "_law_calendar"]) fun _ _ _ _ _ _ us hl => match us, hl with | [_, _], _ => rfl, PySem.W.mg_of X G a__law_fine⟩
  d_law := ⟨f_law, _, fun_mk (st := st_law) l_law c_law k_law, (fun_mk (st := st_law) l_law c_law k_law).binds (ps := ["_law_script"]) fun _ _ _ _ _ _ us hl => match us, hl with | [_], _ => rfl, PySem.W.mg_of X G a_law⟩
  c_AWAY := ⟨_, PySem.W.mg_of X G q_AWAY⟩
  c_MOST_DAYS := ⟨_, PySem.W.mg_of X G q_MOST_DAYS⟩
  c_MOST_LIMITS := ⟨_, PySem.W.mg_of X G q_MOST_LIMITS⟩
  c_PAST_DAYS := ⟨_, PySem.W.mg_of X G q_PAST_DAYS⟩
  c_FIRST_PAST := ⟨_, PySem.W.mg_of X G q_FIRST_PAST⟩
  dq := PySem.W.mg_of X G qq_deque
  x_StayError := ⟨C_StayError, PySem.W.mg_of X G ga_StayError, ge_StayError, gk_StayError, gs_StayError, gt_StayError⟩
  x_InvalidBook := ⟨C_InvalidBook, PySem.W.mg_of X G ga_InvalidBook, ge_InvalidBook, gk_InvalidBook, gs_InvalidBook, gt_InvalidBook⟩
  x_InvalidCalendar := ⟨C_InvalidCalendar, PySem.W.mg_of X G ga_InvalidCalendar, ge_InvalidCalendar, gk_InvalidCalendar, gs_InvalidCalendar, gt_InvalidCalendar⟩
  t_BOUNDS := ⟨D_BOUNDS, es_BOUNDS, n_BOUNDS, PySem.W.mg_of X G ta_BOUNDS, ⟨tl_BOUNDS, tk_BOUNDS, tn_BOUNDS⟩, fun z o h => by
      unfold tab_BOUNDS at h
      rw [List.lookup_cons] at h; split at h; · (rename_i e; cases (eq_of_beq e); cases h; exact .inr ⟨_, _, (.ref p1), rfl, ti_BOUNDS_8, rfl, (.tup (xs := [(.ref p2), (.ref p5)]) (.inr ⟨_, _, _, pl1, rfl, rfl, (by rw [sizeLine_eq]; exact (by decide : 2 ≤ 16777216)), (.cons rfl (.cons rfl .nil))⟩) (.cons (.tup (xs := [(.int 0), (.int 6)]) (.inr ⟨_, _, _, pl2, rfl, rfl, (by rw [sizeLine_eq]; exact (by decide : 2 ≤ 16777216)), (.cons ⟨_, rfl⟩ (.cons ⟨_, rfl⟩ .nil))⟩) (.cons (.int _) (.cons (.int _) .nil))) (.cons (.tup (xs := [(.int 1), (.int 6)]) (.inr ⟨_, _, _, pl5, rfl, rfl, (by rw [sizeLine_eq]; exact (by decide : 2 ≤ 16777216)), (.cons ⟨_, rfl⟩ (.cons ⟨_, rfl⟩ .nil))⟩) (.cons (.int _) (.cons (.int _) .nil))) .nil)))⟩)
      rw [List.lookup_cons] at h; split at h; · (rename_i e; cases (eq_of_beq e); cases h; exact .inr ⟨_, _, (.ref p9), rfl, ti_BOUNDS_13, rfl, (.tup (xs := [(.ref p10)]) (.inr ⟨_, _, _, pl9, rfl, rfl, (by rw [sizeLine_eq]; exact (by decide : 1 ≤ 16777216)), (.cons rfl .nil)⟩) (.cons (.tup (xs := [(.int 0), (.int 5)]) (.inr ⟨_, _, _, pl10, rfl, rfl, (by rw [sizeLine_eq]; exact (by decide : 2 ≤ 16777216)), (.cons ⟨_, rfl⟩ (.cons ⟨_, rfl⟩ .nil))⟩) (.cons (.int _) (.cons (.int _) .nil))) .nil))⟩)
      rw [List.lookup_cons] at h; split at h; · (rename_i e; cases (eq_of_beq e); cases h; exact .inr ⟨_, _, (.ref p14), rfl, ti_BOUNDS_18, rfl, (.tup (xs := [(.ref p15)]) (.inr ⟨_, _, _, pl14, rfl, rfl, (by rw [sizeLine_eq]; exact (by decide : 1 ≤ 16777216)), (.cons rfl .nil)⟩) (.cons (.tup (xs := [(.int 1), (.int 5)]) (.inr ⟨_, _, _, pl15, rfl, rfl, (by rw [sizeLine_eq]; exact (by decide : 2 ≤ 16777216)), (.cons ⟨_, rfl⟩ (.cons ⟨_, rfl⟩ .nil))⟩) (.cons (.int _) (.cons (.int _) .nil))) .nil))⟩)
      rw [List.lookup_cons] at h; split at h; · (rename_i e; cases (eq_of_beq e); cases h; exact .inr ⟨_, _, (.ref p19), rfl, ti_BOUNDS_26, rfl, (.tup (xs := [(.ref p20), (.ref p23)]) (.inr ⟨_, _, _, pl19, rfl, rfl, (by rw [sizeLine_eq]; exact (by decide : 2 ≤ 16777216)), (.cons rfl (.cons rfl .nil))⟩) (.cons (.tup (xs := [(.int 0), (.int 5)]) (.inr ⟨_, _, _, pl20, rfl, rfl, (by rw [sizeLine_eq]; exact (by decide : 2 ≤ 16777216)), (.cons ⟨_, rfl⟩ (.cons ⟨_, rfl⟩ .nil))⟩) (.cons (.int _) (.cons (.int _) .nil))) (.cons (.tup (xs := [(.int 1), (.int 5)]) (.inr ⟨_, _, _, pl23, rfl, rfl, (by rw [sizeLine_eq]; exact (by decide : 2 ≤ 16777216)), (.cons ⟨_, rfl⟩ (.cons ⟨_, rfl⟩ .nil))⟩) (.cons (.int _) (.cons (.int _) .nil))) .nil)))⟩)
      rw [List.lookup_cons] at h; split at h; · (rename_i e; cases (eq_of_beq e); cases h; exact .inl ⟨rfl, ti_BOUNDS_27⟩)
      cases h⟩
  z_all := PySem.W.mg_none_of X G z_all
  z_any := PySem.W.mg_none_of X G z_any
  z_bool := PySem.W.mg_none_of X G z_bool
  z_enumerate := PySem.W.mg_none_of X G z_enumerate
  z_int := PySem.W.mg_none_of X G z_int
  z_isinstance := PySem.W.mg_none_of X G z_isinstance
  z_len := PySem.W.mg_none_of X G z_len
  z_max := PySem.W.mg_none_of X G z_max
  z_min := PySem.W.mg_none_of X G z_min
  z_range := PySem.W.mg_none_of X G z_range
  z_reversed := PySem.W.mg_none_of X G z_reversed
  z_set := PySem.W.mg_none_of X G z_set
  z_sorted := PySem.W.mg_none_of X G z_sorted
  z_str := PySem.W.mg_none_of X G z_str
  z_sum := PySem.W.mg_none_of X G z_sum
  z_tuple := PySem.W.mg_none_of X G z_tuple
  z_zip := PySem.W.mg_none_of X G z_zip
theorem all_mk {P : Program} {w : World} {K : PySem.W.Frag} {h : Heap} {mg : Str → Option Value} {fa : Addr} (X : K.In h) (G : h.Ns mainGlobals mg) (hfa : mg "law" = some (.ref fa))
    {f_is_book : Addr} {od_is_book an_is_book : Option Addr} {sl_is_book : Array (Option Value)} {oc_is_book kV_is_book dc_is_book pm_is_book cd_is_book ct_is_book : Value}
    {f_is_calendar : Addr} {od_is_calendar an_is_calendar : Option Addr} {sl_is_calendar : Array (Option Value)} {oc_is_calendar kV_is_calendar dc_is_calendar pm_is_calendar cd_is_calendar ct_is_calendar : Value}
    {f_check_book : Addr} {od_check_book an_check_book : Option Addr} {sl_check_book : Array (Option Value)} {oc_check_book kV_check_book dc_check_book pm_check_book cd_check_book ct_check_book : Value}
    {f_check_calendar : Addr} {od_check_calendar an_check_calendar : Option Addr} {sl_check_calendar : Array (Option Value)} {oc_check_calendar kV_check_calendar dc_check_calendar pm_check_calendar cd_check_calendar ct_check_calendar : Value}
    {f_day_letters : Addr} {od_day_letters an_day_letters : Option Addr} {sl_day_letters : Array (Option Value)} {oc_day_letters kV_day_letters dc_day_letters pm_day_letters cd_day_letters ct_day_letters : Value}
    {f_is_text_of : Addr} {od_is_text_of an_is_text_of : Option Addr} {sl_is_text_of : Array (Option Value)} {oc_is_text_of kV_is_text_of dc_is_text_of pm_is_text_of cd_is_text_of ct_is_text_of : Value}
    {f_is_pair : Addr} {od_is_pair an_is_pair : Option Addr} {sl_is_pair : Array (Option Value)} {oc_is_pair kV_is_pair dc_is_pair pm_is_pair cd_is_pair ct_is_pair : Value}
    {f_is_between : Addr} {od_is_between an_is_between : Option Addr} {sl_is_between : Array (Option Value)} {oc_is_between kV_is_between dc_is_between pm_is_between cd_is_between ct_is_between : Value}
    {f__limit_zones : Addr} {od__limit_zones an__limit_zones : Option Addr} {sl__limit_zones : Array (Option Value)} {oc__limit_zones kV__limit_zones dc__limit_zones pm__limit_zones cd__limit_zones ct__limit_zones : Value}
    {f__is_limit_within : Addr} {od__is_limit_within an__is_limit_within : Option Addr} {sl__is_limit_within : Array (Option Value)} {oc__is_limit_within kV__is_limit_within dc__is_limit_within pm__is_limit_within cd__is_limit_within ct__is_limit_within : Value}
    {f_is_allowed : Addr} {od_is_allowed an_is_allowed : Option Addr} {sl_is_allowed : Array (Option Value)} {oc_is_allowed kV_is_allowed dc_is_allowed pm_is_allowed cd_is_allowed ct_is_allowed : Value}
    {f_first_broken : Addr} {od_first_broken an_first_broken : Option Addr} {sl_first_broken : Array (Option Value)} {oc_first_broken kV_first_broken dc_first_broken pm_first_broken cd_first_broken ct_first_broken : Value}
    {f_days_behind : Addr} {od_days_behind an_days_behind : Option Addr} {sl_days_behind : Array (Option Value)} {oc_days_behind kV_days_behind dc_days_behind pm_days_behind cd_days_behind ct_days_behind : Value}
    {f_limit_broken : Addr} {od_limit_broken an_limit_broken : Option Addr} {sl_limit_broken : Array (Option Value)} {oc_limit_broken kV_limit_broken dc_limit_broken pm_limit_broken cd_limit_broken ct_limit_broken : Value}
    {f__breaks : Addr} {od__breaks an__breaks : Option Addr} {sl__breaks : Array (Option Value)} {oc__breaks kV__breaks dc__breaks pm__breaks cd__breaks ct__breaks : Value}
    {f_next_past : Addr} {od_next_past an_next_past : Option Addr} {sl_next_past : Array (Option Value)} {oc_next_past kV_next_past dc_next_past pm_next_past cd_next_past ct_next_past : Value}
    {f_steps_of : Addr} {od_steps_of an_steps_of : Option Addr} {sl_steps_of : Array (Option Value)} {oc_steps_of kV_steps_of dc_steps_of pm_steps_of cd_steps_of ct_steps_of : Value}
    {f_least_costs : Addr} {od_least_costs an_least_costs : Option Addr} {sl_least_costs : Array (Option Value)} {oc_least_costs kV_least_costs dc_least_costs pm_least_costs cd_least_costs ct_least_costs : Value}
    {f_cheapest_walk : Addr} {od_cheapest_walk an_cheapest_walk : Option Addr} {sl_cheapest_walk : Array (Option Value)} {oc_cheapest_walk kV_cheapest_walk dc_cheapest_walk pm_cheapest_walk cd_cheapest_walk ct_cheapest_walk : Value}
    {f_fewest_away : Addr} {od_fewest_away an_fewest_away : Option Addr} {sl_fewest_away : Array (Option Value)} {oc_fewest_away kV_fewest_away dc_fewest_away pm_fewest_away cd_fewest_away ct_fewest_away : Value}
    {f_thinned : Addr} {od_thinned an_thinned : Option Addr} {sl_thinned : Array (Option Value)} {oc_thinned kV_thinned dc_thinned pm_thinned cd_thinned ct_thinned : Value}
    {f__costs_of : Addr} {od__costs_of an__costs_of : Option Addr} {sl__costs_of : Array (Option Value)} {oc__costs_of kV__costs_of dc__costs_of pm__costs_of cd__costs_of ct__costs_of : Value}
    {f__law_pick : Addr} {od__law_pick an__law_pick : Option Addr} {sl__law_pick : Array (Option Value)} {oc__law_pick kV__law_pick dc__law_pick pm__law_pick cd__law_pick ct__law_pick : Value}
    {f__law_limit : Addr} {od__law_limit an__law_limit : Option Addr} {sl__law_limit : Array (Option Value)} {oc__law_limit kV__law_limit dc__law_limit pm__law_limit cd__law_limit ct__law_limit : Value}
    {f__law_book : Addr} {od__law_book an__law_book : Option Addr} {sl__law_book : Array (Option Value)} {oc__law_book kV__law_book dc__law_book pm__law_book cd__law_book ct__law_book : Value}
    {f__law_days : Addr} {od__law_days an__law_days : Option Addr} {sl__law_days : Array (Option Value)} {oc__law_days kV__law_days dc__law_days pm__law_days cd__law_days ct__law_days : Value}
    {f__law_bad : Addr} {od__law_bad an__law_bad : Option Addr} {sl__law_bad : Array (Option Value)} {oc__law_bad kV__law_bad dc__law_bad pm__law_bad cd__law_bad ct__law_bad : Value}
    {f__law_fine : Addr} {od__law_fine an__law_fine : Option Addr} {sl__law_fine : Array (Option Value)} {oc__law_fine kV__law_fine dc__law_fine pm__law_fine cd__law_fine ct__law_fine : Value}
    {f_law : Addr} {od_law an_law : Option Addr} {sl_law : Array (Option Value)} {oc_law kV_law dc_law pm_law cd_law ct_law : Value}
    {t_AWAY : Tok}
    {t_MOST_DAYS : Tok}
    {t_MOST_LIMITS : Tok}
    {t_PAST_DAYS : Tok}
    {t_FIRST_PAST : Tok}
    {C_StayError : Addr}
    {C_InvalidBook : Addr}
    {C_InvalidCalendar : Addr}
    {D_BOUNDS : Addr} {es_BOUNDS : Array DictEntry} {n_BOUNDS : Nat}
    {u3 : Tok}
    {u4 : Tok}
    {p2 : Addr} {pd2 : Option Addr} {pn2 : Nat} {ps2 : Array (Option Value)}
    {u6 : Tok}
    {u7 : Tok}
    {p5 : Addr} {pd5 : Option Addr} {pn5 : Nat} {ps5 : Array (Option Value)}
    {p1 : Addr} {pd1 : Option Addr} {pn1 : Nat} {ps1 : Array (Option Value)}
    {u11 : Tok}
    {u12 : Tok}
    {p10 : Addr} {pd10 : Option Addr} {pn10 : Nat} {ps10 : Array (Option Value)}
    {p9 : Addr} {pd9 : Option Addr} {pn9 : Nat} {ps9 : Array (Option Value)}
    {u16 : Tok}
    {u17 : Tok}
    {p15 : Addr} {pd15 : Option Addr} {pn15 : Nat} {ps15 : Array (Option Value)}
    {p14 : Addr} {pd14 : Option Addr} {pn14 : Nat} {ps14 : Array (Option Value)}
    {u21 : Tok}
    {u22 : Tok}
    {p20 : Addr} {pd20 : Option Addr} {pn20 : Nat} {ps20 : Array (Option Value)}
    {u24 : Tok}
    {u25 : Tok}
    {p23 : Addr} {pd23 : Option Addr} {pn23 : Nat} {ps23 : Array (Option Value)}
    {p19 : Addr} {pd19 : Option Addr} {pn19 : Nat} {ps19 : Array (Option Value)}
    (a_is_book : PySem.W.nsIn K mainGlobals "is_book" = some (some (.ref f_is_book)))
    (l_is_book : K.lookup f_is_book = some ⟨oc_is_book, od_is_book, .func (PySem.W.fnOf "is_book" "is_book" (defArgs st_is_book) (defBody st_is_book) (defScope st_is_book) .none kV_is_book dc_is_book pm_is_book an_is_book cd_is_book ct_is_book), sl_is_book⟩)
    (c_is_book : PySem.W.codeIn K cd_is_book "is_book" = true)
    (k_is_book : PySem.W.keepIn K (.ref f_is_book) = true)
    (a_is_calendar : PySem.W.nsIn K mainGlobals "is_calendar" = some (some (.ref f_is_calendar)))
    (l_is_calendar : K.lookup f_is_calendar = some ⟨oc_is_calendar, od_is_calendar, .func (PySem.W.fnOf "is_calendar" "is_calendar" (defArgs st_is_calendar) (defBody st_is_calendar) (defScope st_is_calendar) .none kV_is_calendar dc_is_calendar pm_is_calendar an_is_calendar cd_is_calendar ct_is_calendar), sl_is_calendar⟩)
    (c_is_calendar : PySem.W.codeIn K cd_is_calendar "is_calendar" = true)
    (k_is_calendar : PySem.W.keepIn K (.ref f_is_calendar) = true)
    (a_check_book : PySem.W.nsIn K mainGlobals "check_book" = some (some (.ref f_check_book)))
    (l_check_book : K.lookup f_check_book = some ⟨oc_check_book, od_check_book, .func (PySem.W.fnOf "check_book" "check_book" (defArgs st_check_book) (defBody st_check_book) (defScope st_check_book) .none kV_check_book dc_check_book pm_check_book an_check_book cd_check_book ct_check_book), sl_check_book⟩)
    (c_check_book : PySem.W.codeIn K cd_check_book "check_book" = true)
    (k_check_book : PySem.W.keepIn K (.ref f_check_book) = true)
    (a_check_calendar : PySem.W.nsIn K mainGlobals "check_calendar" = some (some (.ref f_check_calendar)))
    (l_check_calendar : K.lookup f_check_calendar = some ⟨oc_check_calendar, od_check_calendar, .func (PySem.W.fnOf "check_calendar" "check_calendar" (defArgs st_check_calendar) (defBody st_check_calendar) (defScope st_check_calendar) .none kV_check_calendar dc_check_calendar pm_check_calendar an_check_calendar cd_check_calendar ct_check_calendar), sl_check_calendar⟩)
    (c_check_calendar : PySem.W.codeIn K cd_check_calendar "check_calendar" = true)
    (k_check_calendar : PySem.W.keepIn K (.ref f_check_calendar) = true)
    (a_day_letters : PySem.W.nsIn K mainGlobals "day_letters" = some (some (.ref f_day_letters)))
    (l_day_letters : K.lookup f_day_letters = some ⟨oc_day_letters, od_day_letters, .func (PySem.W.fnOf "day_letters" "day_letters" (defArgs st_day_letters) (defBody st_day_letters) (defScope st_day_letters) .none kV_day_letters dc_day_letters pm_day_letters an_day_letters cd_day_letters ct_day_letters), sl_day_letters⟩)
    (c_day_letters : PySem.W.codeIn K cd_day_letters "day_letters" = true)
    (k_day_letters : PySem.W.keepIn K (.ref f_day_letters) = true)
    (a_is_text_of : PySem.W.nsIn K mainGlobals "is_text_of" = some (some (.ref f_is_text_of)))
    (l_is_text_of : K.lookup f_is_text_of = some ⟨oc_is_text_of, od_is_text_of, .func (PySem.W.fnOf "is_text_of" "is_text_of" (defArgs st_is_text_of) (defBody st_is_text_of) (defScope st_is_text_of) .none kV_is_text_of dc_is_text_of pm_is_text_of an_is_text_of cd_is_text_of ct_is_text_of), sl_is_text_of⟩)
    (c_is_text_of : PySem.W.codeIn K cd_is_text_of "is_text_of" = true)
    (k_is_text_of : PySem.W.keepIn K (.ref f_is_text_of) = true)
    (a_is_pair : PySem.W.nsIn K mainGlobals "is_pair" = some (some (.ref f_is_pair)))
    (l_is_pair : K.lookup f_is_pair = some ⟨oc_is_pair, od_is_pair, .func (PySem.W.fnOf "is_pair" "is_pair" (defArgs st_is_pair) (defBody st_is_pair) (defScope st_is_pair) .none kV_is_pair dc_is_pair pm_is_pair an_is_pair cd_is_pair ct_is_pair), sl_is_pair⟩)
    (c_is_pair : PySem.W.codeIn K cd_is_pair "is_pair" = true)
    (k_is_pair : PySem.W.keepIn K (.ref f_is_pair) = true)
    (a_is_between : PySem.W.nsIn K mainGlobals "is_between" = some (some (.ref f_is_between)))
    (l_is_between : K.lookup f_is_between = some ⟨oc_is_between, od_is_between, .func (PySem.W.fnOf "is_between" "is_between" (defArgs st_is_between) (defBody st_is_between) (defScope st_is_between) .none kV_is_between dc_is_between pm_is_between an_is_between cd_is_between ct_is_between), sl_is_between⟩)
    (c_is_between : PySem.W.codeIn K cd_is_between "is_between" = true)
    (k_is_between : PySem.W.keepIn K (.ref f_is_between) = true)
    (a__limit_zones : PySem.W.nsIn K mainGlobals "_limit_zones" = some (some (.ref f__limit_zones)))
    (l__limit_zones : K.lookup f__limit_zones = some ⟨oc__limit_zones, od__limit_zones, .func (PySem.W.fnOf "_limit_zones" "_limit_zones" (defArgs st__limit_zones) (defBody st__limit_zones) (defScope st__limit_zones) .none kV__limit_zones dc__limit_zones pm__limit_zones an__limit_zones cd__limit_zones ct__limit_zones), sl__limit_zones⟩)
    (c__limit_zones : PySem.W.codeIn K cd__limit_zones "_limit_zones" = true)
    (k__limit_zones : PySem.W.keepIn K (.ref f__limit_zones) = true)
    (a__is_limit_within : PySem.W.nsIn K mainGlobals "_is_limit_within" = some (some (.ref f__is_limit_within)))
    (l__is_limit_within : K.lookup f__is_limit_within = some ⟨oc__is_limit_within, od__is_limit_within, .func (PySem.W.fnOf "_is_limit_within" "_is_limit_within" (defArgs st__is_limit_within) (defBody st__is_limit_within) (defScope st__is_limit_within) .none kV__is_limit_within dc__is_limit_within pm__is_limit_within an__is_limit_within cd__is_limit_within ct__is_limit_within), sl__is_limit_within⟩)
    (c__is_limit_within : PySem.W.codeIn K cd__is_limit_within "_is_limit_within" = true)
    (k__is_limit_within : PySem.W.keepIn K (.ref f__is_limit_within) = true)
    (a_is_allowed : PySem.W.nsIn K mainGlobals "is_allowed" = some (some (.ref f_is_allowed)))
    (l_is_allowed : K.lookup f_is_allowed = some ⟨oc_is_allowed, od_is_allowed, .func (PySem.W.fnOf "is_allowed" "is_allowed" (defArgs st_is_allowed) (defBody st_is_allowed) (defScope st_is_allowed) .none kV_is_allowed dc_is_allowed pm_is_allowed an_is_allowed cd_is_allowed ct_is_allowed), sl_is_allowed⟩)
    (c_is_allowed : PySem.W.codeIn K cd_is_allowed "is_allowed" = true)
    (k_is_allowed : PySem.W.keepIn K (.ref f_is_allowed) = true)
    (a_first_broken : PySem.W.nsIn K mainGlobals "first_broken" = some (some (.ref f_first_broken)))
    (l_first_broken : K.lookup f_first_broken = some ⟨oc_first_broken, od_first_broken, .func (PySem.W.fnOf "first_broken" "first_broken" (defArgs st_first_broken) (defBody st_first_broken) (defScope st_first_broken) .none kV_first_broken dc_first_broken pm_first_broken an_first_broken cd_first_broken ct_first_broken), sl_first_broken⟩)
    (c_first_broken : PySem.W.codeIn K cd_first_broken "first_broken" = true)
    (k_first_broken : PySem.W.keepIn K (.ref f_first_broken) = true)
    (a_days_behind : PySem.W.nsIn K mainGlobals "days_behind" = some (some (.ref f_days_behind)))
    (l_days_behind : K.lookup f_days_behind = some ⟨oc_days_behind, od_days_behind, .func (PySem.W.fnOf "days_behind" "days_behind" (defArgs st_days_behind) (defBody st_days_behind) (defScope st_days_behind) .none kV_days_behind dc_days_behind pm_days_behind an_days_behind cd_days_behind ct_days_behind), sl_days_behind⟩)
    (c_days_behind : PySem.W.codeIn K cd_days_behind "days_behind" = true)
    (k_days_behind : PySem.W.keepIn K (.ref f_days_behind) = true)
    (a_limit_broken : PySem.W.nsIn K mainGlobals "limit_broken" = some (some (.ref f_limit_broken)))
    (l_limit_broken : K.lookup f_limit_broken = some ⟨oc_limit_broken, od_limit_broken, .func (PySem.W.fnOf "limit_broken" "limit_broken" (defArgs st_limit_broken) (defBody st_limit_broken) (defScope st_limit_broken) .none kV_limit_broken dc_limit_broken pm_limit_broken an_limit_broken cd_limit_broken ct_limit_broken), sl_limit_broken⟩)
    (c_limit_broken : PySem.W.codeIn K cd_limit_broken "limit_broken" = true)
    (k_limit_broken : PySem.W.keepIn K (.ref f_limit_broken) = true)
    (a__breaks : PySem.W.nsIn K mainGlobals "_breaks" = some (some (.ref f__breaks)))
    (l__breaks : K.lookup f__breaks = some ⟨oc__breaks, od__breaks, .func (PySem.W.fnOf "_breaks" "_breaks" (defArgs st__breaks) (defBody st__breaks) (defScope st__breaks) .none kV__breaks dc__breaks pm__breaks an__breaks cd__breaks ct__breaks), sl__breaks⟩)
    (c__breaks : PySem.W.codeIn K cd__breaks "_breaks" = true)
    (k__breaks : PySem.W.keepIn K (.ref f__breaks) = true)
    (a_next_past : PySem.W.nsIn K mainGlobals "next_past" = some (some (.ref f_next_past)))
    (l_next_past : K.lookup f_next_past = some ⟨oc_next_past, od_next_past, .func (PySem.W.fnOf "next_past" "next_past" (defArgs st_next_past) (defBody st_next_past) (defScope st_next_past) .none kV_next_past dc_next_past pm_next_past an_next_past cd_next_past ct_next_past), sl_next_past⟩)
    (c_next_past : PySem.W.codeIn K cd_next_past "next_past" = true)
    (k_next_past : PySem.W.keepIn K (.ref f_next_past) = true)
    (a_steps_of : PySem.W.nsIn K mainGlobals "steps_of" = some (some (.ref f_steps_of)))
    (l_steps_of : K.lookup f_steps_of = some ⟨oc_steps_of, od_steps_of, .func (PySem.W.fnOf "steps_of" "steps_of" (defArgs st_steps_of) (defBody st_steps_of) (defScope st_steps_of) .none kV_steps_of dc_steps_of pm_steps_of an_steps_of cd_steps_of ct_steps_of), sl_steps_of⟩)
    (c_steps_of : PySem.W.codeIn K cd_steps_of "steps_of" = true)
    (k_steps_of : PySem.W.keepIn K (.ref f_steps_of) = true)
    (a_least_costs : PySem.W.nsIn K mainGlobals "least_costs" = some (some (.ref f_least_costs)))
    (l_least_costs : K.lookup f_least_costs = some ⟨oc_least_costs, od_least_costs, .func (PySem.W.fnOf "least_costs" "least_costs" (defArgs st_least_costs) (defBody st_least_costs) (defScope st_least_costs) .none kV_least_costs dc_least_costs pm_least_costs an_least_costs cd_least_costs ct_least_costs), sl_least_costs⟩)
    (c_least_costs : PySem.W.codeIn K cd_least_costs "least_costs" = true)
    (k_least_costs : PySem.W.keepIn K (.ref f_least_costs) = true)
    (a_cheapest_walk : PySem.W.nsIn K mainGlobals "cheapest_walk" = some (some (.ref f_cheapest_walk)))
    (l_cheapest_walk : K.lookup f_cheapest_walk = some ⟨oc_cheapest_walk, od_cheapest_walk, .func (PySem.W.fnOf "cheapest_walk" "cheapest_walk" (defArgs st_cheapest_walk) (defBody st_cheapest_walk) (defScope st_cheapest_walk) .none kV_cheapest_walk dc_cheapest_walk pm_cheapest_walk an_cheapest_walk cd_cheapest_walk ct_cheapest_walk), sl_cheapest_walk⟩)
    (c_cheapest_walk : PySem.W.codeIn K cd_cheapest_walk "cheapest_walk" = true)
    (k_cheapest_walk : PySem.W.keepIn K (.ref f_cheapest_walk) = true)
    (a_fewest_away : PySem.W.nsIn K mainGlobals "fewest_away" = some (some (.ref f_fewest_away)))
    (l_fewest_away : K.lookup f_fewest_away = some ⟨oc_fewest_away, od_fewest_away, .func (PySem.W.fnOf "fewest_away" "fewest_away" (defArgs st_fewest_away) (defBody st_fewest_away) (defScope st_fewest_away) .none kV_fewest_away dc_fewest_away pm_fewest_away an_fewest_away cd_fewest_away ct_fewest_away), sl_fewest_away⟩)
    (c_fewest_away : PySem.W.codeIn K cd_fewest_away "fewest_away" = true)
    (k_fewest_away : PySem.W.keepIn K (.ref f_fewest_away) = true)
    (a_thinned : PySem.W.nsIn K mainGlobals "thinned" = some (some (.ref f_thinned)))
    (l_thinned : K.lookup f_thinned = some ⟨oc_thinned, od_thinned, .func (PySem.W.fnOf "thinned" "thinned" (defArgs st_thinned) (defBody st_thinned) (defScope st_thinned) .none kV_thinned dc_thinned pm_thinned an_thinned cd_thinned ct_thinned), sl_thinned⟩)
    (c_thinned : PySem.W.codeIn K cd_thinned "thinned" = true)
    (k_thinned : PySem.W.keepIn K (.ref f_thinned) = true)
    (a__costs_of : PySem.W.nsIn K mainGlobals "_costs_of" = some (some (.ref f__costs_of)))
    (l__costs_of : K.lookup f__costs_of = some ⟨oc__costs_of, od__costs_of, .func (PySem.W.fnOf "_costs_of" "_costs_of" (defArgs st__costs_of) (defBody st__costs_of) (defScope st__costs_of) .none kV__costs_of dc__costs_of pm__costs_of an__costs_of cd__costs_of ct__costs_of), sl__costs_of⟩)
    (c__costs_of : PySem.W.codeIn K cd__costs_of "_costs_of" = true)
    (k__costs_of : PySem.W.keepIn K (.ref f__costs_of) = true)
    (a__law_pick : PySem.W.nsIn K mainGlobals "_law_pick" = some (some (.ref f__law_pick)))
    (l__law_pick : K.lookup f__law_pick = some ⟨oc__law_pick, od__law_pick, .func (PySem.W.fnOf "_law_pick" "_law_pick" (defArgs st__law_pick) (defBody st__law_pick) (defScope st__law_pick) .none kV__law_pick dc__law_pick pm__law_pick an__law_pick cd__law_pick ct__law_pick), sl__law_pick⟩)
    (c__law_pick : PySem.W.codeIn K cd__law_pick "_law_pick" = true)
    (k__law_pick : PySem.W.keepIn K (.ref f__law_pick) = true)
    (a__law_limit : PySem.W.nsIn K mainGlobals "_law_limit" = some (some (.ref f__law_limit)))
    (l__law_limit : K.lookup f__law_limit = some ⟨oc__law_limit, od__law_limit, .func (PySem.W.fnOf "_law_limit" "_law_limit" (defArgs st__law_limit) (defBody st__law_limit) (defScope st__law_limit) .none kV__law_limit dc__law_limit pm__law_limit an__law_limit cd__law_limit ct__law_limit), sl__law_limit⟩)
    (c__law_limit : PySem.W.codeIn K cd__law_limit "_law_limit" = true)
    (k__law_limit : PySem.W.keepIn K (.ref f__law_limit) = true)
    (a__law_book : PySem.W.nsIn K mainGlobals "_law_book" = some (some (.ref f__law_book)))
    (l__law_book : K.lookup f__law_book = some ⟨oc__law_book, od__law_book, .func (PySem.W.fnOf "_law_book" "_law_book" (defArgs st__law_book) (defBody st__law_book) (defScope st__law_book) .none kV__law_book dc__law_book pm__law_book an__law_book cd__law_book ct__law_book), sl__law_book⟩)
    (c__law_book : PySem.W.codeIn K cd__law_book "_law_book" = true)
    (k__law_book : PySem.W.keepIn K (.ref f__law_book) = true)
    (a__law_days : PySem.W.nsIn K mainGlobals "_law_days" = some (some (.ref f__law_days)))
    (l__law_days : K.lookup f__law_days = some ⟨oc__law_days, od__law_days, .func (PySem.W.fnOf "_law_days" "_law_days" (defArgs st__law_days) (defBody st__law_days) (defScope st__law_days) .none kV__law_days dc__law_days pm__law_days an__law_days cd__law_days ct__law_days), sl__law_days⟩)
    (c__law_days : PySem.W.codeIn K cd__law_days "_law_days" = true)
    (k__law_days : PySem.W.keepIn K (.ref f__law_days) = true)
    (a__law_bad : PySem.W.nsIn K mainGlobals "_law_bad" = some (some (.ref f__law_bad)))
    (l__law_bad : K.lookup f__law_bad = some ⟨oc__law_bad, od__law_bad, .func (PySem.W.fnOf "_law_bad" "_law_bad" (defArgs st__law_bad) (defBody st__law_bad) (defScope st__law_bad) .none kV__law_bad dc__law_bad pm__law_bad an__law_bad cd__law_bad ct__law_bad), sl__law_bad⟩)
    (c__law_bad : PySem.W.codeIn K cd__law_bad "_law_bad" = true)
    (k__law_bad : PySem.W.keepIn K (.ref f__law_bad) = true)
    (a__law_fine : PySem.W.nsIn K mainGlobals "_law_fine" = some (some (.ref f__law_fine)))
    (l__law_fine : K.lookup f__law_fine = some ⟨oc__law_fine, od__law_fine, .func (PySem.W.fnOf "_law_fine" "_law_fine" (defArgs st__law_fine) (defBody st__law_fine) (defScope st__law_fine) .none kV__law_fine dc__law_fine pm__law_fine an__law_fine cd__law_fine ct__law_fine), sl__law_fine⟩)
    (c__law_fine : PySem.W.codeIn K cd__law_fine "_law_fine" = true)
    (k__law_fine : PySem.W.keepIn K (.ref f__law_fine) = true)
    (a_law : PySem.W.nsIn K mainGlobals "law" = some (some (.ref f_law)))
    (l_law : K.lookup f_law = some ⟨oc_law, od_law, .func (PySem.W.fnOf "law" "law" (defArgs st_law) (defBody st_law) (defScope st_law) .none kV_law dc_law pm_law an_law cd_law ct_law), sl_law⟩)
    (c_law : PySem.W.codeIn K cd_law "law" = true)
    (k_law : PySem.W.keepIn K (.ref f_law) = true)
    (q_AWAY : PySem.W.nsIn K mainGlobals "AWAY" = some (some (.str "." t_AWAY)))
    (q_MOST_DAYS : PySem.W.nsIn K mainGlobals "MOST_DAYS" = some (some (.int 60 t_MOST_DAYS)))
    (q_MOST_LIMITS : PySem.W.nsIn K mainGlobals "MOST_LIMITS" = some (some (.int 4 t_MOST_LIMITS)))
    (q_PAST_DAYS : PySem.W.nsIn K mainGlobals "PAST_DAYS" = some (some (.int 5 t_PAST_DAYS)))
    (q_FIRST_PAST : PySem.W.nsIn K mainGlobals "FIRST_PAST" = some (some (.str "....." t_FIRST_PAST)))
    (qq_deque : PySem.W.nsIn K mainGlobals "deque" = some (some (.type "collections.deque")))
    (ga_StayError : PySem.W.nsIn K mainGlobals "StayError" = some (some (.ref C_StayError)))
    (ge_StayError : PySem.W.excIn K C_StayError [.type "ValueError", .type "Exception", .type "BaseException", .type "object"] "ValueError.__new__" = true)
    (gk_StayError : PySem.W.keepIn K (.ref C_StayError) = true)
    (gs_StayError : PySem.W.subIn K (.ref C_StayError) (.type "BaseException") = some true)
    (gt_StayError : PySem.W.typeIn K (.ref C_StayError) = some (.type "type"))
    (ga_InvalidBook : PySem.W.nsIn K mainGlobals "InvalidBook" = some (some (.ref C_InvalidBook)))
    (ge_InvalidBook : PySem.W.excIn K C_InvalidBook [.type "ValueError", .type "Exception", .type "BaseException", .type "object"] "ValueError.__new__" = true)
    (gk_InvalidBook : PySem.W.keepIn K (.ref C_InvalidBook) = true)
    (gs_InvalidBook : PySem.W.subIn K (.ref C_InvalidBook) (.type "BaseException") = some true)
    (gt_InvalidBook : PySem.W.typeIn K (.ref C_InvalidBook) = some (.type "type"))
    (ga_InvalidCalendar : PySem.W.nsIn K mainGlobals "InvalidCalendar" = some (some (.ref C_InvalidCalendar)))
    (ge_InvalidCalendar : PySem.W.excIn K C_InvalidCalendar [.type "ValueError", .type "Exception", .type "BaseException", .type "object"] "ValueError.__new__" = true)
    (gk_InvalidCalendar : PySem.W.keepIn K (.ref C_InvalidCalendar) = true)
    (gs_InvalidCalendar : PySem.W.subIn K (.ref C_InvalidCalendar) (.type "BaseException") = some true)
    (gt_InvalidCalendar : PySem.W.typeIn K (.ref C_InvalidCalendar) = some (.type "type"))
    (ta_BOUNDS : PySem.W.nsIn K mainGlobals "BOUNDS" = some (some (.ref D_BOUNDS)))
    (tl_BOUNDS : K.lookup D_BOUNDS = some ⟨.type "dict", none, .dict es_BOUNDS n_BOUNDS, #[]⟩)
    (tk_BOUNDS : PySem.W.KeysLit w.params es_BOUNDS.toList)
    (tn_BOUNDS : (D_BOUNDS == sysModules) = false)
    (ti_BOUNDS_8 : PySem.W.nsIn K D_BOUNDS "most" = some (some (.ref p1)))
    (pl1 : K.lookup p1 = some ⟨.type "tuple", pd1, .seq #[.ref p2, .ref p5] pn1, ps1⟩)
    (pl2 : K.lookup p2 = some ⟨.type "tuple", pd2, .seq #[.int 0 u3, .int 6 u4] pn2, ps2⟩)
    (pl5 : K.lookup p5 = some ⟨.type "tuple", pd5, .seq #[.int 1 u6, .int 6 u7] pn5, ps5⟩)
    (ti_BOUNDS_13 : PySem.W.nsIn K D_BOUNDS "row" = some (some (.ref p9)))
    (pl9 : K.lookup p9 = some ⟨.type "tuple", pd9, .seq #[.ref p10] pn9, ps9⟩)
    (pl10 : K.lookup p10 = some ⟨.type "tuple", pd10, .seq #[.int 0 u11, .int 5 u12] pn10, ps10⟩)
    (ti_BOUNDS_18 : PySem.W.nsIn K D_BOUNDS "gap" = some (some (.ref p14)))
    (pl14 : K.lookup p14 = some ⟨.type "tuple", pd14, .seq #[.ref p15] pn14, ps14⟩)
    (pl15 : K.lookup p15 = some ⟨.type "tuple", pd15, .seq #[.int 1 u16, .int 5 u17] pn15, ps15⟩)
    (ti_BOUNDS_26 : PySem.W.nsIn K D_BOUNDS "starts" = some (some (.ref p19)))
    (pl19 : K.lookup p19 = some ⟨.type "tuple", pd19, .seq #[.ref p20, .ref p23] pn19, ps19⟩)
    (pl20 : K.lookup p20 = some ⟨.type "tuple", pd20, .seq #[.int 0 u21, .int 5 u22] pn20, ps20⟩)
    (pl23 : K.lookup p23 = some ⟨.type "tuple", pd23, .seq #[.int 1 u24, .int 5 u25] pn23, ps23⟩)
    (ti_BOUNDS_27 : PySem.W.nsIn K D_BOUNDS "stay" = some none)
    (z_all : PySem.W.nsIn K mainGlobals "all" = some none)
    (z_any : PySem.W.nsIn K mainGlobals "any" = some none)
    (z_bool : PySem.W.nsIn K mainGlobals "bool" = some none)
    (z_enumerate : PySem.W.nsIn K mainGlobals "enumerate" = some none)
    (z_int : PySem.W.nsIn K mainGlobals "int" = some none)
    (z_isinstance : PySem.W.nsIn K mainGlobals "isinstance" = some none)
    (z_len : PySem.W.nsIn K mainGlobals "len" = some none)
    (z_max : PySem.W.nsIn K mainGlobals "max" = some none)
    (z_min : PySem.W.nsIn K mainGlobals "min" = some none)
    (z_range : PySem.W.nsIn K mainGlobals "range" = some none)
    (z_reversed : PySem.W.nsIn K mainGlobals "reversed" = some none)
    (z_set : PySem.W.nsIn K mainGlobals "set" = some none)
    (z_sorted : PySem.W.nsIn K mainGlobals "sorted" = some none)
    (z_str : PySem.W.nsIn K mainGlobals "str" = some none)
    (z_sum : PySem.W.nsIn K mainGlobals "sum" = some none)
    (z_tuple : PySem.W.nsIn K mainGlobals "tuple" = some none)
    (z_zip : PySem.W.nsIn K mainGlobals "zip" = some none) :
    ∃ fd : FuncData, (∀ (s : Shared) (v : Value), BindsTo s fd ⟨[v], []⟩ [("_law_script", v)]) ∧ ∀ base : Heap, K.In base → base.Ns mainGlobals mg → FnOk P w K mg base (L2.CX P w) 9 fa fd ["_law_script"] (spLaw K) := by
  have e := hfa.symm.trans (PySem.W.mg_of X G a_law)
  cases e
  have T : Top K w mg := top_mk X G a_is_book l_is_book c_is_book k_is_book a_is_calendar l_is_calendar c_is_calendar k_is_calendar a_check_book l_check_book c_check_book k_check_book a_check_calendar l_check_calendar c_check_calendar k_check_calendar a_day_letters l_day_letters c_day_letters k_day_letters a_is_text_of l_is_text_of c_is_text_of k_is_text_of a_is_pair l_is_pair c_is_pair k_is_pair a_is_between l_is_between c_is_between k_is_between a__limit_zones l__limit_zones c__limit_zones k__limit_zones a__is_limit_within l__is_limit_within c__is_limit_within k__is_limit_within a_is_allowed l_is_allowed c_is_allowed k_is_allowed a_first_broken l_first_broken c_first_broken k_first_broken a_days_behind l_days_behind c_days_behind k_days_behind a_limit_broken l_limit_broken c_limit_broken k_limit_broken a__breaks l__breaks c__breaks k__breaks a_next_past l_next_past c_next_past k_next_past a_steps_of l_steps_of c_steps_of k_steps_of a_least_costs l_least_costs c_least_costs k_least_costs a_cheapest_walk l_cheapest_walk c_cheapest_walk k_cheapest_walk a_fewest_away l_fewest_away c_fewest_away k_fewest_away a_thinned l_thinned c_thinned k_thinned a__costs_of l__costs_of c__costs_of k__costs_of a__law_pick l__law_pick c__law_pick k__law_pick a__law_limit l__law_limit c__law_limit k__law_limit a__law_book l__law_book c__law_book k__law_book a__law_days l__law_days c__law_days k__law_days a__law_bad l__law_bad c__law_bad k__law_bad a__law_fine l__law_fine c__law_fine k__law_fine a_law l_law c_law k_law q_AWAY q_MOST_DAYS q_MOST_LIMITS q_PAST_DAYS q_FIRST_PAST qq_deque ga_StayError ge_StayError gk_StayError gs_StayError gt_StayError ga_InvalidBook ge_InvalidBook gk_InvalidBook gs_InvalidBook gt_InvalidBook ga_InvalidCalendar ge_InvalidCalendar gk_InvalidCalendar gs_InvalidCalendar gt_InvalidCalendar ta_BOUNDS tl_BOUNDS tk_BOUNDS tn_BOUNDS ti_BOUNDS_8 pl1 pl2 pl5 ti_BOUNDS_13 pl9 pl10 ti_BOUNDS_18 pl14 pl15 ti_BOUNDS_26 pl19 pl20 pl23 ti_BOUNDS_27 z_all z_any z_bool z_enumerate z_int z_isinstance z_len z_max z_min z_range z_reversed z_set z_sorted z_str z_sum z_tuple z_zip
  exact ⟨_, fun s v => .of_eq rfl, fun base _ _ => law_imp (fn_law T (fun_mk (st := st_law) l_law c_law k_law)) law_true⟩
end K52
open PySem PySem.W PyProof.Rows
set_option maxHeartbeats 0 in
theorem PySem.Challenge.cw_staybounds_k52_whole_thinned_holds : PySem.Challenge.rw_staybounds_k52_whole_thinned.Holds := by
  w_on; o_law; k_head; (case hw => w_witness2)
  k_fill
  refine L2.walk_of (l := PySem.Challenge.rw_staybounds_k52_whole_thinned) (n := 63) (k := 9) (x := "_law_script") (CX := fun w => L2.CX PySem.Challenge.pw_staybounds_k52_whole_thinned w) (sp := fun w => Mir.spLaw _) rfl (by decide) rfl ⟨rfl, by decide, by decide⟩ (fun w h Y => PySem.W.kIn_of Y) ?F (fun _ _ a ns hl _ hS => ⟨a, ns, rfl, hS, hl, fun _ => rfl⟩) (fun w H s e s' h => by obtain ⟨_, _, _, _, _, _, _, _, _, _, _, _, z⟩ := h; exact z)
  case F =>
    intro w mg fa h KX G hmg
    refine' K52.all_mk KX G hmg ?a_is_book ?l_is_book ?c_is_book ?k_is_book ?a_is_calendar ?l_is_calendar ?c_is_calendar ?k_is_calendar ?a_check_book ?l_check_book ?c_check_book ?k_check_book ?a_check_calendar ?l_check_calendar ?c_check_calendar ?k_check_calendar ?a_day_letters ?l_day_letters ?c_day_letters ?k_day_letters ?a_is_text_of ?l_is_text_of ?c_is_text_of ?k_is_text_of ?a_is_pair ?l_is_pair ?c_is_pair ?k_is_pair ?a_is_between ?l_is_between ?c_is_between ?k_is_between ?a__limit_zones ?l__limit_zones ?c__limit_zones ?k__limit_zones ?a__is_limit_within ?l__is_limit_within ?c__is_limit_within ?k__is_limit_within ?a_is_allowed ?l_is_allowed ?c_is_allowed ?k_is_allowed ?a_first_broken ?l_first_broken ?c_first_broken ?k_first_broken ?a_days_behind ?l_days_behind ?c_days_behind ?k_days_behind ?a_limit_broken ?l_limit_broken ?c_limit_broken ?k_limit_broken ?a__breaks ?l__breaks ?c__breaks ?k__breaks ?a_next_past ?l_next_past ?c_next_past ?k_next_past ?a_steps_of ?l_steps_of ?c_steps_of ?k_steps_of ?a_least_costs ?l_least_costs ?c_least_costs ?k_least_costs ?a_cheapest_walk ?l_cheapest_walk ?c_cheapest_walk ?k_cheapest_walk ?a_fewest_away ?l_fewest_away ?c_fewest_away ?k_fewest_away ?a_thinned ?l_thinned ?c_thinned ?k_thinned ?a__costs_of ?l__costs_of ?c__costs_of ?k__costs_of ?a__law_pick ?l__law_pick ?c__law_pick ?k__law_pick ?a__law_limit ?l__law_limit ?c__law_limit ?k__law_limit ?a__law_book ?l__law_book ?c__law_book ?k__law_book ?a__law_days ?l__law_days ?c__law_days ?k__law_days ?a__law_bad ?l__law_bad ?c__law_bad ?k__law_bad ?a__law_fine ?l__law_fine ?c__law_fine ?k__law_fine ?a_law ?l_law ?c_law ?k_law ?q_AWAY ?q_MOST_DAYS ?q_MOST_LIMITS ?q_PAST_DAYS ?q_FIRST_PAST ?qq_deque ?ga_StayError ?ge_StayError ?gk_StayError ?gs_StayError ?gt_StayError ?ga_InvalidBook ?ge_InvalidBook ?gk_InvalidBook ?gs_InvalidBook ?gt_InvalidBook ?ga_InvalidCalendar ?ge_InvalidCalendar ?gk_InvalidCalendar ?gs_InvalidCalendar ?gt_InvalidCalendar ?ta_BOUNDS ?tl_BOUNDS ?tk_BOUNDS ?tn_BOUNDS ?ti_BOUNDS_8 ?pl1 ?pl2 ?pl5 ?ti_BOUNDS_13 ?pl9 ?pl10 ?ti_BOUNDS_18 ?pl14 ?pl15 ?ti_BOUNDS_26 ?pl19 ?pl20 ?pl23 ?ti_BOUNDS_27 ?z_all ?z_any ?z_bool ?z_enumerate ?z_int ?z_isinstance ?z_len ?z_max ?z_min ?z_range ?z_reversed ?z_set ?z_sorted ?z_str ?z_sum ?z_tuple ?z_zip
    (case a_is_book => k_is)
    (case l_is_book => k_is)
    (case c_is_book => k_is)
    (case k_is_book => k_is)
    (case a_is_calendar => k_is)
    (case l_is_calendar => k_is)
    (case c_is_calendar => k_is)
    (case k_is_calendar => k_is)
    (case a_check_book => k_is)
    (case l_check_book => k_is)
    (case c_check_book => k_is)
    (case k_check_book => k_is)
    (case a_check_calendar => k_is)
    (case l_check_calendar => k_is)
    (case c_check_calendar => k_is)
    (case k_check_calendar => k_is)
    (case a_day_letters => k_is)
    (case l_day_letters => k_is)
    (case c_day_letters => k_is)
    (case k_day_letters => k_is)
    (case a_is_text_of => k_is)
    (case l_is_text_of => k_is)
    (case c_is_text_of => k_is)
    (case k_is_text_of => k_is)
    (case a_is_pair => k_is)
    (case l_is_pair => k_is)
    (case c_is_pair => k_is)
    (case k_is_pair => k_is)
    (case a_is_between => k_is)
    (case l_is_between => k_is)
    (case c_is_between => k_is)
    (case k_is_between => k_is)
    (case a__limit_zones => k_is)
    (case l__limit_zones => k_is)
    (case c__limit_zones => k_is)
    (case k__limit_zones => k_is)
    (case a__is_limit_within => k_is)
    (case l__is_limit_within => k_is)
    (case c__is_limit_within => k_is)
    (case k__is_limit_within => k_is)
    (case a_is_allowed => k_is)
    (case l_is_allowed => k_is)
    (case c_is_allowed => k_is)
    (case k_is_allowed => k_is)
    (case a_first_broken => k_is)
    (case l_first_broken => k_is)
    (case c_first_broken => k_is)
    (case k_first_broken => k_is)
    (case a_days_behind => k_is)
    (case l_days_behind => k_is)
    (case c_days_behind => k_is)
    (case k_days_behind => k_is)
    (case a_limit_broken => k_is)
    (case l_limit_broken => k_is)
    (case c_limit_broken => k_is)
    (case k_limit_broken => k_is)
    (case a__breaks => k_is)
    (case l__breaks => k_is)
    (case c__breaks => k_is)
    (case k__breaks => k_is)
    (case a_next_past => k_is)
    (case l_next_past => k_is)
    (case c_next_past => k_is)
    (case k_next_past => k_is)
    (case a_steps_of => k_is)
    (case l_steps_of => k_is)
    (case c_steps_of => k_is)
    (case k_steps_of => k_is)
    (case a_least_costs => k_is)
    (case l_least_costs => k_is)
    (case c_least_costs => k_is)
    (case k_least_costs => k_is)
    (case a_cheapest_walk => k_is)
    (case l_cheapest_walk => k_is)
    (case c_cheapest_walk => k_is)
    (case k_cheapest_walk => k_is)
    (case a_fewest_away => k_is)
    (case l_fewest_away => k_is)
    (case c_fewest_away => k_is)
    (case k_fewest_away => k_is)
    (case a_thinned => k_is)
    (case l_thinned => k_is)
    (case c_thinned => k_is)
    (case k_thinned => k_is)
    (case a__costs_of => k_is)
    (case l__costs_of => k_is)
    (case c__costs_of => k_is)
    (case k__costs_of => k_is)
    (case a__law_pick => k_is)
    (case l__law_pick => k_is)
    (case c__law_pick => k_is)
    (case k__law_pick => k_is)
    (case a__law_limit => k_is)
    (case l__law_limit => k_is)
    (case c__law_limit => k_is)
    (case k__law_limit => k_is)
    (case a__law_book => k_is)
    (case l__law_book => k_is)
    (case c__law_book => k_is)
    (case k__law_book => k_is)
    (case a__law_days => k_is)
    (case l__law_days => k_is)
    (case c__law_days => k_is)
    (case k__law_days => k_is)
    (case a__law_bad => k_is)
    (case l__law_bad => k_is)
    (case c__law_bad => k_is)
    (case k__law_bad => k_is)
    (case a__law_fine => k_is)
    (case l__law_fine => k_is)
    (case c__law_fine => k_is)
    (case k__law_fine => k_is)
    (case a_law => k_is)
    (case l_law => k_is)
    (case c_law => k_is)
    (case k_law => k_is)
    (case q_AWAY => k_is)
    (case q_MOST_DAYS => k_is)
    (case q_MOST_LIMITS => k_is)
    (case q_PAST_DAYS => k_is)
    (case q_FIRST_PAST => k_is)
    (case qq_deque => k_is)
    (case ga_StayError => k_is)
    (case ge_StayError => k_exc)
    (case gk_StayError => k_is)
    (case gs_StayError => k_is)
    (case gt_StayError => k_is)
    (case ga_InvalidBook => k_is)
    (case ge_InvalidBook => k_exc)
    (case gk_InvalidBook => k_is)
    (case gs_InvalidBook => k_is)
    (case gt_InvalidBook => k_is)
    (case ga_InvalidCalendar => k_is)
    (case ge_InvalidCalendar => k_exc)
    (case gk_InvalidCalendar => k_is)
    (case gs_InvalidCalendar => k_is)
    (case gt_InvalidCalendar => k_is)
    (case ta_BOUNDS => k_is)
    (case tl_BOUNDS => k_is)
    (case tk_BOUNDS => first | exact ⟨⟨_, _, rfl, rfl⟩, ⟨_, _, rfl, rfl⟩, ⟨_, _, rfl, rfl⟩, ⟨_, _, rfl, rfl⟩, trivial⟩ | (repeat (first | trivial | exact ⟨_, _, rfl, rfl⟩ | constructor)))
    (case tn_BOUNDS => rfl)
    (case ti_BOUNDS_8 => k_is)
    (case pl1 => k_is)
    (case pl2 => k_is)
    (case pl5 => k_is)
    (case ti_BOUNDS_13 => k_is)
    (case pl9 => k_is)
    (case pl10 => k_is)
    (case ti_BOUNDS_18 => k_is)
    (case pl14 => k_is)
    (case pl15 => k_is)
    (case ti_BOUNDS_26 => k_is)
    (case pl19 => k_is)
    (case pl20 => k_is)
    (case pl23 => k_is)
    (case ti_BOUNDS_27 => k_is)
    (case z_all => k_is)
    (case z_any => k_is)
    (case z_bool => k_is)
    (case z_enumerate => k_is)
    (case z_int => k_is)
    (case z_isinstance => k_is)
    (case z_len => k_is)
    (case z_max => k_is)
    (case z_min => k_is)
    (case z_range => k_is)
    (case z_reversed => k_is)
    (case z_set => k_is)
    (case z_sorted => k_is)
    (case z_str => k_is)
    (case z_sum => k_is)
    (case z_tuple => k_is)
    (case z_zip => k_is)