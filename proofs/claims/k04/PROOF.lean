import PyProof.Rows.All
import HandS.ForMost
import HandS.ForExc
import HandS.Wide
import HandS.WideBits
import HandS.Style
import HandS.Evl
import HandS.IsInst
import HandS.Defaults
import HandS.ExcField
import KE.KExcIs
import PyProof.LongRange
import HandS.MakeKwOnly
import HandS.CallSlots
import HandS.ExcInit
import HandS.HeadHook2
import PySem.Challenge.RW_unseenfolds_k04_one_strand
import HandS.Head0
import HandS.Head1
import HandS.Head2
import HandS.HeadEnd
import HandS.HeadHook1
set_option Elab.async false
set_option linter.all false
set_option maxRecDepth 100000
set_option maxHeartbeats 2000000
/-! Data instead of heaps: what an expression, a test, a statement of the program does to data, the heap left out. -/
namespace Dw
open PySem PySem.Spec PyProof.Rows L2
open Evl (Ex)

inductive Dt where
  | non | bl (b : Bool) | int (i : Int) | str (x : Str)
  | lst (l : List Dt) | tup (l : List Dt)
  | obj (C : Addr) (fs : List (Str × Dt))

mutual
inductive Rp (K : PySem.W.Frag) (H : Hp) : V → Dt → Prop
  | non : Rp K H .non .non
  | bl (b : Bool) : Rp K H (.bl b) (.bl b)
  | int (i : Int) : Rp K H (.int i) (.int i)
  | str (x : Str) : Rp K H (.str x) (.str x)
  | lst {a : Addr} {xs : List V} {ds : List Dt} : SqL K H a xs → RpA K H xs ds → Rp K H (.ref a) (.lst ds)
  | tup {a : Addr} {xs : List V} {ds : List Dt} : SqT K H a xs → RpA K H xs ds → Rp K H (.ref a) (.tup ds)
  | obj {a C dx : Addr} {vs : List (Str × V)} {fs : List (Str × Dt)} : H a = some (.ins C dx vs) → RpF K H vs fs → Rp K H (.ref a) (.obj C fs)
inductive RpA (K : PySem.W.Frag) (H : Hp) : List V → List Dt → Prop
  | nil : RpA K H [] []
  | cons {v : V} {vs : List V} {d : Dt} {ds : List Dt} : Rp K H v d → RpA K H vs ds → RpA K H (v :: vs) (d :: ds)
inductive RpF (K : PySem.W.Frag) (H : Hp) : List (Str × V) → List (Str × Dt) → Prop
  | nil : RpF K H [] []
  | cons {n : Str} {v : V} {vs : List (Str × V)} {d : Dt} {ds : List (Str × Dt)} : Rp K H v d → RpF K H vs ds → RpF K H ((n, v) :: vs) ((n, d) :: ds)
end

section
variable {K : PySem.W.Frag} {H H' : Hp}
mutual
theorem Rp.mono (e : Ex H H') : ∀ {v : V} {d : Dt}, Rp K H v d → Rp K H' v d
  | _, _, .non => .non
  | _, _, .bl b => .bl b
  | _, _, .int i => .int i
  | _, _, .str x => .str x
  | _, _, .lst h a => .lst (Evl.ex_l e h) (RpA.mono e a)
  | _, _, .tup h a => .tup (Evl.ex_t e h) (RpA.mono e a)
  | _, _, .obj h a => .obj (e _ _ h) (RpF.mono e a)
theorem RpA.mono (e : Ex H H') : ∀ {vs : List V} {ds : List Dt}, RpA K H vs ds → RpA K H' vs ds
  | _, _, .nil => .nil
  | _, _, .cons h a => .cons (Rp.mono e h) (RpA.mono e a)
theorem RpF.mono (e : Ex H H') : ∀ {vs : List (Str × V)} {ds : List (Str × Dt)}, RpF K H vs ds → RpF K H' vs ds
  | _, _, .nil => .nil
  | _, _, .cons h a => .cons (Rp.mono e h) (RpF.mono e a)
end
theorem RpA.len : ∀ {vs : List V} {ds : List Dt}, RpA K H vs ds → vs.length = ds.length
  | _, _, .nil => rfl
  | _, _, .cons _ a => by simp [RpA.len a]
theorem RpA.get : ∀ {vs : List V} {ds : List Dt} {i : Nat} {d : Dt}, RpA K H vs ds → ds[i]? = some d → ∃ v, vs[i]? = some v ∧ Rp K H v d
  | _, _, _, _, .nil, e => by simp at e
  | _, _, 0, _, .cons h _, e => by
    simp at e
    subst e
    exact ⟨_, rfl, h⟩
  | _, _, i + 1, _, .cons _ a, e => by
    obtain ⟨v, h1, h2⟩ := RpA.get (i := i) a (by simpa using e)
    exact ⟨v, by simpa using h1, h2⟩
theorem RpA.getV : ∀ {vs : List V} {ds : List Dt} {i : Nat} {v : V}, RpA K H vs ds → vs[i]? = some v → ∃ d, ds[i]? = some d ∧ Rp K H v d
  | _, _, _, _, .nil, e => by simp at e
  | _, _, 0, _, .cons h _, e => by
    simp at e
    subst e
    exact ⟨_, rfl, h⟩
  | _, _, i + 1, _, .cons _ a, e => by
    obtain ⟨v, h1, h2⟩ := RpA.getV (i := i) a (by simpa using e)
    exact ⟨v, by simpa using h1, h2⟩
theorem RpA.append : ∀ {vs ws : List V} {ds es : List Dt}, RpA K H vs ds → RpA K H ws es → RpA K H (vs ++ ws) (ds ++ es)
  | _, _, _, _, .nil, b => b
  | _, _, _, _, .cons h a, b => .cons h (RpA.append a b)
theorem RpA.take : ∀ {vs : List V} {ds : List Dt} (n : Nat), RpA K H vs ds → RpA K H (vs.take n) (ds.take n)
  | _, _, 0, _ => .nil
  | _, _, _ + 1, .nil => .nil
  | _, _, n + 1, .cons h a => .cons h (RpA.take n a)
theorem RpA.drop : ∀ {vs : List V} {ds : List Dt} (n : Nat), RpA K H vs ds → RpA K H (vs.drop n) (ds.drop n)
  | _, _, 0, a => a
  | _, _, _ + 1, .nil => .nil
  | _, _, n + 1, .cons _ a => RpA.drop n a
theorem RpA.reverse {vs : List V} {ds : List Dt} (a : RpA K H vs ds) : RpA K H vs.reverse ds.reverse := by
  induction vs generalizing ds with
  | nil => cases a; exact .nil
  | cons v vs ih =>
    cases a with
    | cons h a =>
      rw [List.reverse_cons, List.reverse_cons]
      exact RpA.append (ih a) (.cons h .nil)
theorem RpA.dropLast {vs : List V} {ds : List Dt} (a : RpA K H vs ds) : RpA K H vs.dropLast ds.dropLast := by
  rw [List.dropLast_eq_take, List.dropLast_eq_take, a.len]
  exact a.take _
theorem RpA.set : ∀ {vs : List V} {ds : List Dt} {v : V} {d : Dt} (n : Nat), RpA K H vs ds → Rp K H v d → RpA K H (vs.set n v) (ds.set n d)
  | _, _, _, _, _, .nil, _ => .nil
  | _, _, _, _, 0, .cons _ a, h => .cons h a
  | _, _, _, _, n + 1, .cons g a, h => .cons g (RpA.set n a h)
theorem RpA.ints : ∀ {vs : List V} {ns : List Int}, RpA K H vs (ns.map Dt.int) → vs = ns.map V.int
  | _, [], .nil => rfl
  | _, n :: ns, .cons (.int _) a => by
    rw [RpA.ints a]
    rfl
theorem RpA.of_ints : ∀ (ns : List Int), RpA K H (ns.map V.int) (ns.map Dt.int)
  | [] => .nil
  | n :: ns => .cons (.int n) (RpA.of_ints ns)
end

inductive Sl where
  | no | val (d : Dt) | own (ds : List Dt) | dic (kvs : List (Key × Dt)) | exc (a : Addr) (o : Option (Addr × Str × Dt))
def Sl.kd : Sl → Nat
  | .no => 0
  | .val _ => 1
  | .own _ => 2
  | .dic _ => 3
  | .exc _ _ => 4
def Sl.ow : Sl → Bool
  | .no => false
  | .val _ => false
  | .own _ => true
  | .dic _ => true
  | .exc _ _ => false
theorem Sl.ow_kd {s t : Sl} (h : s.kd = t.kd) : s.ow = t.ow := by
  cases s <;> cases t <;> first | rfl | (simp [Sl.kd] at h)
inductive RpK (K : PySem.W.Frag) (H : Hp) : List (Key × V) → List (Key × Dt) → Prop
  | nil : RpK K H [] []
  | cons {k : Key} {v : V} {vs : List (Key × V)} {d : Dt} {ds : List (Key × Dt)} : Rp K H v d → RpK K H vs ds → RpK K H ((k, v) :: vs) ((k, d) :: ds)
theorem RpK.mono {K : PySem.W.Frag} {H H' : Hp} (e : Ex H H') : ∀ {vs : List (Key × V)} {ds : List (Key × Dt)}, RpK K H vs ds → RpK K H' vs ds
  | _, _, .nil => .nil
  | _, _, .cons h a => .cons (Rp.mono e h) (RpK.mono e a)

def XcR (K : PySem.W.Frag) (H0 : Hp) : Option (Addr × Str × Dt) → Prop
  | none => True
  | some q => ∃ w, H0 q.1 = some (.xd [(q.2.1, w)]) ∧ Rp K H0 w q.2.2
theorem XcR.mono {K : PySem.W.Frag} {H H' : Hp} (e : Ex H H') {o : Option (Addr × Str × Dt)} (h : XcR K H o) : XcR K H' o := by
  cases o with
  | none => trivial
  | some q =>
    obtain ⟨w, h1, h2⟩ := h
    exact ⟨w, e _ _ h1, h2.mono e⟩
def SlR (K : PySem.W.Frag) (H0 H : Hp) : Option V → Sl → Prop
  | _, .no => True
  | some v, .val d => Rp K H0 v d
  | some v, .own ds => ∃ p vs, v = .ref p ∧ H0 p = none ∧ H p = some (.lst vs) ∧ RpA K H0 vs ds
  | some v, .dic kvs => ∃ p vs, v = .ref p ∧ H0 p = none ∧ H p = some (.dK vs) ∧ RpK K H0 vs kvs
  | none, .val _ => False
  | none, .own _ => False
  | none, .dic _ => False
  | some v, .exc a o => v = .ref a ∧ XcR K H0 o
  | none, .exc _ _ => False

abbrev Env' := List Sl
def OwnAt (σ : L2.St) (ρ : List Sl) (i : Nat) (p : Addr) : Prop := ∃ s, ρ[i]? = some s ∧ s.ow = true ∧ σ[i]? = some (some (.ref p))
def Own (σ : L2.St) (ρ : List Sl) (p : Addr) : Prop := ∃ i, OwnAt σ ρ i p

structure EnvD (K : PySem.W.Frag) (H0 H : Hp) (σ : L2.St) (ρ : List Sl) : Prop where
  ex : Ex H0 H
  len : σ.length = ρ.length
  sl : ∀ (i : Nat) (s : Sl), ρ[i]? = some s → SlR K H0 H ((σ[i]?).join) s
  ds : ∀ (i j : Nat) (p : Addr), OwnAt σ ρ i p → OwnAt σ ρ j p → i = j

structure Stp (A : Addr → Prop) (H0 H H0' H' : Hp) : Prop where
  ex : Ex H0 H0'
  ex' : Ex H0' H'
  fr : ∀ p o, ¬ A p → H p = some o → H' p = some o
  nw : ∀ p, ¬ A p → H p ≠ none → H0 p = none → H0' p = none
def A0 : Addr → Prop := fun _ => False

section
variable {K : PySem.W.Frag} {H0 H H0' H' H0'' H'' : Hp} {σ : L2.St} {ρ ρ' : List Sl} {A B : Addr → Prop}
theorem Stp.refl (e : Ex H0 H) : Stp A H0 H H0 H := ⟨fun _ _ h => h, e, fun _ _ _ h => h, fun _ _ _ h => h⟩
theorem ne_none {H : Hp} {p : Addr} {o : HO} (h : H p = some o) : H p ≠ none := fun q => by rw [h] at q; cases q
theorem some_of {H : Hp} {p : Addr} (h : H p ≠ none) : ∃ o, H p = some o := by
  cases e : H p with
  | none => exact absurd e h
  | some o => exact ⟨o, rfl⟩
theorem Stp.trans (s : Stp A H0 H H0' H') (t : Stp B H0' H' H0'' H'') (h : ∀ p, B p → A p ∨ H p = none) : Stp A H0 H H0'' H'' where
  ex := s.ex.trans t.ex
  ex' := t.ex'
  fr := fun p o na e => t.fr p o (fun b => (h p b).elim na fun z => by rw [z] at e; cases e) (s.fr p o na e)
  nw := fun p na e z => by
    obtain ⟨o, eo⟩ := some_of e
    exact t.nw p (fun b => (h p b).elim na fun q => e q) (ne_none (s.fr p o na eo)) (s.nw p na e z)
theorem Stp.wide (s : Stp A0 H0 H H0' H') : Stp A H0 H H0' H' := ⟨s.ex, s.ex', fun p o _ e => s.fr p o (fun z => z) e, fun p _ e z => s.nw p (fun z => z) e z⟩
theorem Ex.upd2 (e : Ex H0 H) {p : Addr} {o : HO} : Ex (upd H0 p o) (upd H p o) := fun b u q => by
  by_cases h : b = p
  · subst h
    rw [upd_same] at q ⊢
    exact q
  · rw [upd_ne h] at q ⊢
    exact e b u q
theorem Ex.into (e : Ex H0 H) {p : Addr} {o : HO} (h : H p = some o) : Ex (upd H0 p o) H := fun b u q => by
  by_cases hb : b = p
  · subst hb
    rw [upd_same] at q
    cases q
    exact h
  · rw [upd_ne hb] at q
    exact e b u q
/-- a new object -/
theorem Stp.alloc (e : Ex H0 H) {p : Addr} {o : HO} (hp : H p = none) : Stp A0 H0 H (upd H0 p o) (upd H p o) where
  ex := Evl.Ex.new (Evl.fresh_back e hp)
  ex' := Ex.upd2 e
  fr := fun q u _ h => by rw [upd_ne (ne_of_none h hp)]; exact h
  nw := fun q _ h z => by
    obtain ⟨o', ho⟩ := some_of h
    rw [upd_ne (ne_of_none ho hp)]
    exact z
/-- a new object that stays outside of the data -/
theorem Stp.allocO (e : Ex H0 H) {p : Addr} {o : HO} (hp : H p = none) : Stp A0 H0 H H0 (upd H p o) where
  ex := fun _ _ h => h
  ex' := fun q u h => by rw [upd_ne (ne_of_none (e q u h) hp)]; exact e q u h
  fr := fun q u _ h => by rw [upd_ne (ne_of_none h hp)]; exact h
  nw := fun q _ _ z => z

theorem EnvD.at_ (E : EnvD K H0 H σ ρ) {i : Nat} {s : Sl} (h : ρ[i]? = some s) (hn : s.kd ≠ 0) : ∃ v, σ[i]? = some (some v) ∧ SlR K H0 H (some v) s := by
  have q := E.sl i s h
  cases e : σ[i]? with
  | none =>
    rw [e] at q
    cases s <;> first | exact absurd rfl hn | exact q.elim
  | some o =>
    cases o with
    | none =>
      rw [e] at q
      cases s <;> first | exact absurd rfl hn | exact q.elim
    | some v =>
      rw [e] at q
      exact ⟨v, rfl, q⟩
theorem EnvD.val (E : EnvD K H0 H σ ρ) {i : Nat} {d : Dt} (h : ρ[i]? = some (.val d)) : ∃ v, σ[i]? = some (some v) ∧ Rp K H0 v d := by
  obtain ⟨v, e, q⟩ := E.at_ h (by show 1 ≠ 0; decide)
  exact ⟨v, e, q⟩
theorem EnvD.own (E : EnvD K H0 H σ ρ) {i : Nat} {ds : List Dt} (h : ρ[i]? = some (.own ds)) : ∃ p vs, σ[i]? = some (some (.ref p)) ∧ H0 p = none ∧ H p = some (.lst vs) ∧ RpA K H0 vs ds := by
  obtain ⟨v, e, p, vs, rfl, q⟩ := E.at_ h (by show 2 ≠ 0; decide)
  exact ⟨p, vs, e, q⟩
theorem EnvD.dic (E : EnvD K H0 H σ ρ) {i : Nat} {ds : List (Key × Dt)} (h : ρ[i]? = some (.dic ds)) : ∃ p vs, σ[i]? = some (some (.ref p)) ∧ H0 p = none ∧ H p = some (.dK vs) ∧ RpK K H0 vs ds := by
  obtain ⟨v, e, p, vs, rfl, q⟩ := E.at_ h (by show 3 ≠ 0; decide)
  exact ⟨p, vs, e, q⟩
theorem EnvD.ownH (E : EnvD K H0 H σ ρ) {p : Addr} (h : Own σ ρ p) : H0 p = none ∧ H p ≠ none := by
  obtain ⟨i, s, h1, h2, h3⟩ := h
  cases s with
  | no => cases h2
  | val d => cases h2
  | own ds =>
    obtain ⟨p', vs, e, z, l, _⟩ := E.own h1
    rw [h3] at e
    cases e
    exact ⟨z, ne_none l⟩
  | dic ds =>
    obtain ⟨p', vs, e, z, l, _⟩ := E.dic h1
    rw [h3] at e
    cases e
    exact ⟨z, ne_none l⟩
  | exc a o => cases h2
theorem SlR.stp (s : Stp A H0 H H0' H') {v : Option V} {x : Sl} (hA : ∀ p, v = some (.ref p) → x.ow = true → ¬ A p) (h : SlR K H0 H v x) : SlR K H0' H' v x := by
  cases x with
  | no => cases v <;> trivial
  | val d =>
    cases v with
    | none => exact h.elim
    | some v => exact Rp.mono s.ex h
  | own ds =>
    cases v with
    | none => exact h.elim
    | some v =>
      obtain ⟨p, vs, rfl, z, l, r⟩ := h
      exact ⟨p, vs, rfl, s.nw p (hA p rfl rfl) (ne_none l) z, s.fr p _ (hA p rfl rfl) l, r.mono s.ex⟩
  | dic ds =>
    cases v with
    | none => exact h.elim
    | some v =>
      obtain ⟨p, vs, rfl, z, l, r⟩ := h
      exact ⟨p, vs, rfl, s.nw p (hA p rfl rfl) (ne_none l) z, s.fr p _ (hA p rfl rfl) l, r.mono s.ex⟩
  | exc a o =>
    cases v with
    | none => exact h.elim
    | some v => exact ⟨h.1, h.2.mono s.ex⟩
theorem join_some {α : Type} {o : Option (Option α)} {v : α} (h : o.join = some v) : o = some (some v) := by
  cases o with
  | none => cases h
  | some o => cases o with
    | none => cases h
    | some w => cases h; rfl
theorem EnvD.stp (E : EnvD K H0 H σ ρ) (s : Stp A H0 H H0' H') (hA : ∀ p, A p → ¬ Own σ ρ p) : EnvD K H0' H' σ ρ where
  ex := s.ex'
  len := E.len
  sl := fun i x h => SlR.stp s (fun p e o a => hA p a ⟨i, x, h, o, join_some e⟩) (E.sl i x h)
  ds := E.ds
theorem EnvD.pure (E : EnvD K H0 H σ ρ) (s : Stp A0 H0 H H0' H') : EnvD K H0' H' σ ρ := E.stp s fun _ z => z.elim

def SameOwn (ρ ρ' : List Sl) : Prop := ∀ i : Nat, (ρ[i]?).map Sl.kd = (ρ'[i]?).map Sl.kd
theorem SameOwn.refl (ρ : List Sl) : SameOwn ρ ρ := fun _ => rfl
theorem SameOwn.trans {ρ'' : List Sl} (a : SameOwn ρ ρ') (b : SameOwn ρ' ρ'') : SameOwn ρ ρ'' := fun i => (a i).trans (b i)
theorem SameOwn.symm (a : SameOwn ρ ρ') : SameOwn ρ' ρ := fun i => (a i).symm
theorem SameOwn.ownAt (a : SameOwn ρ ρ') {i : Nat} {p : Addr} (h : OwnAt σ ρ i p) : OwnAt σ ρ' i p := by
  obtain ⟨s, h1, h2, h3⟩ := h
  have q := a i
  rw [h1] at q
  cases e : ρ'[i]? with
  | none => rw [e] at q; cases q
  | some t =>
    rw [e] at q
    have q2 : s.kd = t.kd := Option.some.inj q
    exact ⟨t, e, by rw [← Sl.ow_kd q2]; exact h2, h3⟩
theorem SameOwn.own (a : SameOwn ρ ρ') {p : Addr} (h : Own σ ρ p) : Own σ ρ' p := let ⟨i, h⟩ := h; ⟨i, a.ownAt h⟩

/-- what an expression leaves -/
structure Post (K : PySem.W.Frag) (σ : L2.St) (ρ : List Sl) (H0 H : Hp) (ρ' : List Sl) (H0' H' : Hp) : Prop where
  stp : Stp (Own σ ρ) H0 H H0' H'
  env : EnvD K H0' H' σ ρ'
  same : SameOwn ρ ρ'
theorem Post.refl (E : EnvD K H0 H σ ρ) : Post K σ ρ H0 H ρ H0 H := ⟨.refl E.ex, E, .refl ρ⟩
theorem Post.trans {ρ'' : List Sl} (a : Post K σ ρ H0 H ρ' H0' H') (b : Post K σ ρ' H0' H' ρ'' H0'' H'') : Post K σ ρ H0 H ρ'' H0'' H'' :=
  ⟨a.stp.trans b.stp fun p h => .inl (a.same.symm.own h), b.env, a.same.trans b.same⟩
theorem Post.pure (E : EnvD K H0 H σ ρ) (s : Stp A0 H0 H H0' H') : Post K σ ρ H0 H ρ H0' H' := ⟨s.wide, E.pure s, .refl ρ⟩
theorem Post.then (a : Post K σ ρ H0 H ρ' H0' H') (s : Stp A0 H0' H' H0'' H'') : Post K σ ρ H0 H ρ' H0'' H'' := a.trans (.pure a.env s)

/-- a def's entry -/
structure En where
  H0 : Hp
  H : Hp
  σ : L2.St
  ρ : List Sl
  B : Hp
structure Rc (N : En) (σ : L2.St) (ρ : List Sl) (H0 H : Hp) : Prop where
  stp : Stp (Own N.σ N.ρ) N.H0 N.H H0 H
  lb : Ex N.B H0
  ow : ∀ p, Own σ ρ p → Own N.σ N.ρ p ∨ N.H p = none
  pin : ∀ (i : Nat) (p : Addr), OwnAt N.σ N.ρ i p → σ[i]? = some (some (.ref p)) ∧ (ρ[i]?).map Sl.kd = (N.ρ[i]?).map Sl.kd
theorem Rc.pinAt {N : En} (r : Rc N σ ρ H0 H) {i : Nat} {p : Addr} (h : OwnAt N.σ N.ρ i p) : OwnAt σ ρ i p := by
  obtain ⟨e1, e2⟩ := r.pin i p h
  obtain ⟨s, h1, h2, h3⟩ := h
  rw [h1] at e2
  cases e : ρ[i]? with
  | none => rw [e] at e2; cases e2
  | some t =>
    rw [e] at e2
    have q2 : t.kd = s.kd := Option.some.inj e2
    exact ⟨t, e, by rw [Sl.ow_kd q2]; exact h2, e1⟩
theorem Post.rc {N : En} (a : Post K σ ρ H0 H ρ' H0' H') (r : Rc N σ ρ H0 H) : Rc N σ ρ' H0' H' where
  stp := r.stp.trans a.stp r.ow
  lb := r.lb.trans a.stp.ex
  ow := fun p h => r.ow p (a.same.symm.own h)
  pin := fun i p h => ⟨(r.pin i p h).1, (a.same i).symm.trans (r.pin i p h).2⟩
theorem Rc.up {N : En} {B : Hp} (r : Rc { N with B := B } σ ρ H0 H) (e : Ex N.B B) : Rc N σ ρ H0 H := ⟨r.stp, e.trans r.lb, r.ow, r.pin⟩
theorem Rc.dn {N : En} {B : Hp} (r : Rc N σ ρ H0 H) (e : Ex B H0) : Rc { N with B := B } σ ρ H0 H := ⟨r.stp, e, r.ow, r.pin⟩
theorem Rc.fresh {N : En} (r : Rc N σ ρ H0 H) (E : EnvD K H0 H σ ρ) {p : Addr} (h : H p = none) : N.H p = none := by
  cases e : N.H p with
  | none => rfl
  | some o =>
    by_cases q : Own N.σ N.ρ p
    · obtain ⟨i, hi⟩ := q
      exact absurd h (E.ownH ⟨i, r.pinAt hi⟩).2
    · rw [r.stp.fr p o q e] at h
      cases h
end
end Dw

namespace Dw
open PySem PySem.Spec PyProof.Rows L2
open Evl (Ex)

/-! ### the strongest readings -/
def tSem (X : Cx) (e : Expr) : TE := fun σ H Q => ∀ (pins : List (Addr × Obj)) (s : Shared), Inv X pins σ H s → wpAny (model X.prog X.w) X.A (eval e X.env) (EP X pins σ Q) X.xe s
def bSem (X : Cx) (e : Expr) : TT := fun σ H Q => ∀ (pins : List (Addr × Obj)) (s : Shared), Inv X pins σ H s → wpAny (model X.prog X.w) X.A (isTrue e X.env (eval e X.env)) (TP X pins σ Q) X.xe s
def aSem (X : Cx) (es : List Expr) : TA := fun σ H Q => ∀ (pos : Pos) (pins : List (Addr × Obj)) (s : Shared), Inv X pins σ H s → wpAny (model X.prog X.w) X.A (spliced (backTo pos (starEach es X.env))) (AP X pins σ Q) X.xe s
def sSem (X : Cx) (st : Stmt) : TS := fun D σ H => ∀ (pins : List (Addr × Obj)) (s : Shared), Inv X pins σ H s → wpAny (model X.prog X.w) X.A (exec st X.env) (SP X pins D) X.xe s
def ssSem (X : Cx) (st : List Stmt) : TS := fun D σ H => ∀ (pins : List (Addr × Obj)) (s : Shared), Inv X pins σ H s → wpAny (model X.prog X.w) X.A (execs st X.env) (SP X pins D) X.xe s
section
variable {X : Cx} {e : Expr} {es : List Expr} {st : Stmt} {sts : List Stmt} {te : TE} {tt : TT} {ta : TA} {ts : TS} {σ : L2.St} {H : Hp}
theorem pe_sem : PE X e (tSem X e) := ⟨fun pins s _ _ _ I h => h pins s I⟩
theorem pt_sem : PT X e (bSem X e) := ⟨fun pins s _ _ _ I h => h pins s I⟩
theorem pa_sem : PA X es (aSem X es) := ⟨fun pos pins s _ _ _ I h => h pos pins s I⟩
theorem ps_sem : PS X st (sSem X st) := ⟨fun pins s _ _ _ I h => h pins s I⟩
theorem pss_sem : PSs X sts (ssSem X sts) := ⟨fun pins s _ _ _ I h => h pins s I⟩
theorem sem_of {Q : VK} (h : PE X e te) (q : te σ H Q) : tSem X e σ H Q := fun pins s I => h.run pins s σ H Q I q
theorem semT_of {Q : Bool → Hp → Prop} (h : PT X e tt) (q : tt σ H Q) : bSem X e σ H Q := fun pins s I => h.run pins s σ H Q I q
theorem semA_of {Q : List V → Hp → Prop} (h : PA X es ta) (q : ta σ H Q) : aSem X es σ H Q := fun pos pins s I => h.run pos pins s σ H Q I q
theorem semS_of {D : Ends} (h : PS X st ts) (q : ts D σ H) : sSem X st D σ H := fun pins s I => h.run pins s σ H D I q
theorem semSs_of {D : Ends} (h : PSs X sts ts) (q : ts D σ H) : ssSem X sts D σ H := fun pins s I => h.run pins s σ H D I q
end

/-! ### exceptions, contexts -/
structure Exn where
  C : Addr
  fs : Option (Str × Dt)
def ExR (K : PySem.W.Frag) (H0 : Hp) (cls : Value) (d : Option Addr) (x : Exn) : Prop :=
  cls = .ref x.C ∧ match x.fs with
    | none => d = none
    | some ft => ∃ dd v, d = some dd ∧ H0 dd = some (.xd [(ft.1, v)]) ∧ Rp K H0 v ft.2
structure Jx where
  X : Cx
  N : En
  W : WX
  XC : Exn → List Sl → Prop
  k : Nat
abbrev Jx.K (J : Jx) : PySem.W.Frag := J.X.K
structure Jx.Ok (J : Jx) : Prop where
  tk : Takes J.X J.W
  po : PassesOwn (model J.X.prog J.X.w) J.X.A J.X.env J.X.xe
  rm : Room J.k J.X.A
  nd : J.X.N.Nodup
  hw : ∀ (σ : L2.St) (ρ : List Sl) (H0 H : Hp) (x : Exn) (cls : Value) (d : Option Addr), EnvD J.X.K H0 H σ ρ → Rc J.N σ ρ H0 H → ExR J.X.K H0 cls d x → J.XC x ρ → J.W cls d σ H

/-! ### the judgements -/
def JE (J : Jx) (e : Expr) (ρ : List Sl) (Q : Dt → List Sl → Prop) : Prop :=
  ∀ (σ : L2.St) (H0 H : Hp), EnvD J.X.K H0 H σ ρ → Rc J.N σ ρ H0 H → ∀ Qv : VK,
    (∀ v d ρ' H0' H', Post J.X.K σ ρ H0 H ρ' H0' H' → Rp J.X.K H0' v d → Q d ρ' → Qv v H') → tSem J.X e σ H Qv
/-- a new list -/
def JN (J : Jx) (e : Expr) (ρ : List Sl) (Q : List Dt → List Sl → Prop) : Prop :=
  ∀ (σ : L2.St) (H0 H : Hp), EnvD J.X.K H0 H σ ρ → Rc J.N σ ρ H0 H → ∀ Qv : VK,
    (∀ p vs ds ρ' H0' H', Post J.X.K σ ρ H0 H ρ' H0' H' → H p = none → H0' p = none → H' p = some (.lst vs) → RpA J.X.K H0' vs ds → Q ds ρ' → Qv (.ref p) H') → tSem J.X e σ H Qv
def JT (J : Jx) (e : Expr) (ρ : List Sl) (Q : Bool → List Sl → Prop) : Prop :=
  ∀ (σ : L2.St) (H0 H : Hp), EnvD J.X.K H0 H σ ρ → Rc J.N σ ρ H0 H → ∀ Qv : Bool → Hp → Prop,
    (∀ b ρ' H0' H', Post J.X.K σ ρ H0 H ρ' H0' H' → Q b ρ' → Qv b H') → bSem J.X e σ H Qv
inductive Ag where
  | v (d : Dt) | b (i : Nat)
def AgR (K : PySem.W.Frag) (H0 : Hp) (σ : L2.St) (ρ : List Sl) : V → Ag → Prop
  | v, .v d => Rp K H0 v d
  | v, .b i => ∃ s, ρ[i]? = some s ∧ s.ow = true ∧ σ[i]? = some (some v)
inductive AgsR (K : PySem.W.Frag) (H0 : Hp) (σ : L2.St) (ρ : List Sl) : List V → List Ag → Prop
  | nil : AgsR K H0 σ ρ [] []
  | cons {v : V} {a : Ag} {vs : List V} {as : List Ag} : AgR K H0 σ ρ v a → AgsR K H0 σ ρ vs as → AgsR K H0 σ ρ (v :: vs) (a :: as)
def JA (J : Jx) (es : List Expr) (ρ : List Sl) (Q : List Ag → List Sl → Prop) : Prop :=
  ∀ (σ : L2.St) (H0 H : Hp), EnvD J.X.K H0 H σ ρ → Rc J.N σ ρ H0 H → ∀ Qv : List V → Hp → Prop,
    (∀ vs ags ρ' H0' H', Post J.X.K σ ρ H0 H ρ' H0' H' → AgsR J.X.K H0' σ ρ' vs ags → Q ags ρ' → Qv vs H') → aSem J.X es σ H Qv
inductive Res where
  | val (d : Dt) | new (ds : List Dt)
def Res.d : Res → Dt
  | .val d => d
  | .new ds => .lst ds
/-- H: the heap ahead -/
def ResR (K : PySem.W.Frag) (H H0' H' : Hp) (v : V) : Res → Prop
  | .val d => Rp K H0' v d
  | .new ds => ∃ p vs, v = .ref p ∧ H p = none ∧ H0' p = none ∧ H' p = some (.lst vs) ∧ RpA K H0' vs ds
structure Outs where
  nx : List Sl → Prop
  rt : Res → List Sl → Prop
  bk : List Sl → Prop := fun _ => False
  ct : List Sl → Prop := fun _ => False
structure Cmp (J : Jx) (H0 : Hp) (D : Ends) (O : Outs) : Prop where
  nx : ∀ σ' ρ' H0' H', Ex H0 H0' → EnvD J.X.K H0' H' σ' ρ' → Rc J.N σ' ρ' H0' H' → O.nx ρ' → D.nx σ' H'
  rt : ∀ σ' ρ' v r H0' H', EnvD J.X.K H0' H' σ' ρ' → Rc J.N σ' ρ' H0' H' → ResR J.X.K J.N.H H0' H' v r → O.rt r ρ' → D.rt v H'
  bk : ∀ σ' ρ' H0' H', Ex H0 H0' → EnvD J.X.K H0' H' σ' ρ' → Rc J.N σ' ρ' H0' H' → O.bk ρ' → D.bk σ' H'
  ct : ∀ σ' ρ' H0' H', Ex H0 H0' → EnvD J.X.K H0' H' σ' ρ' → Rc J.N σ' ρ' H0' H' → O.ct ρ' → D.ct σ' H'
theorem Cmp.up {J : Jx} {H0 H1 : Hp} {D : Ends} {O : Outs} (c : Cmp J H0 D O) (e : Ex H0 H1) : Cmp J H1 D O :=
  ⟨fun σ' ρ' H0' H' z => c.nx σ' ρ' H0' H' (e.trans z), c.rt, fun σ' ρ' H0' H' z => c.bk σ' ρ' H0' H' (e.trans z), fun σ' ρ' H0' H' z => c.ct σ' ρ' H0' H' (e.trans z)⟩
def WS (J : Jx) (t : TS) (ρ : List Sl) (O : Outs) : Prop :=
  ∀ (σ : L2.St) (H0 H : Hp), EnvD J.X.K H0 H σ ρ → Rc J.N σ ρ H0 H → ∀ D : Ends, Cmp J H0 D O → t D σ H
def JS (J : Jx) (st : Stmt) (ρ : List Sl) (O : Outs) : Prop := WS J (sSem J.X st) ρ O
def JB (J : Jx) (sts : List Stmt) (ρ : List Sl) (O : Outs) : Prop := WS J (ssSem J.X sts) ρ O

section
variable {K : PySem.W.Frag} {H0 H H0' H' H0'' H'' : Hp} {σ : L2.St} {ρ ρ' : List Sl} {A B : Addr → Prop}
theorem SlR.grow (e : Ex H0 H0') {v : Option V} {x : Sl} (hp : ∀ p, v = some (.ref p) → x.ow = true → H0' p = none) (h : SlR K H0 H v x) : SlR K H0' H v x := by
  cases x with
  | no => cases v <;> trivial
  | val d =>
    cases v with
    | none => exact h.elim
    | some v => exact Rp.mono e h
  | own ds =>
    cases v with
    | none => exact h.elim
    | some v =>
      obtain ⟨p, vs, rfl, z, l, r⟩ := h
      exact ⟨p, vs, rfl, hp p rfl rfl, l, r.mono e⟩
  | dic ds =>
    cases v with
    | none => exact h.elim
    | some v =>
      obtain ⟨p, vs, rfl, z, l, r⟩ := h
      exact ⟨p, vs, rfl, hp p rfl rfl, l, r.mono e⟩
  | exc a o =>
    cases v with
    | none => exact h.elim
    | some v => exact ⟨h.1, h.2.mono e⟩
theorem EnvD.freeze (E : EnvD K H0 H σ ρ) {p : Addr} {o : HO} (h : H p = some o) (h0 : H0 p = none) (no : ¬ Own σ ρ p) : EnvD K (upd H0 p o) H σ ρ where
  ex := Ex.into E.ex h
  len := E.len
  sl := fun i s e => SlR.grow (Evl.Ex.new h0) (fun q eq ow => by
    have oq : Own σ ρ q := ⟨i, s, e, ow, join_some eq⟩
    rw [upd_ne (fun w => no (by rw [← w]; exact oq))]
    exact (E.ownH oq).1) (E.sl i s e)
  ds := E.ds
/-- what is new is taken among the data -/
theorem Post.freeze {p : Addr} {o : HO} (E : EnvD K H0 H σ ρ) (a : Post K σ ρ H0 H ρ' H0' H') (hp : H p = none) (h0 : H0' p = none) (h : H' p = some o) : Post K σ ρ H0 H ρ' (upd H0' p o) H' where
  stp := ⟨a.stp.ex.trans (Evl.Ex.new h0), Ex.into a.stp.ex' h, a.stp.fr, fun q na e z => by
    have ne : q ≠ p := fun w => e (by rw [w]; exact hp)
    rw [upd_ne ne]
    exact a.stp.nw q na e z⟩
  env := a.env.freeze h h0 fun w => (E.ownH (a.same.symm.own w)).2 hp
  same := a.same
theorem Post.frz {v : V} {r : Res} (E : EnvD K H0 H σ ρ) (a : Post K σ ρ H0 H ρ' H0' H') (h : ResR K H H0' H' v r) : ∃ H0'', Post K σ ρ H0 H ρ' H0'' H' ∧ Rp K H0'' v r.d := by
  cases r with
  | val d => exact ⟨H0', a, h⟩
  | new ds =>
    obtain ⟨p, vs, rfl, hp, h0, h', r⟩ := h
    exact ⟨_, a.freeze E hp h0 h', .lst (Evl.sq_of upd_same) (r.mono (Evl.Ex.new h0))⟩
theorem Stp.more (s : Stp A H0 H H0' H') (h : ∀ p, A p → B p) : Stp B H0 H H0' H' := ⟨s.ex, s.ex', fun p o n => s.fr p o fun z => n (h p z), fun p n => s.nw p fun z => n (h p z)⟩
theorem AgR.mono {v : V} {a : Ag} (e : Ex H0 H0') (s : SameOwn ρ ρ') (h : AgR K H0 σ ρ v a) : AgR K H0' σ ρ' v a := by
  cases a with
  | v d => exact Rp.mono e h
  | b i =>
    obtain ⟨t, h1, h2, h3⟩ := h
    have q := s i
    rw [h1] at q
    cases e' : ρ'[i]? with
    | none => rw [e'] at q; cases q
    | some u =>
      rw [e'] at q
      exact ⟨u, e', by rw [← Sl.ow_kd (Option.some.inj q)]; exact h2, h3⟩
theorem AgsR.mono {vs : List V} {as : List Ag} (e : Ex H0 H0') (s : SameOwn ρ ρ') (h : AgsR K H0 σ ρ vs as) : AgsR K H0' σ ρ' vs as := by
  induction h with
  | nil => exact .nil
  | cons h _ ih => exact .cons (h.mono e s) ih
theorem AgsR.len {vs : List V} {as : List Ag} (h : AgsR K H0 σ ρ vs as) : vs.length = as.length := by
  induction h with
  | nil => rfl
  | cons h _ ih => simp [ih]
theorem AgsR.get {vs : List V} {as : List Ag} {j : Nat} {a : Ag} (h : AgsR K H0 σ ρ vs as) (e : as[j]? = some a) : ∃ v, vs[j]? = some v ∧ AgR K H0 σ ρ v a := by
  induction h generalizing j with
  | nil => simp at e
  | cons h _ ih =>
    cases j with
    | zero =>
      simp at e
      subst e
      exact ⟨_, rfl, h⟩
    | succ j =>
      obtain ⟨v, h1, h2⟩ := ih (j := j) (by simpa using e)
      exact ⟨v, by simpa using h1, h2⟩
end

/-! ### names, constants, operators -/
section
variable {J : Jx} {e a b : Expr} {es : List Expr} {ρ : List Sl} {Q : Dt → List Sl → Prop} {x : Str} {pos : Pos}
theorem je_cons {d : Dt} {te : TE} (h : PE J.X e te) (hv : ∀ (σ : L2.St) (H : Hp) (Qv : VK), (∀ v, (∀ H0, Rp J.X.K H0 v d) → Qv v H) → te σ H Qv) (q : Q d ρ) : JE J e ρ Q := by
  intro σ H0 H E R Qv hq
  exact sem_of h (hv σ H Qv fun v r => hq v d ρ H0 H (.refl E) (r H0) q)
theorem je_int {i : Int} {j : Nat} (q : Q (.int i) ρ) : JE J (.Constant (.int i) j pos) ρ Q := je_cons pe_int (fun σ H Qv k => k _ fun _ => .int i) q
theorem je_bl {i : Bool} {j : Nat} (q : Q (.bl i) ρ) : JE J (.Constant (.bool i) j pos) ρ Q := je_cons pe_bl (fun σ H Qv k => k _ fun _ => .bl i) q
theorem je_non {j : Nat} (q : Q .non ρ) : JE J (.Constant .none j pos) ρ Q := je_cons pe_non (fun σ H Qv k => k _ fun _ => .non) q
theorem je_str {i : Str} {j : Nat} (q : Q (.str i) ρ) : JE J (.Constant (.str i) j pos) ρ Q := je_cons pe_str (fun σ H Qv k => k _ fun _ => .str i) q
theorem je_name {i : Nat} {d : Dt} (hr : ρ[i]? = some (.val d)) (q : Q d ρ) (hN : J.X.N[i]? = some x := by rfl) (hv : Vis J.X.env.scope x := by first | exact Or.inl rfl | exact Or.inr (Or.inl rfl) | exact Or.inr (Or.inr rfl))
    (hd : (x == ("__debug__" : Str)) = false := by decide) (hcd : (x == ("__classdict__" : Str)) = false := by decide) : JE J (.Name x pos) ρ Q := by
  intro σ H0 H E R Qv hq
  obtain ⟨v, e, r⟩ := E.val hr
  exact sem_of (pe_var (i := i) hN hv hd hcd) ⟨v, e, hq v d ρ H0 H (.refl E) r q⟩

/-- an operation of two values, on data -/
def RD (K : PySem.W.Frag) (r : R2) (rd : Dt → Dt → (Dt → Prop) → Prop) : Prop :=
  ∀ x y d e H0 H (Q : Dt → Prop) (Qv : VK), Ex H0 H → Rp K H0 x d → Rp K H0 y e → rd d e Q → (∀ v f H0' H', Stp A0 H0 H H0' H' → Rp K H0' v f → Q f → Qv v H') → r x y H Qv
theorem je_op2 {r : R2} {rd : Dt → Dt → (Dt → Prop) → Prop} (hp : PE J.X e (tOp r (tSem J.X a) (tSem J.X b))) (hr : RD J.X.K r rd)
    (h : JE J a ρ fun d ρ1 => JE J b ρ1 fun f ρ2 => rd d f fun z => Q z ρ2) : JE J e ρ Q := by
  intro σ H0 H E R Qv hq
  refine sem_of hp ?_
  refine h σ H0 H E R _ fun v d ρ1 H01 H1 P1 rx q1 => ?_
  refine q1 σ H01 H1 P1.env (P1.rc R) _ fun u f ρ2 H02 H2 P2 ry q2 => ?_
  exact hr v u d f H02 H2 _ Qv P2.env.ex (rx.mono P2.stp.ex) ry q2 fun w z H0' H' s rz q3 => hq w z ρ2 H0' H' ((P1.trans P2).then s) rz q3
theorem rd_I0 {g : Int → Int → V} {gd : Int → Int → Dt} (hg : ∀ K H0 i j, Rp K H0 (g i j) (gd i j)) (K : PySem.W.Frag) : RD K (rI0 g) fun d e Q => ∃ i j, d = .int i ∧ e = .int j ∧ Q (gd i j) := by
  intro x y d e H0 H Q Qv hx rx ry h k
  obtain ⟨i, j, rfl, rfl, q⟩ := h
  cases rx
  cases ry
  exact ⟨i, j, rfl, rfl, k _ _ H0 H (.refl hx) (hg K H0 i j) q⟩
theorem rd_I {C : Int → Int → Prop} {g : Int → Int → V} {gd : Int → Int → Dt} (hg : ∀ K H0 i j, Rp K H0 (g i j) (gd i j)) (K : PySem.W.Frag) : RD K (rI C g) fun d e Q => ∃ i j, d = .int i ∧ e = .int j ∧ C i j ∧ Q (gd i j) := by
  intro x y d e H0 H Q Qv hx rx ry h k
  obtain ⟨i, j, rfl, rfl, c, q⟩ := h
  cases rx
  cases ry
  exact ⟨i, j, rfl, rfl, c, k _ _ H0 H (.refl hx) (hg K H0 i j) q⟩
theorem je_add (h : JE J a ρ fun d ρ1 => JE J b ρ1 fun f ρ2 => ∃ i j, d = .int i ∧ f = .int j ∧ Q (.int (i + j)) ρ2) : JE J (.BinOp a .Add b pos) ρ Q :=
  je_op2 (pe_op op_add pe_sem pe_sem) (rd_I0 (fun _ _ i j => .int (i + j)) _) h
theorem je_sub (h : JE J a ρ fun d ρ1 => JE J b ρ1 fun f ρ2 => ∃ i j, d = .int i ∧ f = .int j ∧ Q (.int (i - j)) ρ2) : JE J (.BinOp a .Sub b pos) ρ Q :=
  je_op2 (pe_op op_sub pe_sem pe_sem) (rd_I0 (fun _ _ i j => .int (i - j)) _) h
theorem je_mul (h : JE J a ρ fun d ρ1 => JE J b ρ1 fun f ρ2 => ∃ i j, d = .int i ∧ f = .int j ∧ CMulW i j ∧ Q (.int (i * j)) ρ2) : JE J (.BinOp a .Mult b pos) ρ Q :=
  je_op2 (pe_op op_mulW pe_sem pe_sem) (rd_I (fun _ _ i j => .int (i * j)) _) h
theorem je_mod (h : JE J a ρ fun d ρ1 => JE J b ρ1 fun f ρ2 => ∃ i j, d = .int i ∧ f = .int j ∧ 0 < j ∧ Q (.int (i % j)) ρ2) : JE J (.BinOp a .Mod b pos) ρ Q :=
  je_op2 (pe_op op_mod pe_sem pe_sem) (rd_I (fun _ _ i j => .int (i % j)) _) h
theorem je_fdiv (h : JE J a ρ fun d ρ1 => JE J b ρ1 fun f ρ2 => ∃ i j, d = .int i ∧ f = .int j ∧ CDivW i j ∧ Q (.int (i / j)) ρ2) : JE J (.BinOp a .FloorDiv b pos) ρ Q :=
  je_op2 (pe_op op_fdivW pe_sem pe_sem) (rd_I (fun _ _ i j => .int (i / j)) _) h
theorem je_pow (h : JE J a ρ fun d ρ1 => JE J b ρ1 fun f ρ2 => ∃ i j, d = .int i ∧ f = .int j ∧ CPow i j ∧ Q (.int (i ^ j.toNat)) ρ2) : JE J (.BinOp a .Pow b pos) ρ Q :=
  je_op2 (pe_op op_pow pe_sem pe_sem) (rd_I (fun _ _ i j => .int (i ^ j.toNat)) _) h
theorem je_lt (h : JE J a ρ fun d ρ1 => JE J b ρ1 fun f ρ2 => ∃ i j, d = .int i ∧ f = .int j ∧ Q (.bl (decide (i < j))) ρ2) : JE J (.Compare a [.Lt] [b] pos) ρ Q :=
  je_op2 (pe_cmpR op_lt pe_sem pe_sem (nomark _)) (rd_I0 (fun _ _ i j => .bl (decide (i < j))) _) h
theorem je_le (h : JE J a ρ fun d ρ1 => JE J b ρ1 fun f ρ2 => ∃ i j, d = .int i ∧ f = .int j ∧ Q (.bl (decide (i ≤ j))) ρ2) : JE J (.Compare a [.LtE] [b] pos) ρ Q :=
  je_op2 (pe_cmpR op_le pe_sem pe_sem (nomark _)) (rd_I0 (fun _ _ i j => .bl (decide (i ≤ j))) _) h
theorem je_gt (h : JE J a ρ fun d ρ1 => JE J b ρ1 fun f ρ2 => ∃ i j, d = .int i ∧ f = .int j ∧ Q (.bl (decide (j < i))) ρ2) : JE J (.Compare a [.Gt] [b] pos) ρ Q :=
  je_op2 (pe_cmpR op_gt pe_sem pe_sem (nomark _)) (rd_I0 (fun _ _ i j => .bl (decide (j < i))) _) h
theorem je_ge (h : JE J a ρ fun d ρ1 => JE J b ρ1 fun f ρ2 => ∃ i j, d = .int i ∧ f = .int j ∧ Q (.bl (decide (j ≤ i))) ρ2) : JE J (.Compare a [.GtE] [b] pos) ρ Q :=
  je_op2 (pe_cmpR op_ge pe_sem pe_sem (nomark _)) (rd_I0 (fun _ _ i j => .bl (decide (j ≤ i))) _) h
end
end Dw

namespace Dw
open PySem PySem.Spec PyProof.Rows L2
open Evl (Ex)
section
variable {J : Jx} {e a b c : Expr} {es rest : List Expr} {ρ : List Sl} {Q : Dt → List Sl → Prop} {QB : Bool → List Sl → Prop} {QA : List Ag → List Sl → Prop} {QN : List Dt → List Sl → Prop} {x : Str} {pos : Pos}
/-- a rule of the layer over one part -/
theorem je_un {te : TE → TE} (hp : PE J.X e (te (tSem J.X a)))
    (hr : ∀ (σ : L2.St) (H : Hp) (Qv : VK) (t : TE), (∀ Q1 : VK, (∀ v H1, Q1 v H1 → Q1 v H1) → True) → True → True) : True := trivial
/-- equality of scalars -/
def Dt.sc : Dt → Dt → Bool
  | .non, .non => true | .non, .int _ => true | .int _, .non => true | .non, .bl _ => true | .bl _, .non => true | .non, .str _ => true | .str _, .non => true
  | .int _, .int _ => true | .bl _, .bl _ => true | .str _, .str _ => true
  | .int _, .str _ => true | .str _, .int _ => true | .bl _, .str _ => true | .str _, .bl _ => true
  | _, _ => false
def Dt.v : Dt → V
  | .non => .non
  | .bl b => .bl b
  | .int i => .int i
  | .str x => .str x
  | _ => .non
theorem rp_sc {K : PySem.W.Frag} {H : Hp} {x y : V} {d e : Dt} (h : Dt.sc d e = true) (rx : Rp K H x d) (ry : Rp K H y e) : x = d.v ∧ y = e.v ∧ scal x y = true := by
  cases rx <;> cases ry <;> first | exact ⟨rfl, rfl, rfl⟩ | exact absurd h (by decide) | (simp [Dt.sc] at h)
def rdEq (d e : Dt) (Q : Dt → Prop) : Prop := Dt.sc d e = true ∧ Q (.bl (decide (d.v = e.v)))
def rdNe (d e : Dt) (Q : Dt → Prop) : Prop := Dt.sc d e = true ∧ Q (.bl (!decide (d.v = e.v)))
theorem rd_eq (K : PySem.W.Frag) : RD K rEq rdEq := by
  intro x y d e H0 H Q Qv hx rx ry h k
  obtain ⟨hs, q⟩ := h
  obtain ⟨rfl, rfl, s⟩ := rp_sc hs rx ry
  exact ⟨s, k _ _ H0 H (.refl hx) (.bl _) q⟩
theorem rd_ne (K : PySem.W.Frag) : RD K rNe rdNe := by
  intro x y d e H0 H Q Qv hx rx ry h k
  obtain ⟨hs, q⟩ := h
  obtain ⟨rfl, rfl, s⟩ := rp_sc hs rx ry
  exact ⟨s, k _ _ H0 H (.refl hx) (.bl _) q⟩
theorem je_eq (h : JE J a ρ fun d ρ1 => JE J b ρ1 fun f ρ2 => rdEq d f fun z => Q z ρ2) : JE J (.Compare a [.Eq] [b] pos) ρ Q := je_op2 (pe_cmpR op_eq pe_sem pe_sem (nomark _)) (rd_eq _) h
theorem je_ne (h : JE J a ρ fun d ρ1 => JE J b ρ1 fun f ρ2 => rdNe d f fun z => Q z ρ2) : JE J (.Compare a [.NotEq] [b] pos) ρ Q := je_op2 (pe_cmpR op_ne pe_sem pe_sem (nomark _)) (rd_ne _) h
/-- is None -/
def Dt.isN : Dt → Bool
  | .non => true
  | _ => false
theorem rp_isN {K : PySem.W.Frag} {H : Hp} {x : V} {d : Dt} (rx : Rp K H x d) : decide (x = .non) = d.isN := by
  cases rx <;> rfl
theorem rd_isN (K : PySem.W.Frag) : RD K (fun x y H Q => y = .non ∧ Q (.bl (decide (x = .non))) H) fun d e Q => e = .non ∧ Q (.bl d.isN) := by
  intro x y d e H0 H Q Qv hx rx ry h k
  obtain ⟨rfl, q⟩ := h
  cases ry
  exact ⟨rfl, k _ _ H0 H (.refl hx) (.bl _) (by rw [rp_isN rx]; exact q)⟩
theorem rd_notN (K : PySem.W.Frag) : RD K (fun x y H Q => y = .non ∧ Q (.bl (!decide (x = .non))) H) fun d e Q => e = .non ∧ Q (.bl (!d.isN)) := by
  intro x y d e H0 H Q Qv hx rx ry h k
  obtain ⟨rfl, q⟩ := h
  cases ry
  exact ⟨rfl, k _ _ H0 H (.refl hx) (.bl _) (by rw [rp_isN rx]; exact q)⟩
theorem je_isN {j : Nat} {p2 : Pos} (h : JE J a ρ fun d ρ1 => Q (.bl d.isN) ρ1) : JE J (.Compare a [.Is] [.Constant .none j p2] pos) ρ Q :=
  je_op2 (pe_cmpR op_isN pe_sem pe_sem (nomark _)) (rd_isN _) fun σ H0 H E R Qv hq => h σ H0 H E R Qv fun v d ρ' H0' H' P r q => hq v d ρ' H0' H' P r (je_non ⟨rfl, q⟩)
theorem je_notN {j : Nat} {p2 : Pos} (h : JE J a ρ fun d ρ1 => Q (.bl (!d.isN)) ρ1) : JE J (.Compare a [.IsNot] [.Constant .none j p2] pos) ρ Q :=
  je_op2 (pe_cmpR op_notN pe_sem pe_sem (nomark _)) (rd_notN _) fun σ H0 H E R Qv hq => h σ H0 H E R Qv fun v d ρ' H0' H' P r q => hq v d ρ' H0' H' P r (je_non ⟨rfl, q⟩)

/-! ### tests -/
theorem je_mono {Q' : Dt → List Sl → Prop} (h : JE J e ρ Q) (k : ∀ d ρ', Q d ρ' → Q' d ρ') : JE J e ρ Q' := fun σ H0 H E R Qv hq => h σ H0 H E R Qv fun v d ρ' H0' H' P r q => hq v d ρ' H0' H' P r (k d ρ' q)
theorem jt_mono {Q' : Bool → List Sl → Prop} (h : JT J e ρ QB) (k : ∀ d ρ', QB d ρ' → Q' d ρ') : JT J e ρ Q' := fun σ H0 H E R Qv hq => h σ H0 H E R Qv fun v ρ' H0' H' P q => hq v ρ' H0' H' P (k v ρ' q)
/-- a value that is a bool, as a test: he as in the layer -/
theorem jt_val (h : JE J e ρ fun d ρ1 => ∃ k, d = .bl k ∧ QB k ρ1) (he : ∀ whole, isTrue e J.X.env whole = (do let v ← whole; standAt e.pos; holding [v] (truthy v)) := by intro _; rfl) : JT J e ρ QB := by
  intro σ H0 H E R Qv hq
  refine semT_of (pt_val (t := tSem J.X e) pe_sem he) ?_
  refine h σ H0 H E R _ fun v d ρ' H0' H' P r q => ?_
  obtain ⟨k, rfl, q⟩ := q
  cases r
  exact ⟨k, rfl, hq k ρ' H0' H' P q⟩
theorem jt_of {t : TE} (hp : PT J.X e (tTest t)) (hs : ∀ (σ : L2.St) (H : Hp) (Qv : VK), tSem J.X e σ H Qv → t σ H Qv) : True := trivial
/-- a comparison as a test -/
theorem jt_op2 {r : R2} {rd : Dt → Dt → (Dt → Prop) → Prop} (hp : PT J.X e (tTest (tOp r (tSem J.X a) (tSem J.X b)))) (hr : RD J.X.K r rd)
    (h : JE J a ρ fun d ρ1 => JE J b ρ1 fun f ρ2 => rd d f fun z => ∃ k, z = .bl k ∧ QB k ρ2) : JT J e ρ QB := by
  intro σ H0 H E R Qv hq
  refine semT_of hp ?_
  refine h σ H0 H E R _ fun v d ρ1 H01 H1 P1 rx q1 => ?_
  refine q1 σ H01 H1 P1.env (P1.rc R) _ fun u f ρ2 H02 H2 P2 ry q2 => ?_
  refine hr v u d f H02 H2 _ _ P2.env.ex (rx.mono P2.stp.ex) ry q2 fun w z H0' H' s rz q3 => ?_
  obtain ⟨k, rfl, q3⟩ := q3
  cases rz
  exact ⟨k, rfl, hq k ρ2 H0' H' ((P1.trans P2).then s) q3⟩
theorem jt_lt (h : JE J a ρ fun d ρ1 => JE J b ρ1 fun f ρ2 => ∃ i j, d = .int i ∧ f = .int j ∧ QB (decide (i < j)) ρ2) : JT J (.Compare a [.Lt] [b] pos) ρ QB :=
  jt_op2 (pt_cmpR op_lt pe_sem pe_sem (nomark _)) (rd_I0 (fun _ _ i j => .bl (decide (i < j))) _) (je_mono h fun d ρ1 h => je_mono h fun f ρ2 ⟨i, j, h1, h2, q⟩ => ⟨i, j, h1, h2, _, rfl, q⟩)
theorem jt_le (h : JE J a ρ fun d ρ1 => JE J b ρ1 fun f ρ2 => ∃ i j, d = .int i ∧ f = .int j ∧ QB (decide (i ≤ j)) ρ2) : JT J (.Compare a [.LtE] [b] pos) ρ QB :=
  jt_op2 (pt_cmpR op_le pe_sem pe_sem (nomark _)) (rd_I0 (fun _ _ i j => .bl (decide (i ≤ j))) _) (je_mono h fun d ρ1 h => je_mono h fun f ρ2 ⟨i, j, h1, h2, q⟩ => ⟨i, j, h1, h2, _, rfl, q⟩)
theorem jt_gt (h : JE J a ρ fun d ρ1 => JE J b ρ1 fun f ρ2 => ∃ i j, d = .int i ∧ f = .int j ∧ QB (decide (j < i)) ρ2) : JT J (.Compare a [.Gt] [b] pos) ρ QB :=
  jt_op2 (pt_cmpR op_gt pe_sem pe_sem (nomark _)) (rd_I0 (fun _ _ i j => .bl (decide (j < i))) _) (je_mono h fun d ρ1 h => je_mono h fun f ρ2 ⟨i, j, h1, h2, q⟩ => ⟨i, j, h1, h2, _, rfl, q⟩)
theorem jt_ge (h : JE J a ρ fun d ρ1 => JE J b ρ1 fun f ρ2 => ∃ i j, d = .int i ∧ f = .int j ∧ QB (decide (j ≤ i)) ρ2) : JT J (.Compare a [.GtE] [b] pos) ρ QB :=
  jt_op2 (pt_cmpR op_ge pe_sem pe_sem (nomark _)) (rd_I0 (fun _ _ i j => .bl (decide (j ≤ i))) _) (je_mono h fun d ρ1 h => je_mono h fun f ρ2 ⟨i, j, h1, h2, q⟩ => ⟨i, j, h1, h2, _, rfl, q⟩)
def rtEq (d e : Dt) (Q : Bool → Prop) : Prop := Dt.sc d e = true ∧ Q (decide (d.v = e.v))
def rtNe (d e : Dt) (Q : Bool → Prop) : Prop := Dt.sc d e = true ∧ Q (!decide (d.v = e.v))
theorem jt_eq (h : JE J a ρ fun d ρ1 => JE J b ρ1 fun f ρ2 => rtEq d f fun z => QB z ρ2) : JT J (.Compare a [.Eq] [b] pos) ρ QB :=
  jt_op2 (pt_cmpR op_eq pe_sem pe_sem (nomark _)) (rd_eq _) (je_mono h fun d ρ1 h => je_mono h fun f ρ2 ⟨h1, q⟩ => ⟨h1, _, rfl, q⟩)
theorem jt_ne (h : JE J a ρ fun d ρ1 => JE J b ρ1 fun f ρ2 => rtNe d f fun z => QB z ρ2) : JT J (.Compare a [.NotEq] [b] pos) ρ QB :=
  jt_op2 (pt_cmpR op_ne pe_sem pe_sem (nomark _)) (rd_ne _) (je_mono h fun d ρ1 h => je_mono h fun f ρ2 ⟨h1, q⟩ => ⟨h1, _, rfl, q⟩)
theorem jt_isN {j : Nat} {p2 : Pos} (h : JE J a ρ fun d ρ1 => QB d.isN ρ1) : JT J (.Compare a [.Is] [.Constant .none j p2] pos) ρ QB :=
  jt_op2 (pt_cmpR op_isN pe_sem pe_sem (nomark _)) (rd_isN _) (je_mono h fun d ρ1 q => je_non ⟨rfl, _, rfl, q⟩)
theorem jt_notN {j : Nat} {p2 : Pos} (h : JE J a ρ fun d ρ1 => QB (!d.isN) ρ1) : JT J (.Compare a [.IsNot] [.Constant .none j p2] pos) ρ QB :=
  jt_op2 (pt_cmpR op_notN pe_sem pe_sem (nomark _)) (rd_notN _) (je_mono h fun d ρ1 q => je_non ⟨rfl, _, rfl, q⟩)
theorem jt_not (h : JT J a ρ fun b ρ1 => QB (!b) ρ1) : JT J (.UnaryOp .Not a pos) ρ QB := by
  intro σ H0 H E R Qv hq
  refine semT_of (pt_not pt_sem) ?_
  exact h σ H0 H E R _ fun b ρ' H0' H' P q => hq (!b) ρ' H0' H' P q
/-! and, or as tests -/
def wSem (X : Cx) (e : Expr) : TT := fun σ H Q => ∀ (wh : Sem Value) (pins : List (Addr × Obj)) (s : Shared), Inv X pins σ H s → wpAny (model X.prog X.w) X.A (isTrue e X.env wh) (TP X pins σ Q) X.xe s
theorem pw_sem {X : Cx} : PW X e (wSem X e) := ⟨fun wh pins s _ _ _ I h => h wh pins s I⟩
theorem semW_of {X : Cx} {tt : TT} {σ : L2.St} {H : Hp} {Q : Bool → Hp → Prop} (h : PW X e tt) (q : tt σ H Q) : wSem X e σ H Q := fun wh pins s I => h.run wh pins s σ H Q I q
def JW (J : Jx) (e : Expr) (ρ : List Sl) (Q : Bool → List Sl → Prop) : Prop :=
  ∀ (σ : L2.St) (H0 H : Hp), EnvD J.X.K H0 H σ ρ → Rc J.N σ ρ H0 H → ∀ Qv : Bool → Hp → Prop,
    (∀ b ρ' H0' H', Post J.X.K σ ρ H0 H ρ' H0' H' → Q b ρ' → Qv b H') → wSem J.X e σ H Qv
theorem jt_w (h : JW J e ρ QB) : JT J e ρ QB := fun σ H0 H E R Qv hq => semT_of (PW.pt pw_sem) (h σ H0 H E R Qv hq)
theorem jw_and1 (h : JT J a ρ QB) : JW J (.BoolOp .And [a] pos) ρ QB := fun σ H0 H E R Qv hq => semW_of (pw_and1 pt_sem) (h σ H0 H E R Qv hq)
theorem jw_or1 (h : JT J a ρ QB) : JW J (.BoolOp .Or [a] pos) ρ QB := fun σ H0 H E R Qv hq => semW_of (pw_or1 pt_sem) (h σ H0 H E R Qv hq)
theorem jw_and (h : JT J a ρ fun k ρ1 => (k = true → JW J (.BoolOp .And (b :: rest) pos) ρ1 QB) ∧ (k = false → QB false ρ1)) : JW J (.BoolOp .And (a :: b :: rest) pos) ρ QB := by
  intro σ H0 H E R Qv hq
  refine semW_of (pw_and pt_sem pw_sem) ?_
  refine h σ H0 H E R _ fun k ρ' H0' H' P q => ?_
  cases k with
  | true =>
    rw [if_pos rfl]
    exact q.1 rfl σ H0' H' P.env (P.rc R) _ fun b ρ2 H02 H2 P2 q2 => hq b ρ2 H02 H2 (P.trans P2) q2
  | false =>
    rw [if_neg Bool.false_ne_true]
    exact hq false ρ' H0' H' P (q.2 rfl)
theorem jw_or (h : JT J a ρ fun k ρ1 => (k = false → JW J (.BoolOp .Or (b :: rest) pos) ρ1 QB) ∧ (k = true → QB true ρ1)) : JW J (.BoolOp .Or (a :: b :: rest) pos) ρ QB := by
  intro σ H0 H E R Qv hq
  refine semW_of (pw_or pt_sem pw_sem) ?_
  refine h σ H0 H E R _ fun k ρ' H0' H' P q => ?_
  cases k with
  | false =>
    rw [if_neg Bool.false_ne_true]
    exact q.1 rfl σ H0' H' P.env (P.rc R) _ fun b ρ2 H02 H2 P2 q2 => hq b ρ2 H02 H2 (P.trans P2) q2
  | true =>
    rw [if_pos rfl]
    exact hq true ρ' H0' H' P (q.2 rfl)
/-! as values -/
theorem je_one {op : BoolOp} (h : JE J a ρ Q) : JE J (.BoolOp op [a] pos) ρ Q := fun σ H0 H E R Qv hq => sem_of (pe_one pe_sem) (h σ H0 H E R Qv hq)
theorem je_and (h : JE J a ρ fun d ρ1 => ∃ k, d = .bl k ∧ (k = true → JE J (.BoolOp .And (b :: rest) pos) ρ1 Q) ∧ (k = false → Q (.bl false) ρ1)) : JE J (.BoolOp .And (a :: b :: rest) pos) ρ Q := by
  intro σ H0 H E R Qv hq
  refine sem_of (pe_and pe_sem pe_sem) ?_
  refine h σ H0 H E R _ fun v d ρ' H0' H' P r q => ?_
  obtain ⟨k, rfl, q1, q2⟩ := q
  cases r
  refine ⟨k, rfl, ?_⟩
  cases k with
  | true =>
    rw [if_pos rfl]
    exact q1 rfl σ H0' H' P.env (P.rc R) _ fun w f ρ2 H02 H2 P2 r2 q2 => hq w f ρ2 H02 H2 (P.trans P2) r2 q2
  | false =>
    rw [if_neg Bool.false_ne_true]
    exact hq _ _ ρ' H0' H' P (.bl _) (q2 rfl)
theorem je_or (h : JE J a ρ fun d ρ1 => ∃ k, d = .bl k ∧ (k = false → JE J (.BoolOp .Or (b :: rest) pos) ρ1 Q) ∧ (k = true → Q (.bl true) ρ1)) : JE J (.BoolOp .Or (a :: b :: rest) pos) ρ Q := by
  intro σ H0 H E R Qv hq
  refine sem_of (pe_or pe_sem pe_sem) ?_
  refine h σ H0 H E R _ fun v d ρ' H0' H' P r q => ?_
  obtain ⟨k, rfl, q1, q2⟩ := q
  cases r
  refine ⟨k, rfl, ?_⟩
  cases k with
  | false =>
    rw [if_neg Bool.false_ne_true]
    exact q1 rfl σ H0' H' P.env (P.rc R) _ fun w f ρ2 H02 H2 P2 r2 q2 => hq w f ρ2 H02 H2 (P.trans P2) r2 q2
  | true =>
    rw [if_pos rfl]
    exact hq _ _ ρ' H0' H' P (.bl _) (q2 rfl)
theorem je_not (h : JE J a ρ fun d ρ1 => ∃ k, d = .bl k ∧ Q (.bl (!k)) ρ1) : JE J (.UnaryOp .Not a pos) ρ Q := by
  intro σ H0 H E R Qv hq
  refine sem_of (pe_not pe_sem) ?_
  refine h σ H0 H E R _ fun v d ρ' H0' H' P r q => ?_
  obtain ⟨k, rfl, q⟩ := q
  cases r
  exact ⟨k, rfl, hq _ _ ρ' H0' H' P (.bl _) q⟩
theorem je_neg (h : JE J a ρ fun d ρ1 => ∃ i, d = .int i ∧ Q (.int (-i)) ρ1) : JE J (.UnaryOp .USub a pos) ρ Q := by
  intro σ H0 H E R Qv hq
  refine sem_of (pe_un un_neg pe_sem) ?_
  refine h σ H0 H E R _ fun v d ρ' H0' H' P r q => ?_
  obtain ⟨k, rfl, q⟩ := q
  cases r
  exact ⟨k, rfl, hq _ _ ρ' H0' H' P (.int _) q⟩
theorem je_if (h : JT J c ρ fun k ρ1 => (k = true → JE J a ρ1 Q) ∧ (k = false → JE J b ρ1 Q)) : JE J (.IfExp c a b pos) ρ Q := by
  intro σ H0 H E R Qv hq
  refine sem_of (pe_ifExp pt_sem pe_sem pe_sem) ?_
  refine h σ H0 H E R _ fun k ρ' H0' H' P q => ?_
  cases k with
  | true =>
    rw [if_pos rfl]
    exact q.1 rfl σ H0' H' P.env (P.rc R) _ fun w f ρ2 H02 H2 P2 r2 q2 => hq w f ρ2 H02 H2 (P.trans P2) r2 q2
  | false =>
    rw [if_neg Bool.false_ne_true]
    exact q.2 rfl σ H0' H' P.env (P.rc R) _ fun w f ρ2 H02 H2 P2 r2 q2 => hq w f ρ2 H02 H2 (P.trans P2) r2 q2
/-! chains of two -/
theorem je_chain {r r' : R2} {rd rd' : Dt → Dt → (Dt → Prop) → Prop} (hp : PE J.X e (tChain r r' (tSem J.X a) (tSem J.X b) (tSem J.X c))) (hr : RD J.X.K r rd) (hr' : RD J.X.K r' rd')
    (h : JE J a ρ fun d ρ1 => JE J b ρ1 fun f ρ2 => rd d f fun z => ∃ k, z = .bl k ∧ (k = true → JE J c ρ2 fun g ρ3 => rd' f g fun z => Q z ρ3) ∧ (k = false → Q (.bl false) ρ2)) : JE J e ρ Q := by
  intro σ H0 H E R Qv hq
  refine sem_of hp ?_
  refine h σ H0 H E R _ fun v d ρ1 H01 H1 P1 rx q1 => ?_
  refine q1 σ H01 H1 P1.env (P1.rc R) _ fun u f ρ2 H02 H2 P2 ry q2 => ?_
  refine hr v u d f H02 H2 _ _ P2.env.ex (rx.mono P2.stp.ex) ry q2 fun w z H03 H3 s rz q3 => ?_
  obtain ⟨k, rfl, q3, q4⟩ := q3
  cases rz
  have P3 := (P1.trans P2).then s
  refine ⟨k, rfl, ?_⟩
  cases k with
  | false =>
    rw [if_neg Bool.false_ne_true]
    exact hq _ _ ρ2 H03 H3 P3 (.bl _) (q4 rfl)
  | true =>
    rw [if_pos rfl]
    refine q3 rfl σ H03 H3 P3.env (P3.rc R) _ fun w g ρ4 H04 H4 P4 rw q5 => ?_
    exact hr' u w f g H04 H4 _ _ P4.env.ex ((ry.mono s.ex).mono P4.stp.ex) rw q5 fun w z H0' H' s' rz q6 => hq w z ρ4 H0' H' ((P3.trans P4).then s') rz q6
end
end Dw

namespace Dw
open PySem PySem.Spec PyProof.Rows L2
open Evl (Ex)
section
variable {J : Jx} {e a b c : Expr} {es rest : List Expr} {ρ : List Sl} {Q : Dt → List Sl → Prop} {QB : Bool → List Sl → Prop} {QA : List Ag → List Sl → Prop} {QN : List Dt → List Sl → Prop} {x : Str} {pos : Pos}
/-! ### chains -/
theorem je_chLeLt (h : JE J a ρ fun d ρ1 => JE J b ρ1 fun f ρ2 => ∃ i j, d = .int i ∧ f = .int j ∧ (i ≤ j → JE J c ρ2 fun g ρ3 => ∃ k, g = .int k ∧ Q (.bl (decide (j < k))) ρ3) ∧ (¬ i ≤ j → Q (.bl false) ρ2)) (hm : lastMarks [.LtE, .Lt] [b, c] = false := by with_unfolding_all rfl) :
    JE J (.Compare a [.LtE, .Lt] [b, c] pos) ρ Q :=
  je_chain (pe_chain op_le op_lt pe_sem pe_sem pe_sem hm) (rd_I0 (fun _ _ i j => .bl (decide (i ≤ j))) _) (rd_I0 (fun _ _ i j => .bl (decide (i < j))) _)
    (je_mono h fun d ρ1 h => je_mono h fun f ρ2 ⟨i, j, h1, h2, q1, q2⟩ => ⟨i, j, h1, h2, _, rfl, fun hk => je_mono (q1 (of_decide_eq_true hk)) fun g ρ3 ⟨k, e, q⟩ => ⟨j, k, h2, e, q⟩, fun hk => q2 (of_decide_eq_false hk)⟩)
theorem je_chLeLe (h : JE J a ρ fun d ρ1 => JE J b ρ1 fun f ρ2 => ∃ i j, d = .int i ∧ f = .int j ∧ (i ≤ j → JE J c ρ2 fun g ρ3 => ∃ k, g = .int k ∧ Q (.bl (decide (j ≤ k))) ρ3) ∧ (¬ i ≤ j → Q (.bl false) ρ2)) (hm : lastMarks [.LtE, .LtE] [b, c] = false := by with_unfolding_all rfl) :
    JE J (.Compare a [.LtE, .LtE] [b, c] pos) ρ Q :=
  je_chain (pe_chain op_le op_le pe_sem pe_sem pe_sem hm) (rd_I0 (fun _ _ i j => .bl (decide (i ≤ j))) _) (rd_I0 (fun _ _ i j => .bl (decide (i ≤ j))) _)
    (je_mono h fun d ρ1 h => je_mono h fun f ρ2 ⟨i, j, h1, h2, q1, q2⟩ => ⟨i, j, h1, h2, _, rfl, fun hk => je_mono (q1 (of_decide_eq_true hk)) fun g ρ3 ⟨k, e, q⟩ => ⟨j, k, h2, e, q⟩, fun hk => q2 (of_decide_eq_false hk)⟩)
/-- a chain as a test, by the chain as a value -/
theorem jt_chain {r r' : R2} {rd rd' : Dt → Dt → (Dt → Prop) → Prop} (hp : PT J.X e (tTest (tChain r r' (tSem J.X a) (tSem J.X b) (tSem J.X c)))) (hr : RD J.X.K r rd) (hr' : RD J.X.K r' rd')
    (h : JE J a ρ fun d ρ1 => JE J b ρ1 fun f ρ2 => rd d f fun z => ∃ k, z = .bl k ∧ (k = true → JE J c ρ2 fun g ρ3 => rd' f g fun z => ∃ k, z = .bl k ∧ QB k ρ3) ∧ (k = false → QB false ρ2)) : JT J e ρ QB := by
  intro σ H0 H E R Qv hq
  refine semT_of hp ?_
  refine h σ H0 H E R _ fun v d ρ1 H01 H1 P1 rx q1 => ?_
  refine q1 σ H01 H1 P1.env (P1.rc R) _ fun u f ρ2 H02 H2 P2 ry q2 => ?_
  refine hr v u d f H02 H2 _ _ P2.env.ex (rx.mono P2.stp.ex) ry q2 fun w z H03 H3 s rz q3 => ?_
  obtain ⟨k, rfl, q3, q4⟩ := q3
  cases rz
  have P3 := (P1.trans P2).then s
  refine ⟨k, rfl, ?_⟩
  cases k with
  | false =>
    rw [if_neg Bool.false_ne_true]
    exact ⟨_, rfl, hq _ ρ2 H03 H3 P3 (q4 rfl)⟩
  | true =>
    rw [if_pos rfl]
    refine q3 rfl σ H03 H3 P3.env (P3.rc R) _ fun w g ρ4 H04 H4 P4 rw q5 => ?_
    refine hr' u w f g H04 H4 _ _ P4.env.ex ((ry.mono s.ex).mono P4.stp.ex) rw q5 fun w z H0' H' s' rz q6 => ?_
    obtain ⟨k, rfl, q6⟩ := q6
    cases rz
    exact ⟨_, rfl, hq k ρ4 H0' H' ((P3.trans P4).then s') q6⟩
theorem jt_chLeLt (h : JE J a ρ fun d ρ1 => JE J b ρ1 fun f ρ2 => ∃ i j, d = .int i ∧ f = .int j ∧ (i ≤ j → JE J c ρ2 fun g ρ3 => ∃ k, g = .int k ∧ QB (decide (j < k)) ρ3) ∧ (¬ i ≤ j → QB false ρ2)) (hm : lastMarks [.LtE, .Lt] [b, c] = false := by with_unfolding_all rfl) :
    JT J (.Compare a [.LtE, .Lt] [b, c] pos) ρ QB :=
  jt_chain (pt_chain op_le op_lt pe_sem pe_sem pe_sem hm) (rd_I0 (fun _ _ i j => .bl (decide (i ≤ j))) _) (rd_I0 (fun _ _ i j => .bl (decide (i < j))) _)
    (je_mono h fun d ρ1 h => je_mono h fun f ρ2 ⟨i, j, h1, h2, q1, q2⟩ => ⟨i, j, h1, h2, _, rfl, fun hk => je_mono (q1 (of_decide_eq_true hk)) fun g ρ3 ⟨k, e, q⟩ => ⟨j, k, h2, e, _, rfl, q⟩, fun hk => q2 (of_decide_eq_false hk)⟩)
theorem jt_chLeLe (h : JE J a ρ fun d ρ1 => JE J b ρ1 fun f ρ2 => ∃ i j, d = .int i ∧ f = .int j ∧ (i ≤ j → JE J c ρ2 fun g ρ3 => ∃ k, g = .int k ∧ QB (decide (j ≤ k)) ρ3) ∧ (¬ i ≤ j → QB false ρ2)) (hm : lastMarks [.LtE, .LtE] [b, c] = false := by with_unfolding_all rfl) :
    JT J (.Compare a [.LtE, .LtE] [b, c] pos) ρ QB :=
  jt_chain (pt_chain op_le op_le pe_sem pe_sem pe_sem hm) (rd_I0 (fun _ _ i j => .bl (decide (i ≤ j))) _) (rd_I0 (fun _ _ i j => .bl (decide (i ≤ j))) _)
    (je_mono h fun d ρ1 h => je_mono h fun f ρ2 ⟨i, j, h1, h2, q1, q2⟩ => ⟨i, j, h1, h2, _, rfl, fun hk => je_mono (q1 (of_decide_eq_true hk)) fun g ρ3 ⟨k, e, q⟩ => ⟨j, k, h2, e, _, rfl, q⟩, fun hk => q2 (of_decide_eq_false hk)⟩)

/-! ### arguments -/
theorem ja_nil (q : QA [] ρ) : JA J [] ρ QA := fun σ H0 H E R Qv hq => semA_of pa_nil (hq [] [] ρ H0 H (.refl E) .nil q)
theorem ja_cons (h : JE J e ρ fun d ρ1 => JA J es ρ1 fun ags ρ2 => QA (.v d :: ags) ρ2) (hs : starEach (e :: es) J.X.env = (false, eval e J.X.env) :: starEach es J.X.env := by rfl) : JA J (e :: es) ρ QA := by
  intro σ H0 H E R Qv hq
  refine semA_of (pa_cons pe_sem pa_sem hs) ?_
  refine h σ H0 H E R _ fun v d ρ1 H01 H1 P1 rx q1 => ?_
  refine q1 σ H01 H1 P1.env (P1.rc R) _ fun vs ags ρ2 H02 H2 P2 ry q2 => ?_
  exact hq (v :: vs) (.v d :: ags) ρ2 H02 H2 (P1.trans P2) (.cons (Rp.mono P2.stp.ex rx) ry) q2
theorem ja_own {i : Nat} {ds : List Dt} {p2 : Pos} (hr : ρ[i]? = some (.own ds)) (h : JA J es ρ fun ags ρ2 => QA (.b i :: ags) ρ2) (hN : J.X.N[i]? = some x := by rfl) (hv : Vis J.X.env.scope x := by first | exact Or.inl rfl | exact Or.inr (Or.inl rfl) | exact Or.inr (Or.inr rfl))
    (hd : (x == ("__debug__" : Str)) = false := by decide) (hcd : (x == ("__classdict__" : Str)) = false := by decide)
    (hs : starEach (.Name x p2 :: es) J.X.env = (false, eval (.Name x p2) J.X.env) :: starEach es J.X.env := by rfl) : JA J (.Name x p2 :: es) ρ QA := by
  intro σ H0 H E R Qv hq
  refine semA_of (pa_cons (pe_var (i := i) hN hv hd hcd) pa_sem hs) ?_
  obtain ⟨p, vs, es, _⟩ := E.own hr
  refine ⟨.ref p, es, ?_⟩
  refine h σ H0 H E R _ fun us ags ρ2 H02 H2 P2 ry q2 => ?_
  have ha : AgR J.X.K H0 σ ρ (.ref p) (.b i) := ⟨_, hr, rfl, es⟩
  exact hq (.ref p :: us) (.b i :: ags) ρ2 H02 H2 P2 (.cons (ha.mono P2.stp.ex P2.same) ry) q2
/-- values alone -/
def JV (J : Jx) (es : List Expr) (ρ : List Sl) (Q : List Dt → List Sl → Prop) : Prop :=
  ∀ (σ : L2.St) (H0 H : Hp), EnvD J.X.K H0 H σ ρ → Rc J.N σ ρ H0 H → ∀ Qv : List V → Hp → Prop,
    (∀ vs ds ρ' H0' H', Post J.X.K σ ρ H0 H ρ' H0' H' → RpA J.X.K H0' vs ds → Q ds ρ' → Qv vs H') → aSem J.X es σ H Qv
theorem jv_nil (q : QN [] ρ) : JV J [] ρ QN := fun σ H0 H E R Qv hq => semA_of pa_nil (hq [] [] ρ H0 H (.refl E) .nil q)
theorem jv_cons (h : JE J e ρ fun d ρ1 => JV J es ρ1 fun ds ρ2 => QN (d :: ds) ρ2) (hs : starEach (e :: es) J.X.env = (false, eval e J.X.env) :: starEach es J.X.env := by rfl) : JV J (e :: es) ρ QN := by
  intro σ H0 H E R Qv hq
  refine semA_of (pa_cons pe_sem pa_sem hs) ?_
  refine h σ H0 H E R _ fun v d ρ1 H01 H1 P1 rx q1 => ?_
  refine q1 σ H01 H1 P1.env (P1.rc R) _ fun vs ags ρ2 H02 H2 P2 ry q2 => ?_
  exact hq (v :: vs) (d :: ags) ρ2 H02 H2 (P1.trans P2) (.cons (Rp.mono P2.stp.ex rx) ry) q2
/-! ### displays -/
theorem sz6 {n : Nat} (h : n ≤ 1000000) : n ≤ sizeLine := Nat.le_trans h (by decide)
theorem je_tup {j : Nat} (h : JV J es ρ fun ds ρ1 => ds.length ≤ 1000000 ∧ Q (.tup ds) ρ1) : JE J (.Tuple es j pos) ρ Q := by
  intro σ H0 H E R Qv hq
  refine sem_of (pe_tup pa_sem) ?_
  refine h σ H0 H E R _ fun vs ds ρ1 H01 H1 P1 rx q1 => ?_
  refine ⟨sz6 (by rw [rx.len]; exact q1.1), fun p hp => ?_⟩
  refine hq _ _ ρ1 _ _ (P1.then (Stp.alloc P1.env.ex hp)) (.tup (Evl.st_of upd_same) (rx.mono (Evl.Ex.new (Evl.fresh_back P1.env.ex hp)))) q1.2
theorem jn_lst (h : JV J es ρ fun ds ρ1 => ds.length ≤ 1000000 ∧ QN ds ρ1) : JN J (.List es pos) ρ QN := by
  intro σ H0 H E R Qv hq
  refine sem_of (pe_lst pa_sem) ?_
  refine h σ H0 H E R _ fun vs ds ρ1 H01 H1 P1 rx q1 => ?_
  refine ⟨sz6 (by rw [rx.len]; exact q1.1), fun p hp => ?_⟩
  have hp0 : H p = none := by
    cases eH : H p with
    | none => rfl
    | some o =>
      by_cases ow : Own σ ρ p
      · exact absurd hp (P1.env.ownH (P1.same.own ow)).2
      · rw [P1.stp.fr p o ow eH] at hp
        cases hp
  exact hq p vs ds ρ1 H01 _ (P1.then (Stp.allocO P1.env.ex hp)) hp0 (Evl.fresh_back P1.env.ex hp) upd_same rx q1.2
theorem je_new (h : JN J e ρ fun ds ρ1 => Q (.lst ds) ρ1) : JE J e ρ Q := by
  intro σ H0 H E R Qv hq
  refine h σ H0 H E R _ fun p vs ds ρ1 H01 H1 P1 hp h0 h1 r q => ?_
  exact hq _ _ ρ1 _ H1 (P1.freeze E hp h0 h1) (.lst (Evl.sq_of upd_same) (r.mono (Evl.Ex.new h0))) q
theorem Post.back {K : PySem.W.Frag} {H0 H H0' H' : Hp} {σ : L2.St} {ρ ρ' : List Sl} (P : Post K σ ρ H0 H ρ' H0' H') {p : Addr} (hp : H' p = none) : H p = none := by
  cases eH : H p with
  | none => rfl
  | some o =>
    by_cases ow : Own σ ρ p
    · exact absurd hp (P.env.ownH (P.same.own ow)).2
    · rw [P.stp.fr p o ow eH] at hp
      cases hp
/-! ### subscripts -/
def Dt.at_ : Dt → Int → Option Dt
  | .tup ds, i => atI ds i
  | .lst ds, i => atI ds i
  | _, _ => none
theorem RpA.atI {K : PySem.W.Frag} {H : Hp} {vs : List V} {ds : List Dt} {i : Int} {d : Dt} (r : RpA K H vs ds) (h : atI ds i = some d) : ∃ v, L2.atI vs i = some v ∧ Rp K H v d := by
  unfold L2.atI at h ⊢
  rw [r.len]
  cases e : ixN ds.length i with
  | none => rw [e] at h; cases h
  | some j =>
    rw [e] at h
    exact r.get h
def rdIx (d e : Dt) (Q : Dt → Prop) : Prop := ∃ i f, e = .int i ∧ d.at_ i = some f ∧ Q f
theorem rd_ix (K : PySem.W.Frag) : RD K (rIx K) rdIx := by
  intro x y d e H0 H Q Qv hx rx ry h k
  obtain ⟨i, f, rfl, hf, q⟩ := h
  cases ry
  cases rx with
  | lst hs r =>
    obtain ⟨v, h1, h2⟩ := RpA.atI r hf
    exact .inl ⟨_, _, i, v, rfl, rfl, Evl.ex_l hx hs, h1, k v f H0 H (.refl hx) h2 q⟩
  | tup hs r =>
    obtain ⟨v, h1, h2⟩ := RpA.atI r hf
    exact .inr (.inl ⟨_, _, i, v, rfl, rfl, Evl.ex_t hx hs, h1, k v f H0 H (.refl hx) h2 q⟩)
  | _ => cases hf
theorem je_ix (h : JE J a ρ fun d ρ1 => JE J b ρ1 fun f ρ2 => rdIx d f fun z => Q z ρ2) (hs : PlainIx b := by exact fun _ _ => rfl) : JE J (.Subscript a b pos) ρ Q :=
  je_op2 (pe_ix ix_seq pe_sem pe_sem hs) (rd_ix _) h
/-- an item of an own list -/
theorem je_ixOwn {i : Nat} {ds0 : List Dt} {p2 : Pos} (hr : ρ[i]? = some (.own ds0)) (h : JE J b ρ fun f ρ2 => ∃ ds k z, ρ2[i]? = some (.own ds) ∧ f = .int k ∧ atI ds k = some z ∧ Q z ρ2) (hs : PlainIx b := by exact fun _ _ => rfl)
    (hN : J.X.N[i]? = some x := by rfl) (hv : Vis J.X.env.scope x := by first | exact Or.inl rfl | exact Or.inr (Or.inl rfl) | exact Or.inr (Or.inr rfl))
    (hd : (x == ("__debug__" : Str)) = false := by decide) (hcd : (x == ("__classdict__" : Str)) = false := by decide) : JE J (.Subscript (.Name x p2) b pos) ρ Q := by
  intro σ H0 H E R Qv hq
  refine sem_of (pe_ix ix_list (pe_var (i := i) hN hv hd hcd) pe_sem hs) ?_
  obtain ⟨p, vs, es, _⟩ := E.own hr
  refine ⟨.ref p, es, ?_⟩
  refine h σ H0 H E R _ fun u f ρ2 H02 H2 P2 ry q2 => ?_
  obtain ⟨ds, k, z, hr2, rfl, hk, q⟩ := q2
  cases ry
  obtain ⟨p', vs', es', z0, l, r⟩ := P2.env.own hr2
  rw [es] at es'
  cases es'
  obtain ⟨v, h1, h2⟩ := RpA.atI r hk
  exact ⟨p, vs', k, v, rfl, rfl, SqL.of l, h1, hq v z ρ2 H02 H2 P2 h2 q⟩
/-! ### built-in calls of values -/
theorem je_cb {id : String} {r : List V → Hp → VK → Prop} (hp : PE J.X e (tCB r (aSem J.X es))) {rd : List Dt → (Dt → Prop) → Prop}
    (hr : ∀ vs ds H0 H (Qd : Dt → Prop) (Qv : VK), Ex H0 H → RpA J.X.K H0 vs ds → rd ds Qd → (∀ v f H0' H', Stp A0 H0 H H0' H' → Rp J.X.K H0' v f → Qd f → Qv v H') → r vs H Qv)
    (h : JV J es ρ fun ds ρ1 => rd ds fun z => Q z ρ1) : JE J e ρ Q := by
  intro σ H0 H E R Qv hq
  refine sem_of hp ?_
  refine h σ H0 H E R _ fun vs ds ρ1 H01 H1 P1 rx q1 => ?_
  exact hr vs ds H01 H1 _ _ P1.env.ex rx q1 fun v f H0' H' s rv q => hq v f ρ1 H0' H' (P1.then s) rv q
def Dt.len? : Dt → Option Nat
  | .lst ds => some ds.length
  | .tup ds => some ds.length
  | _ => none
theorem je_len {p2 : Pos} (h : JE J a ρ fun d ρ1 => ∃ n, d.len? = some n ∧ Q (.int (n : Int)) ρ1) (hg : Gl J.X "len") (hm : J.X.mg "len" = none)
    (he : starEach (a :: []) J.X.env = (false, eval a J.X.env) :: starEach [] J.X.env := by rfl) : JE J (.Call (.Name "len" p2) [a] [] pos) ρ Q :=
  je_cb (id := "len") (pe_callB call_len_seq hg hm PySem.boot_len pa_sem (he := he)) (rd := fun ds Qd => ∃ d n, ds = [d] ∧ d.len? = some n ∧ Qd (.int (n : Int)))
    (by
      intro vs ds H0 H Qd Qv hx rx q k
      obtain ⟨d, n, rfl, hn, q⟩ := q
      cases rx with
      | cons r rn =>
        cases rn
        cases r with
        | lst hs r =>
          cases hn
          exact ⟨_, _, rfl, .inl (Evl.ex_l hx hs), by rw [r.len]; exact k _ _ H0 H (.refl hx) (.int _) q⟩
        | tup hs r =>
          cases hn
          exact ⟨_, _, rfl, .inr (Evl.ex_t hx hs), by rw [r.len]; exact k _ _ H0 H (.refl hx) (.int _) q⟩
        | _ => cases hn)
    (jv_cons (je_mono h fun d ρ1 ⟨n, hn, q⟩ => jv_nil ⟨d, n, rfl, hn, q⟩) he)
theorem je_lenOwn {i : Nat} {ds : List Dt} {p2 p3 : Pos} (hr : ρ[i]? = some (.own ds)) (q : Q (.int (ds.length : Int)) ρ) (hg : Gl J.X "len") (hm : J.X.mg "len" = none) (hN : J.X.N[i]? = some x := by rfl) (hv : Vis J.X.env.scope x := by first | exact Or.inl rfl | exact Or.inr (Or.inl rfl) | exact Or.inr (Or.inr rfl))
    (hd : (x == ("__debug__" : Str)) = false := by decide) (hcd : (x == ("__classdict__" : Str)) = false := by decide) (he : starEach (.Name x p3 :: []) J.X.env = (false, eval (.Name x p3) J.X.env) :: starEach [] J.X.env := by rfl) : JE J (.Call (.Name "len" p2) [.Name x p3] [] pos) ρ Q := by
  intro σ H0 H E R Qv hq
  refine sem_of (pe_callB call_len_seq hg hm PySem.boot_len (pa_cons (pe_var (i := i) hN hv hd hcd) pa_nil he)) ?_
  obtain ⟨p, vs, es, z0, l, r⟩ := E.own hr
  exact ⟨.ref p, es, p, vs, rfl, .inl (SqL.of l), by rw [r.len]; exact hq _ _ ρ H0 H (.refl E) (.int _) q⟩
theorem je_int1 {p2 : Pos} (h : JE J a ρ fun d ρ1 => ∃ i, d = .int i ∧ Q (.int i) ρ1) (hg : Gl J.X "int") (hm : J.X.mg "int" = none)
    (he : starEach (a :: []) J.X.env = (false, eval a J.X.env) :: starEach [] J.X.env := by rfl) : JE J (.Call (.Name "int" p2) [a] [] pos) ρ Q :=
  je_cb (id := "int") (pe_callTy call_int1 hg hm (by decide +kernel) pa_sem (he := he)) (rd := fun ds Qd => ∃ i, ds = [.int i] ∧ Qd (.int i))
    (by
      intro vs ds H0 H Qd Qv hx rx q k
      obtain ⟨i, rfl, q⟩ := q
      cases rx with
      | cons r rn =>
        cases rn
        cases r
        exact .inl ⟨i, rfl, k _ _ H0 H (.refl hx) (.int _) q⟩)
    (jv_cons (je_mono h fun d ρ1 ⟨n, hn, q⟩ => jv_nil ⟨n, by rw [hn], q⟩) he)
theorem je_abs {p2 : Pos} (h : JE J a ρ fun d ρ1 => ∃ i : Int, d = .int i ∧ Q (.int (if i < 0 then -i else i)) ρ1) (hg : Gl J.X "abs") (hm : J.X.mg "abs" = none)
    (he : starEach (a :: []) J.X.env = (false, eval a J.X.env) :: starEach [] J.X.env := by rfl) : JE J (.Call (.Name "abs" p2) [a] [] pos) ρ Q :=
  je_cb (id := "abs") (pe_callB call_abs hg hm (by decide +kernel) pa_sem (he := he)) (rd := fun ds Qd => ∃ i : Int, ds = [.int i] ∧ Qd (.int (if i < 0 then -i else i)))
    (by
      intro vs ds H0 H Qd Qv hx rx q k
      obtain ⟨i, rfl, q⟩ := q
      cases rx with
      | cons r rn =>
        cases rn
        cases r
        exact ⟨i, rfl, k _ _ H0 H (.refl hx) (.int _) q⟩)
    (jv_cons (je_mono h fun d ρ1 ⟨n, hn, q⟩ => jv_nil ⟨n, by rw [hn], q⟩) he)
theorem je_min2 {p2 : Pos} (h : JE J a ρ fun d ρ1 => JE J b ρ1 fun f ρ2 => ∃ i j : Int, d = .int i ∧ f = .int j ∧ Q (.int (if j < i then j else i)) ρ2) (hg : Gl J.X "min") (hm : J.X.mg "min" = none) (hc : J.X.calm = true := by rfl)
    (he : starEach (a :: [b]) J.X.env = (false, eval a J.X.env) :: starEach [b] J.X.env := by rfl) (he2 : starEach (b :: []) J.X.env = (false, eval b J.X.env) :: starEach [] J.X.env := by rfl) (hpl : (backTo pos (starEach [b] J.X.env)).any (·.1) = false := by rfl) : JE J (.Call (.Name "min" p2) [a, b] [] pos) ρ Q :=
  je_cb (id := "min") (pe_callB (call_min2 hc) hg hm (by decide +kernel) pa_sem (he := he) (hpl := hpl)) (rd := fun ds Qd => ∃ i j : Int, ds = [.int i, .int j] ∧ Qd (.int (if j < i then j else i)))
    (by
      intro vs ds H0 H Qd Qv hx rx q k
      obtain ⟨i, j, rfl, q⟩ := q
      cases rx with
      | cons r rn =>
        cases rn with
        | cons r2 rn =>
          cases rn
          cases r
          cases r2
          exact ⟨i, j, rfl, k _ _ H0 H (.refl hx) (.int _) q⟩)
    (jv_cons (je_mono h fun d ρ1 h => jv_cons (je_mono h fun f ρ2 ⟨i, j, h1, h2, q⟩ => jv_nil ⟨i, j, by rw [h1, h2], q⟩) he2) he)
theorem je_max2 {p2 : Pos} (h : JE J a ρ fun d ρ1 => JE J b ρ1 fun f ρ2 => ∃ i j : Int, d = .int i ∧ f = .int j ∧ Q (.int (if j > i then j else i)) ρ2) (hg : Gl J.X "max") (hm : J.X.mg "max" = none) (hc : J.X.calm = true := by rfl)
    (he : starEach (a :: [b]) J.X.env = (false, eval a J.X.env) :: starEach [b] J.X.env := by rfl) (he2 : starEach (b :: []) J.X.env = (false, eval b J.X.env) :: starEach [] J.X.env := by rfl) (hpl : (backTo pos (starEach [b] J.X.env)).any (·.1) = false := by rfl) : JE J (.Call (.Name "max" p2) [a, b] [] pos) ρ Q :=
  je_cb (id := "max") (pe_callB (call_max2 hc) hg hm (by decide +kernel) pa_sem (he := he) (hpl := hpl)) (rd := fun ds Qd => ∃ i j : Int, ds = [.int i, .int j] ∧ Qd (.int (if j > i then j else i)))
    (by
      intro vs ds H0 H Qd Qv hx rx q k
      obtain ⟨i, j, rfl, q⟩ := q
      cases rx with
      | cons r rn =>
        cases rn with
        | cons r2 rn =>
          cases rn
          cases r
          cases r2
          exact ⟨i, j, rfl, k _ _ H0 H (.refl hx) (.int _) q⟩)
    (jv_cons (je_mono h fun d ρ1 h => jv_cons (je_mono h fun f ρ2 ⟨i, j, h1, h2, q⟩ => jv_nil ⟨i, j, by rw [h1, h2], q⟩) he2) he)
/-! isinstance of a value and a built-in class -/
def Dt.ty : Dt → String
  | .non => "NoneType"
  | .bl _ => "bool"
  | .int _ => "int"
  | .str _ => "str"
  | .lst _ => "list"
  | .tup _ => "tuple"
  | .obj _ _ => ""
def Dt.isObj : Dt → Bool
  | .obj _ _ => true
  | _ => false
end
end Dw

namespace Dw
open PySem PySem.Spec PyProof.Rows L2
open Evl (Ex)
section
variable {J : Jx} {e a b c : Expr} {es rest : List Expr} {ρ : List Sl} {Q : Dt → List Sl → Prop} {QB : Bool → List Sl → Prop} {QA : List Ag → List Sl → Prop} {QN : List Dt → List Sl → Prop} {x : Str} {pos : Pos}
theorem rp_tyx {K : PySem.W.Frag} {H0 H : Hp} {v : V} {d : Dt} (e : Ex H0 H) (r : Rp K H0 v d) (h : d.isObj = false) : TyX K H v (.type d.ty) := by
  cases r with
  | non => exact .base .non
  | bl b => exact .base (.bl b)
  | int i => exact .base (.int i)
  | str x => exact .base (.str x)
  | lst hs _ =>
    rcases Evl.ex_l e hs with (h | ⟨o, h⟩) | ⟨o, its, n, hk, hc, _⟩
    · exact .base (.lst h)
    · exact .base (.frz h)
    · exact .kList hk hc
  | tup hs _ =>
    rcases Evl.ex_t e hs with (h | ⟨o, h⟩) | ⟨o, its, n, hk, hc, _⟩
    · exact .base (.tup h)
    · exact .fTuple h
    · exact .kTuple hk hc
  | obj _ _ => cases h
theorem je_isi {T : String} {y : Str} {p2 p3 : Pos} (h : JE J a ρ fun d ρ1 => ∃ b, d.isObj = false ∧ kitB d.ty T = some b ∧ Q (.bl b) ρ1) (hg : Gl J.X "isinstance") (hm : J.X.mg "isinstance" = none) (hgT : Gl J.X y) (hmT : J.X.mg y = none)
    (hvT : bootBuiltins y = some (.type T)) (hn : y ≠ "__name__" := by decide) (hdb : (y == ("__debug__" : Str)) = false := by decide)
    (he : starEach (a :: [.Name y p3]) J.X.env = (false, eval a J.X.env) :: starEach [.Name y p3] J.X.env := by rfl) (he2 : starEach (.Name y p3 :: []) J.X.env = (false, eval (.Name y p3) J.X.env) :: starEach [] J.X.env := by rfl)
    (hpl : (backTo pos (starEach [.Name y p3] J.X.env)).any (·.1) = false := by rfl) : JE J (.Call (.Name "isinstance" p2) [a, .Name y p3] [] pos) ρ Q := by
  intro σ H0 H E R Qv hq
  refine sem_of (pe_callB call_isi hg hm (by decide +kernel) (pa_cons pe_sem (pa_cons (pe_bltn (v := .ty T) hgT hmT hvT rfl hn hdb) pa_nil he2) he) (he := he) (hpl := hpl)) ?_
  refine h σ H0 H E R _ fun v d ρ1 H01 H1 P1 rx q1 => ?_
  obtain ⟨b, ho, hk, q⟩ := q1
  exact ⟨v, .ty T, .type d.ty, .type T, b, rfl, .ty T, rp_tyx P1.env.ex rx ho, kit_ty hk, hq _ _ ρ1 H01 H1 P1 (.bl b) q⟩
/-! is, is not of bools -/
theorem rd_isB (K : PySem.W.Frag) : RD K rIsB fun d e Q => ∃ a b : Bool, d = .bl a ∧ e = .bl b ∧ Q (.bl (decide (a = b))) := by
  intro x y d e H0 H Q Qv hx rx ry h k
  obtain ⟨a, b, rfl, rfl, q⟩ := h
  cases rx
  cases ry
  exact ⟨a, b, rfl, rfl, k _ _ H0 H (.refl hx) (.bl _) q⟩
theorem rd_notB (K : PySem.W.Frag) : RD K rNotB fun d e Q => ∃ a b : Bool, d = .bl a ∧ e = .bl b ∧ Q (.bl (!decide (a = b))) := by
  intro x y d e H0 H Q Qv hx rx ry h k
  obtain ⟨a, b, rfl, rfl, q⟩ := h
  cases rx
  cases ry
  exact ⟨a, b, rfl, rfl, k _ _ H0 H (.refl hx) (.bl _) q⟩
theorem je_isB {k : Bool} {j : Nat} {p2 : Pos} (h : JE J a ρ fun d ρ1 => ∃ b : Bool, d = .bl b ∧ Q (.bl (decide (b = k))) ρ1) : JE J (.Compare a [.Is] [.Constant (.bool k) j p2] pos) ρ Q :=
  je_op2 (pe_cmpR op_isBl pe_sem pe_sem (nomark _)) (rd_isB _) (je_mono h fun d ρ1 ⟨b, e, q⟩ => je_bl ⟨b, k, e, rfl, q⟩)
theorem je_notB {k : Bool} {j : Nat} {p2 : Pos} (h : JE J a ρ fun d ρ1 => ∃ b : Bool, d = .bl b ∧ Q (.bl (!decide (b = k))) ρ1) : JE J (.Compare a [.IsNot] [.Constant (.bool k) j p2] pos) ρ Q :=
  je_op2 (pe_cmpR op_notBl pe_sem pe_sem (nomark _)) (rd_notB _) (je_mono h fun d ρ1 ⟨b, e, q⟩ => je_bl ⟨b, k, e, rfl, q⟩)
theorem jt_isB {k : Bool} {j : Nat} {p2 : Pos} (h : JE J a ρ fun d ρ1 => ∃ b : Bool, d = .bl b ∧ QB (decide (b = k)) ρ1) : JT J (.Compare a [.Is] [.Constant (.bool k) j p2] pos) ρ QB :=
  jt_op2 (pt_cmpR op_isBl pe_sem pe_sem (nomark _)) (rd_isB _) (je_mono h fun d ρ1 ⟨b, e, q⟩ => je_bl ⟨b, k, e, rfl, _, rfl, q⟩)
theorem jt_notB {k : Bool} {j : Nat} {p2 : Pos} (h : JE J a ρ fun d ρ1 => ∃ b : Bool, d = .bl b ∧ QB (!decide (b = k)) ρ1) : JT J (.Compare a [.IsNot] [.Constant (.bool k) j p2] pos) ρ QB :=
  jt_op2 (pt_cmpR op_notBl pe_sem pe_sem (nomark _)) (rd_notB _) (je_mono h fun d ρ1 ⟨b, e, q⟩ => je_bl ⟨b, k, e, rfl, _, rfl, q⟩)
end

/-! ### contracts -/
abbrev Ctr := List Sl → (Res → List Sl → Prop) → (Exn → List Sl → Prop) → Prop
def SpD (K : PySem.W.Frag) (c : Ctr) : Sp := fun vs H Q E => ∃ (H0 : Hp) (args : List Sl) (R : Res → List Sl → Prop) (XC : Exn → List Sl → Prop), EnvD K H0 H (vs.map some) args ∧ c args R XC ∧
  (∀ r args' v H0' H', R r args' → Post K (vs.map some) args H0 H args' H0' H' → ResR K H H0' H' v r → Q v H') ∧
  (∀ x args' cls d H0' H', XC x args' → Post K (vs.map some) args H0 H args' H0' H' → ExR K H0' cls d x → E cls d H')
def Ag.sl (ρ : List Sl) : Ag → Sl
  | .v d => .val d
  | .b i => (ρ[i]?).getD .no
def bIx : List Ag → List Nat
  | [] => []
  | .v _ :: as => bIx as
  | .b i :: as => i :: bIx as
def bOk (ags : List Ag) : Bool := decide (bIx ags).Nodup
def put (ρ : List Sl) : List Ag → List Sl → List Sl
  | [], _ => ρ
  | _ :: _, [] => ρ
  | .v _ :: as, _ :: ss => put ρ as ss
  | .b i :: as, s :: ss => put (ρ.set i s) as ss
theorem bIx_mem {i j : Nat} : ∀ {ags : List Ag}, ags[j]? = some (.b i) → i ∈ bIx ags
  | [], h => by simp at h
  | .v _ :: as, h => by
    cases j with
    | zero => simp at h
    | succ j => exact bIx_mem (ags := as) (by simpa using h)
  | .b k :: as, h => by
    cases j with
    | zero =>
      simp at h
      subst h
      exact List.mem_cons_self
    | succ j => exact List.mem_cons_of_mem _ (bIx_mem (ags := as) (by simpa using h))
theorem bIx_inj : ∀ {ags : List Ag} {i j j' : Nat}, (bIx ags).Nodup → ags[j]? = some (.b i) → ags[j']? = some (.b i) → j = j'
  | [], _, _, _, _, h, _ => by simp at h
  | .v _ :: as, i, j, j', hn, h, h' => by
    cases j with
    | zero => simp at h
    | succ j => cases j' with
      | zero => simp at h'
      | succ j' => exact congrArg (· + 1) (bIx_inj (ags := as) (j := j) (j' := j') hn (by simpa using h) (by simpa using h'))
  | .b k :: as, i, j, j', hn, h, h' => by
    have hn2 : k ∉ bIx as ∧ (bIx as).Nodup := List.nodup_cons.mp hn
    cases j with
    | zero =>
      simp at h
      subst h
      cases j' with
      | zero => rfl
      | succ j' => exact absurd (bIx_mem (ags := as) (j := j') (by simpa using h')) hn2.1
    | succ j => cases j' with
      | zero =>
        simp at h'
        subst h'
        exact absurd (bIx_mem (ags := as) (j := j) (by simpa using h)) hn2.1
      | succ j' => exact congrArg (· + 1) (bIx_inj (ags := as) (j := j) (j' := j') hn2.2 (by simpa using h) (by simpa using h'))
/-- what stands at k behind a call -/
theorem put_get : ∀ {ags : List Ag} {ρ ss : List Sl} {k : Nat}, (bIx ags).Nodup → ags.length = ss.length →
    (k ∉ bIx ags ∧ (put ρ ags ss)[k]? = ρ[k]?) ∨ (∃ (j : Nat) (s : Sl), ags[j]? = some (.b k) ∧ ss[j]? = some s ∧ (put ρ ags ss)[k]? = if k < ρ.length then some s else none)
  | [], ρ, ss, k, _, _ => .inl ⟨by simp [bIx], by cases ss <;> rfl⟩
  | _ :: _, ρ, [], k, _, h => by simp at h
  | .v _ :: as, ρ, s :: ss, k, hn, hl => by
    rcases put_get (ags := as) (ρ := ρ) (ss := ss) (k := k) hn (by simpa using hl) with h | ⟨j, t, h1, h2, h3⟩
    · exact .inl h
    · exact .inr ⟨j + 1, t, by simpa using h1, by simpa using h2, h3⟩
  | .b i :: as, ρ, s :: ss, k, hn, hl => by
    have hn2 : i ∉ bIx as ∧ (bIx as).Nodup := List.nodup_cons.mp hn
    show (k ∉ i :: bIx as ∧ (put (ρ.set i s) as ss)[k]? = ρ[k]?) ∨ _
    rcases put_get (ags := as) (ρ := ρ.set i s) (ss := ss) (k := k) hn2.2 (by simpa using hl) with ⟨h1, h2⟩ | ⟨j, t, h1, h2, h3⟩
    · by_cases e : k = i
      · subst e
        refine .inr ⟨0, s, by simp, by simp, ?_⟩
        show (put (ρ.set k s) as ss)[k]? = _
        rw [h2]
        by_cases hk : k < ρ.length
        · rw [if_pos hk, List.getElem?_set_self hk]
        · rw [if_neg hk]
          exact List.getElem?_eq_none (by rw [List.length_set]; omega)
      · refine .inl ⟨fun m => ?_, ?_⟩
        · rcases List.mem_cons.mp m with m | m
          · exact e m
          · exact h1 m
        · rw [h2, List.getElem?_set_ne (Ne.symm e)]
    · refine .inr ⟨j + 1, t, by simpa using h1, by simpa using h2, ?_⟩
      show (put (ρ.set i s) as ss)[k]? = _
      rw [h3, List.length_set]
section
variable {K : PySem.W.Frag} {H0 H H0' H' : Hp} {σ : L2.St} {ρ ρ' : List Sl} {vs : List V} {ags : List Ag} {args' : List Sl}
theorem sl_at {v : V} {a : Ag} (E : EnvD K H0 H σ ρ) (h : AgR K H0 σ ρ v a) : Dw.SlR K H0 H (some v) (a.sl ρ) ∧ ((a.sl ρ).ow = true → ∃ i, a = .b i ∧ OwnAt σ ρ i (match v with | .ref p => p | _ => 0) ∧ σ[i]? = some (some v)) := by
  cases a with
  | v d => exact ⟨h, fun z => nomatch z⟩
  | b i =>
    obtain ⟨s, h1, h2, h3⟩ := h
    have q := E.sl i s h1
    rw [h3] at q
    have es : (Ag.b i).sl ρ = s := by
      show (ρ[i]?).getD .no = s
      rw [h1]
      rfl
    rw [es]
    refine ⟨q, fun _ => ⟨i, rfl, ?_, h3⟩⟩
    cases s with
    | no => cases h2
    | val d => cases h2
    | own ds =>
      obtain ⟨p, vs, rfl, _⟩ := q
      exact ⟨_, h1, h2, h3⟩
    | dic ds =>
      obtain ⟨p, vs, rfl, _⟩ := q
      exact ⟨_, h1, h2, h3⟩
    | exc a o => cases h2
theorem map_some {α : Type} {l : List α} {i : Nat} {v : α} (h : (l.map some)[i]? = some (some v)) : l[i]? = some v := by
  rw [List.getElem?_map] at h
  cases e : l[i]? with
  | none => rw [e] at h; cases h
  | some w => rw [e] at h; cases h; rfl
theorem ags_own {j : Nat} {p : Addr} (E : EnvD K H0 H σ ρ) (hv : AgsR K H0 σ ρ vs ags) (h : OwnAt (vs.map some) (ags.map (Ag.sl ρ)) j p) : ∃ i, ags[j]? = some (.b i) ∧ OwnAt σ ρ i p := by
  obtain ⟨s, h1, h2, h3⟩ := h
  rw [List.getElem?_map] at h1
  cases ea : ags[j]? with
  | none => rw [ea] at h1; cases h1
  | some a =>
    rw [ea] at h1
    cases h1
    obtain ⟨v, ev, r⟩ := hv.get ea
    have e3 := map_some h3
    rw [ev] at e3
    cases e3
    obtain ⟨i, rfl, o, _⟩ := (sl_at E r).2 h2
    exact ⟨i, rfl, o⟩
/-- the callee's entry -/
theorem env_in (E : EnvD K H0 H σ ρ) (hv : AgsR K H0 σ ρ vs ags) (hb : bOk ags = true) : EnvD K H0 H (vs.map some) (ags.map (Ag.sl ρ)) where
  ex := E.ex
  len := by simp [hv.len]
  sl := fun j s h => by
    rw [List.getElem?_map] at h
    cases ea : ags[j]? with
    | none => rw [ea] at h; cases h
    | some a =>
      rw [ea] at h
      cases h
      obtain ⟨v, ev, r⟩ := hv.get ea
      have e2 : (vs.map some)[j]? = some (some v) := by rw [List.getElem?_map, ev]; rfl
      rw [e2]
      exact (sl_at E r).1
  ds := fun j j' p h h' => by
    obtain ⟨i, e, o⟩ := ags_own E hv h
    obtain ⟨i', e', o'⟩ := ags_own E hv h'
    have q := E.ds i i' p o o'
    subst q
    exact bIx_inj (of_decide_eq_true hb) e e'
/-- the caller behind the call -/
theorem env_out (E : EnvD K H0 H σ ρ) (hv : AgsR K H0 σ ρ vs ags) (hb : bOk ags = true) (P : Post K (vs.map some) (ags.map (Ag.sl ρ)) H0 H args' H0' H') : Post K σ ρ H0 H (put ρ ags args') H0' H' := by
  have hl : ags.length = args'.length := by
    have e1 := P.env.len
    have e2 := hv.len
    simp at e1
    omega
  have sub : ∀ p, Own (vs.map some) (ags.map (Ag.sl ρ)) p → Own σ ρ p := fun p ⟨j, h⟩ => let ⟨i, _, o⟩ := ags_own E hv h; ⟨i, o⟩
  have kd : SameOwn ρ (put ρ ags args') := fun k => by
    rcases put_get (ags := ags) (ρ := ρ) (ss := args') (k := k) (of_decide_eq_true hb) hl with ⟨_, h⟩ | ⟨j, s, h1, h2, h3⟩
    · rw [h]
    · obtain ⟨v, ev, t, ht, _, _⟩ := hv.get h1
      have hk : k < ρ.length := (List.getElem?_eq_some_iff.mp ht).1
      rw [h3, if_pos hk]
      have q := P.same j
      rw [List.getElem?_map, h1, h2] at q
      have e : (Ag.b k).sl ρ = t := by
        show (ρ[k]?).getD .no = t
        rw [ht]
        rfl
      rw [ht]
      have q2 : ((Ag.b k).sl ρ).kd = s.kd := Option.some.inj q
      rw [e] at q2
      show some t.kd = some s.kd
      rw [q2]
  have ownk : ∀ {i : Nat} {p : Addr}, OwnAt σ (put ρ ags args') i p → OwnAt σ ρ i p := fun h => kd.symm.ownAt h
  refine ⟨P.stp.more sub, ⟨P.stp.ex', ?_, fun k s h => ?_, fun i j p h h' => E.ds i j p (ownk h) (ownk h')⟩, kd⟩
  · rw [E.len]
    clear kd sub P ownk
    have z : ∀ (ags : List Ag) (ρ ss : List Sl), ρ.length = (put ρ ags ss).length := by
      intro ags
      induction ags with
      | nil => intro ρ ss; cases ss <;> rfl
      | cons a as ih =>
        intro ρ ss
        cases ss with
        | nil => rfl
        | cons s ss => cases a with
          | v d => exact ih ρ ss
          | b i =>
            show ρ.length = (put (ρ.set i s) as ss).length
            rw [← ih (ρ.set i s) ss, List.length_set]
    exact z ags ρ args'
  · rcases put_get (ags := ags) (ρ := ρ) (ss := args') (k := k) (of_decide_eq_true hb) hl with ⟨hk, hp⟩ | ⟨j, t, h1, h2, h3⟩
    · rw [hp] at h
      refine Dw.SlR.stp P.stp (fun p e o ⟨j, hj⟩ => ?_) (E.sl k s h)
      obtain ⟨i, ei, oi⟩ := ags_own E hv hj
      have q := E.ds i k p oi ⟨s, h, o, join_some e⟩
      subst q
      exact hk (bIx_mem ei)
    · obtain ⟨v, ev, u, hu, _, h5⟩ := hv.get h1
      have hk : k < ρ.length := (List.getElem?_eq_some_iff.mp hu).1
      have q := P.env.sl j t h2
      rw [h3, if_pos hk] at h
      cases h
      have e2 : (vs.map some)[j]? = some (some v) := by rw [List.getElem?_map, ev]; rfl
      rw [e2] at q
      rw [h5]
      exact q
end
section
variable {J : Jx} {e : Expr} {es : List Expr} {ρ : List Sl} {Q : Dt → List Sl → Prop} {QN : List Dt → List Sl → Prop} {c : Ctr}
/-- a call of a def that raises nothing -/
theorem je_call (hp : PE J.X e (tCall (SpD J.X.K c) [] E0 (aSem J.X es))) (h : JA J es ρ fun ags ρ1 => bOk ags = true ∧ c (ags.map (Ag.sl ρ1)) (fun r args' => Q r.d (put ρ1 ags args')) (fun _ _ => False)) : JE J e ρ Q := by
  intro σ H0 H E R Qv hq
  refine sem_of hp ?_
  refine h σ H0 H E R _ fun vs ags ρ1 H01 H1 P1 rx q1 => ?_
  rw [List.append_nil]
  refine ⟨H01, ags.map (Ag.sl ρ1), _, _, env_in P1.env rx q1.1, q1.2, fun r args' v H0' H' q P rr => ?_, fun x args' cls d H0' H' q P rr => q.elim⟩
  have P2 := env_out P1.env rx q1.1 P
  obtain ⟨H0'', P3, rv⟩ := P2.frz P1.env rr
  exact hq v r.d _ H0'' H' (P1.trans P3) rv q
theorem jn_call (hp : PE J.X e (tCall (SpD J.X.K c) [] E0 (aSem J.X es))) (h : JA J es ρ fun ags ρ1 => bOk ags = true ∧ c (ags.map (Ag.sl ρ1)) (fun r args' => ∃ ds, r = .new ds ∧ QN ds (put ρ1 ags args')) (fun _ _ => False)) : JN J e ρ QN := by
  intro σ H0 H E R Qv hq
  refine sem_of hp ?_
  refine h σ H0 H E R _ fun vs ags ρ1 H01 H1 P1 rx q1 => ?_
  rw [List.append_nil]
  refine ⟨H01, ags.map (Ag.sl ρ1), _, _, env_in P1.env rx q1.1, q1.2, fun r args' v H0' H' q P rr => ?_, fun x args' cls d H0' H' q P rr => q.elim⟩
  have P2 := env_out P1.env rx q1.1 P
  obtain ⟨ds, rfl, q⟩ := q
  obtain ⟨p, ws, rfl, hp, h0, h1, r⟩ := rr
  exact hq p ws ds _ H0' H' (P1.trans P2) (P1.back hp) h0 h1 r q
/-- a call of a def that may raise -/
theorem je_callX (ok : J.Ok) (hp : PE J.X e (tCallS (SpD J.X.K c) (L2.WE J.W) (aSem J.X es))) (h : JA J es ρ fun ags ρ1 => bOk ags = true ∧ c (ags.map (Ag.sl ρ1)) (fun r args' => Q r.d (put ρ1 ags args')) (fun x args' => J.XC x (put ρ1 ags args'))) : JE J e ρ Q := by
  intro σ H0 H E R Qv hq
  refine sem_of hp ?_
  refine h σ H0 H E R _ fun vs ags ρ1 H01 H1 P1 rx q1 => ?_
  refine ⟨H01, ags.map (Ag.sl ρ1), _, _, env_in P1.env rx q1.1, q1.2, fun r args' v H0' H' q P rr => ?_, fun x args' cls d H0' H' q P rr => ?_⟩
  · have P2 := env_out P1.env rx q1.1 P
    obtain ⟨H0'', P3, rv⟩ := P2.frz P1.env rr
    exact hq v r.d _ H0'' H' (P1.trans P3) rv q
  · have P2 := env_out P1.env rx q1.1 P
    exact ok.hw σ _ H0' H' x cls d P2.env (P2.rc (P1.rc R)) rr q
end
end Dw

namespace Dw
open PySem PySem.Spec PyProof.Rows L2
open Evl (Ex)
def pinned (ρ : List Sl) (i : Nat) : Bool := ((ρ[i]?).map Sl.ow).getD false
section
variable {K : PySem.W.Frag} {H0 H H0' H' : Hp} {σ : L2.St} {ρ ρ' : List Sl} {N : En}
theorem get_set {α : Type} {l : List α} {i j : Nat} {a : α} : (l.set i a)[j]? = if i = j then (if i < l.length then some a else none) else l[j]? := by
  by_cases h : i = j
  · subst h
    rw [if_pos rfl]
    by_cases hl : i < l.length
    · rw [if_pos hl, List.getElem?_set_self hl]
    · rw [if_neg hl]
      exact List.getElem?_eq_none (by rw [List.length_set]; omega)
  · rw [if_neg h, List.getElem?_set_ne h]
theorem ownAt_set {i j : Nat} {o : Option V} {s : Sl} {p : Addr} (h : OwnAt (σ.set i o) (ρ.set i s) j p) : (j = i ∧ s.ow = true ∧ o = some (.ref p)) ∨ (j ≠ i ∧ OwnAt σ ρ j p) := by
  obtain ⟨t, h1, h2, h3⟩ := h
  by_cases e : j = i
  · subst e
    rw [get_set, if_pos rfl] at h1 h3
    split at h1
    · cases h1
      split at h3
      · cases h3
        exact .inl ⟨rfl, h2, rfl⟩
      · cases h3
    · cases h1
  · rw [get_set, if_neg (Ne.symm e)] at h1 h3
    exact .inr ⟨e, t, h1, h2, h3⟩
theorem EnvD.set (E : EnvD K H0 H σ ρ) (i : Nat) {o : Option V} {s : Sl} (h : Dw.SlR K H0 H o s) (no : ∀ p, o = some (.ref p) → s.ow = true → ∀ j, j ≠ i → ¬ OwnAt σ ρ j p) : EnvD K H0 H (σ.set i o) (ρ.set i s) where
  ex := E.ex
  len := by rw [List.length_set, List.length_set]; exact E.len
  sl := fun j t e => by
    rw [get_set] at e
    rw [get_set]
    by_cases hj : i = j
    · rw [if_pos hj] at e ⊢
      split at e
      · rename_i hl
        cases e
        rw [if_pos (by rw [E.len]; exact hl)]
        exact h
      · cases e
    · rw [if_neg hj] at e ⊢
      exact E.sl j t e
  ds := fun j k p a b => by
    rcases ownAt_set a with ⟨rfl, hs, ho⟩ | ⟨hj, a'⟩
    · rcases ownAt_set b with ⟨rfl, _, _⟩ | ⟨hk, b'⟩
      · rfl
      · exact absurd b' (no p ho hs k hk)
    · rcases ownAt_set b with ⟨rfl, hs, ho⟩ | ⟨hk, b'⟩
      · exact absurd a' (no p ho hs j hj)
      · exact E.ds j k p a' b'
theorem Rc.set (R : Rc N σ ρ H0 H) {i : Nat} (np : pinned N.ρ i = false) {o : Option V} {s : Sl} (no : ∀ p, o = some (.ref p) → s.ow = true → N.H p = none) : Rc N (σ.set i o) (ρ.set i s) H0 H where
  stp := R.stp
  lb := R.lb
  ow := fun p ⟨j, h⟩ => by
    rcases ownAt_set h with ⟨_, hs, ho⟩ | ⟨_, h'⟩
    · exact .inr (no p ho hs)
    · exact R.ow p ⟨j, h'⟩
  pin := fun j p h => by
    have ne : i ≠ j := fun e => by
      subst e
      obtain ⟨t, h1, h2, _⟩ := h
      have z : pinned N.ρ i = true := by
        unfold pinned
        rw [h1]
        exact h2
      rw [np] at z
      cases z
    rw [get_set, if_neg ne, get_set, if_neg ne]
    exact R.pin j p h
end
section
variable {J : Jx} {e a b c iter : Expr} {es : List Expr} {st : Stmt} {body rest orelse sts : List Stmt} {ρ : List Sl} {O : Outs} {x y z : Str} {pos p1 p2 p3 p4 : Pos} {i j k : Nat}
/-! ### blocks -/
theorem jb_cons (h : JS J st ρ { O with nx := fun ρ' => JB J rest ρ' O }) : JB J (st :: rest) ρ O := by
  intro σ H0 H E R D C
  refine semSs_of (pss_cons ps_sem pss_sem) ?_
  refine h σ H0 H E R { D with nx := ssSem J.X rest D } ⟨fun σ' ρ' H0' H' ex E' R' q => ?_, C.rt, C.bk, C.ct⟩
  exact q σ' H0' H' E' R' D (C.up ex)
theorem jb_nil (h : O.nx ρ) : JB J [] ρ O := fun σ H0 H E R D C => semSs_of pss_nil (C.nx σ ρ H0 H (Evl.Ex.refl _) E R h)
theorem js_mono {O' : Outs} (h : JS J st ρ O) (h1 : ∀ ρ', O.nx ρ' → O'.nx ρ') (h2 : ∀ r ρ', O.rt r ρ' → O'.rt r ρ') (h3 : ∀ ρ', O.bk ρ' → O'.bk ρ') (h4 : ∀ ρ', O.ct ρ' → O'.ct ρ') : JS J st ρ O' := fun σ H0 H E R D C =>
  h σ H0 H E R D ⟨fun σ' ρ' H0' H' ex E' R' q => C.nx σ' ρ' H0' H' ex E' R' (h1 ρ' q), fun σ' ρ' v r H0' H' E' R' rr q => C.rt σ' ρ' v r H0' H' E' R' rr (h2 r ρ' q), fun σ' ρ' H0' H' ex E' R' q => C.bk σ' ρ' H0' H' ex E' R' (h3 ρ' q), fun σ' ρ' H0' H' ex E' R' q => C.ct σ' ρ' H0' H' ex E' R' (h4 ρ' q)⟩
/-- what follows is shown once, from M -/
theorem jb_cut (M : List Sl → Prop) (h : JS J st ρ { O with nx := M }) (k : ∀ ρ', M ρ' → JB J rest ρ' O) : JB J (st :: rest) ρ O := jb_cons (js_mono h k (fun _ _ q => q) (fun _ q => q) fun _ q => q)
theorem js_pass (h : O.nx ρ) : JS J (.Pass pos) ρ O := fun σ H0 H E R D C => semS_of ps_pass (C.nx σ ρ H0 H (Evl.Ex.refl _) E R h)
theorem js_break (h : O.bk ρ) : JS J (.Break pos) ρ O := fun σ H0 H E R D C => semS_of ps_break (C.bk σ ρ H0 H (Evl.Ex.refl _) E R h)
theorem js_cont (h : O.ct ρ) : JS J (.Continue pos) ρ O := fun σ H0 H E R D C => semS_of ps_continue (C.ct σ ρ H0 H (Evl.Ex.refl _) E R h)
theorem js_if (h : JT J c ρ fun k ρ1 => (k = true → JB J body ρ1 O) ∧ (k = false → JB J orelse ρ1 O)) : JS J (.If c body orelse pos) ρ O := by
  intro σ H0 H E R D C
  refine semS_of (ps_if pt_sem pss_sem pss_sem) ?_
  refine h σ H0 H E R _ fun k ρ1 H01 H1 P1 q => ?_
  cases k with
  | true =>
    rw [if_pos rfl]
    exact q.1 rfl σ H01 H1 P1.env (P1.rc R) D (C.up P1.stp.ex)
  | false =>
    rw [if_neg Bool.false_ne_true]
    exact q.2 rfl σ H01 H1 P1.env (P1.rc R) D (C.up P1.stp.ex)
theorem js_ret (h : JE J e ρ fun d ρ1 => O.rt (.val d) ρ1) : JS J (.Return (some e) pos) ρ O := by
  intro σ H0 H E R D C
  refine semS_of (ps_ret pe_sem) ?_
  exact h σ H0 H E R _ fun v d ρ1 H01 H1 P1 r q => C.rt σ ρ1 v (.val d) H01 H1 P1.env (P1.rc R) r q
theorem js_retN (h : JN J e ρ fun ds ρ1 => O.rt (.new ds) ρ1) : JS J (.Return (some e) pos) ρ O := by
  intro σ H0 H E R D C
  refine semS_of (ps_ret pe_sem) ?_
  exact h σ H0 H E R _ fun p vs ds ρ1 H01 H1 P1 hp h0 h1 r q => C.rt σ ρ1 (.ref p) (.new ds) H01 H1 P1.env (P1.rc R) ⟨p, vs, rfl, R.fresh E hp, h0, h1, r⟩ q
theorem js_ret0 (h : O.rt (.val .non) ρ) : JS J (.Return none pos) ρ O := fun σ H0 H E R D C => semS_of ps_retN (C.rt σ ρ .non (.val .non) H0 H E R .non h)
/-- a list of one's own is handed back -/
theorem js_retOwn {ds : List Dt} (hr : ρ[i]? = some (.own ds)) (np : pinned J.N.ρ i = false) (h : O.rt (.new ds) (ρ.set i .no)) (hN : J.X.N[i]? = some x := by rfl) (hv : Vis J.X.env.scope x := by first | exact Or.inl rfl | exact Or.inr (Or.inl rfl) | exact Or.inr (Or.inr rfl))
    (hd : (x == ("__debug__" : Str)) = false := by decide) (hcd : (x == ("__classdict__" : Str)) = false := by decide) : JS J (.Return (some (.Name x p2)) pos) ρ O := by
  intro σ H0 H E R D C
  refine semS_of (ps_ret (pe_var (i := i) hN hv hd hcd)) ?_
  obtain ⟨p, vs, es, z, l, r⟩ := E.own hr
  have hp : OwnAt σ ρ i p := ⟨_, hr, rfl, es⟩
  have hn : J.N.H p = none := by
    rcases R.ow p ⟨i, hp⟩ with ⟨j, hj⟩ | h
    · have q := R.pinAt hj
      have e := E.ds i j p hp q
      subst e
      obtain ⟨t, h1, h2, _⟩ := hj
      have w : pinned J.N.ρ i = true := by
        unfold pinned
        rw [h1]
        exact h2
      rw [np] at w
      cases w
    · exact h
  refine ⟨.ref p, es, ?_⟩
  have E2 : EnvD J.X.K H0 H (σ.set i (some (.ref p))) (ρ.set i .no) := E.set i (o := some (.ref p)) (s := .no) trivial fun _ _ w => nomatch w
  have R2 : Rc J.N (σ.set i (some (.ref p))) (ρ.set i .no) H0 H := R.set np (fun _ _ w => nomatch w)
  exact C.rt _ _ (.ref p) (.new ds) H0 H E2 R2 ⟨p, vs, rfl, hn, z, l, r⟩ h
theorem js_expr (h : JE J e ρ fun _ ρ1 => O.nx ρ1) (hs : swapsWith e none pos.line J.X.env = pure false := by rfl) : JS J (.Expr e pos) ρ O := by
  intro σ H0 H E R D C
  refine semS_of (ps_expr pe_sem hs) ?_
  exact h σ H0 H E R _ fun v d ρ1 H01 H1 P1 r q => C.nx σ ρ1 H01 H1 P1.stp.ex P1.env (P1.rc R) q
/-! ### stores -/
theorem js_set (nd : J.X.N.Nodup) (h : JE J e ρ fun d ρ1 => O.nx (ρ1.set i (.val d))) (np : pinned J.N.ρ i = false := by rfl) (hi : J.X.N[i]? = some x := by rfl) (hx : Loc J.X.env.scope x := by first | exact Or.inl rfl | exact Or.inr rfl)
    (hs : swapsWith e (some (.Name x p2)) pos.line J.X.env = pure false := by rfl) (hf : J.X.fn x = true ∨ J.X.env.scope.names.lookup x = some .local := by first | exact .inl rfl | exact .inr rfl) : JS J (.Assign [.Name x p2] e pos) ρ O := by
  intro σ H0 H E R D C
  refine semS_of (ps_set (i := i) nd hi hx pe_sem hs hf) ?_
  exact h σ H0 H E R _ fun v d ρ1 H01 H1 P1 r q => C.nx _ _ H01 H1 P1.stp.ex (P1.env.set i (o := some v) (s := .val d) r fun _ _ w => nomatch w) ((P1.rc R).set np fun _ _ w => nomatch w) q
theorem js_setN (nd : J.X.N.Nodup) (h : JN J e ρ fun ds ρ1 => O.nx (ρ1.set i (.own ds))) (np : pinned J.N.ρ i = false := by rfl) (hi : J.X.N[i]? = some x := by rfl) (hx : Loc J.X.env.scope x := by first | exact Or.inl rfl | exact Or.inr rfl)
    (hs : swapsWith e (some (.Name x p2)) pos.line J.X.env = pure false := by rfl) (hf : J.X.fn x = true ∨ J.X.env.scope.names.lookup x = some .local := by first | exact .inl rfl | exact .inr rfl) : JS J (.Assign [.Name x p2] e pos) ρ O := by
  intro σ H0 H E R D C
  refine semS_of (ps_set (i := i) nd hi hx pe_sem hs hf) ?_
  refine h σ H0 H E R _ fun p vs ds ρ1 H01 H1 P1 hp h0 h1 r q => C.nx _ _ H01 H1 P1.stp.ex (P1.env.set i (o := some (.ref p)) (s := .own ds) ⟨p, vs, rfl, h0, h1, r⟩ fun p' e w j hj oj => ?_) ((P1.rc R).set np fun p' e w => ?_) q
  · cases e
    exact (E.ownH ⟨j, P1.same.symm.ownAt oj⟩).2 hp
  · cases e
    exact R.fresh E hp
/-- a list of one's own becomes a value -/
theorem js_freeze {ds : List Dt} (hr : ρ[i]? = some (.own ds)) (np : pinned J.N.ρ i = false) (h : JB J sts (ρ.set i (.val (.lst ds))) O) : JB J sts ρ O := by
  intro σ H0 H E R D C
  obtain ⟨p, vs, es, z, l, r⟩ := E.own hr
  have hp : OwnAt σ ρ i p := ⟨_, hr, rfl, es⟩
  have hn : J.N.H p = none := by
    rcases R.ow p ⟨i, hp⟩ with ⟨j, hj⟩ | h
    · have q := R.pinAt hj
      have e := E.ds i j p hp q
      subst e
      obtain ⟨t, h1, h2, _⟩ := hj
      have w : pinned J.N.ρ i = true := by
        unfold pinned
        rw [h1]
        exact h2
      rw [np] at w
      cases w
    · exact h
  have hset : σ.set i (some (.ref p)) = σ := by
    apply List.ext_getElem?
    intro j
    rw [get_set]
    by_cases e : i = j
    · subst e
      have hl : i < σ.length := (List.getElem?_eq_some_iff.mp es).1
      rw [if_pos rfl, if_pos hl, es]
    · rw [if_neg e]
  have E1 : EnvD J.X.K H0 H σ (ρ.set i .no) := by
    have q := E.set i (o := some (.ref p)) (s := .no) trivial fun _ _ w => nomatch w
    rw [hset] at q
    exact q
  have R1 : Rc J.N σ (ρ.set i .no) H0 H := by
    have q := R.set (i := i) np (o := some (.ref p)) (s := .no) fun _ _ w => nomatch w
    rw [hset] at q
    exact q
  have no : ¬ Own σ (ρ.set i .no) p := fun ⟨j, hj⟩ => by
    have hj' : OwnAt (σ.set i (some (.ref p))) (ρ.set i .no) j p := by rw [hset]; exact hj
    rcases ownAt_set hj' with ⟨_, w, _⟩ | ⟨ne, w⟩
    · cases w
    · exact ne (E.ds j i p w hp)
  have E2 := E1.freeze l z no
  have R2 : Rc J.N σ (ρ.set i .no) (upd H0 p (.lst vs)) H := ⟨⟨R.stp.ex.trans (Evl.Ex.new z), Ex.into R.stp.ex' l, R.stp.fr, fun q na e w => by
    have ne : q ≠ p := fun u => e (by rw [u]; exact hn)
    rw [upd_ne ne]
    exact R.stp.nw q na e w⟩, R1.lb.trans (Evl.Ex.new z), R1.ow, R1.pin⟩
  have E3 : EnvD J.X.K (upd H0 p (.lst vs)) H (σ.set i (some (.ref p))) ((ρ.set i .no).set i (.val (.lst ds))) := E2.set i (.lst (Evl.sq_of upd_same) (r.mono (Evl.Ex.new z))) fun _ _ w => nomatch w
  have R3 : Rc J.N (σ.set i (some (.ref p))) ((ρ.set i .no).set i (.val (.lst ds))) (upd H0 p (.lst vs)) H := R2.set np fun _ _ w => nomatch w
  rw [hset, List.set_set] at E3 R3
  exact h σ _ H E3 R3 D (C.up (Evl.Ex.new z))
/-- xs.append(e), xs a list of one's own -/
theorem js_append {p5 : Pos} (h : JE J e ρ fun d ρ1 => ∃ ds, ρ1[i]? = some (.own ds) ∧ ds.length < 1000000 ∧ O.nx (ρ1.set i (.own (ds ++ [d])))) (hN : J.X.N[i]? = some x := by rfl) (hv : Vis J.X.env.scope x := by first | exact Or.inl rfl | exact Or.inr (Or.inl rfl) | exact Or.inr (Or.inr rfl))
    {ds0 : List Dt} (hr0 : ρ[i]? = some (.own ds0) := by rfl)
    (hd : (x == ("__debug__" : Str)) = false := by decide) (hcd : (x == ("__classdict__" : Str)) = false := by decide)
    (hs : swapsWith (.Call (.Attribute (.Name x p2) "append" p3) [e] [] p4) none p5.line J.X.env = pure false := by rfl)
    (hbase : attributeBase (.Name x p2) "append" J.X.env (eval (.Name x p2) J.X.env) = eval (.Name x p2) J.X.env := by rfl)
    (hfew : ((backTo p4 (starEach (e :: []) J.X.env)).all (fun x => !x.1) && (backToKw p4 (keywordEach [] J.X.env)).all (fun x => x.1.isSome)
      && decide ((e :: []).length + ([] : List Keyword).length + (if ([] : List Keyword).isEmpty then 0 else 1) < 30)) = true := by rfl)
    (hline : (p3.endLine == p4.line) = true := by rfl) (hst : starEach (e :: []) J.X.env = (false, eval e J.X.env) :: starEach [] J.X.env := by rfl) :
    JS J (.Expr (.Call (.Attribute (.Name x p2) "append" p3) [e] [] p4) p5) ρ O := by
  intro σ H0 H E R D C
  refine semS_of (ps_expr (pe_bm PySem.F.plainAttrs_list PySem.F.slot_list_append PySem.F.type_list_append mt_append (pe_var (i := i) hN hv hd hcd) (pa_cons pe_sem pa_nil hst) hbase hfew hline hst) hs) ?_
  obtain ⟨p, vs, es, z, l, r⟩ := E.own hr0
  refine ⟨.ref p, es, .inl ⟨rfl, _, SqL.of l⟩, ?_⟩
  refine h σ H0 H E R _ fun v d ρ1 H01 H1 P1 rv q => ?_
  obtain ⟨ds, hr, hl, q⟩ := q
  obtain ⟨p', vs', es', z', l', r'⟩ := P1.env.own hr
  rw [es] at es'
  cases es'
  have hp : OwnAt σ ρ1 i p := ⟨_, hr, rfl, es⟩
  refine ⟨p, vs', v, rfl, rfl, l', Nat.lt_of_lt_of_le (by rw [r'.len]; exact hl) (sz6 (Nat.le_refl _)), ?_⟩
  have hset : σ.set i (some (.ref p)) = σ := by
    apply List.ext_getElem?
    intro j
    rw [get_set]
    by_cases e : i = j
    · subst e
      have hl : i < σ.length := (List.getElem?_eq_some_iff.mp es).1
      rw [if_pos rfl, if_pos hl, es]
    · rw [if_neg e]
  have E1 : EnvD J.X.K H01 H1 (σ.set i (some (.ref p))) (ρ1.set i .no) := P1.env.set i (o := some (.ref p)) (s := .no) trivial fun _ _ w => nomatch w
  have no : ¬ Own (σ.set i (some (.ref p))) (ρ1.set i .no) p := fun ⟨j, hj⟩ => by
    rcases ownAt_set hj with ⟨_, w, _⟩ | ⟨ne, w⟩
    · cases w
    · exact ne (P1.env.ds j i p w hp)
  have ex2 : Ex H01 (upd H1 p (.lst (vs' ++ [v]))) := fun b o h => by
    rw [upd_ne (ne_of_none h z')]
    exact P1.env.ex b o h
  have E2 : EnvD J.X.K H01 (upd H1 p (.lst (vs' ++ [v]))) (σ.set i (some (.ref p))) (ρ1.set i .no) := E1.stp (A := fun q => q = p) ⟨Evl.Ex.refl _, ex2, fun q o na h => by rw [upd_ne na]; exact h, fun q _ _ w => w⟩ fun q e => by rw [e]; exact no
  have E3 : EnvD J.X.K H01 (upd H1 p (.lst (vs' ++ [v]))) ((σ.set i (some (.ref p))).set i (some (.ref p))) ((ρ1.set i .no).set i (.own (ds ++ [d]))) :=
    E2.set i ⟨p, _, rfl, z', upd_same, r'.append (.cons rv .nil)⟩ fun p' e _ j hj oj => by
      cases e
      exact no ⟨j, oj⟩
  rw [hset, hset, List.set_set] at E3
  have R1 := P1.rc R
  have nH : ∀ q, J.N.H q ≠ none → ¬ Own J.N.σ J.N.ρ q → q ≠ p := fun q hq hn e => by
    subst e
    rcases R1.ow q ⟨i, hp⟩ with h | h
    · exact hn h
    · exact hq h
  have R3 : Rc J.N σ (ρ1.set i (.own (ds ++ [d]))) H01 (upd H1 p (.lst (vs' ++ [v]))) := by
    refine ⟨⟨R1.stp.ex, ex2, fun q o na h => ?_, R1.stp.nw⟩, R1.lb, fun q ⟨j, h⟩ => ?_, fun j q h => ?_⟩
    · rw [upd_ne (nH q (ne_none h) na)]
      exact R1.stp.fr q o na h
    · have h' : OwnAt (σ.set i (some (.ref p))) (ρ1.set i (.own (ds ++ [d]))) j q := by rw [hset]; exact h
      rcases ownAt_set h' with ⟨_, _, e⟩ | ⟨_, w⟩
      · cases e
        exact R1.ow p ⟨i, hp⟩
      · exact R1.ow q ⟨j, w⟩
    · obtain ⟨a, b⟩ := R1.pin j q h
      refine ⟨a, ?_⟩
      rw [get_set]
      by_cases e : i = j
      · subst e
        have hl : i < ρ1.length := (List.getElem?_eq_some_iff.mp hr).1
        rw [if_pos rfl, if_pos hl, ← b, hr]
        rfl
      · rw [if_neg e]
        exact b
  exact C.nx σ _ H01 _ P1.stp.ex E3 R3 q
end
end Dw

namespace Dw
open PySem PySem.Spec PyProof.Rows L2
open Evl (Ex)
section
variable {J : Jx} {e a b c iter : Expr} {es : List Expr} {st : Stmt} {body rest orelse sts : List Stmt} {ρ : List Sl} {O : Outs} {x y z : Str} {pos p1 p2 p3 p4 p5 : Pos} {i j k : Nat} {Q : Dt → List Sl → Prop}
/-! ### a, b, .. = a tuple -/
/-- the places and what is put there -/
def setAll : List Sl → List Nat → List Dt → List Sl
  | ρ, i :: is, d :: ds => setAll (ρ.set i (.val d)) is ds
  | ρ, _, _ => ρ
def PgN (X : Cx) (ts : List Expr) (is : List Nat) : Prop := PGs X ts (is.foldr (fun i t => gCons (gName i) t) gNil)
theorem pgn_nil {X : Cx} : PgN X [] [] := pgs_nil
theorem pgn_cons {X : Cx} {ts : List Expr} {is : List Nat} (nd : X.N.Nodup) (h : PgN X ts is) (hi : X.N[i]? = some x := by rfl) (hx : Loc X.env.scope x := by first | exact Or.inl rfl | exact Or.inr rfl)
    (hf : X.fn x = true ∨ X.env.scope.names.lookup x = some .local := by first | exact .inl rfl | exact .inr rfl)
    (hs : (assignEach (.Name x p2 :: ts) X.env).map (·.2) = assign (.Name x p2) X.env :: (assignEach ts X.env).map (·.2) := by rfl) : PgN X (.Name x p2 :: ts) (i :: is) := pgs_cons (pg_name nd hi hx hf) h hs
theorem setAll_go {N : En} {K : PySem.W.Frag} {H0 H : Hp} : ∀ {is : List Nat} {σ : L2.St} {ρ : List Sl} {vs : List V} {ds : List Dt} {Q : L2.St → Hp → Prop}, EnvD K H0 H σ ρ → Rc N σ ρ H0 H → RpA K H0 vs ds → is.length = ds.length → (∀ i ∈ is, pinned N.ρ i = false) →
    (∀ σ', EnvD K H0 H σ' (setAll ρ is ds) → Rc N σ' (setAll ρ is ds) H0 H → Q σ' H) → is.foldr (fun i t => gCons (gName i) t) gNil vs σ H Q
  | [], σ, ρ, [], [], Q, E, R', .nil, _, _, k => ⟨rfl, k σ E R'⟩
  | [], _, _, _, _ :: _, _, _, _, _, h, _, _ => by simp at h
  | _ :: _, _, _, _, [], _, _, _, _, h, _, _ => by simp at h
  | i :: is, σ, ρ, v :: vs, d :: ds, Q, E, R', .cons r rs, hl, hp, k => by
    refine ⟨v, vs, rfl, ?_⟩
    exact setAll_go (E.set i (o := some v) (s := .val d) r fun _ _ w => nomatch w) (R'.set (hp i List.mem_cons_self) fun _ _ w => nomatch w) rs (by simpa using hl) (fun j hj => hp j (List.mem_cons_of_mem _ hj)) k
theorem js_unpack {ts : List Expr} {is : List Nat} {n : Nat} {k2 : Nat} (hg : PgN J.X ts is) (h : JE J e ρ fun d ρ1 => ∃ ds, d = .tup ds ∧ ds.length = is.length ∧ O.nx (setAll ρ1 is ds)) (np : is.all (fun i => !pinned J.N.ρ i) = true := by rfl) (hc : J.X.calm = true := by rfl)
    (hn : (assignEach ts J.X.env).length = n := by rfl) (hin : is.length = n := by rfl) (hst : (assignEach ts J.X.env).findIdx? (·.1) = none := by rfl)
    (hs : swapsWithSole [.Tuple ts k2 p2] e pos.line J.X.env = pure false := by rfl) (hw : swappedStores [.Tuple ts k2 p2] e J.X.env = pure none := by rfl) (h1 : (assignEach [.Tuple ts k2 p2] J.X.env).map (·.2) = [assign (.Tuple ts k2 p2) J.X.env] := by rfl) :
    JS J (.Assign [.Tuple ts k2 p2] e pos) ρ O := by
  intro σ H0 H E R D C
  refine semS_of (ps_asg pe_sem (pg_tup (n := n) hc hg hn hst) hs hw h1) ?_
  refine h σ H0 H E R _ fun v d ρ1 H01 H1 P1 r q => ?_
  obtain ⟨ds, rfl, hl, q⟩ := q
  cases r with
  | tup hq r =>
    refine ⟨_, _, rfl, Evl.ex_t P1.env.ex hq, by rw [r.len, hl, hin], ?_⟩
    exact setAll_go P1.env (P1.rc R) r hl.symm (fun i hi => by simpa using List.all_eq_true.mp np i hi) fun σ' E' R' => C.nx σ' _ H01 H1 P1.stp.ex E' R' q
/-! ### loops -/
theorem js_forL {p6 : Pos} (ok : J.Ok) (h : JE J iter ρ fun d ρ1 => ∃ (ds : List Dt) (Inv : Nat → List Sl → Prop), d = .lst ds ∧ Inv 0 ρ1 ∧
      (∀ k u ρ2, ds[k]? = some u → Inv k ρ2 → JB J body (ρ2.set i (.val u)) { nx := Inv (k + 1), rt := O.rt, bk := O.nx, ct := Inv (k + 1) }) ∧ (∀ ρ2, Inv ds.length ρ2 → O.nx ρ2)) (np : pinned J.N.ρ i = false := by rfl) (hc : J.X.calm = true := by rfl)
    (hi : J.X.N[i]? = some x := by rfl) (hx : Loc J.X.env.scope x := by first | exact Or.inl rfl | exact Or.inr rfl) (hf : J.X.fn x = true ∨ J.X.env.scope.names.lookup x = some .local := by first | exact .inl rfl | exact .inr rfl)
    (hs : ∀ z, foldedSetIterable iter J.X.env z = pure z := by intro _; rfl) : JS J (.For (.Name x p2) iter body [] pos) ρ O := by
  intro σ H0 H E R D C
  refine semS_of (ps_for ok.po hc (pi_list pe_sem) (pg_name ok.nd hi hx hf) pss_sem hs) ?_
  refine h σ H0 H E R _ fun v d ρ1 H01 H1 P1 r q => ?_
  obtain ⟨ds, Inv, rfl, h0, ht, hd⟩ := q
  cases r with
  | lst hq r =>
    rename_i a xs
    refine ⟨a, rfl, ⟨xs, Evl.ex_l P1.env.ex hq⟩, ?_⟩
    refine for_list (K := J.X.K) (a := a) (xs := xs) (fun k σ' H' => ∃ ρ' H0', Ex H01 H0' ∧ EnvD J.X.K H0' H' σ' ρ' ∧ Rc J.N σ' ρ' H0' H' ∧ Inv k ρ')
      ⟨ρ1, H01, Evl.Ex.refl _, P1.env, P1.rc R, h0⟩ (fun k σ' H' _ ⟨ρ', H0', e, E', _, _⟩ => Evl.ex_l (e.trans E'.ex) hq) ?_ ?_
    · rintro k u σ' H' hk ⟨ρ', H0', e, E', R', q⟩
      obtain ⟨du, h1, h2⟩ := r.getV hk
      show ssSem J.X body _ (σ'.set i (some u)) H'
      exact ht k du ρ' h1 q (σ'.set i (some u)) H0' H' (E'.set i (o := some u) (s := .val du) (h2.mono e) fun _ _ w => nomatch w) (R'.set np fun _ _ w => nomatch w) _
        ⟨fun σ2 ρ2 H02 H2 e2 E2 R2 q2 => ⟨ρ2, H02, e.trans e2, E2, R2, q2⟩, C.rt, fun σ2 ρ2 H02 H2 e2 E2 R2 q2 => C.nx σ2 ρ2 H02 H2 ((P1.stp.ex.trans e).trans e2) E2 R2 q2, fun σ2 ρ2 H02 H2 e2 E2 R2 q2 => ⟨ρ2, H02, e.trans e2, E2, R2, q2⟩⟩
    · rintro σ' H' ⟨ρ', H0', e, E', R', q⟩
      rw [r.len] at q
      exact C.nx σ' ρ' H0' H' (P1.stp.ex.trans e) E' R' (hd ρ' q)
theorem js_forT {p6 : Pos} (ok : J.Ok) (h : JE J iter ρ fun d ρ1 => ∃ (ds : List Dt) (Inv : Nat → List Sl → Prop), d = .tup ds ∧ Inv 0 ρ1 ∧
      (∀ k u ρ2, ds[k]? = some u → Inv k ρ2 → JB J body (ρ2.set i (.val u)) { nx := Inv (k + 1), rt := O.rt, bk := O.nx, ct := Inv (k + 1) }) ∧ (∀ ρ2, Inv ds.length ρ2 → O.nx ρ2)) (np : pinned J.N.ρ i = false := by rfl) (hc : J.X.calm = true := by rfl)
    (hi : J.X.N[i]? = some x := by rfl) (hx : Loc J.X.env.scope x := by first | exact Or.inl rfl | exact Or.inr rfl) (hf : J.X.fn x = true ∨ J.X.env.scope.names.lookup x = some .local := by first | exact .inl rfl | exact .inr rfl)
    (hs : ∀ z, foldedSetIterable iter J.X.env z = pure z := by intro _; rfl) : JS J (.For (.Name x p2) iter body [] pos) ρ O := by
  intro σ H0 H E R D C
  refine semS_of (ps_for ok.po hc (pi_tup pe_sem) (pg_name ok.nd hi hx hf) pss_sem hs) ?_
  refine h σ H0 H E R _ fun v d ρ1 H01 H1 P1 r q => ?_
  obtain ⟨ds, Inv, rfl, h0, ht, hd⟩ := q
  cases r with
  | tup hq r =>
    rename_i a xs
    refine ⟨a, rfl, ⟨xs, Evl.ex_t P1.env.ex hq⟩, ?_⟩
    refine for_tup (K := J.X.K) (a := a) (xs := xs) (fun k σ' H' => ∃ ρ' H0', Ex H01 H0' ∧ EnvD J.X.K H0' H' σ' ρ' ∧ Rc J.N σ' ρ' H0' H' ∧ Inv k ρ')
      ⟨ρ1, H01, Evl.Ex.refl _, P1.env, P1.rc R, h0⟩ (fun k σ' H' _ ⟨ρ', H0', e, E', _, _⟩ => Evl.ex_t (e.trans E'.ex) hq) ?_ ?_
    · rintro k u σ' H' hk ⟨ρ', H0', e, E', R', q⟩
      obtain ⟨du, h1, h2⟩ := r.getV hk
      show ssSem J.X body _ (σ'.set i (some u)) H'
      exact ht k du ρ' h1 q (σ'.set i (some u)) H0' H' (E'.set i (o := some u) (s := .val du) (h2.mono e) fun _ _ w => nomatch w) (R'.set np fun _ _ w => nomatch w) _
        ⟨fun σ2 ρ2 H02 H2 e2 E2 R2 q2 => ⟨ρ2, H02, e.trans e2, E2, R2, q2⟩, C.rt, fun σ2 ρ2 H02 H2 e2 E2 R2 q2 => C.nx σ2 ρ2 H02 H2 ((P1.stp.ex.trans e).trans e2) E2 R2 q2, fun σ2 ρ2 H02 H2 e2 E2 R2 q2 => ⟨ρ2, H02, e.trans e2, E2, R2, q2⟩⟩
    · rintro σ' H' ⟨ρ', H0', e, E', R', q⟩
      rw [r.len] at q
      exact C.nx σ' ρ' H0' H' (P1.stp.ex.trans e) E' R' (hd ρ' q)
/-- the turns of a range -/
theorem forR_go {g : TG} {lo : Int} {n : Nat} {H01 H1 : Hp} {σ : L2.St} {ρ1 : List Sl} {D : Ends} {H0 : Hp} (C : Cmp J H0 D O) (e0 : Ex H0 H01) (E1 : EnvD J.X.K H01 H1 σ ρ1) (R1 : Rc J.N σ ρ1 H01 H1) (np : pinned J.N.ρ i = false) (Inv : Nat → List Sl → Prop) (h0 : Inv 0 ρ1)
    (ht : ∀ (k : Nat) ρ2, k < n → Inv k ρ2 → JB J body (ρ2.set i (.val (.int (lo + (k : Int))))) { nx := Inv (k + 1), rt := O.rt, bk := O.nx, ct := Inv (k + 1) }) (hd : ∀ ρ2, Inv n ρ2 → O.nx ρ2) :
    ∃ W : Nat → Nat → L2.St → Hp → Prop, (∃ m, W 0 m σ H1) ∧ ∀ k m σ H, W k m σ H →
      ((Itr lo n).stop k H ∧ D.nx σ H) ∨ ((Itr lo n).go k H ∧ ∃ N : L2.St → Hp → Prop, (∀ σ' H', N σ' H' → ∃ m', m' < m ∧ W (k + 1) m' σ' H') ∧ ∀ x H', (Itr lo n).yld k H x H' → gName i x σ H' fun σ2 H2 => ssSem J.X body { D with nx := N, ct := N, bk := D.nx } σ2 H2) := by
  refine for_range (lo := lo) (n := n) (fun k σ' H' => ∃ ρ' H0', Ex H01 H0' ∧ EnvD J.X.K H0' H' σ' ρ' ∧ Rc J.N σ' ρ' H0' H' ∧ Inv k ρ')
      ⟨ρ1, H01, Evl.Ex.refl _, E1, R1, h0⟩ ?_ ?_
  · rintro k σ' H' hk ⟨ρ', H0', e, E', R', q⟩
    show ssSem J.X body _ (σ'.set i (some (.int (lo + (k : Int))))) H'
    exact ht k ρ' hk q (σ'.set i (some (.int (lo + (k : Int))))) H0' H' (E'.set i (o := some (.int (lo + (k : Int)))) (s := .val (.int (lo + (k : Int)))) (.int _) fun _ _ w => nomatch w) (R'.set np fun _ _ w => nomatch w) _
        ⟨fun σ2 ρ2 H02 H2 e2 E2 R2 q2 => ⟨ρ2, H02, e.trans e2, E2, R2, q2⟩, C.rt, fun σ2 ρ2 H02 H2 e2 E2 R2 q2 => C.nx σ2 ρ2 H02 H2 ((e0.trans e).trans e2) E2 R2 q2, fun σ2 ρ2 H02 H2 e2 E2 R2 q2 => ⟨ρ2, H02, e.trans e2, E2, R2, q2⟩⟩
  · rintro σ' H' ⟨ρ', H0', e, E', R', q⟩
    exact C.nx σ' ρ' H0' H' (e0.trans e) E' R' (hd ρ' q)
theorem js_forR1 (ok : J.Ok) (hg : Gl J.X "range") (hm : J.X.mg "range" = none) (h : JE J a ρ fun d ρ1 => ∃ (n : Int) (Inv : Nat → List Sl → Prop), d = .int n ∧ (-(2 ^ 62) ≤ n ∧ n < 2 ^ 62) ∧ Inv 0 ρ1 ∧
      (∀ (k : Nat) ρ2, (k : Int) < n → Inv k ρ2 → JB J body (ρ2.set i (.val (.int (k : Int)))) { nx := Inv (k + 1), rt := O.rt, bk := O.nx, ct := Inv (k + 1) }) ∧ (∀ ρ2, Inv n.toNat ρ2 → O.nx ρ2)) (np : pinned J.N.ρ i = false := by rfl) (hc : J.X.calm = true := by rfl)
    (hi : J.X.N[i]? = some x := by rfl) (hx : Loc J.X.env.scope x := by first | exact Or.inl rfl | exact Or.inr rfl) (hf : J.X.fn x = true ∨ J.X.env.scope.names.lookup x = some .local := by first | exact .inl rfl | exact .inr rfl)
    (he : starEach (a :: []) J.X.env = (false, eval a J.X.env) :: starEach [] J.X.env := by rfl) (he1 : starEach [a] J.X.env = [(false, eval a J.X.env)] := by rfl)
    (hs : ∀ z, foldedSetIterable (.Call (.Name "range" p3) [a] [] p4) J.X.env z = pure z := by intro _; rfl) : JS J (.For (.Name x p2) (.Call (.Name "range" p3) [a] [] p4) body [] pos) ρ O := by
  intro σ H0 H E R D C
  refine semS_of (ps_for ok.po hc (pi_range1 hg hm (pa_cons pe_sem pa_nil he) he1) (pg_name ok.nd hi hx hf) pss_sem hs) ?_
  refine h σ H0 H E R _ fun v d ρ1 H01 H1 P1 r q => ?_
  obtain ⟨n, Inv, rfl, hn, h0, ht, hd⟩ := q
  cases r
  refine ⟨n, rfl, hn.1, hn.2, ?_⟩
  refine forR_go (g := gName i) C P1.stp.ex P1.env (P1.rc R) np Inv h0 (fun k ρ2 hk hI => ?_) hd
  have e0 : (0 : Int) + (k : Int) = (k : Int) := Int.zero_add _
  rw [e0]
  exact ht k ρ2 (by omega) hI
theorem js_forR2 (ok : J.Ok) (hg : Gl J.X "range") (hm : J.X.mg "range" = none) (h : JE J a ρ fun d ρ1 => JE J b ρ1 fun f ρ2 => ∃ (lo n : Int) (Inv : Nat → List Sl → Prop), d = .int lo ∧ f = .int n ∧ (-(2 ^ 62) ≤ lo ∧ lo < 2 ^ 62 ∧ -(2 ^ 62) ≤ n ∧ n < 2 ^ 62) ∧ Inv 0 ρ2 ∧
      (∀ (k : Nat) ρ3, lo + (k : Int) < n → Inv k ρ3 → JB J body (ρ3.set i (.val (.int (lo + (k : Int))))) { nx := Inv (k + 1), rt := O.rt, bk := O.nx, ct := Inv (k + 1) }) ∧ (∀ ρ3, Inv (n - lo).toNat ρ3 → O.nx ρ3)) (np : pinned J.N.ρ i = false := by rfl) (hc : J.X.calm = true := by rfl)
    (hi : J.X.N[i]? = some x := by rfl) (hx : Loc J.X.env.scope x := by first | exact Or.inl rfl | exact Or.inr rfl) (hf : J.X.fn x = true ∨ J.X.env.scope.names.lookup x = some .local := by first | exact .inl rfl | exact .inr rfl)
    (he : starEach (a :: [b]) J.X.env = (false, eval a J.X.env) :: starEach [b] J.X.env := by rfl) (he2 : starEach (b :: []) J.X.env = (false, eval b J.X.env) :: starEach [] J.X.env := by rfl)
    (he3 : starEach [a, b] J.X.env = [(false, eval a J.X.env), (false, eval b J.X.env)] := by rfl) (he4 : starEach [b] J.X.env = [(false, eval b J.X.env)] := by rfl)
    (hs : ∀ z, foldedSetIterable (.Call (.Name "range" p3) [a, b] [] p4) J.X.env z = pure z := by intro _; rfl) : JS J (.For (.Name x p2) (.Call (.Name "range" p3) [a, b] [] p4) body [] pos) ρ O := by
  intro σ H0 H E R D C
  refine semS_of (ps_for ok.po hc (pi_range2 hg hm (pa_cons pe_sem (pa_cons pe_sem pa_nil he2) he) he3 he4) (pg_name ok.nd hi hx hf) pss_sem hs) ?_
  refine h σ H0 H E R _ fun v d ρ1 H01 H1 P1 r q => ?_
  refine q σ H01 H1 P1.env (P1.rc R) _ fun u f ρ2 H02 H2 P2 r2 q => ?_
  obtain ⟨lo, n, Inv, rfl, rfl, hn, h0, ht, hd⟩ := q
  cases r
  cases r2
  refine ⟨lo, n, rfl, hn, ?_⟩
  exact forR_go (g := gName i) C (P1.stp.ex.trans P2.stp.ex) P2.env ((P1.trans P2).rc R) np Inv h0 (fun k ρ2 hk hI => ht k ρ2 (by omega) hI) hd
/-! ### a def of the text -/
def mergeA : List Sl → List Sl → List Sl
  | [], _ => []
  | a :: as, [] => a :: as
  | a :: as, r :: rs => (if a.ow then r else a) :: mergeA as rs
end
end Dw

namespace Dw
open PySem PySem.Spec PyProof.Rows L2
open Evl (Ex)
theorem mergeA_get : ∀ {as rs : List Sl} {i : Nat} {a : Sl}, as[i]? = some a → (mergeA as rs)[i]? = some (if a.ow then (rs[i]?).getD a else a)
  | [], _, i, a, h => by simp at h
  | b :: as, [], i, a, h => by
    show (b :: as)[i]? = _
    rw [h]
    have e : (([] : List Sl)[i]?).getD a = a := by simp
    rw [e]
    split <;> rfl
  | b :: as, r :: rs, 0, a, h => by
    have e : b = a := by simpa using h
    subst e
    rfl
  | b :: as, r :: rs, i + 1, a, h => by
    have ih := mergeA_get (as := as) (rs := rs) (i := i) (a := a) (by simpa using h)
    show (mergeA as rs)[i]? = _
    rw [ih]
    simp
theorem mergeA_len : ∀ (as rs : List Sl), (mergeA as rs).length = as.length
  | [], _ => rfl
  | _ :: _, [] => rfl
  | a :: as, r :: rs => by
    show (mergeA as rs).length + 1 = _
    rw [mergeA_len as rs]
    rfl
abbrev nos (n : Nat) : List Sl := List.replicate n .no
section
variable {K : PySem.W.Frag} {H0 H H0' H' : Hp} {σ : L2.St} {ρ args : List Sl} {vs : List V} {n : Nat} {Nm : List Str}
theorem ownAt_app {i : Nat} {p : Addr} (hl : vs.length = args.length) (h : OwnAt (start Nm vs) (args ++ nos n) i p) : OwnAt (vs.map some) args i p := by
  obtain ⟨s, h1, h2, h3⟩ := h
  by_cases hi : i < args.length
  · rw [List.getElem?_append_left hi] at h1
    unfold L2.start at h3
    rw [List.getElem?_append_left (by rw [List.length_map, hl]; exact hi)] at h3
    exact ⟨s, h1, h2, h3⟩
  · rw [List.getElem?_append_right (by omega), List.getElem?_replicate] at h1
    split at h1
    · cases h1
      cases h2
    · cases h1
theorem app_ownAt {i : Nat} {p : Addr} (hl : vs.length = args.length) (h : OwnAt (vs.map some) args i p) : OwnAt (start Nm vs) (args ++ nos n) i p := by
  obtain ⟨s, h1, h2, h3⟩ := h
  have hi : i < args.length := (List.getElem?_eq_some_iff.mp h1).1
  refine ⟨s, by rw [List.getElem?_append_left hi]; exact h1, h2, ?_⟩
  unfold L2.start
  rw [List.getElem?_append_left (by rw [List.length_map, hl]; exact hi)]
  exact h3
theorem env_start (E : EnvD K H0 H (vs.map some) args) (hn : Nm.length = args.length + n) : EnvD K H0 H (start Nm vs) (args ++ nos n) := by
  have hl : vs.length = args.length := by
    have := E.len
    rw [List.length_map] at this
    exact this
  refine ⟨E.ex, ?_, fun i s h => ?_, fun i j p a b => E.ds i j p (ownAt_app hl a) (ownAt_app hl b)⟩
  · unfold L2.start
    rw [List.length_append, List.length_append, List.length_map, List.length_replicate, List.length_replicate]
    omega
  · by_cases hi : i < args.length
    · rw [List.getElem?_append_left hi] at h
      unfold L2.start
      rw [List.getElem?_append_left (by rw [List.length_map, hl]; exact hi)]
      exact E.sl i s h
    · rw [List.getElem?_append_right (by omega), List.getElem?_replicate] at h
      split at h
      · cases h
        cases ((start Nm vs)[i]?).join <;> trivial
      · cases h
theorem rc_start (E : EnvD K H0 H (start Nm vs) (args ++ nos n)) : Rc ⟨H0, H, start Nm vs, args ++ nos n, H0⟩ (start Nm vs) (args ++ nos n) H0 H :=
  ⟨.refl E.ex, Evl.Ex.refl _, fun p h => .inl h, fun i p ⟨s, h1, h2, h3⟩ => ⟨h3, rfl⟩⟩
theorem post_of (Ee : EnvD K H0 H (vs.map some) args) (E : EnvD K H0' H' σ ρ) (R : Rc ⟨H0, H, start Nm vs, args ++ nos n, H0⟩ σ ρ H0' H') : Post K (vs.map some) args H0 H (mergeA args ρ) H0' H' := by
  have hl : vs.length = args.length := by
    have := Ee.len
    rw [List.length_map] at this
    exact this
  have sub : ∀ p, Own (start Nm vs) (args ++ nos n) p → Own (vs.map some) args p := fun p ⟨i, h⟩ => ⟨i, ownAt_app hl h⟩
  have st : Stp (Own (vs.map some) args) H0 H H0' H' := R.stp.more sub
  -- an own argument
  have own : ∀ (i : Nat) (a : Sl), args[i]? = some a → a.ow = true → ∃ p r, (vs.map some)[i]? = some (some (.ref p)) ∧ σ[i]? = some (some (.ref p)) ∧ ρ[i]? = some r ∧ r.kd = a.kd := fun i a ha ho => by
    have q := Ee.at_ ha (by cases a <;> simp [Sl.ow, Sl.kd] at ho ⊢)
    obtain ⟨v, ev, sv⟩ := q
    have hv : ∃ p, v = .ref p := by
      cases a with
      | no => cases ho
      | val d => cases ho
      | own ds => obtain ⟨p, _, e, _⟩ := sv; exact ⟨p, e⟩
      | dic ds => obtain ⟨p, _, e, _⟩ := sv; exact ⟨p, e⟩
      | exc a o => cases ho
    obtain ⟨p, rfl⟩ := hv
    obtain ⟨e1, e2⟩ := R.pin i p (app_ownAt hl ⟨a, ha, ho, ev⟩)
    have hi : i < args.length := (List.getElem?_eq_some_iff.mp ha).1
    rw [List.getElem?_append_left hi, ha] at e2
    cases er : ρ[i]? with
    | none => rw [er] at e2; cases e2
    | some r =>
      rw [er] at e2
      exact ⟨p, r, ev, e1, rfl, Option.some.inj e2⟩
  have same : SameOwn args (mergeA args ρ) := fun i => by
    cases ea : args[i]? with
    | none =>
      have : (mergeA args ρ)[i]? = none := List.getElem?_eq_none (by rw [mergeA_len]; exact List.getElem?_eq_none_iff.mp ea)
      rw [this]
    | some a =>
      rw [mergeA_get ea]
      by_cases ho : a.ow = true
      · obtain ⟨p, r, _, _, er, ek⟩ := own i a ea ho
        rw [if_pos ho, er]
        show some a.kd = some r.kd
        rw [ek]
      · rw [if_neg ho]
  refine ⟨st, ⟨E.ex, by rw [mergeA_len]; exact Ee.len, fun i s h => ?_, fun i j p a b => Ee.ds i j p (same.symm.ownAt a) (same.symm.ownAt b)⟩, same⟩
  have hi : i < args.length := by
    have := (List.getElem?_eq_some_iff.mp h).1
    rw [mergeA_len] at this
    exact this
  have ha : args[i]? = some args[i] := List.getElem?_eq_getElem hi
  rw [mergeA_get ha] at h
  by_cases ho : args[i].ow = true
  · obtain ⟨p, r, ev, es, er, ek⟩ := own i _ ha ho
    rw [if_pos ho, er] at h
    cases h
    have q := E.sl i _ er
    rw [es] at q
    rw [ev]
    exact q
  · rw [if_neg ho] at h
    cases h
    exact Dw.SlR.stp st (fun p _ o => absurd o ho) (Ee.sl i _ ha)
end
/-- the judgement's context at a def's entry -/
@[reducible] def jOf (P : Program) (w : World) (K : PySem.W.Frag) (mg : Str → Option Value) (base : Heap) (N : List Str) (qual : Str) (scope : Scope) (f : Addr) (cdv : Value) (A : Around) (outer : List Env) (s : Shared) (H : Hp) (E : XK) (n : En) (XC : Exn → List Sl → Prop) (k : Nat) : Jx :=
  ⟨cxOf (L2.CX P w) P w K mg base N qual scope f cdv A outer s H E, n, fun cls d _ H => E cls d H, XC, k⟩
section
variable {P : Program} {w : World} {K : PySem.W.Frag} {mg : Str → Option Value} {base : Heap} {x qual : Str} {params : Arguments} {body : List Stmt} {scope : Scope} {dvs : List V} {kws : List (Str × V)} {f : Addr} {fd : FuncData}
/-- THE RULE for a def: its contract by its body, on data -/
theorem okD {N ps : List Str} {k : Nat} {c : Ctr} (F : FunD K x qual params body scope dvs kws f fd) (S : FnScope N ps scope) (len : ∀ args R XC, c args R XC → args.length = ps.length)
    (hb : ∀ (cdv : Value) (A : Around) (outer : List Env) (s : Shared) (H : Hp) (E : XK) (h0 he : Hp) (se : L2.St) (args : List Sl) (R : Res → List Sl → Prop) (XC : Exn → List Sl → Prop), c args R XC →
      (jOf P w K mg base N qual scope f cdv A outer s H E ⟨h0, he, se, args ++ nos (N.length - ps.length), h0⟩ (fun x ρ => XC x (mergeA args ρ)) k).Ok →
      JB (jOf P w K mg base N qual scope f cdv A outer s H E ⟨h0, he, se, args ++ nos (N.length - ps.length), h0⟩ (fun x ρ => XC x (mergeA args ρ)) k) body (args ++ nos (N.length - ps.length)) { nx := fun ρ => R (.val .non) (mergeA args ρ), rt := fun r ρ => R r (mergeA args ρ) }) :
    FnOk P w K mg base (L2.CX P w) (k + 1) f fd ps (SpD K c) := by
  have hN : ps.length ≤ N.length := by
    have := congrArg List.length S.pre
    rw [List.length_take] at this
    omega
  refine F.ok S (fun vs H Q E h => ?_) (fun cdv A outer s H vs Q E hr h => ⟨ssSem (cxOf (L2.CX P w) P w K mg base N qual scope f cdv A outer s H E) body, pss_sem, ?_⟩)
  · obtain ⟨H0, args, R, XC, e, hc, _⟩ := h
    have := e.len
    rw [List.length_map] at this
    rw [this]
    exact len args R XC hc
  · obtain ⟨H0, args, R, XC, e, hc, hR, hX⟩ := h
    have hl := len args R XC hc
    have e1 : EnvD K H0 H (start N vs) (args ++ nos (N.length - ps.length)) := env_start e (by omega)
    have r1 := rc_start e1
    have ok : (jOf P w K mg base N qual scope f cdv A outer s H E ⟨H0, H, start N vs, args ++ nos (N.length - ps.length), H0⟩ (fun x ρ => XC x (mergeA args ρ)) k).Ok :=
      ⟨takes_of rfl rfl rfl rfl, passes_of rfl, hr, S.nd, fun σ ρ H0' H' x cls d E' R' xr q => hX x _ cls d H0' H' q (post_of e E' R') xr⟩
    refine hb cdv A outer s H E H0 H (start N vs) args R XC hc ok (start N vs) H0 H e1 r1 _
      ⟨fun σ' ρ' H0' H' _ E' R' q => ?_, fun σ' ρ' v r H0' H' E' R' rr q => ?_, fun _ _ _ _ _ _ _ q => q.elim, fun _ _ _ _ _ _ _ q => q.elim⟩
    · exact hR _ _ .non H0' H' q (post_of e E' R') .non
    · exact hR _ _ v H0' H' q (post_of e E' R') rr
/-- a def that can be called by its name -/
structure Cal (P : Program) (w : World) (K : PySem.W.Frag) (mg : Str → Option Value) (base : Heap) (x : Str) (k : Nat) (c : Ctr) : Prop where
  ex : ∃ f fd ps, FnOk P w K mg base (L2.CX P w) k f fd ps (SpD K c) ∧ mg x = some (.ref f) ∧ PySem.W.keepIn K (.ref f) = true ∧ Binds K fd ps []
end
section
variable {J : Jx} {e : Expr} {es : List Expr} {ρ : List Sl} {Q : Dt → List Sl → Prop} {QN : List Dt → List Sl → Prop} {c : Ctr} {x : Str} {k : Nat} {p2 pos : Pos}
theorem je_fn (C : Cal J.X.prog J.X.w J.X.K J.X.mg J.X.base x k c) (ok : J.Ok) (hk : k ≤ J.k) (h : JA J (e :: es) ρ fun ags ρ1 => bOk ags = true ∧ c (ags.map (Ag.sl ρ1)) (fun r args' => Q r.d (put ρ1 ags args')) (fun x args' => J.XC x (put ρ1 ags args')))
    (hg : Gl J.X x := by rfl) (hdb : (x == ("__debug__" : Str)) = false := by decide) (he : starEach (e :: es) J.X.env = (false, eval e J.X.env) :: starEach es J.X.env := by rfl) (hpl : (backTo pos (starEach es J.X.env)).any (·.1) = false := by rfl) :
    JE J (.Call (.Name x p2) (e :: es) [] pos) ρ Q := by
  obtain ⟨f, fd, ps, F, hm, kp, hb⟩ := C.ex
  exact je_callX ok (pe_callS F (ok.rm.mono hk) hg hm kp hb (fun σ => passAt ok.tk σ) pa_sem hdb he hpl) h
theorem jn_callX (ok : J.Ok) (hp : PE J.X e (tCallS (SpD J.X.K c) (L2.WE J.W) (aSem J.X es))) (h : JA J es ρ fun ags ρ1 => bOk ags = true ∧ c (ags.map (Ag.sl ρ1)) (fun r args' => ∃ ds, r = .new ds ∧ QN ds (put ρ1 ags args')) (fun x args' => J.XC x (put ρ1 ags args'))) : JN J e ρ QN := by
  intro σ H0 H E R Qv hq
  refine sem_of hp ?_
  refine h σ H0 H E R _ fun vs ags ρ1 H01 H1 P1 rx q1 => ?_
  refine ⟨H01, ags.map (Ag.sl ρ1), _, _, env_in P1.env rx q1.1, q1.2, fun r args' v H0' H' q P rr => ?_, fun x args' cls d H0' H' q P rr => ?_⟩
  · have P2 := env_out P1.env rx q1.1 P
    obtain ⟨ds, rfl, q⟩ := q
    obtain ⟨p, ws, rfl, hp, h0, h1, r⟩ := rr
    exact hq p ws ds _ H0' H' (P1.trans P2) (P1.back hp) h0 h1 r q
  · have P2 := env_out P1.env rx q1.1 P
    exact ok.hw σ _ H0' H' x cls d P2.env (P2.rc (P1.rc R)) rr q
theorem jn_fn (C : Cal J.X.prog J.X.w J.X.K J.X.mg J.X.base x k c) (ok : J.Ok) (hk : k ≤ J.k) (h : JA J (e :: es) ρ fun ags ρ1 => bOk ags = true ∧ c (ags.map (Ag.sl ρ1)) (fun r args' => ∃ ds, r = .new ds ∧ QN ds (put ρ1 ags args')) (fun x args' => J.XC x (put ρ1 ags args')))
    (hg : Gl J.X x := by rfl) (hdb : (x == ("__debug__" : Str)) = false := by decide) (he : starEach (e :: es) J.X.env = (false, eval e J.X.env) :: starEach es J.X.env := by rfl) (hpl : (backTo pos (starEach es J.X.env)).any (·.1) = false := by rfl) :
    JN J (.Call (.Name x p2) (e :: es) [] pos) ρ QN := by
  obtain ⟨f, fd, ps, F, hm, kp, hb⟩ := C.ex
  exact jn_callX ok (pe_callS F (ok.rm.mono hk) hg hm kp hb (fun σ => passAt ok.tk σ) pa_sem hdb he hpl) h
end
end Dw

namespace Dw
open PySem PySem.Spec PyProof.Rows L2
open Evl (Ex)
/-! ### list comprehensions of one name -/
abbrev blkJ (J : Jx) (s : Shared) (H : Hp) (scope : Scope) (cenv : Env) (fp : List Addr) : Jx := ⟨J.X.blk s H scope cenv fp, J.N, fun _ _ _ _ => False, fun _ _ => False, J.k⟩
theorem ok_blk {J : Jx} (ok : J.Ok) (s : Shared) (H : Hp) (scope : Scope) (cenv : Env) (fp : List Addr) : (blkJ J s H scope cenv fp).Ok :=
  ⟨takes0, PassesOwn.never, ok.rm, ok.nd, fun _ _ _ _ _ _ _ _ _ _ q => q.elim⟩
def JEb (J : Jx) (scope : Scope) (e : Expr) (ρ : List Sl) (Q : Dt → List Sl → Prop) : Prop :=
  ∀ (s : Shared) (H : Hp) (C : Addr) (cl : List (Str × Addr)) (fp : List Addr), JE (blkJ J s H scope (compEnvC scope cl C J.X.env) fp) e ρ Q
def JTb (J : Jx) (scope : Scope) (e : Expr) (ρ : List Sl) (Q : Bool → List Sl → Prop) : Prop :=
  ∀ (s : Shared) (H : Hp) (C : Addr) (cl : List (Str × Addr)) (fp : List Addr), JT (blkJ J s H scope (compEnvC scope cl C J.X.env) fp) e ρ Q
def bTe (X : Cx) (scope : Scope) (e : Expr) : TE := fun σ H Q => ∀ (s : Shared) (H' : Hp) (C : Addr) (cl : List (Str × Addr)) (fp : List Addr), tSem (X.blk s H' scope (compEnvC scope cl C X.env) fp) e σ H Q
def bTt (X : Cx) (scope : Scope) (e : Expr) : TT := fun σ H Q => ∀ (s : Shared) (H' : Hp) (C : Addr) (cl : List (Str × Addr)) (fp : List Addr), bSem (X.blk s H' scope (compEnvC scope cl C X.env) fp) e σ H Q
theorem pe_bTe {X : Cx} {scope : Scope} {e : Expr} (s : Shared) (H' : Hp) (C : Addr) (cl : List (Str × Addr)) (fp : List Addr) : PE (X.blk s H' scope (compEnvC scope cl C X.env) fp) e (bTe X scope e) := ⟨fun pins t σ H Q I h => h s H' C cl fp pins t I⟩
theorem pt_bTt {X : Cx} {scope : Scope} {e : Expr} (s : Shared) (H' : Hp) (C : Addr) (cl : List (Str × Addr)) (fp : List Addr) : PT (X.blk s H' scope (compEnvC scope cl C X.env) fp) e (bTt X scope e) := ⟨fun pins t σ H Q I h => h s H' C cl fp pins t I⟩
/-- a new list, by a reading -/
def WN (J : Jx) (te : TE) (ρ : List Sl) (Q : List Dt → List Sl → Prop) : Prop :=
  ∀ (σ : L2.St) (H0 H : Hp), EnvD J.X.K H0 H σ ρ → Rc J.N σ ρ H0 H → ∀ Qv : VK,
    (∀ p vs ds ρ' H0' H', Post J.X.K σ ρ H0 H ρ' H0' H' → H p = none → H0' p = none → H' p = some (.lst vs) → RpA J.X.K H0' vs ds → Q ds ρ' → Qv (.ref p) H') → te σ H Qv
/-- a test of a block, which may lack -/
def JC (J : Jx) (scope : Scope) (c : Option Expr) (ρ : List Sl) (Q : Bool → List Sl → Prop) : Prop := match c with
  | none => Q true ρ
  | some e => JTb J scope e ρ Q
def cTt (X : Cx) (scope : Scope) : Option Expr → TT
  | none => tYes
  | some e => bTt X scope e
section
variable {J : Jx} {e elt a b : Expr} {c : Option Expr} {scope : Scope} {ρ ρ1 : List Sl} {QN : List Dt → List Sl → Prop} {x : Str} {pos : Pos} {j : Nat} {σ : L2.St} {H0 H H01 H1 : Hp} {D : Addr}
theorem jc_go {H : Hp} (E : EnvD J.X.K H0 H σ ρ) (R : Rc J.N σ ρ H0 H) {Q : Bool → List Sl → Prop} (h : JC J scope c ρ Q) (Qv : Bool → Hp → Prop) (hq : ∀ b ρ' H0' H', Post J.X.K σ ρ H0 H ρ' H0' H' → Q b ρ' → Qv b H') : cTt J.X scope c σ H Qv := by
  cases c with
  | none => exact hq true ρ H0 H (.refl E) h
  | some e => exact fun s H' C cl fp => h s H' C cl fp σ H0 H E R Qv hq
/-- behind i turns: the list at D -/
structure PvD (J : Jx) (σ : L2.St) (ρ1 : List Sl) (H01 H1 : Hp) (D : Addr) (Inv : Nat → List Dt → List Sl → Prop) (i : Nat) (H' : Hp) : Prop where
  ex : ∃ ρ' H0' acc vs, EnvD J.X.K H0' H' σ ρ' ∧ Stp (Own σ ρ1) H01 H1 H0' H' ∧ SameOwn ρ1 ρ' ∧ H0' D = none ∧ H' D = some (.lst vs) ∧ RpA J.X.K H0' vs acc ∧ acc.length ≤ i ∧ Inv i acc ρ'
theorem pv_start {Inv : Nat → List Dt → List Sl → Prop} (E : EnvD J.X.K H01 H1 σ ρ1) (hD : H1 D = none) (h : Inv 0 [] ρ1) : PvD J σ ρ1 H01 H1 D Inv 0 (upd H1 D (.lst [])) :=
  ⟨ρ1, H01, [], [], E.pure (Stp.allocO E.ex hD), (Stp.allocO E.ex hD).wide, .refl _, Evl.fresh_back E.ex hD, upd_same, .nil, Nat.le_refl _, h⟩
theorem set_back {σ : L2.St} {j : Nat} {v : Option V} (hj : j < σ.length) : (σ.set j v).set j (σ[j]) = σ := by
  apply List.ext_getElem?
  intro k
  rw [get_set, get_set]
  by_cases e : j = k
  · subst e
    rw [if_pos rfl, List.length_set, if_pos hj, List.getElem?_eq_getElem hj]
  · rw [if_neg e, if_neg e]
theorem pv_turn {Inv : Nat → List Dt → List Sl → Prop} {i : Nat} {v : V} {d : Dt} {H' : Hp} (hD : H1 D = none) (hρ : ρ1[j]? = some .no) (np : pinned J.N.ρ j = false) (E1 : EnvD J.X.K H01 H1 σ ρ1) (R1 : Rc J.N σ ρ1 H01 H1) (hv : Rp J.X.K H01 v d) (hi : i < 1000000) (p : PvD J σ ρ1 H01 H1 D Inv i H')
    (ht : ∀ acc ρ', Inv i acc ρ' → JC J scope c (ρ'.set j (.val d)) fun k ρ3 => (k = true → JEb J scope elt ρ3 fun f ρ4 => Inv (i + 1) (acc ++ [f]) (ρ4.set j .no)) ∧ (k = false → Inv (i + 1) acc (ρ3.set j .no))) :
    gName j v (wipe σ [j]) H' fun σ2 H2 => wipe σ2 [j] = wipe σ [j] ∧ cTt J.X scope c σ2 H2 fun k H3 =>
      if k = true then bTe J.X scope elt σ2 H3 fun y H4 => ∃ acc, H4 D = some (.lst acc) ∧ acc.length < sizeLine ∧ PvD J σ ρ1 H01 H1 D Inv (i + 1) (upd H4 D (.lst (acc ++ [y]))) else PvD J σ ρ1 H01 H1 D Inv (i + 1) H3 := by
  obtain ⟨ρ', H0', acc, vs, E, S, SO, z, l, r, hl, q⟩ := p.ex
  have hj : j < σ.length := by
    rw [E1.len]
    exact (List.getElem?_eq_some_iff.mp hρ).1
  have ew : wipe σ [j] = σ.set j none := rfl
  have eb : (wipe σ [j]).set j (some v) = σ.set j (some v) := by rw [ew, List.set_set]
  show wipe ((wipe σ [j]).set j (some v)) [j] = wipe σ [j] ∧ _
  rw [eb]
  refine ⟨by show (σ.set j (some v)).set j none = σ.set j none; rw [List.set_set], ?_⟩
  have Ps : Post J.X.K σ ρ1 H01 H1 ρ' H0' H' := ⟨S, E, SO⟩
  have R : Rc J.N σ ρ' H0' H' := Ps.rc R1
  have Eb : EnvD J.X.K H0' H' (σ.set j (some v)) (ρ'.set j (.val d)) := E.set j (o := some v) (s := .val d) (hv.mono S.ex) fun _ _ w => nomatch w
  have Rb : Rc J.N (σ.set j (some v)) (ρ'.set j (.val d)) H0' H' := R.set np fun _ _ w => nomatch w
  -- who is owned in the block is owned ahead
  have ownb : ∀ p, Own (σ.set j (some v)) (ρ'.set j (.val d)) p → Own σ ρ1 p := fun p ⟨k, h⟩ => by
    rcases ownAt_set h with ⟨_, w, _⟩ | ⟨_, w⟩
    · cases w
    · exact ⟨k, SO.symm.ownAt w⟩
  have nD : ∀ p, Own (σ.set j (some v)) (ρ'.set j (.val d)) p → p ≠ D := fun p h e => by
    rw [e] at h
    exact (E1.ownH (ownb _ h)).2 hD
  have back : ∀ {ρ4 : List Sl} {H04 H4 : Hp}, Post J.X.K (σ.set j (some v)) (ρ'.set j (.val d)) H0' H' ρ4 H04 H4 → EnvD J.X.K H04 H4 σ (ρ4.set j .no) ∧ Stp (Own σ ρ1) H01 H1 H04 H4 ∧ SameOwn ρ1 (ρ4.set j .no) ∧ H04 D = none ∧ H4 D = some (.lst vs) := fun {ρ4 H04 H4} P => by
    have e4 := P.env.set j (o := σ[j]) (s := .no) (by cases σ[j] <;> trivial) fun _ _ w => nomatch w
    rw [set_back hj] at e4
    refine ⟨e4, S.trans P.stp fun p h => .inl (ownb p h), fun k => ?_, P.stp.nw D (fun h => nD D h rfl) (ne_none l) z, P.stp.fr D _ (fun h => nD D h rfl) l⟩
    rw [get_set]
    by_cases e : j = k
    · subst e
      have hk : j < ρ4.length := by rw [← P.env.len, List.length_set]; exact hj
      rw [if_pos rfl, if_pos hk, hρ]
    · rw [if_neg e]
      have s := P.same k
      rw [get_set, if_neg e] at s
      rw [SO k, s]
  refine jc_go Eb Rb (ht acc ρ' q) _ fun k ρ3 H03 H3 P3 q3 => ?_
  cases k with
  | false =>
    rw [if_neg Bool.false_ne_true]
    obtain ⟨a1, a2, a3, a4, a5⟩ := back P3
    exact ⟨ρ3.set j .no, H03, acc, vs, a1, a2, a3, a4, a5, r.mono P3.stp.ex, by omega, q3.2 rfl⟩
  | true =>
    rw [if_pos rfl]
    refine fun s H5 C cl fp => q3.1 rfl s H5 C cl fp (σ.set j (some v)) H03 H3 P3.env (P3.rc Rb) _ fun y f ρ4 H04 H4 P4 ry q4 => ?_
    obtain ⟨a1, a2, a3, a4, a5⟩ := back (P3.trans P4)
    have hlen : vs.length ≤ i := by rw [r.len]; exact hl
    refine ⟨vs, a5, Nat.lt_of_lt_of_le (by omega : vs.length < 1000000) (sz6 (Nat.le_refl _)), ?_⟩
    have no : ¬ Own σ (ρ4.set j .no) D := fun h => (E1.ownH (a3.symm.own h)).2 hD
    have exD : Ex H04 (upd H4 D (.lst (vs ++ [y]))) := fun b o h => by
      rw [upd_ne (ne_of_none h a4)]
      exact a1.ex b o h
    have e6 : EnvD J.X.K H04 (upd H4 D (.lst (vs ++ [y]))) σ (ρ4.set j .no) := a1.stp (A := fun p => p = D) ⟨Evl.Ex.refl _, exD, fun p o na h => by rw [upd_ne na]; exact h, fun p _ _ w => w⟩ fun p e => by rw [e]; exact no
    have s6 : Stp (Own σ ρ1) H01 H1 H04 (upd H4 D (.lst (vs ++ [y]))) := ⟨a2.ex, exD, fun p o na h => by rw [upd_ne (ne_of_none h hD)]; exact a2.fr p o na h, a2.nw⟩
    exact ⟨ρ4.set j .no, H04, acc ++ [f], vs ++ [y], e6, s6, a3, a4, upd_same, (r.mono (P3.trans P4).stp.ex).append (.cons ry .nil), by simp; omega, q4⟩
theorem pv_end {Inv : Nat → List Dt → List Sl → Prop} {n : Nat} {Qv : VK} {H' : Hp} (P1 : Post J.X.K σ ρ H0 H ρ1 H01 H1) (hD : H1 D = none) (hq : ∀ p vs ds ρ' H0' H', Post J.X.K σ ρ H0 H ρ' H0' H' → H p = none → H0' p = none → H' p = some (.lst vs) → RpA J.X.K H0' vs ds → QN ds ρ' → Qv (.ref p) H')
    (hd : ∀ acc ρ2, Inv n acc ρ2 → QN acc ρ2) (p : PvD J σ ρ1 H01 H1 D Inv n H') : Qv (.ref D) H' := by
  obtain ⟨ρ', H0', acc, vs, E, S, SO, z, l, r, hl, q⟩ := p.ex
  exact hq D vs acc ρ' H0' H' (P1.trans ⟨S, E, SO⟩) (P1.back hD) z l r (hd acc ρ' q)
/-- over range(n) -/
theorem wn_lcR1 (np : pinned J.N.ρ j = false) (h : JE J a ρ fun d ρ1 => ∃ (n : Int) (Inv : Nat → List Dt → List Sl → Prop), d = .int n ∧ n ≤ 1000000 ∧ -1000000 ≤ n ∧ ρ1[j]? = some .no ∧ Inv 0 [] ρ1 ∧
      (∀ (i : Nat) acc ρ', (i : Int) < n → Inv i acc ρ' → JC J scope c (ρ'.set j (.val (.int (i : Int)))) fun k ρ3 => (k = true → JEb J scope elt ρ3 fun f ρ4 => Inv (i + 1) (acc ++ [f]) (ρ4.set j .no)) ∧ (k = false → Inv (i + 1) acc (ρ3.set j .no))) ∧
      (∀ acc ρ2, Inv n.toNat acc ρ2 → QN acc ρ2)) : WN J (tLc (iRng1 (tCons (tSem J.X a) tNil)) (gName j) (cTt J.X scope c) (bTe J.X scope elt) [j]) ρ QN := by
  intro σ H0 H E R Qv hq
  refine h σ H0 H E R _ fun v d ρ1 H01 H1 P1 rv q => ?_
  obtain ⟨n, Inv, rfl, h1, h2, hρ, h0, ht, hd⟩ := q
  cases rv
  refine ⟨n, rfl, by omega, by omega, fun D hD => ?_⟩
  refine lc_range (lo := 0) (n := n.toNat) (PvD J σ ρ1 H01 H1 D Inv) (pv_start P1.env hD h0) (fun i H' hi p => ?_) (fun H' p => pv_end P1 hD hq hd p)
  have e0 : (0 : Int) + (i : Int) = (i : Int) := Int.zero_add _
  rw [e0]
  exact pv_turn hD hρ np P1.env (P1.rc R) (.int _) (by omega) p fun acc ρ' q => ht i acc ρ' (by omega) q
/-- over a list -/
theorem wn_lcL (np : pinned J.N.ρ j = false) (h : JE J a ρ fun d ρ1 => ∃ (xs : List Dt) (Inv : Nat → List Dt → List Sl → Prop), d = .lst xs ∧ xs.length ≤ 1000000 ∧ ρ1[j]? = some .no ∧ Inv 0 [] ρ1 ∧
      (∀ (i : Nat) u acc ρ', xs[i]? = some u → Inv i acc ρ' → JC J scope c (ρ'.set j (.val u)) fun k ρ3 => (k = true → JEb J scope elt ρ3 fun f ρ4 => Inv (i + 1) (acc ++ [f]) (ρ4.set j .no)) ∧ (k = false → Inv (i + 1) acc (ρ3.set j .no))) ∧
      (∀ acc ρ2, Inv xs.length acc ρ2 → QN acc ρ2)) : WN J (tLc (iList J.X.K (tSem J.X a)) (gName j) (cTt J.X scope c) (bTe J.X scope elt) [j]) ρ QN := by
  intro σ H0 H E R Qv hq
  refine h σ H0 H E R _ fun v d ρ1 H01 H1 P1 rv q => ?_
  obtain ⟨xs, Inv, rfl, h1, hρ, h0, ht, hd⟩ := q
  cases rv with
  | lst hs r =>
    rename_i al vs
    refine ⟨al, rfl, ⟨vs, Evl.ex_l P1.env.ex hs⟩, fun D hD => ?_⟩
    refine lc_list (K := J.X.K) (a := al) (xs := vs) (PvD J σ ρ1 H01 H1 D Inv) (pv_start P1.env hD h0) (fun i H' _ p => ?_) (fun i u H' hi p => ?_) (fun H' p => ?_)
    · obtain ⟨ρ', H0', acc, ws, E', S, _⟩ := p.ex
      exact Evl.ex_l (S.ex.trans E'.ex) hs
    · obtain ⟨d, e1, e2⟩ := r.getV hi
      have hl : i < vs.length := (List.getElem?_eq_some_iff.mp hi).1
      have := r.len
      exact pv_turn hD hρ np P1.env (P1.rc R) e2 (by omega) p fun acc ρ' q => ht i d acc ρ' e1 q
    · rw [r.len] at p
      exact pv_end P1 hD hq hd p
/-- over a tuple -/
theorem wn_lcT (np : pinned J.N.ρ j = false) (h : JE J a ρ fun d ρ1 => ∃ (xs : List Dt) (Inv : Nat → List Dt → List Sl → Prop), d = .tup xs ∧ xs.length ≤ 1000000 ∧ ρ1[j]? = some .no ∧ Inv 0 [] ρ1 ∧
      (∀ (i : Nat) u acc ρ', xs[i]? = some u → Inv i acc ρ' → JC J scope c (ρ'.set j (.val u)) fun k ρ3 => (k = true → JEb J scope elt ρ3 fun f ρ4 => Inv (i + 1) (acc ++ [f]) (ρ4.set j .no)) ∧ (k = false → Inv (i + 1) acc (ρ3.set j .no))) ∧
      (∀ acc ρ2, Inv xs.length acc ρ2 → QN acc ρ2)) : WN J (tLc (iTup J.X.K (tSem J.X a)) (gName j) (cTt J.X scope c) (bTe J.X scope elt) [j]) ρ QN := by
  intro σ H0 H E R Qv hq
  refine h σ H0 H E R _ fun v d ρ1 H01 H1 P1 rv q => ?_
  obtain ⟨xs, Inv, rfl, h1, hρ, h0, ht, hd⟩ := q
  cases rv with
  | tup hs r =>
    rename_i al vs
    refine ⟨al, rfl, ⟨vs, Evl.ex_t P1.env.ex hs⟩, fun D hD => ?_⟩
    refine lc_tup (K := J.X.K) (a := al) (xs := vs) (PvD J σ ρ1 H01 H1 D Inv) (pv_start P1.env hD h0) (fun i H' _ p => ?_) (fun i u H' hi p => ?_) (fun H' p => ?_)
    · obtain ⟨ρ', H0', acc, ws, E', S, _⟩ := p.ex
      exact Evl.ex_t (S.ex.trans E'.ex) hs
    · obtain ⟨d, e1, e2⟩ := r.getV hi
      have hl : i < vs.length := (List.getElem?_eq_some_iff.mp hi).1
      have := r.len
      exact pv_turn hD hρ np P1.env (P1.rc R) e2 (by omega) p fun acc ρ' q => ht i d acc ρ' e1 q
    · rw [r.len] at p
      exact pv_end P1 hD hq hd p
theorem jn_of {te : TE} (hp : PE J.X e te) (h : WN J te ρ QN) : JN J e ρ QN := fun σ H0 H E R Qv hq => sem_of hp (h σ H0 H E R Qv hq)
/-- the comprehension's own rule -/
theorem pe_lcN {iter : Expr} {wi : TI} {own : List (Str × Nat)} (ok : J.Ok) (hi : PI J.X (.Name x pos) iter wi) (hb : BlkOk J.X.N J.X.env.scope scope own) (hj : J.X.N[j]? = some x) (hx : scope.names.lookup x = some .local) (hc : J.X.calm = true) {p2 : Pos}
    (hl : ∀ (C : Addr) (cl : List (Str × Addr)), Loc (compEnvC scope cl C J.X.env).scope x) (hf : ∀ (C : Addr) (cl : List (Str × Addr)), (compEnvC scope cl C J.X.env).scope.names.lookup x = some .local) (hs : ∀ x, foldedSetIterable iter J.X.env x = pure x) : PE J.X (.ListComp elt [⟨.Name x pos, iter, [], 0⟩] scope p2) (tLc wi (gName j) tYes (bTe J.X scope elt) (own.map (·.2))) :=
  pe_lc hc ok.nd hi hb (fun _ _ C cl _ => pg_name ok.nd hj (hl C cl) (.inr (hf C cl))) (fun _ _ _ _ _ => pts_nil) (fun s H C cl fp => pe_bTe s H C cl fp) hs
theorem pe_lcI {iter cd : Expr} {wi : TI} {own : List (Str × Nat)} (ok : J.Ok) (hi : PI J.X (.Name x pos) iter wi) (hb : BlkOk J.X.N J.X.env.scope scope own) (hj : J.X.N[j]? = some x) (hc : J.X.calm = true) {p2 : Pos}
    (hl : ∀ (C : Addr) (cl : List (Str × Addr)), Loc (compEnvC scope cl C J.X.env).scope x) (hf : ∀ (C : Addr) (cl : List (Str × Addr)), (compEnvC scope cl C J.X.env).scope.names.lookup x = some .local) (hs : ∀ x, foldedSetIterable iter J.X.env x = pure x) : PE J.X (.ListComp elt [⟨.Name x pos, iter, [cd], 0⟩] scope p2) (tLc wi (gName j) (bTt J.X scope cd) (bTe J.X scope elt) (own.map (·.2))) :=
  pe_lc hc ok.nd hi hb (fun _ _ C cl _ => pg_name ok.nd hj (hl C cl) (.inr (hf C cl))) (fun s H C cl fp => pts_one (pt_bTt s H C cl fp)) (fun s H C cl fp => pe_bTe s H C cl fp) hs
end
end Dw

namespace Dw
open PySem PySem.Spec PyProof.Rows L2
open Evl (Ex)
/-! ### raise -/
/-- an error of the class at C is made: its one field f holds the argument -/
def tMk1 (C : Addr) (f : Str) (ta : TA) : L2.St → Hp → XK → Prop := fun σ H Q => ta σ H fun vs H1 => ∃ v, vs = [v] ∧ ∀ d, H1 d = none → Q (.ref C) (some d) (upd H1 d (.xd [(f, v)]))
section
variable {J : Jx} {e a b : Expr} {ρ : List Sl} {O : Outs} {Q : Dt → List Sl → Prop} {QB : Bool → List Sl → Prop} {x n y f : Str} {p1 p2 p3 p4 pos : Pos} {i : Nat} {body suite : List Stmt} {b0 : Stmt} {C D : Addr}
theorem js_raise1 (ok : J.Ok) (hp : PMk J.X e (tMk1 C f (tCons (tSem J.X a) tNil))) (h : JE J a ρ fun d ρ1 => J.XC ⟨C, some (f, d)⟩ ρ1) (hc : J.X.calm = true := by rfl) : JS J (.Raise (some e) none pos) ρ O := by
  intro σ H0 H E R D' Cm
  refine semS_of (ps_raise hc ok.tk hp) ?_
  refine h σ H0 H E R _ fun v d ρ1 H01 H1 P1 r q => ?_
  refine ⟨v, rfl, fun dd hd => ?_⟩
  have P2 := P1.then (Stp.alloc P1.env.ex (p := dd) (o := .xd [(f, v)]) hd)
  exact ok.hw σ ρ1 _ _ ⟨C, some (f, d)⟩ (.ref C) (some dd) P2.env (P2.rc R) ⟨rfl, dd, v, rfl, upd_same, r.mono (Evl.Ex.new (Evl.fresh_back P1.env.ex hd))⟩ q
/-! ### try .. except .. as n -/
def Exn.slot (a : Addr) (d : Option Addr) (x : Exn) : Sl := .exc a (match d, x.fs with
  | some dd, some ft => some (dd, ft.1, ft.2)
  | _, _ => none)
abbrev tryJ (J : Jx) (B : Hp) (pn : List (Addr × Obj)) (xe : Value → Shared → Prop) (W : WX) (HX : Exn → List Sl → Prop) : Jx := ⟨J.X.tr pn xe, { J.N with B := B }, W, HX, J.k⟩
abbrev suiteJ (J : Jx) (a : Addr) (oe : Obj) (pn : List (Addr × Obj)) : Jx := ⟨J.X.suite a ((a, oe) :: pn), J.N, fun _ _ _ _ => False, fun _ _ => False, J.k⟩
theorem js_try {c : Value} {np ph : Pos} (ok : J.Ok) (HX : Exn → List Sl → Prop) (hs : J.X.stack = J.X.env :: J.X.outer) (hf : J.X.env.frame = some J.X.env.locals) (hi : J.X.N[i]? = some n) (hln : J.X.env.kindOf n = some .local) (hc : Names J.X x c) (npn : pinned J.N.ρ i = false)
    (hb : ∀ B pn xe W, (tryJ J B pn xe W HX).Ok → JB (tryJ J B pn xe W HX) body ρ O)
    (hsu : ∀ x ρ', HX x ρ' → ∃ b, PySem.W.exmOne J.X.K (.ref x.C) c = some b ∧ (b = true → ∀ a d oe pn, Zc (.ref x.C) d oe → (∃ vs, oe.data = .fields vs) → (d = none → x.fs = none) → JB (suiteJ J a oe pn) (b0 :: suite) (ρ'.set i (x.slot a d)) { nx := fun ρ2 => O.nx (ρ2.set i .no), rt := O.rt, bk := fun ρ2 => O.bk (ρ2.set i .no), ct := fun ρ2 => O.ct (ρ2.set i .no) }) ∧ (b = false → J.XC x ρ')) :
    JS J (.Try body [.ExceptHandler (some (.Name x np)) (some n) (b0 :: suite) ph] [] [] pos) ρ O := by
  intro σ H0 H E R D' Cm
  refine semS_of (ps_try_as (i := i) (tb := fun W => fun D σ H => ∀ pn xe, Takes (J.X.tr pn xe) W → PassesOwn (model J.X.prog J.X.w) J.X.A J.X.env xe → ssSem (J.X.tr pn xe) body D σ H)
    (ts := fun a cls d => fun D σ H => ∀ oe pn, Zc cls d oe → (∃ vs, oe.data = .fields vs) → ssSem (J.X.suite a ((a, oe) :: pn)) (b0 :: suite) D σ H) (Wout := J.W) hs hf ok.nd hi hln hc ok.tk
    (fun W pn xe tk po => ⟨fun pins s σ H D I h => h pn xe tk po pins s I⟩) (fun a oe cls d pn hz hv => ⟨fun pins s σ H D I h => h oe pn hz hv pins s I⟩)) ?_
  intro pn xe tk po
  have okB : (tryJ J H0 pn xe (wAs J.X.K c i (fun a cls d => fun D σ H => ∀ oe pn, Zc cls d oe → (∃ vs, oe.data = .fields vs) → ssSem (J.X.suite a ((a, oe) :: pn)) (b0 :: suite) D σ H) J.W D') HX).Ok := by
    refine ⟨tk, po, ok.rm, ok.nd, fun σ' ρ' H0' H' x cls d E' R' xr q => ?_⟩
    have R1 : Rc J.N σ' ρ' H0' H' := R'.up R.lb
    have eB : Ex H0 H0' := R'.lb
    obtain ⟨b, hb1, hb2, hb3⟩ := hsu x ρ' q
    obtain ⟨rfl, hx⟩ := xr
    refine ⟨b, hb1, fun h a ha oe pn hz hv => ?_, fun h => ok.hw σ' ρ' H0' H' x (.ref x.C) d E' R1 ⟨rfl, hx⟩ (hb3 h)⟩
    have hd0 : d = none → x.fs = none := fun e => by
      subst e
      cases ef : x.fs with
      | none => rfl
      | some ft =>
        rw [ef] at hx
        obtain ⟨dd, v, e, _⟩ := hx
        cases e
    have sl : Dw.SlR J.X.K H0' H' (some (.ref a)) (x.slot a d) := by
      refine ⟨rfl, ?_⟩
      cases d with
      | none => trivial
      | some dd =>
        cases ef : x.fs with
        | none => trivial
        | some ft =>
          rw [ef] at hx
          obtain ⟨dd', v, e, h1, h2⟩ := hx
          cases e
          exact ⟨v, h1, h2⟩
    refine hb2 h a d oe pn hz hv hd0 (σ'.set i (some (.ref a))) H0' H' (E'.set i (o := some (.ref a)) sl fun _ _ w => nomatch w) (R1.set npn fun _ _ w => nomatch w) _ ⟨fun σ2 ρ2 H02 H2 e2 E2 R2 q2 => ?_, Cm.rt, fun σ2 ρ2 H02 H2 e2 E2 R2 q2 => ?_, fun σ2 ρ2 H02 H2 e2 E2 R2 q2 => ?_⟩
    · exact Cm.nx _ _ H02 H2 (eB.trans e2) (E2.set i (o := none) (s := .no) trivial fun _ w _ => nomatch w) (R2.set npn fun _ w _ => nomatch w) q2
    · exact Cm.bk _ _ H02 H2 (eB.trans e2) (E2.set i (o := none) (s := .no) trivial fun _ w _ => nomatch w) (R2.set npn fun _ w _ => nomatch w) q2
    · exact Cm.ct _ _ H02 H2 (eB.trans e2) (E2.set i (o := none) (s := .no) trivial fun _ w _ => nomatch w) (R2.set npn fun _ w _ => nomatch w) q2
  exact hb H0 pn xe _ okB σ H0 H E (R.dn (Evl.Ex.refl _)) D' ⟨fun σ2 ρ2 H02 H2 e2 E2 R2 q2 => Cm.nx σ2 ρ2 H02 H2 e2 E2 (R2.up R.lb) q2, fun σ2 ρ2 v r H02 H2 E2 R2 rr q2 => Cm.rt σ2 ρ2 v r H02 H2 E2 (R2.up R.lb) rr q2, fun σ2 ρ2 H02 H2 e2 E2 R2 q2 => Cm.bk σ2 ρ2 H02 H2 e2 E2 (R2.up R.lb) q2, fun σ2 ρ2 H02 H2 e2 E2 R2 q2 => Cm.ct σ2 ρ2 H02 H2 e2 E2 (R2.up R.lb) q2⟩
/-! ### e.f, isinstance(e, C) in the suite -/
/-- what the class of a held exception must say -/
structure XCls (K : PySem.W.Frag) (C : Addr) : Prop where
  f : XfC K C
  cl : (PySem.W.clsIn K C).isSome = true
  ha : PySem.W.findIn K (.ref C) "__class__" = some (some (.builtin "object.__class__"))
  hn : PySem.W.specialIn K (.builtin "object.__class__") "__get__" = some (some (.builtin "getset_descriptor.__get__"))
  ht : PySem.W.takesIn K (.builtin "object.__class__") = some true
  hm : PySem.W.mroIn K C (.type "object") = some true
theorem EnvD.exc {K : PySem.W.Frag} {H0 H : Hp} {σ : L2.St} {ρ : List Sl} (E : EnvD K H0 H σ ρ) {i : Nat} {a : Addr} {o : Option (Addr × Str × Dt)} (h : ρ[i]? = some (.exc a o)) : σ[i]? = some (some (.ref a)) ∧ XcR K H0 o := by
  obtain ⟨v, e, rfl, q⟩ := E.at_ h (by show 4 ≠ 0; decide)
  exact ⟨e, q⟩
theorem je_excFld {a dd : Addr} {t : Dt} {oe : Obj} {pn : List (Addr × Obj)} (T : XCls J.X.K C) (hno : PySem.W.findIn J.X.K (.ref C) f = some none) (hz : Zc (.ref C) (some dd) oe) (hv : ∃ vs, oe.data = .fields vs) (hr : ρ[i]? = some (.exc a (some (dd, f, t)))) (q : Q t ρ)
    (hN : J.X.N[i]? = some n := by rfl) (hvi : Vis J.X.env.scope n := by first | exact Or.inl rfl | exact Or.inr (Or.inl rfl) | exact Or.inr (Or.inr rfl)) (hd : (n == ("__debug__" : Str)) = false := by decide) (hcd : (n == ("__classdict__" : Str)) = false := by decide)
    (hb : attributeBase (.Name n p1) f J.X.env (eval (.Name n p1) J.X.env) = eval (.Name n p1) J.X.env := by rfl) : JE (suiteJ J a oe pn) (.Attribute (.Name n p1) f pos) ρ Q := by
  intro σ H0 H E R Qv hq
  refine sem_of (pe_xf (X := J.X) T.f hno hz hv (pe_var (i := i) hN hvi hd hcd) hb) ?_
  obtain ⟨es, w, h1, h2⟩ := E.exc hr
  exact ⟨.ref a, es, rfl, rfl, dd, [(f, w)], w, rfl, E.ex _ _ h1, by simp [List.lookup], hq w t ρ H0 H (.refl E) h2 q⟩
/-- isinstance of the held exception, by values: one class, or a tuple of classes -/
def rIsX (K : PySem.W.Frag) (D a : Addr) : List V → Hp → VK → Prop := fun xs H Q => ∃ (c : V) (cv : Value) (b : Bool), xs = [.ref a, c] ∧ ClsV c cv ∧ PySem.W.kitOne K (.ref D) cv = some b ∧ Q (.bl b) H
def rIsXT (K : PySem.W.Frag) (D a : Addr) : List V → Hp → VK → Prop := fun xs H Q => ∃ (tp : Addr) (cs : List V) (us : List Value) (b : Bool), xs = [.ref a, .ref tp] ∧ H tp = some (.tup cs) ∧ Paired ClsV cs us ∧ PySem.W.kitAny K (.ref D) us = some b ∧ Q (.bl b) H
theorem XCls.kit {X : Cx} {a : Addr} {oe : Obj} {d : Option Addr} {pn : List (Addr × Obj)} {pins : List (Addr × Obj)} {σ : L2.St} {H : Hp} {s : Shared} (T : XCls X.K C) (hz : Zc (.ref C) d oe) (hv : ∃ vs, oe.data = .fields vs) (hd : ∀ dd, d = some dd → ∃ fs, H dd = some (.xd fs))
    (I : Inv (X.suite a ((a, oe) :: pn)) pins σ H s) : ∃ od, PySem.W.KitX X.K (.ref a) (.ref C) (fun h => PySem.W.InstAt h a oe C od) ∧ PySem.W.InstAt s.heap a oe C od := by
  obtain ⟨hget, _⟩ := I.pin (a, oe) (List.mem_append_left _ List.mem_cons_self)
  obtain ⟨vs, hvv⟩ := hv
  have nc : PySem.W.notCls oe := by
    unfold PySem.W.notCls
    rw [hvv]
  cases d with
  | none => exact ⟨none, PySem.W.kitx_exc T.cl T.f.ga T.f.gg T.f.exC T.ha T.hn T.ht T.hm, hget, hz.1, nc, by rw [hz.2]; trivial⟩
  | some dd =>
    obtain ⟨fs, hfs⟩ := hd dd rfl
    obtain ⟨mA, hns, _⟩ : ObjOk X.prog X.w H s.heap dd (.xd fs) := I.hok dd _ hfs
    obtain ⟨od, ho, _⟩ := lookIn_ns hns
    exact ⟨some od, PySem.W.kitx_exc T.cl T.f.ga T.f.gg T.f.exC T.ha T.hn T.ht T.hm, hget, hz.1, nc, by rw [hz.2]; exact ho⟩
theorem call_isX {X : Cx} {a : Addr} {oe : Obj} {d : Option Addr} {pn : List (Addr × Obj)} (T : XCls X.K C) (hz : Zc (.ref C) d oe) (hv : ∃ vs, oe.data = .fields vs) :
    CallR (X.suite a ((a, oe) :: pn)) (.builtin "isinstance") (fun xs H Q => (∀ dd, d = some dd → ∃ fs, H dd = some (.xd fs)) ∧ rIsX X.K C a xs H Q) := by
  intro pins s σ H xs us Q I r h
  obtain ⟨hd, c, cv, b, rfl, hcv, e, q⟩ := h
  obtain ⟨u1, u2, rfl, r1, r2⟩ := vals2 r
  cases r1
  have ec := hcv.eq r2
  subst ec
  obtain ⟨od, Z, J⟩ := T.kit hz hv hd I
  exact PySem.W.kia_one Z I.kIn J e (fun z => nomatch z) fun tk => ⟨.bl b, H, I.tok tk, rfl, q⟩
theorem call_isXT {X : Cx} {a : Addr} {oe : Obj} {d : Option Addr} {pn : List (Addr × Obj)} (T : XCls X.K C) (hz : Zc (.ref C) d oe) (hv : ∃ vs, oe.data = .fields vs) :
    CallR (X.suite a ((a, oe) :: pn)) (.builtin "isinstance") (fun xs H Q => (∀ dd, d = some dd → ∃ fs, H dd = some (.xd fs)) ∧ rIsXT X.K C a xs H Q) := by
  intro pins s σ H xs us Q I r h
  obtain ⟨hd, tp, cs, ws, b, rfl, hT, hcv, e, q⟩ := h
  obtain ⟨u1, u2, rfl, r1, r2⟩ := vals2 r
  cases r1
  cases r2
  obtain ⟨od, Z, J⟩ := T.kit hz hv hd I
  obtain ⟨_, its, rv, o, h1, h2, m, h3⟩ : ObjOk X.prog X.w H s.heap tp (.tup cs) := I.hok tp _ hT
  have e3 := ClsV.all hcv rv
  subst e3
  obtain ⟨oc, od', dt, sl⟩ := o
  simp only at h2 h3
  subst h2 h3
  exact PySem.W.kia_tup Z I.kIn J h1 e (fun z => nomatch z) fun tk => ⟨.bl b, H, I.tok tk, rfl, q⟩
/-- a name that stands for a class -/
structure ClsN (X : Cx) (y : Str) (v : V) (u : Value) : Prop where
  gl : Gl X y
  ok : (X.mg y = some u ∧ RelV v u) ∨ (X.mg y = none ∧ bootBuiltins y = some u ∧ RelV v u ∧ y ≠ "__name__")
  cl : ClsV v u
  db : (y == ("__debug__" : Str)) = false
theorem ClsN.pe {X : Cx} {v : V} {u : Value} (c : ClsN X y v u) {a : Addr} {pn : List (Addr × Obj)} : PE (X.suite a pn) (.Name y p1) (tC v) := by
  rcases c.ok with ⟨h1, h2⟩ | ⟨h1, h2, h3, h4⟩
  · exact pe_glob (X := X.suite a pn) c.gl h1 h2 c.db
  · exact pe_bltn (X := X.suite a pn) c.gl h1 h2 h3 h4 c.db
theorem je_isX {a : Addr} {o : Option (Addr × Str × Dt)} {d : Option Addr} {oe : Obj} {pn : List (Addr × Obj)} {v : V} {u : Value} {k : Bool} (T : XCls J.X.K C) (hz : Zc (.ref C) d oe) (hv : ∃ vs, oe.data = .fields vs) (hr : ρ[i]? = some (.exc a o)) (ho : d = o.map (·.1)) (c : ClsN J.X y v u)
    (hk : PySem.W.kitOne J.X.K (.ref C) u = some k) (q : Q (.bl k) ρ) (hg : Gl J.X "isinstance") (hm : J.X.mg "isinstance" = none)
    (hN : J.X.N[i]? = some n := by rfl) (hvi : Vis J.X.env.scope n := by first | exact Or.inl rfl | exact Or.inr (Or.inl rfl) | exact Or.inr (Or.inr rfl)) (hd : (n == ("__debug__" : Str)) = false := by decide) (hcd : (n == ("__classdict__" : Str)) = false := by decide)
    (he : starEach (.Name n p1 :: [.Name y p3]) J.X.env = (false, eval (.Name n p1) J.X.env) :: starEach [.Name y p3] J.X.env := by rfl) (he2 : starEach (.Name y p3 :: []) J.X.env = (false, eval (.Name y p3) J.X.env) :: starEach [] J.X.env := by rfl)
    (hpl : (backTo pos (starEach [.Name y p3] J.X.env)).any (·.1) = false := by rfl) : JE (suiteJ J a oe pn) (.Call (.Name "isinstance" p2) [.Name n p1, .Name y p3] [] pos) ρ Q := by
  intro σ H0 H E R Qv hq
  refine sem_of (pe_callB (X := J.X.suite a ((a, oe) :: pn)) (call_isX T hz hv) hg hm (by decide +kernel) (pa_cons (pe_var (i := i) hN hvi hd hcd) (pa_cons c.pe pa_nil he2) he) (he := he) (hpl := hpl)) ?_
  obtain ⟨es, xr⟩ := E.exc hr
  refine ⟨.ref a, es, fun dd e => ?_, v, u, k, rfl, c.cl, hk, hq _ _ ρ H0 H (.refl E) (.bl k) q⟩
  rw [ho] at e
  cases o with
  | none => cases e
  | some w =>
    cases e
    obtain ⟨z, h1, _⟩ := xr
    exact ⟨_, E.ex _ _ h1⟩
/-- isinstance(e, (y, z)) -/
theorem je_isX2 {a : Addr} {o : Option (Addr × Str × Dt)} {d : Option Addr} {oe : Obj} {pn : List (Addr × Obj)} {v v' : V} {u u' : Value} {k : Bool} {z : Str} {p5 p6 : Pos} {kt : Nat} (T : XCls J.X.K C) (hz : Zc (.ref C) d oe) (hv : ∃ vs, oe.data = .fields vs) (hr : ρ[i]? = some (.exc a o)) (ho : d = o.map (·.1)) (c : ClsN J.X y v u) (c' : ClsN J.X z v' u')
    (hk : PySem.W.kitAny J.X.K (.ref C) [u, u'] = some k) (q : Q (.bl k) ρ) (hg : Gl J.X "isinstance") (hm : J.X.mg "isinstance" = none)
    (hN : J.X.N[i]? = some n := by rfl) (hvi : Vis J.X.env.scope n := by first | exact Or.inl rfl | exact Or.inr (Or.inl rfl) | exact Or.inr (Or.inr rfl)) (hd : (n == ("__debug__" : Str)) = false := by decide) (hcd : (n == ("__classdict__" : Str)) = false := by decide)
    (he : starEach (.Name n p1 :: [.Tuple [.Name y p3, .Name z p5] kt p6]) J.X.env = (false, eval (.Name n p1) J.X.env) :: starEach [.Tuple [.Name y p3, .Name z p5] kt p6] J.X.env := by rfl) (he2 : starEach (.Tuple [.Name y p3, .Name z p5] kt p6 :: []) J.X.env = (false, eval (.Tuple [.Name y p3, .Name z p5] kt p6) J.X.env) :: starEach [] J.X.env := by rfl)
    (he3 : starEach (.Name y p3 :: [.Name z p5]) J.X.env = (false, eval (.Name y p3) J.X.env) :: starEach [.Name z p5] J.X.env := by rfl) (he4 : starEach (.Name z p5 :: []) J.X.env = (false, eval (.Name z p5) J.X.env) :: starEach [] J.X.env := by rfl)
    (hpl : (backTo pos (starEach [.Tuple [.Name y p3, .Name z p5] kt p6] J.X.env)).any (·.1) = false := by rfl) : JE (suiteJ J a oe pn) (.Call (.Name "isinstance" p2) [.Name n p1, .Tuple [.Name y p3, .Name z p5] kt p6] [] pos) ρ Q := by
  intro σ H0 H E R Qv hq
  refine sem_of (pe_callB (X := J.X.suite a ((a, oe) :: pn)) (call_isXT T hz hv) hg hm (by decide +kernel) (pa_cons (pe_var (i := i) hN hvi hd hcd) (pa_cons (pe_tup (pa_cons c.pe (pa_cons c'.pe pa_nil he4) he3)) pa_nil he2) he) (he := he) (hpl := hpl)) ?_
  obtain ⟨es, xr⟩ := E.exc hr
  refine ⟨.ref a, es, sz6 (by show 2 ≤ 1000000; decide), fun p hp => ⟨fun dd e => ?_, p, [v, v'], [u, u'], k, rfl, upd_same, .cons c.cl (.cons c'.cl .nil), hk, ?_⟩⟩
  · rw [ho] at e
    cases o with
    | none => cases e
    | some w =>
      cases e
      obtain ⟨z, h1, _⟩ := xr
      exact ⟨_, by rw [upd_ne (ne_of_none (E.ex _ _ h1) hp)]; exact E.ex _ _ h1⟩
  · have P2 := (Post.refl (K := J.X.K) (σ := σ) E).then (Stp.allocO E.ex (o := .tup [v, v']) hp)
    exact hq _ _ ρ _ _ P2 (.bl k) q
end
end Dw

namespace Dw
open PySem PySem.Spec PyProof.Rows L2
open Evl (Ex)
/-! ### divmod of ints of either sign -/
def CDm (i j : Int) : Prop := j ≠ 0 ∧ j.natAbs < 2 ^ 8000
theorem pyl_no {i j : Int} (h : CDm i j) : Builtin.divisionGoesByPylong i j = false := by
  obtain ⟨h0, h1⟩ := h
  have hn : j.natAbs ≠ 0 := by omega
  have hl : j.natAbs.log2 < 8000 := (Nat.log2_lt hn).mpr h1
  show (decide ((if j == 0 then 0 else j.natAbs.log2 / 30 + 1) > 300) && _) = false
  have z : ¬ ((if j == 0 then 0 else j.natAbs.log2 / 30 + 1) > 300) := by
    split <;> omega
  rw [decide_eq_false z, Bool.false_and]
def rDm : List V → Hp → VK → Prop := fun xs H Q => ∃ i j, xs = [.int i, .int j] ∧ CDm i j ∧ ∀ p, H p = none → Q (.ref p) (upd H p (.tup [.int (i.fdiv j), .int (i.fmod j)]))
theorem call_dm {X : Cx} : CallR X (.builtin "divmod") rDm := by
  intro pins s σ H xs us Q I rxs hh
  obtain ⟨i, j, rfl, hc, q⟩ := hh
  obtain ⟨w1, w2, rfl, ⟨k1, rfl⟩, ⟨k2, rfl⟩⟩ := vals2 rxs
  refine divmod_int hc.1 ?_ (.inl (pyl_no hc))
  have nw : H s.heap.objs.size = none := I.hok.fresh (Nat.le_refl s.heap.objs.size)
  refine ⟨.ref s.heap.objs.size, _, I.laid (t' := s.toks + 1 + 1) (fun c o e => Heap.get?_push_of_some _ e) (Nat.le_refl _) ?_, rfl, q _ nw⟩
  exact ⟨sz6 (by show 2 ≤ 1000000; decide), [.int (i.fdiv j) s.toks, .int (i.fmod j) (s.toks + 1)], .cons ⟨_, rfl⟩ (.cons ⟨_, rfl⟩ .nil), _, Heap.get?_push_size s.heap rfl, rfl, 0, rfl⟩
section
variable {J : Jx} {e a b c iter : Expr} {es : List Expr} {ρ : List Sl} {O : Outs} {Q : Dt → List Sl → Prop} {QB : Bool → List Sl → Prop} {QN : List Dt → List Sl → Prop} {x n y f : Str} {p1 p2 p3 p4 pos : Pos} {i : Nat} {body : List Stmt}
theorem je_divmod (h : JE J a ρ fun d ρ1 => JE J b ρ1 fun f ρ2 => ∃ i j, d = .int i ∧ f = .int j ∧ CDm i j ∧ Q (.tup [.int (i.fdiv j), .int (i.fmod j)]) ρ2) (hg : Gl J.X "divmod") (hm : J.X.mg "divmod" = none)
    (he : starEach (a :: [b]) J.X.env = (false, eval a J.X.env) :: starEach [b] J.X.env := by rfl) (he2 : starEach (b :: []) J.X.env = (false, eval b J.X.env) :: starEach [] J.X.env := by rfl) (hpl : (backTo pos (starEach [b] J.X.env)).any (·.1) = false := by rfl) : JE J (.Call (.Name "divmod" p2) [a, b] [] pos) ρ Q :=
  je_cb (id := "divmod") (pe_callB call_dm hg hm (by decide +kernel) pa_sem (he := he) (hpl := hpl)) (rd := fun ds Qd => ∃ i j : Int, ds = [.int i, .int j] ∧ CDm i j ∧ Qd (.tup [.int (i.fdiv j), .int (i.fmod j)]))
    (by
      intro vs ds H0 H Qd Qv hx rx q k
      obtain ⟨i, j, rfl, hc, q⟩ := q
      cases rx with
      | cons r rn =>
        cases rn with
        | cons r2 rn =>
          cases rn
          cases r
          cases r2
          exact ⟨i, j, rfl, hc, fun p hp => k _ _ _ _ (Stp.alloc hx hp) (.tup (Evl.st_of upd_same) (.cons (.int _) (.cons (.int _) .nil))) q⟩)
    (jv_cons (je_mono h fun d ρ1 h => jv_cons (je_mono h fun f ρ2 ⟨i, j, h1, h2, hc, q⟩ => jv_nil ⟨i, j, by rw [h1, h2], hc, q⟩) he2) he)
/-! ### == of lists and tuples -/
mutual
def Dt.py : Dt → Option PyData
  | .non => some .none
  | .bl b => some (.bool b)
  | .int i => some (.int i)
  | .str x => some (.str x)
  | .lst l => (Dt.pys l).map PyData.list
  | .tup l => (Dt.pys l).map PyData.tuple
  | .obj _ _ => none
def Dt.pys : List Dt → Option (List PyData)
  | [] => some []
  | d :: ds => match Dt.py d, Dt.pys ds with
    | some p, some ps => some (p :: ps)
    | _, _ => none
end
mutual
theorem rp_dp {K : PySem.W.Frag} {H : Hp} : ∀ {v : V} {d : Dt} {p : PyData}, Rp K H v d → d.py = some p → Dp K H v p
  | _, _, _, .non, h => by cases h; exact .non
  | _, _, _, .bl b, h => by cases h; exact .bl b
  | _, _, _, .int b, h => by cases h; exact .int b
  | _, _, _, .str b, h => by cases h; exact .str b
  | _, _, _, .lst (ds := ds) hs r, h => by
    rw [Dt.py] at h
    cases e : Dt.pys ds with
    | none => rw [e] at h; cases h
    | some ps =>
      rw [e] at h
      cases h
      exact .lst hs (rpa_dpa r e)
  | _, _, _, .tup (ds := ds) hs r, h => by
    rw [Dt.py] at h
    cases e : Dt.pys ds with
    | none => rw [e] at h; cases h
    | some ps =>
      rw [e] at h
      cases h
      exact .tup hs (rpa_dpa r e)
  | _, _, _, .obj _ _, h => by cases h
theorem rpa_dpa {K : PySem.W.Frag} {H : Hp} : ∀ {vs : List V} {ds : List Dt} {ps : List PyData}, RpA K H vs ds → Dt.pys ds = some ps → DpAll K H vs ps
  | _, _, _, .nil, h => by cases h; exact .nil
  | _, _, _, .cons (d := d) (ds := ds) r rs, h => by
    rw [Dt.pys] at h
    cases e : Dt.py d with
    | none => rw [e] at h; cases h
    | some p =>
      cases e2 : Dt.pys ds with
      | none => rw [e, e2] at h; cases h
      | some ps =>
        rw [e, e2] at h
        cases h
        exact .cons (rp_dp r e) (rpa_dpa rs e2)
end
def rdEqD (d e : Dt) (Q : Bool → Prop) : Prop := ∃ p q, d.py = some p ∧ e.py = some q ∧ SeqAt.shaped p = true ∧ SeqAt.shaped q = true ∧ Q (PyData.eqv p q)
theorem rd_eqD (K : PySem.W.Frag) : RD K (rEqD K) fun d e Q => rdEqD d e fun b => Q (.bl b) := by
  intro x y d e H0 H Q Qv hx rx ry h k
  obtain ⟨p, q, h1, h2, h3, h4, hq⟩ := h
  exact ⟨p, q, rp_dp (rx.mono hx) h1, rp_dp (ry.mono hx) h2, h3, h4, k _ _ H0 H (.refl hx) (.bl _) hq⟩
theorem rd_neD (K : PySem.W.Frag) : RD K (rNeD K) fun d e Q => rdEqD d e fun b => Q (.bl (!b)) := by
  intro x y d e H0 H Q Qv hx rx ry h k
  obtain ⟨p, q, h1, h2, h3, h4, hq⟩ := h
  exact ⟨p, q, rp_dp (rx.mono hx) h1, rp_dp (ry.mono hx) h2, h3, h4, k _ _ H0 H (.refl hx) (.bl _) hq⟩
theorem je_eqD (ok : J.Ok) (h : JE J a ρ fun d ρ1 => JE J b ρ1 fun f ρ2 => rdEqD d f fun z => Q (.bl z) ρ2) : JE J (.Compare a [.Eq] [b] pos) ρ Q := je_op2 (pe_cmpR (op_eqD ok.rm.units) pe_sem pe_sem (nomark _)) (rd_eqD _) h
theorem je_neD (ok : J.Ok) (h : JE J a ρ fun d ρ1 => JE J b ρ1 fun f ρ2 => rdEqD d f fun z => Q (.bl (!z)) ρ2) : JE J (.Compare a [.NotEq] [b] pos) ρ Q := je_op2 (pe_cmpR (op_neD ok.rm.units) pe_sem pe_sem (nomark _)) (rd_neD _) h
theorem jt_eqD (ok : J.Ok) (h : JE J a ρ fun d ρ1 => JE J b ρ1 fun f ρ2 => rdEqD d f fun z => QB z ρ2) : JT J (.Compare a [.Eq] [b] pos) ρ QB :=
  jt_op2 (pt_cmpR (op_eqD ok.rm.units) pe_sem pe_sem (nomark _)) (rd_eqD _) (je_mono h fun d ρ1 h => je_mono h fun f ρ2 ⟨p, q, h1, h2, h3, h4, hq⟩ => ⟨p, q, h1, h2, h3, h4, _, rfl, hq⟩)
theorem jt_neD (ok : J.Ok) (h : JE J a ρ fun d ρ1 => JE J b ρ1 fun f ρ2 => rdEqD d f fun z => QB (!z) ρ2) : JT J (.Compare a [.NotEq] [b] pos) ρ QB :=
  jt_op2 (pt_cmpR (op_neD ok.rm.units) pe_sem pe_sem (nomark _)) (rd_neD _) (je_mono h fun d ρ1 h => je_mono h fun f ρ2 ⟨p, q, h1, h2, h3, h4, hq⟩ => ⟨p, q, h1, h2, h3, h4, _, rfl, hq⟩)
theorem pys_ints : ∀ ns : List Int, Dt.pys (ns.map Dt.int) = some (ns.map PyData.int)
  | [] => rfl
  | n :: ns => by
    show (match Dt.py (.int n), Dt.pys (ns.map Dt.int) with | some p, some ps => some (p :: ps) | _, _ => none) = _
    rw [pys_ints ns]
    rfl
theorem py_ints (ns : List Int) : (Dt.lst (ns.map Dt.int)).py = some (.list (ns.map PyData.int)) := by
  show (Dt.pys (ns.map Dt.int)).map PyData.list = _
  rw [pys_ints]
  rfl
theorem py_intsT (ns : List Int) : (Dt.tup (ns.map Dt.int)).py = some (.tuple (ns.map PyData.int)) := by
  show (Dt.pys (ns.map Dt.int)).map PyData.tuple = _
  rw [pys_ints]
  rfl
theorem eqvAll_ints : ∀ xs ys : List Int, PyData.eqvAll (xs.map PyData.int) (ys.map PyData.int) = decide (xs = ys)
  | [], [] => by simp [PyData.eqvAll]
  | [], _ :: _ => by simp [PyData.eqvAll]
  | _ :: _, [] => by simp [PyData.eqvAll]
  | x :: xs, y :: ys => by
    rw [List.map_cons, List.map_cons, PyData.eqvAll, eqvAll_ints xs ys]
    simp [PyData.eqv]
    by_cases h : x = y
    · subst h; simp
    · simp [h]
theorem eqv_ints (xs ys : List Int) : PyData.eqv (.list (xs.map PyData.int)) (.list (ys.map PyData.int)) = decide (xs = ys) := by
  rw [PyData.eqv, eqvAll_ints]
theorem eqv_intsT (xs ys : List Int) : PyData.eqv (.tuple (xs.map PyData.int)) (.tuple (ys.map PyData.int)) = decide (xs = ys) := by
  rw [PyData.eqv, eqvAll_ints]
theorem lay_ints : ∀ ns : List Int, PyData.canLayAll0 (ns.map PyData.int) = true
  | [] => rfl
  | n :: ns => by
    rw [List.map_cons, PyData.canLayAll0, lay_ints ns]
    rfl
end
end Dw

/-! A range of whole numbers of any size. -/
namespace Dw
open PySem PySem.Spec PyProof.Rows L2
open Evl (Ex)
theorem turn_long {P : Program} {w : World} {K : PySem.W.Frag} {tg : Expr} (it : Addr) (lo : Int) (n : Nat) : Turn P w K tg (Itr lo n) [it] it (fun i h => IsLongIter h it (lo + (i : Nat) * 1) ((n : Int) - (i : Nat)) 1) where
  mem := by simp
  obj := by
    intro i h st b hb
    obtain rfl : b = it := by simpa using hb
    exact ⟨_, st, fun v z => nomatch z⟩
  keep := by
    intro i h h' st k
    exact k it (by simp) _ st
  item := by
    intro X hP hw hK hc i pins s σ H E I hf st hg
    subst hP hw hK
    obtain ⟨f0, f1, f2, f3, f4, f5⟩ := hf it (List.mem_singleton.mpr rfl)
    refine (Walks.longrange (prog := X.prog) (w := X.w) (I.ok.hd hc) it lo 1 n).item i s _ _ hg st ?_
    rintro v h' tk ⟨t, rfl⟩ st' kk
    have I1 : Inv X pins σ H { s with heap := h', toks := tk } := I.turned (fun b o hb e => kk b o (by simpa using hb) e) f0 f1 f3 f4 f5
    refine ⟨_, rfl, ?_⟩
    refine go_of (n := "longrange_iterator") (s := { s with heap := h', toks := tk }) st' rfl rfl (by decide) ?_
    refine ⟨V.int (lo + i), H, I1, ⟨t, by rw [Int.mul_one]⟩, ⟨rfl, rfl⟩, st', ?_⟩
    intro b hb
    exact (hf b hb).1
  done := by
    intro X hP hw hK hc i pins s σ H E I hf st hg
    subst hP hw hK
    obtain ⟨f0, f1, f2, f3, f4, f5⟩ := hf it (List.mem_singleton.mpr rfl)
    have hn : n ≤ i := hg
    refine wpAny_pyNext_long_end (I.ok.hd hc) st (by omega) ?_
    intro h' eb
    exact ⟨rfl, I.turned (t' := s.toks) (fun b o hb e => eb b o hb e) f0 f1 f3 f4 f5⟩
  self := by
    intro A i s Q E st h
    exact wpAny_pyIter_longiter st h
section
variable {X : Cx} {tg : Expr}
theorem range_itA {pins : List (Addr × Obj)} {σ : L2.St} {H : Hp} {s : Shared} {R : It → Hp → Prop} {E : Value → Shared → Prop} {lo hi : Int} {t u v : Tok} {tk : Nat} (I : Inv X pins σ H s) (q : R (Itr lo (hi - lo).toNat) H) :
    wpAny (model X.prog X.w) X.A (pyIter (.ref s.heap.objs.size)) (PIE X pins σ tg R) E { s with heap := s.heap.push { cls := .type "range", data := .fields #[.int lo t, .int hi u, .int 1 v] }, toks := tk } := by
  have I1 : Inv X pins σ H { s with heap := s.heap.push { cls := .type "range", data := .fields #[.int lo t, .int hi u, .int 1 v] }, toks := tk } := I.kept fun b o e => Heap.get?_push_of_some _ e
  have e1 : lo + ((0 : Nat) : Int) * 1 = lo := by simp
  have e2 : (((hi - lo).toNat : Nat) : Int) - ((0 : Nat) : Int) = Builtin.Range.rangeSize lo hi 1 := by
    rw [rangeSize_one]
    split <;> omega
  cases hb : Builtin.Range.small lo hi 1 with
  | true =>
    refine wpAny_pyIter_range (IsRange.new ..) hb ?_
    refine pi_one (tk := tk) I1 _ (turn_range _ lo (hi - lo).toNat) ?_ q
    show IsRangeIter _ _ (lo + ((0 : Nat) : Int) * 1) ((((hi - lo).toNat : Nat) : Int) - ((0 : Nat) : Int)) 1
    rw [e1, e2]
    exact Heap.get?_push_size _ rfl
  | false =>
    refine wpAny_pyIter_longrange (IsRange.new ..) hb ?_
    refine pi_one (tk := tk) I1 _ (turn_long _ lo (hi - lo).toNat) ?_ q
    show IsLongIter _ _ (lo + ((0 : Nat) : Int) * 1) ((((hi - lo).toNat : Nat) : Int) - ((0 : Nat) : Int)) 1
    rw [e1, e2]
    exact Heap.get?_push_size _ rfl
def iRngA1 (ta : TA) : TI := fun σ H R => ta σ H fun vs H1 => ∃ j : Int, vs = [V.int j] ∧ R (Itr 0 j.toNat) H1
def iRngA2 (ta : TA) : TI := fun σ H R => ta σ H fun vs H1 => ∃ i j : Int, vs = [V.int i, V.int j] ∧ R (Itr i (j - i).toNat) H1
theorem pi_rangeA1 {a : Expr} {ta : TA} {p pos : Pos} (hg : Gl X "range") (hm : X.mg "range" = none) (ha : PA X [a] ta) (hs : starEach [a] X.env = [(false, eval a X.env)] := by rfl) : PI X tg (.Call (.Name "range" p) [a] [] pos) (iRngA1 ta) := by
  constructor
  intro pins s σ H R I h
  refine Call_ (ld_blt I hg hm boot_range (PyProof.Rows.callWith_type1 (thn (ha.run pos pins s σ H _ I h) ?_) hs rfl))
  rintro us s1 ⟨vs, H1, I1, r1, j, rfl, q⟩
  cases r1 with
  | cons r rr =>
    cases rr
    obtain ⟨t, rfl⟩ := r
    exact call_range_1 (range_itA I1 (by simpa using q))
theorem pi_rangeA2 {a b : Expr} {ta : TA} {p pos : Pos} (hg : Gl X "range") (hm : X.mg "range" = none) (ha : PA X [a, b] ta) (hs : starEach [a, b] X.env = [(false, eval a X.env), (false, eval b X.env)] := by rfl) (hs2 : starEach [b] X.env = [(false, eval b X.env)] := by rfl) :
    PI X tg (.Call (.Name "range" p) [a, b] [] pos) (iRngA2 ta) := by
  constructor
  intro pins s σ H R I h
  refine Call_ (ld_blt I hg hm boot_range (PyProof.Rows.callWith_type1 (thn (ha.run pos pins s σ H _ I h) ?_) (by rw [hs, hs2]) (by rw [hs2]; rfl)))
  rintro us s1 ⟨vs, H1, I1, r1, i, j, rfl, q⟩
  cases r1 with
  | cons r rr =>
    cases rr with
    | cons r' rr =>
      cases rr
      obtain ⟨t, rfl⟩ := r
      obtain ⟨t', rfl⟩ := r'
      exact call_range_2 (range_itA I1 q)
end
section
variable {J : Jx} {a b : Expr} {body : List Stmt} {ρ : List Sl} {O : Outs} {x : Str} {pos p2 p3 p4 : Pos} {i : Nat}
theorem js_forA1 (ok : J.Ok) (hg : Gl J.X "range") (hm : J.X.mg "range" = none) (h : JE J a ρ fun d ρ1 => ∃ (n : Int) (Inv : Nat → List Sl → Prop), d = .int n ∧ Inv 0 ρ1 ∧
      (∀ (k : Nat) ρ2, (k : Int) < n → Inv k ρ2 → JB J body (ρ2.set i (.val (.int (k : Int)))) { nx := Inv (k + 1), rt := O.rt, bk := O.nx, ct := Inv (k + 1) }) ∧ (∀ ρ2, Inv n.toNat ρ2 → O.nx ρ2)) (np : pinned J.N.ρ i = false := by rfl) (hc : J.X.calm = true := by rfl)
    (hi : J.X.N[i]? = some x := by rfl) (hx : Loc J.X.env.scope x := by first | exact Or.inl rfl | exact Or.inr rfl) (hf : J.X.fn x = true ∨ J.X.env.scope.names.lookup x = some .local := by first | exact .inl rfl | exact .inr rfl)
    (he : starEach (a :: []) J.X.env = (false, eval a J.X.env) :: starEach [] J.X.env := by rfl) (he1 : starEach [a] J.X.env = [(false, eval a J.X.env)] := by rfl)
    (hs : ∀ z, foldedSetIterable (.Call (.Name "range" p3) [a] [] p4) J.X.env z = pure z := by intro _; rfl) : JS J (.For (.Name x p2) (.Call (.Name "range" p3) [a] [] p4) body [] pos) ρ O := by
  intro σ H0 H E R D C
  refine semS_of (ps_for ok.po hc (pi_rangeA1 hg hm (pa_cons pe_sem pa_nil he) he1) (pg_name ok.nd hi hx hf) pss_sem hs) ?_
  refine h σ H0 H E R _ ?_
  rintro v d ρ1 H01 H1 P1 r ⟨n, Inv, rfl, h0, ht, hd⟩
  cases r
  refine ⟨n, rfl, ?_⟩
  refine forR_go (g := gName i) C P1.stp.ex P1.env (P1.rc R) np Inv h0 (fun k ρ2 hk hI => ?_) hd
  have q := ht k ρ2 (by omega) hI
  rw [Int.zero_add]
  exact q
theorem js_forA2 (ok : J.Ok) (hg : Gl J.X "range") (hm : J.X.mg "range" = none) (h : JE J a ρ fun d ρ1 => JE J b ρ1 fun f ρ2 => ∃ (lo n : Int) (Inv : Nat → List Sl → Prop), d = .int lo ∧ f = .int n ∧ Inv 0 ρ2 ∧
      (∀ (k : Nat) ρ3, lo + (k : Int) < n → Inv k ρ3 → JB J body (ρ3.set i (.val (.int (lo + (k : Int))))) { nx := Inv (k + 1), rt := O.rt, bk := O.nx, ct := Inv (k + 1) }) ∧ (∀ ρ3, Inv (n - lo).toNat ρ3 → O.nx ρ3)) (np : pinned J.N.ρ i = false := by rfl) (hc : J.X.calm = true := by rfl)
    (hi : J.X.N[i]? = some x := by rfl) (hx : Loc J.X.env.scope x := by first | exact Or.inl rfl | exact Or.inr rfl) (hf : J.X.fn x = true ∨ J.X.env.scope.names.lookup x = some .local := by first | exact .inl rfl | exact .inr rfl)
    (he : starEach (a :: [b]) J.X.env = (false, eval a J.X.env) :: starEach [b] J.X.env := by rfl) (he2 : starEach (b :: []) J.X.env = (false, eval b J.X.env) :: starEach [] J.X.env := by rfl)
    (he3 : starEach [a, b] J.X.env = [(false, eval a J.X.env), (false, eval b J.X.env)] := by rfl) (he4 : starEach [b] J.X.env = [(false, eval b J.X.env)] := by rfl)
    (hs : ∀ z, foldedSetIterable (.Call (.Name "range" p3) [a, b] [] p4) J.X.env z = pure z := by intro _; rfl) : JS J (.For (.Name x p2) (.Call (.Name "range" p3) [a, b] [] p4) body [] pos) ρ O := by
  intro σ H0 H E R D C
  refine semS_of (ps_for ok.po hc (pi_rangeA2 hg hm (pa_cons pe_sem (pa_cons pe_sem pa_nil he2) he) he3 he4) (pg_name ok.nd hi hx hf) pss_sem hs) ?_
  refine h σ H0 H E R _ ?_
  intro v d ρ1 H01 H1 P1 r q
  refine q σ H01 H1 P1.env (P1.rc R) _ ?_
  rintro u f ρ2 H02 H2 P2 r2 ⟨lo, n, Inv, rfl, rfl, h0, ht, hd⟩
  cases r
  cases r2
  refine ⟨lo, n, rfl, ?_⟩
  exact forR_go (g := gName i) C (P1.stp.ex.trans P2.stp.ex) P2.env ((P1.trans P2).rc R) np Inv h0 (fun k ρ2 hk hI => ht k ρ2 (by omega) hI) hd
end
end Dw

/-! Lists of one's own and lists among the data, alike: handles. -/
namespace Dw
open PySem PySem.Spec PyProof.Rows L2
open Evl (Ex)
section
variable {K : PySem.W.Frag} {H0 H H0' H' : Hp} {σ : L2.St} {ρ : List Sl} {N : En}
/-- an own object is written in its place -/
theorem Post.put {i : Nat} {p : Addr} {o : HO} {s s' : Sl} (E : EnvD K H0 H σ ρ) (es : σ[i]? = some (some (.ref p))) (hr : ρ[i]? = some s) (ow : s.ow = true) (z : H0 p = none) (n : SlR K H0 (upd H p o) (some (.ref p)) s') (kd : s.kd = s'.kd) : Post K σ ρ H0 H (ρ.set i s') H0 (upd H p o) := by
  have hp : OwnAt σ ρ i p := ⟨_, hr, ow, es⟩
  have hset : σ.set i (some (.ref p)) = σ := by
    apply List.ext_getElem?
    intro j
    rw [get_set]
    by_cases e : i = j
    · subst e
      rw [if_pos rfl, if_pos (List.getElem?_eq_some_iff.mp es).1, es]
    · rw [if_neg e]
  have E1 : EnvD K H0 H (σ.set i (some (.ref p))) (ρ.set i .no) := E.set i (o := some (.ref p)) (s := .no) trivial fun _ _ w => nomatch w
  have no : ¬ Own (σ.set i (some (.ref p))) (ρ.set i .no) p := by
    rintro ⟨j, hj⟩
    rcases ownAt_set hj with ⟨_, w, _⟩ | ⟨ne, w⟩
    · cases w
    · exact ne (E.ds j i p w hp)
  have ex2 : Ex H0 (upd H p o) := by
    intro b u h
    rw [upd_ne (ne_of_none h z)]
    exact E.ex b u h
  have E2 : EnvD K H0 (upd H p o) (σ.set i (some (.ref p))) (ρ.set i .no) := by
    refine E1.stp (A := fun q => q = p) ⟨Evl.Ex.refl _, ex2, fun q u na h => ?_, fun q _ _ w => w⟩ fun q e => by rw [e]; exact no
    rw [upd_ne na]
    exact h
  have E3 : EnvD K H0 (upd H p o) ((σ.set i (some (.ref p))).set i (some (.ref p))) ((ρ.set i .no).set i s') := by
    refine E2.set i n ?_
    intro p' e _ j hj oj
    cases e
    exact no ⟨j, oj⟩
  rw [hset, hset, List.set_set] at E3
  refine ⟨⟨Evl.Ex.refl _, ex2, fun q u na h => ?_, fun q _ _ w => w⟩, E3, fun j => ?_⟩
  · rw [upd_ne (fun w => na (by rw [w]; exact ⟨i, hp⟩))]
    exact h
  · rw [get_set]
    by_cases e : i = j
    · subst e
      rw [if_pos rfl, if_pos (List.getElem?_eq_some_iff.mp hr).1, hr]
      show some _ = some _
      rw [kd]
    · rw [if_neg e]
/-- the items behind a handle -/
def Ag.ls (ρ : List Sl) : Ag → Option (List Dt)
  | .v (.lst ds) => some ds
  | .b i => match ρ[i]? with
    | some (.own ds) => some ds
    | _ => none
  | _ => none
theorem ag_ls {v : V} {a : Ag} {ds : List Dt} (E : EnvD K H0 H σ ρ) (r : AgR K H0 σ ρ v a) (h : a.ls ρ = some ds) : ∃ p vs, v = .ref p ∧ SqL K H p vs ∧ RpA K H0 vs ds := by
  cases a with
  | v d =>
    cases d with
    | lst l =>
      cases h
      have r' : Rp K H0 v (.lst ds) := r
      cases r' with
      | lst q a => exact ⟨_, _, rfl, Evl.ex_l E.ex q, a⟩
    | _ => cases h
  | b i =>
    obtain ⟨s, h1, h2, h3⟩ := r
    have h' : (match ρ[i]? with
      | some (.own ds) => some ds
      | _ => none) = some ds := h
    rw [h1] at h'
    cases s with
    | own l =>
      cases h'
      obtain ⟨p, vs, es, z, l, r⟩ := E.own h1
      rw [h3] at es
      cases es
      exact ⟨p, vs, rfl, SqL.of l, r⟩
    | _ => cases h'
end
/-- a handle of what e tells -/
def JG (J : Jx) (e : Expr) (ρ : List Sl) (Q : Ag → List Sl → Prop) : Prop :=
  ∀ (σ : L2.St) (H0 H : Hp), EnvD J.X.K H0 H σ ρ → Rc J.N σ ρ H0 H → ∀ Qv : VK,
    (∀ v g ρ' H0' H', Post J.X.K σ ρ H0 H ρ' H0' H' → AgR J.X.K H0' σ ρ' v g → Q g ρ' → Qv v H') → tSem J.X e σ H Qv
/-- a part of a slice -/
def JO (J : Jx) : Option Expr → List Sl → (Option Int → List Sl → Prop) → Prop
  | none, ρ, Q => Q none ρ
  | some e, ρ, Q => JE J e ρ fun d ρ' => ∃ i, d = .int i ∧ Q (some i) ρ'
def oSem (X : Cx) : Option Expr → TO
  | none => tNoPart
  | some e => tPart (tSem X e)
theorem po_sem {X : Cx} : ∀ (o : Option Expr), PO X o (oSem X o)
  | none => po_none
  | some _ => po_some pe_sem
section
variable {J : Jx} {e a b c : Expr} {es : List Expr} {lo hi st : Option Expr} {ρ : List Sl} {Q : Dt → List Sl → Prop} {QG : Ag → List Sl → Prop} {QN : List Dt → List Sl → Prop} {QO : Option Int → List Sl → Prop} {x : Str} {pos p2 p3 : Pos} {i : Nat}
theorem jg_val (h : JE J e ρ fun d ρ' => QG (.v d) ρ') : JG J e ρ QG := fun σ H0 H E R Qv hq => h σ H0 H E R Qv fun v d ρ' H0' H' P r q => hq v (.v d) ρ' H0' H' P r q
theorem jg_own {s : Sl} (hr : ρ[i]? = some s) (ow : s.ow = true) (q : QG (.b i) ρ) (hN : J.X.N[i]? = some x := by rfl) (hv : Vis J.X.env.scope x := by first | exact Or.inl rfl | exact Or.inr (Or.inl rfl) | exact Or.inr (Or.inr rfl))
    (hd : (x == ("__debug__" : Str)) = false := by decide) (hcd : (x == ("__classdict__" : Str)) = false := by decide) : JG J (.Name x pos) ρ QG := by
  intro σ H0 H E R Qv hq
  refine sem_of (pe_var (i := i) hN hv hd hcd) ?_
  have k0 : s.kd ≠ 0 := by
    intro z
    cases s <;> first | (simp [Sl.ow] at ow; done) | (simp [Sl.kd] at z; done)
  obtain ⟨v, es, _⟩ := E.at_ hr k0
  exact ⟨v, es, hq v (.b i) ρ H0 H (.refl E) ⟨s, hr, ow, es⟩ q⟩
theorem jo_go {o : Option Expr} (h : JO J o ρ QO) {σ : L2.St} {H0 H : Hp} (E : EnvD J.X.K H0 H σ ρ) (R : Rc J.N σ ρ H0 H) (Qv : Option Int → Hp → Prop)
    (hq : ∀ k ρ' H0' H', Post J.X.K σ ρ H0 H ρ' H0' H' → QO k ρ' → Qv k H') : oSem J.X o σ H Qv := by
  cases o with
  | none => exact hq none ρ H0 H (.refl E) h
  | some e =>
    refine h σ H0 H E R _ ?_
    rintro v d ρ' H0' H' P r ⟨k, rfl, q⟩
    cases r
    exact ⟨k, rfl, hq _ ρ' H0' H' P q⟩
/-! xs[lo:hi], xs[lo:hi:st] -/
def pick {α : Type} (xs : List α) (lo hi st : Option Int) : List α := (sliceRange (sliceBounds lo hi st xs.length).1 (sliceBounds lo hi st xs.length).2.1 (sliceBounds lo hi st xs.length).2.2).filterMap (xs[·]?)
theorem rpa_fm {K : PySem.W.Frag} {H : Hp} {vs : List V} {ds : List Dt} (r : RpA K H vs ds) : ∀ is : List Nat, RpA K H (is.filterMap (vs[·]?)) (is.filterMap (ds[·]?))
  | [] => .nil
  | i :: is => by
    rw [List.filterMap_cons, List.filterMap_cons]
    cases e : ds[i]? with
    | none =>
      have z : vs[i]? = none := by
        rw [List.getElem?_eq_none_iff] at e ⊢
        rw [r.len]
        exact e
      rw [z]
      exact rpa_fm r is
    | some d =>
      obtain ⟨v, h1, h2⟩ := r.get e
      rw [h1]
      exact .cons h2 (rpa_fm r is)
theorem vals_fm {xs : List V} {us : List Value} (r : Vals xs us) : ∀ is : List Nat, Vals (is.filterMap (xs[·]?)) (is.filterMap (us[·]?))
  | [] => .nil
  | i :: is => by
    rw [List.filterMap_cons, List.filterMap_cons]
    cases e : xs[i]? with
    | none =>
      have z : us[i]? = none := by
        rw [List.getElem?_eq_none_iff] at e ⊢
        rw [← r.length]
        exact e
      rw [z]
      exact vals_fm r is
    | some d =>
      obtain ⟨v, h1, h2⟩ := r.get e
      rw [h1]
      exact .cons h2 (vals_fm r is)
theorem rpa_pick {K : PySem.W.Frag} {H : Hp} {vs : List V} {ds : List Dt} (r : RpA K H vs ds) (lo hi st : Option Int) : RpA K H (pick vs lo hi st) (pick ds lo hi st) := by
  unfold pick
  rw [r.len]
  exact rpa_fm r _
theorem slicePick_pick (us : List Value) (lo hi st : Option Int) : slicePick us.toArray lo hi st = (pick us lo hi st).toArray := by
  unfold slicePick pick
  rw [List.size_toArray]
  simp
theorem vals_pick {xs : List V} {us : List Value} (r : Vals xs us) (lo hi st : Option Int) : Vals (pick xs lo hi st) (pick us lo hi st) := by
  unfold pick
  rw [r.length]
  exact vals_fm r _
theorem pick_le {xs : List V} {us : List Value} (r : Vals xs us) (lo hi st : Option Int) : (pick xs lo hi st).length ≤ us.length := by
  rw [(vals_pick r lo hi st).length]
  have q := slicePick_size_le us.toArray lo hi st
  rw [slicePick_pick, List.size_toArray, List.size_toArray] at q
  exact q
def tSl3 (K : PySem.W.Frag) (te : TE) (tl th ts : TO) : TE := fun σ H Q => te σ H fun y H1 => tl σ H1 fun l H2 => th σ H2 fun u H3 => ts σ H3 fun k H4 => ∃ p xs, y = .ref p ∧ SqL K H4 p xs ∧ k ≠ some 0 ∧ ∀ n, H4 n = none → Q (.ref n) (upd H4 n (.lst (pick xs l u k)))
theorem pe_sl3 {X : Cx} {te : TE} {tl th ts : TO} {s0 : Expr} (he : PE X e te) (hl : PO X lo tl) (hu : PO X hi th) (hs : PO X (some s0) ts) : PE X (.Subscript e (.Slice lo hi (some s0) p2) pos) (tSl3 X.K te tl th ts) := by
  constructor
  intro pins s σ H Q I h
  refine Subscript_ (thn (he.run pins s σ H _ I h) ?_)
  rintro v s1 ⟨y, H1, I1, r1, q1⟩
  refine wpAny_Slice (thn (hl.run pins s1 σ H1 _ I1 q1) ?_)
  rintro vl s2 ⟨l, H2, I2, pl, q2⟩
  refine thn (hu.run pins s2 σ H2 _ I2 q2) ?_
  rintro vu s3 ⟨u, H3, I3, pu, q3⟩
  refine thn (hs.run pins s3 σ H3 _ I3 q3) ?_
  rintro vk s4 ⟨k, H4, I4, pk, p, xs, rfl, hx, h0, q⟩
  cases r1
  have I5 : Inv X pins σ H4 { s4 with heap := s4.heap.push { cls := .type "slice", data := .fields #[vl, vu, vk] } } := I4.kept (t' := s4.toks) fun b ob w => Heap.get?_push_of_some _ w
  obtain ⟨its, r, ht, hz⟩ := I5.list hx
  show wpAny (model X.prog X.w) X.A (subscriptTail e (.Slice lo hi (some s0) p2) (.ref p) (.ref s4.heap.objs.size)) (EP X pins σ Q) X.xe { s4 with heap := s4.heap.push { cls := .type "slice", data := .fields #[vl, vu, vk] } }
  refine tail_any (ops := [.ref p, .ref s4.heap.objs.size]) ht.isList.typeIs (PySem.slot_list_getitem.lookup) ?_ (by with_unfolding_all rfl)
  refine wpAny_getItem_list_slice ht.isList (Heap.IsSliceOf.new _ vl vu vk) pl pu pk h0 ?_ (by rw [List.size_toArray]; have := r.length; omega)
  rw [slicePick_pick]
  refine ⟨.ref _, _, I5.laid (t' := s4.toks) (o := .lst (pick xs l u k)) (fun b ob w => Heap.get?_push_of_some _ w) (Nat.le_refl _) ?_, rfl, q _ (I5.hok.fresh (Nat.le_refl _))⟩
  exact ⟨Nat.le_trans (pick_le r l u k) (by have := r.length; omega), _, 0, vals_pick r l u k, Heap.get?_push_size _ rfl⟩
theorem jn_cut (h : JG J e ρ fun g ρ1 => JO J lo ρ1 fun l ρ2 => JO J hi ρ2 fun u ρ3 => ∃ ds, g.ls ρ3 = some ds ∧ QN ((ds.drop (HT.sIx ds.length 0 l)).take (HT.sIx ds.length ds.length u - HT.sIx ds.length 0 l)) ρ3) : JN J (.Subscript e (.Slice lo hi none p2) pos) ρ QN := by
  intro σ H0 H E R Qv hq
  refine sem_of (pe_slice sl_list pe_sem (po_sem lo) (po_sem hi)) ?_
  refine h σ H0 H E R _ ?_
  intro v g ρ1 H01 H1 P1 rg q1
  refine jo_go q1 P1.env (P1.rc R) _ ?_
  intro l ρ2 H02 H2 P2 q2
  have P12 := P1.trans P2
  refine jo_go q2 P12.env (P12.rc R) _ ?_
  rintro u ρ3 H03 H3 P3 ⟨ds, hls, q⟩
  have P := P12.trans P3
  have rg3 := (rg.mono P2.stp.ex P2.same).mono P3.stp.ex P3.same
  obtain ⟨p, vs, rfl, hs, rv⟩ := ag_ls P.env rg3 hls
  refine ⟨p, vs, rfl, hs, ?_⟩
  intro n hn
  refine hq n _ _ ρ3 H03 _ (P.then (Stp.allocO P.env.ex hn)) (P.back hn) (Evl.fresh_back P.env.ex hn) upd_same ?_ q
  unfold cutV
  rw [rv.len]
  exact (rv.drop _).take _
theorem jn_pick {s0 : Expr} (h : JG J e ρ fun g ρ1 => JO J lo ρ1 fun l ρ2 => JO J hi ρ2 fun u ρ3 => JE J s0 ρ3 fun d ρ4 => ∃ k ds, d = .int k ∧ k ≠ 0 ∧ g.ls ρ4 = some ds ∧ QN (pick ds l u (some k)) ρ4) : JN J (.Subscript e (.Slice lo hi (some s0) p2) pos) ρ QN := by
  intro σ H0 H E R Qv hq
  refine sem_of (pe_sl3 pe_sem (po_sem lo) (po_sem hi) (po_sem (some s0))) ?_
  refine h σ H0 H E R _ ?_
  intro v g ρ1 H01 H1 P1 rg q1
  refine jo_go q1 P1.env (P1.rc R) _ ?_
  intro l ρ2 H02 H2 P2 q2
  have P12 := P1.trans P2
  refine jo_go q2 P12.env (P12.rc R) _ ?_
  intro u ρ3 H03 H3 P3 q3
  have P13 := P12.trans P3
  refine q3 σ H03 H3 P13.env (P13.rc R) _ ?_
  rintro w d ρ4 H04 H4 P4 rd ⟨k, ds, rfl, h0, hls, q⟩
  cases rd
  have P := P13.trans P4
  have rg3 := ((rg.mono P2.stp.ex P2.same).mono P3.stp.ex P3.same).mono P4.stp.ex P4.same
  obtain ⟨p, vs, rfl, hs, rv⟩ := ag_ls P.env rg3 hls
  refine ⟨k, rfl, p, vs, rfl, hs, fun z => h0 (Option.some.inj z), ?_⟩
  intro n hn
  exact hq n _ _ ρ4 H04 _ (P.then (Stp.allocO P.env.ex hn)) (P.back hn) (Evl.fresh_back P.env.ex hn) upd_same (rpa_pick rv l u (some k)) q
/-! min, max of a list of numbers -/
theorem je_minL (h : JG J e ρ fun g ρ1 => ∃ ns : List Int, g.ls ρ1 = some (ns.map Dt.int) ∧ 0 < ns.length ∧ ∀ m, m ∈ ns → (∀ y, y ∈ ns → m ≤ y) → Q (.int m) ρ1) (hg : Gl J.X "min") (hm : J.X.mg "min" = none) (hc : J.X.calm = true := by rfl)
    (he : starEach (e :: []) J.X.env = (false, eval e J.X.env) :: starEach [] J.X.env := by rfl) : JE J (.Call (.Name "min" p2) [e] [] pos) ρ Q := by
  intro σ H0 H E R Qv hq
  refine sem_of (pe_callB (cr_min hc) hg hm (by decide +kernel) (pa_cons pe_sem pa_nil he) (he := he)) ?_
  refine h σ H0 H E R _ ?_
  rintro v g ρ1 H01 H1 P1 rg ⟨ns, hls, h0, q⟩
  obtain ⟨p, vs, rfl, hs, rv⟩ := ag_ls P1.env rg hls
  rw [rv.ints] at hs
  exact ⟨p, ns, rfl, hs, h0, fun m h1 h2 => hq _ _ ρ1 H01 H1 P1 (.int m) (q m h1 h2)⟩
theorem je_maxL (h : JG J e ρ fun g ρ1 => ∃ ns : List Int, g.ls ρ1 = some (ns.map Dt.int) ∧ 0 < ns.length ∧ ∀ m, m ∈ ns → (∀ y, y ∈ ns → y ≤ m) → Q (.int m) ρ1) (hg : Gl J.X "max") (hm : J.X.mg "max" = none) (hc : J.X.calm = true := by rfl)
    (he : starEach (e :: []) J.X.env = (false, eval e J.X.env) :: starEach [] J.X.env := by rfl) : JE J (.Call (.Name "max" p2) [e] [] pos) ρ Q := by
  intro σ H0 H E R Qv hq
  refine sem_of (pe_callB (cr_max hc) hg hm (by decide +kernel) (pa_cons pe_sem pa_nil he) (he := he)) ?_
  refine h σ H0 H E R _ ?_
  rintro v g ρ1 H01 H1 P1 rg ⟨ns, hls, h0, q⟩
  obtain ⟨p, vs, rfl, hs, rv⟩ := ag_ls P1.env rg hls
  rw [rv.ints] at hs
  exact ⟨p, ns, rfl, hs, h0, fun m h1 h2 => hq _ _ ρ1 H01 H1 P1 (.int m) (q m h1 h2)⟩
theorem je_lenG (h : JG J e ρ fun g ρ1 => ∃ ds, g.ls ρ1 = some ds ∧ Q (.int (ds.length : Int)) ρ1) (hg : Gl J.X "len") (hm : J.X.mg "len" = none)
    (he : starEach (e :: []) J.X.env = (false, eval e J.X.env) :: starEach [] J.X.env := by rfl) : JE J (.Call (.Name "len" p2) [e] [] pos) ρ Q := by
  intro σ H0 H E R Qv hq
  refine sem_of (pe_callB call_len_seq hg hm PySem.boot_len (pa_cons pe_sem pa_nil he) (he := he)) ?_
  refine h σ H0 H E R _ ?_
  rintro v g ρ1 H01 H1 P1 rg ⟨ds, hls, q⟩
  obtain ⟨p, vs, rfl, hs, rv⟩ := ag_ls P1.env rg hls
  exact ⟨p, vs, rfl, .inl hs, by rw [rv.len]; exact hq _ _ ρ1 H01 H1 P1 (.int _) q⟩
theorem je_ixG (h : JG J a ρ fun g ρ1 => JE J b ρ1 fun f ρ2 => ∃ ds k z, g.ls ρ2 = some ds ∧ f = .int k ∧ atI ds k = some z ∧ Q z ρ2) (hs : PlainIx b := by exact fun _ _ => rfl) : JE J (.Subscript a b pos) ρ Q := by
  intro σ H0 H E R Qv hq
  refine sem_of (pe_ix ix_list pe_sem pe_sem hs) ?_
  refine h σ H0 H E R _ ?_
  intro v g ρ1 H01 H1 P1 rg q1
  refine q1 σ H01 H1 P1.env (P1.rc R) _ ?_
  rintro u f ρ2 H02 H2 P2 ry ⟨ds, k, z, hls, rfl, hk, q⟩
  cases ry
  have P := P1.trans P2
  obtain ⟨p, vs, rfl, hs, rv⟩ := ag_ls P.env (rg.mono P2.stp.ex P2.same) hls
  obtain ⟨w, h1, h2⟩ := RpA.atI rv hk
  exact ⟨p, vs, k, w, rfl, rfl, hs, h1, hq w z ρ2 H02 H2 P h2 q⟩
/-! isinstance(xs, list) of a list of one's own -/
theorem je_isiOwn {T : String} {y : Str} {k : Bool} {ds : List Dt} {p4 : Pos} (hr : ρ[i]? = some (.own ds)) (hk : kitB "list" T = some k) (q : Q (.bl k) ρ) (hg : Gl J.X "isinstance") (hm : J.X.mg "isinstance" = none) (hgT : Gl J.X y) (hmT : J.X.mg y = none)
    (hvT : bootBuiltins y = some (.type T)) (hn : y ≠ "__name__" := by decide) (hdb : (y == ("__debug__" : Str)) = false := by decide)
    (hN : J.X.N[i]? = some x := by rfl) (hv : Vis J.X.env.scope x := by first | exact Or.inl rfl | exact Or.inr (Or.inl rfl) | exact Or.inr (Or.inr rfl)) (hd : (x == ("__debug__" : Str)) = false := by decide) (hcd : (x == ("__classdict__" : Str)) = false := by decide)
    (he : starEach (.Name x p4 :: [.Name y p3]) J.X.env = (false, eval (.Name x p4) J.X.env) :: starEach [.Name y p3] J.X.env := by rfl) (he2 : starEach (.Name y p3 :: []) J.X.env = (false, eval (.Name y p3) J.X.env) :: starEach [] J.X.env := by rfl)
    (hpl : (backTo pos (starEach [.Name y p3] J.X.env)).any (·.1) = false := by rfl) : JE J (.Call (.Name "isinstance" p2) [.Name x p4, .Name y p3] [] pos) ρ Q := by
  intro σ H0 H E R Qv hq
  refine sem_of (pe_callB call_isi hg hm (by decide +kernel) (pa_cons (pe_var (i := i) hN hv hd hcd) (pa_cons (pe_bltn (v := .ty T) hgT hmT hvT rfl hn hdb) pa_nil he2) he) (he := he) (hpl := hpl)) ?_
  obtain ⟨p, vs, es, z, l, r⟩ := E.own hr
  exact ⟨.ref p, es, .ref p, .ty T, .type "list", .type T, k, rfl, .ty T, .base (.lst l), kit_ty hk, hq _ _ ρ H0 H (.refl E) (.bl k) q⟩
/-! x.pop() -/
theorem je_pop {ds : List Dt} {d : Dt} {p4 : Pos} (hr : ρ[i]? = some (.own ds)) (hl : ds[ds.length - 1]? = some d) (q : Q d (ρ.set i (.own ds.dropLast))) (hN : J.X.N[i]? = some x := by rfl) (hv : Vis J.X.env.scope x := by first | exact Or.inl rfl | exact Or.inr (Or.inl rfl) | exact Or.inr (Or.inr rfl))
    (hd : (x == ("__debug__" : Str)) = false := by decide) (hcd : (x == ("__classdict__" : Str)) = false := by decide)
    (hbase : attributeBase (.Name x p2) "pop" J.X.env (eval (.Name x p2) J.X.env) = eval (.Name x p2) J.X.env := by rfl) (hline : (p3.endLine == p4.line) = true := by rfl) : JE J (.Call (.Attribute (.Name x p2) "pop" p3) [] [] p4) ρ Q := by
  intro σ H0 H E R Qv hq
  refine sem_of (pe_bm0 PySem.F.plainAttrs_list PySem.F.slot_list_pop PySem.F.type_list_pop mt_pop (pe_var (i := i) hN hv hd hcd) hbase hline) ?_
  obtain ⟨p, vs, es, z, l, r⟩ := E.own hr
  obtain ⟨v, h1, h2⟩ := r.get hl
  refine ⟨.ref p, es, .inl ⟨rfl, _, SqL.of l⟩, p, vs, v, rfl, rfl, l, by rw [r.len]; exact h1, ?_⟩
  exact hq v d _ H0 _ (Post.put (s' := .own ds.dropLast) E es hr rfl z ⟨p, _, rfl, z, upd_same, r.dropLast⟩ rfl) h2 q
/-! xs + ys -/
theorem jn_cat {p4 : Pos} {ds0 : List Dt} (hr : ρ[i]? = some (.own ds0)) (h : JN J b ρ fun es ρ1 => ∃ ds, ρ1[i]? = some (.own ds) ∧ ds.length + es.length ≤ 1000000 ∧ QN (ds ++ es) ρ1) (hN : J.X.N[i]? = some x := by rfl) (hv : Vis J.X.env.scope x := by first | exact Or.inl rfl | exact Or.inr (Or.inl rfl) | exact Or.inr (Or.inr rfl))
    (hd : (x == ("__debug__" : Str)) = false := by decide) (hcd : (x == ("__classdict__" : Str)) = false := by decide) : JN J (.BinOp (.Name x p4) .Add b pos) ρ QN := by
  intro σ H0 H E R Qv hq
  refine sem_of (pe_op op_cat (pe_var (i := i) hN hv hd hcd) pe_sem) ?_
  obtain ⟨p, vs, es, _⟩ := E.own hr
  refine ⟨.ref p, es, ?_⟩
  refine h σ H0 H E R _ ?_
  rintro n ws es2 ρ1 H01 H1 P1 hn h0 h1 rb ⟨ds, hr1, hlen, q⟩
  obtain ⟨p', vs', es', z, l, r⟩ := P1.env.own hr1
  rw [es] at es'
  cases es'
  refine ⟨p, n, vs', ws, rfl, rfl, l, h1, sz6 (by rw [r.len, rb.len]; exact hlen), ?_⟩
  intro m hm
  exact hq m _ _ ρ1 H01 _ (P1.then (Stp.allocO P1.env.ex hm)) (P1.back hm) (Evl.fresh_back P1.env.ex hm) upd_same (r.append rb) q
end
end Dw

/-! Calls by keyword, dicts of one's own. -/
namespace Dw
open PySem PySem.Spec PyProof.Rows L2
open Evl (Ex)
/-! ### calls by keyword -/
def tCallNS (n m : Nat) (sp : Sp) (gV : List V → List V → List V) (E : L2.St → XK) (t tk : TA) : TE := fun σ H Q => t σ H fun vs H1 => tk σ H1 fun zs H2 => vs.length = n ∧ zs.length = m ∧ sp (gV vs zs) H2 Q (E σ)
theorem pe_callNS {X : Cx} {CX : CXT} {k n : Nat} {f : Addr} {fd : FuncData} {ps ks : List Str} {sp : Sp} {E : L2.St → XK} {x : Str} {p pos : Pos} {e : Expr} {es : List Expr} {kws : List Keyword} {t tk : TA} {g : List Value → List Value → List Value} {gV : List V → List V → List V}
    (F : FnOk X.prog X.w X.K X.mg X.base CX k f fd ps sp) (hr : Room k X.A) (hg : Gl X x) (hm : X.mg x = some (.ref f)) (hk : PySem.W.keepIn X.K (.ref f) = true) (hb : KBn X.K fd ps n ks g gV) (hx : ∀ σ, PassesAt CX X σ (E σ))
    (ha : PA X (e :: es) t) (hkw : PK X kws tk) (hall : (backToKw pos (keywordEach kws X.env)).all (·.1.isSome) = true := by rfl) (hks : (backToKw pos (keywordEach kws X.env)).filterMap (·.1) = ks := by rfl)
    (hdb : (x == ("__debug__" : Str)) = false := by decide) (he : starEach (e :: es) X.env = (false, eval e X.env) :: starEach es X.env := by rfl)
    (hpl : ((backTo pos (starEach (e :: es) X.env)).any (·.1) || (backToKw pos (keywordEach kws X.env)).any (·.1.isNone)) = false := by rfl) :
    PE X (.Call (.Name x p) (e :: es) kws pos) (tCallNS n ks.length sp gV E t tk) := by
  constructor
  intro pins s σ H Q I h
  refine wpAny_Call_Name_kw (ld_glob I hg hm ?_ hdb)
  refine PySem.W.callWith_KW (h₀ := X.base) I.ok.mod.kin hk hall (thn (ha.run pos pins s σ H _ I h) ?_) hpl he
  rintro us s1 ⟨vs, H1, I1, r, q⟩
  refine thn (hkw.run pos pins s1 σ H1 _ I1 q) ?_
  rintro ws s2 ⟨zs, H2, I2, rz, l1, l2, q2⟩
  refine ⟨I2.kIn, ?_⟩
  rw [hks]
  have r2 := hb.rel r rz
  have b := hb.to s2 us ws I2.kIn (r.length.symm.trans l1) (rz.length.symm.trans l2)
  refine wpAny_call (codeAny_mono (F.run X.A X.stack s2 H2 ⟨us, ks.zip ws⟩ (g us ws) (gV vs zs) Q (E σ) hr I2.env0 b r2 q2) ?_)
  intro r s' hq
  cases r with
  | error e => exact hx σ pins H2 s2 e s' I2 hq
  | ok fl =>
    cases fl with
    | ret u => exact I2.after hq
    | next => exact False.elim hq
    | brk => exact False.elim hq
    | cont => exact False.elim hq
def kTA (X : Cx) : List Keyword → TA
  | [] => tNil
  | k :: r => tCons (tSem X k.value) (kTA X r)
theorem pk_all {X : Cx} : ∀ kws : List Keyword, PK X kws (kTA X kws)
  | [] => pk_nil
  | ⟨_, _, _⟩ :: r => pk_cons pe_sem (pk_all r)
def JK (J : Jx) (kws : List Keyword) (ρ : List Sl) (Q : List Ag → List Sl → Prop) : Prop :=
  ∀ (σ : L2.St) (H0 H : Hp), EnvD J.X.K H0 H σ ρ → Rc J.N σ ρ H0 H → ∀ Qv : List V → Hp → Prop,
    (∀ vs ags ρ' H0' H', Post J.X.K σ ρ H0 H ρ' H0' H' → AgsR J.X.K H0' σ ρ' vs ags → Q ags ρ' → Qv vs H') → kTA J.X kws σ H Qv
/-- a def of the text called by keyword: gA puts what is handed in the parameters' order -/
structure CalK (P : Program) (w : World) (K : PySem.W.Frag) (mg : Str → Option Value) (base : Heap) (x : Str) (k : Nat) (c : Ctr) (n : Nat) (ks : List Str) (gA : List Ag → List Ag → List Ag) : Prop where
  ex : ∃ f fd ps g gV, FnOk P w K mg base (L2.CX P w) k f fd ps (SpD K c) ∧ mg x = some (.ref f) ∧ PySem.W.keepIn K (.ref f) = true ∧ KBn K fd ps n ks g gV ∧
    ∀ H0 σ ρ vs zs as bs, AgsR K H0 σ ρ vs as → AgsR K H0 σ ρ zs bs → AgsR K H0 σ ρ (gV vs zs) (gA as bs)
/-- the same with all keyword parameters left out: ds behind what is handed -/
structure CalD (P : Program) (w : World) (K : PySem.W.Frag) (mg : Str → Option Value) (base : Heap) (x : Str) (k : Nat) (c : Ctr) (ds : List Ag) : Prop where
  ex : ∃ f fd ps dvs ws, FnOk P w K mg base (L2.CX P w) k f fd ps (SpD K c) ∧ mg x = some (.ref f) ∧ PySem.W.keepIn K (.ref f) = true ∧ Binds K fd ps ws ∧ Vals dvs ws ∧ ∀ H0 σ ρ, AgsR K H0 σ ρ dvs ds
theorem AgsR.app {K : PySem.W.Frag} {H0 : Hp} {σ : L2.St} {ρ : List Sl} {vs zs : List V} {as bs : List Ag} (a : AgsR K H0 σ ρ vs as) (b : AgsR K H0 σ ρ zs bs) : AgsR K H0 σ ρ (vs ++ zs) (as ++ bs) := by
  induction a with
  | nil => exact b
  | cons h _ ih => exact .cons h ih
section
variable {J : Jx} {e a b : Expr} {es : List Expr} {kws : List Keyword} {ρ : List Sl} {Q : Dt → List Sl → Prop} {QA : List Ag → List Sl → Prop} {QN : List Dt → List Sl → Prop} {c : Ctr} {x : Str} {k n : Nat} {ks : List Str} {gA : List Ag → List Ag → List Ag} {p2 p3 pos : Pos} {nm : Option Str}
theorem jk_nil (q : QA [] ρ) : JK J [] ρ QA := fun σ H0 H E R Qv hq => hq [] [] ρ H0 H (.refl E) .nil q
theorem jk_cons (h : JE J e ρ fun d ρ1 => JK J kws ρ1 fun ags ρ2 => QA (.v d :: ags) ρ2) : JK J (⟨nm, e, p2⟩ :: kws) ρ QA := by
  intro σ H0 H E R Qv hq
  refine h σ H0 H E R _ ?_
  intro v d ρ1 H01 H1 P1 rv q1
  refine q1 σ H01 H1 P1.env (P1.rc R) _ ?_
  intro vs ags ρ2 H02 H2 P2 rs q2
  exact hq _ _ ρ2 H02 H2 (P1.trans P2) (.cons (AgR.mono (a := .v d) P2.stp.ex P2.same rv) rs) q2
theorem je_fnK (C : CalK J.X.prog J.X.w J.X.K J.X.mg J.X.base x k c n ks gA) (ok : J.Ok) (hk : k ≤ J.k) (h : JA J (e :: es) ρ fun ags ρ1 => JK J kws ρ1 fun zgs ρ2 => ags.length = n ∧ zgs.length = ks.length ∧ bOk (gA ags zgs) = true ∧
      c ((gA ags zgs).map (Ag.sl ρ2)) (fun r args' => Q r.d (put ρ2 (gA ags zgs) args')) (fun x args' => J.XC x (put ρ2 (gA ags zgs) args')))
    (hg : Gl J.X x := by rfl) (hall : (backToKw pos (keywordEach kws J.X.env)).all (·.1.isSome) = true := by rfl) (hks : (backToKw pos (keywordEach kws J.X.env)).filterMap (·.1) = ks := by rfl)
    (hdb : (x == ("__debug__" : Str)) = false := by decide) (he : starEach (e :: es) J.X.env = (false, eval e J.X.env) :: starEach es J.X.env := by rfl)
    (hpl : ((backTo pos (starEach (e :: es) J.X.env)).any (·.1) || (backToKw pos (keywordEach kws J.X.env)).any (·.1.isNone)) = false := by rfl) :
    JE J (.Call (.Name x p2) (e :: es) kws pos) ρ Q := by
  intro σ H0 H E R Qv hq
  obtain ⟨f, fd, ps, g, gV, F, hm, kp, hb, hgv⟩ := C.ex
  refine sem_of (pe_callNS F (ok.rm.mono hk) hg hm kp hb (fun σ => passAt ok.tk σ) pa_sem (pk_all kws) hall hks hdb he hpl) ?_
  refine h σ H0 H E R _ ?_
  intro vs ags ρ1 H01 H1 P1 rs q1
  refine q1 σ H01 H1 P1.env (P1.rc R) _ ?_
  rintro zs zgs ρ2 H02 H2 P2 rz ⟨l1, l2, bo, q⟩
  have P12 := P1.trans P2
  have rs2 := rs.mono P2.stp.ex P2.same
  have rg := hgv _ _ _ _ _ _ _ rs2 rz
  refine ⟨rs2.len.trans l1, rz.len.trans l2, H02, _, _, _, env_in P12.env rg bo, q, ?_, ?_⟩
  · intro r args' v H0' H' q P rr
    have P3 := env_out P12.env rg bo P
    obtain ⟨H0'', P4, rv⟩ := P3.frz P12.env rr
    exact hq v r.d _ H0'' H' (P12.trans P4) rv q
  · intro x args' cls d H0' H' q P rr
    have P3 := env_out P12.env rg bo P
    exact ok.hw σ _ H0' H' x cls d P3.env (P3.rc (P12.rc R)) rr q
theorem je_fnD {ds : List Ag} (C : CalD J.X.prog J.X.w J.X.K J.X.mg J.X.base x k c ds) (ok : J.Ok) (hk : k ≤ J.k) (h : JA J (e :: es) ρ fun ags ρ1 => bOk (ags ++ ds) = true ∧
      c ((ags ++ ds).map (Ag.sl ρ1)) (fun r args' => Q r.d (put ρ1 (ags ++ ds) args')) (fun x args' => J.XC x (put ρ1 (ags ++ ds) args')))
    (hg : Gl J.X x := by rfl) (hdb : (x == ("__debug__" : Str)) = false := by decide) (he : starEach (e :: es) J.X.env = (false, eval e J.X.env) :: starEach es J.X.env := by rfl) (hpl : (backTo pos (starEach es J.X.env)).any (·.1) = false := by rfl) :
    JE J (.Call (.Name x p2) (e :: es) [] pos) ρ Q := by
  intro σ H0 H E R Qv hq
  obtain ⟨f, fd, ps, dvs, ws, F, hm, kp, hb, hd, hgv⟩ := C.ex
  refine sem_of (pe_callSD F (ok.rm.mono hk) hg hm kp hb hd (fun σ => passAt ok.tk σ) pa_sem hdb he hpl) ?_
  refine h σ H0 H E R _ ?_
  rintro vs ags ρ1 H01 H1 P1 rs ⟨bo, q⟩
  have rg := rs.app (hgv H01 σ ρ1)
  refine ⟨H01, _, _, _, env_in P1.env rg bo, q, ?_, ?_⟩
  · intro r args' v H0' H' q P rr
    have P3 := env_out P1.env rg bo P
    obtain ⟨H0'', P4, rv⟩ := P3.frz P1.env rr
    exact hq v r.d _ H0'' H' (P1.trans P4) rv q
  · intro x args' cls d H0' H' q P rr
    have P3 := env_out P1.env rg bo P
    exact ok.hw σ _ H0' H' x cls d P3.env (P3.rc (P1.rc R)) rr q
end
/-! ### dicts of one's own -/
def getK (kvs : List (Key × Dt)) (k : Key) : Option Dt := (kvs.find? fun q => decide (q.1 = k)).map (·.2)
def putD (kvs : List (Key × Dt)) (k : Key) (d : Dt) : List (Key × Dt) := if (kvs.any fun q => decide (q.1 = k)) = true then kvs.map (fun q => if q.1 = k then (q.1, d) else q) else kvs ++ [(k, d)]
def Dt.key : Dt → Option Key
  | .int i => some (.inl i)
  | .str x => some (.inr x)
  | _ => none
theorem rp_key {K : PySem.W.Frag} {H : Hp} {v : V} {d : Dt} {k : Key} (r : Rp K H v d) (h : d.key = some k) : v = kV k := by
  cases r <;> first | (cases h; done) | (cases h; rfl)
section
variable {K : PySem.W.Frag} {H : Hp}
theorem rpk_len {vs : List (Key × V)} {ds : List (Key × Dt)} (r : RpK K H vs ds) : vs.length = ds.length := by
  induction r with
  | nil => rfl
  | cons _ _ ih => simp [ih]
theorem rpk_any {vs : List (Key × V)} {ds : List (Key × Dt)} {k : Key} (r : RpK K H vs ds) : (vs.any fun q => decide (q.1 = k)) = (ds.any fun q => decide (q.1 = k)) := by
  induction r with
  | nil => rfl
  | cons _ _ ih => rw [List.any_cons, List.any_cons, ih]
theorem rpk_get {vs : List (Key × V)} {ds : List (Key × Dt)} {k : Key} (r : RpK K H vs ds) : (valV vs k = none ∧ getK ds k = none) ∨ ∃ v d, valV vs k = some v ∧ getK ds k = some d ∧ Rp K H v d := by
  induction r with
  | nil => exact .inl ⟨rfl, rfl⟩
  | cons h _ ih =>
    rename_i k2 v vs d ds _
    by_cases e : k2 = k
    · subst e
      exact .inr ⟨v, d, by simp [valV], by simp [getK], h⟩
    · rcases ih with ⟨h1, h2⟩ | ⟨v', d', h1, h2, h3⟩
      · exact .inl ⟨by rw [valV_neg e]; exact h1, by simp [getK, List.find?_cons, e] at h2 ⊢; exact h2⟩
      · refine .inr ⟨v', d', by rw [valV_neg e]; exact h1, ?_, h3⟩
        have : getK ((k2, d) :: ds) k = getK ds k := by simp [getK, List.find?_cons, e]
        rw [this]
        exact h2
theorem rpk_map {vs : List (Key × V)} {ds : List (Key × Dt)} {k : Key} {v : V} {d : Dt} (r : RpK K H vs ds) (h : Rp K H v d) : RpK K H (vs.map (fun q => if q.1 = k then (q.1, v) else q)) (ds.map (fun q => if q.1 = k then (q.1, d) else q)) := by
  induction r with
  | nil => exact .nil
  | cons h1 _ ih =>
    rename_i k2 v2 vs d2 ds _
    rw [List.map_cons, List.map_cons]
    by_cases e : k2 = k
    · simp only [e, if_true]
      exact .cons h ih
    · simp only [e, if_false]
      exact .cons h1 ih
theorem rpk_app {vs : List (Key × V)} {ds : List (Key × Dt)} {k : Key} {v : V} {d : Dt} (r : RpK K H vs ds) (h : Rp K H v d) : RpK K H (vs ++ [(k, v)]) (ds ++ [(k, d)]) := by
  induction r with
  | nil => exact .cons h .nil
  | cons h1 _ ih => exact .cons h1 ih
theorem rpk_put {vs : List (Key × V)} {ds : List (Key × Dt)} {k : Key} {v : V} {d : Dt} (r : RpK K H vs ds) (h : Rp K H v d) : RpK K H (putK vs k v) (putD ds k d) := by
  unfold putK putD
  rw [rpk_any r]
  split
  · exact rpk_map r h
  · exact rpk_app r h
end
section
variable {J : Jx} {e a b : Expr} {ρ : List Sl} {Q : Dt → List Sl → Prop} {QB : Bool → List Sl → Prop} {O : Outs} {x : Str} {i : Nat} {p2 p3 p4 pos : Pos}
theorem js_dnew (nd : J.X.N.Nodup) (h : O.nx (ρ.set i (.dic []))) (np : pinned J.N.ρ i = false := by rfl) (hi : J.X.N[i]? = some x := by rfl) (hx : Loc J.X.env.scope x := by first | exact Or.inl rfl | exact Or.inr rfl)
    (hs : swapsWith (.Dict [] [] p3) (some (.Name x p2)) pos.line J.X.env = pure false := by rfl) (hf : J.X.fn x = true ∨ J.X.env.scope.names.lookup x = some .local := by first | exact .inl rfl | exact .inr rfl) : JS J (.Assign [.Name x p2] (.Dict [] [] p3) pos) ρ O := by
  intro σ H0 H E R D C
  refine semS_of (ps_set (i := i) nd hi hx pe_dnewK hs hf) ?_
  intro p hp
  have P1 : Post J.X.K σ ρ H0 H ρ H0 (upd H p (.dK [])) := (Post.refl E).then (Stp.allocO E.ex hp)
  have h0 := Evl.fresh_back E.ex hp
  refine C.nx _ _ H0 _ P1.stp.ex (P1.env.set i (o := some (.ref p)) (s := .dic []) ⟨p, [], rfl, h0, upd_same, .nil⟩ ?_) ((P1.rc R).set np ?_) h
  · intro p' e w j hj oj
    cases e
    exact (E.ownH ⟨j, oj⟩).2 hp
  · intro p' e w
    cases e
    exact R.fresh E hp
theorem js_dput (ok : J.Ok) {kvs0 : List (Key × Dt)} (hr0 : ρ[i]? = some (.dic kvs0)) (h : JE J e ρ fun d ρ1 => JE J b ρ1 fun f ρ2 => ∃ kvs k, ρ2[i]? = some (.dic kvs) ∧ f.key = some k ∧ kvs.length < 1000000 ∧ O.nx (ρ2.set i (.dic (putD kvs k d)))) (hN : J.X.N[i]? = some x := by rfl)
    (hv : Vis J.X.env.scope x := by first | exact Or.inl rfl | exact Or.inr (Or.inl rfl) | exact Or.inr (Or.inr rfl)) (hd : (x == ("__debug__" : Str)) = false := by decide) (hcd : (x == ("__classdict__" : Str)) = false := by decide)
    (hs : swapsWith e (some (.Subscript (.Name x p2) b p3)) pos.line J.X.env = pure false := by rfl) : JS J (.Assign [.Subscript (.Name x p2) b p3] e pos) ρ O := by
  intro σ H0 H E R D C
  refine semS_of (ps_dput (Nat.lt_of_le_of_lt (by omega) ok.rm.units) (pe_var (i := i) hN hv hd hcd) pe_sem pe_sem hs) ?_
  obtain ⟨p, vs, es, _⟩ := E.dic hr0
  refine h σ H0 H E R _ ?_
  intro v d ρ1 H01 H1 P1 rv q1
  refine ⟨.ref p, es, ?_⟩
  refine q1 σ H01 H1 P1.env (P1.rc R) _ ?_
  rintro u f ρ2 H02 H2 P2 ru ⟨kvs, k, hr2, hk, hl, q⟩
  have P := P1.trans P2
  obtain ⟨p', vs', es', z, l, r⟩ := P.env.dic hr2
  rw [es] at es'
  cases es'
  obtain rfl := rp_key ru hk
  refine ⟨p, _, rfl, DPut.k l (Nat.lt_of_lt_of_le (by rw [rpk_len r]; exact hl) (sz6 (Nat.le_refl _))), ?_⟩
  have P3 := P.trans (Post.put (s' := .dic (putD kvs k d)) (o := .dK (putK vs' k v)) P.env es hr2 rfl z ⟨p, _, rfl, z, upd_same, rpk_put r (rv.mono P2.stp.ex)⟩ rfl)
  exact C.nx σ _ H02 _ P3.stp.ex P3.env (P3.rc R) q
theorem je_dget (ok : J.Ok) {kvs0 : List (Key × Dt)} (hr0 : ρ[i]? = some (.dic kvs0)) (h : JE J b ρ fun f ρ2 => ∃ kvs k d, ρ2[i]? = some (.dic kvs) ∧ f.key = some k ∧ getK kvs k = some d ∧ Q d ρ2) (hs : NoSl b := by exact fun _ _ => rfl) (hN : J.X.N[i]? = some x := by rfl)
    (hv : Vis J.X.env.scope x := by first | exact Or.inl rfl | exact Or.inr (Or.inl rfl) | exact Or.inr (Or.inr rfl)) (hd : (x == ("__debug__" : Str)) = false := by decide) (hcd : (x == ("__classdict__" : Str)) = false := by decide) : JE J (.Subscript (.Name x p2) b pos) ρ Q := by
  intro σ H0 H E R Qv hq
  refine sem_of (pe_dget (Nat.lt_of_le_of_lt (by omega) ok.rm.units) (pe_var (i := i) hN hv hd hcd) pe_sem hs) ?_
  obtain ⟨p, vs, es, _⟩ := E.dic hr0
  refine ⟨.ref p, es, ?_⟩
  refine h σ H0 H E R _ ?_
  rintro u f ρ2 H02 H2 P2 ru ⟨kvs, k, d, hr2, hk, hg, q⟩
  obtain ⟨p', vs', es', z, l, r⟩ := P2.env.dic hr2
  rw [es] at es'
  cases es'
  obtain rfl := rp_key ru hk
  rcases rpk_get (k := k) r with ⟨_, h2⟩ | ⟨v, d', h1, h2, h3⟩
  · rw [hg] at h2
    cases h2
  · rw [hg] at h2
    cases h2
    refine ⟨p, v, rfl, ?_, hq v d ρ2 H02 H2 P2 h3 q⟩
    rw [← h1]
    exact DGet.k l
theorem je_din (ok : J.Ok) (h : JE J a ρ fun f ρ2 => ∃ kvs k, ρ2[i]? = some (.dic kvs) ∧ f.key = some k ∧ Q (.bl (getK kvs k).isSome) ρ2) (hN : J.X.N[i]? = some x := by rfl)
    (hv : Vis J.X.env.scope x := by first | exact Or.inl rfl | exact Or.inr (Or.inl rfl) | exact Or.inr (Or.inr rfl)) (hd : (x == ("__debug__" : Str)) = false := by decide) (hcd : (x == ("__classdict__" : Str)) = false := by decide) : JE J (.Compare a [.In] [.Name x p2] pos) ρ Q := by
  intro σ H0 H E R Qv hq
  refine sem_of (pe_cmp (pc_din (Nat.lt_of_le_of_lt (by omega) ok.rm.units) pe_sem (pe_var (i := i) hN hv hd hcd))) ?_
  refine h σ H0 H E R _ ?_
  rintro u f ρ2 H02 H2 P2 ru ⟨kvs, k, hr2, hk, q⟩
  obtain ⟨p', vs', es', z, l, r⟩ := P2.env.dic hr2
  obtain rfl := rp_key ru hk
  refine ⟨.ref p', es', p', _, rfl, DGet.k l, ?_⟩
  have eq : (valV vs' k).isSome = (getK kvs k).isSome := by
    rcases rpk_get (k := k) r with ⟨h1, h2⟩ | ⟨v, d', h1, h2, h3⟩
    · rw [h1, h2]
      rfl
    · rw [h1, h2]
      rfl
  rw [eq]
  exact hq _ _ ρ2 H02 H2 P2 (.bl _) q
theorem je_dnin (ok : J.Ok) (h : JE J a ρ fun f ρ2 => ∃ kvs k, ρ2[i]? = some (.dic kvs) ∧ f.key = some k ∧ Q (.bl (!(getK kvs k).isSome)) ρ2) (hN : J.X.N[i]? = some x := by rfl)
    (hv : Vis J.X.env.scope x := by first | exact Or.inl rfl | exact Or.inr (Or.inl rfl) | exact Or.inr (Or.inr rfl)) (hd : (x == ("__debug__" : Str)) = false := by decide) (hcd : (x == ("__classdict__" : Str)) = false := by decide) : JE J (.Compare a [.NotIn] [.Name x p2] pos) ρ Q := by
  intro σ H0 H E R Qv hq
  refine sem_of (pe_cmp (pc_dnotin (Nat.lt_of_le_of_lt (by omega) ok.rm.units) pe_sem (pe_var (i := i) hN hv hd hcd))) ?_
  refine h σ H0 H E R _ ?_
  rintro u f ρ2 H02 H2 P2 ru ⟨kvs, k, hr2, hk, q⟩
  obtain ⟨p', vs', es', z, l, r⟩ := P2.env.dic hr2
  obtain rfl := rp_key ru hk
  refine ⟨.ref p', es', p', _, rfl, DGet.k l, ?_⟩
  have eq : (valV vs' k).isSome = (getK kvs k).isSome := by
    rcases rpk_get (k := k) r with ⟨h1, h2⟩ | ⟨v, d', h1, h2, h3⟩
    · rw [h1, h2]
      rfl
    · rw [h1, h2]
      rfl
  rw [eq]
  exact hq _ _ ρ2 H02 H2 P2 (.bl _) q
end
end Dw

/-! Errors of one field with an __init__ of their own; the head's facts. -/
namespace Dw
open PySem PySem.Spec PyProof.Rows L2
open Evl (Ex)
/-- __init__(self, x): self.f = x -/
def spIni (K : PySem.W.Frag) (C : Addr) (f : Str) : Sp := fun vs H Q _ => ∃ (a : Addr) (v : V), vs = [.ref a, v] ∧ OexC K C ∧ PySem.W.findIn K (.ref C) f = some none ∧ H a = some (exo a C none) ∧
  ∀ d, H d = none → d ≠ a → Q .non (upd (upd H d (exd d [(f, v)])) a (exo a C (some d)))
/-- an error class of one field, as it stands -/
structure Err (P : Program) (w : World) (K : PySem.W.Frag) (mg : Str → Option Value) (base : Heap) (x : Str) (C : Addr) (f : Str) : Prop where
  o : OexC K C
  no : PySem.W.findIn K (.ref C) f = some none
  gC : mg x = some (.ref C)
  ini : ∃ fI fd ps, PySem.W.findIn K (.ref C) "__init__" = some (some (.ref fI)) ∧ PySem.W.typeIn K (.ref fI) = some (.type "function") ∧ FnOk P w K mg base (L2.CX P w) 1 fI fd ps (spIni K C f) ∧ Binds K fd ps []
theorem upd_del {H : Hp} {a d : Addr} {u : HO} {o1 o2 o3 : HO} (ha : H a = none) (hd : d ≠ a) : upd (del (upd (upd (upd H a o1) d o2) a o3) a) d u = upd H d u := by
  funext b
  by_cases h : b = d
  · subst h
    rw [upd_same, upd_same]
  · rw [upd_ne h, upd_ne h]
    by_cases h2 : b = a
    · subst h2
      rw [del_same, ha]
    · rw [del_ne h2, upd_ne h2, upd_ne h, upd_ne h2]
section
variable {J : Jx} {e a b : Expr} {es : List Expr} {ρ : List Sl} {O : Outs} {Q : Dt → List Sl → Prop} {x f : Str} {p1 p2 p3 pos : Pos} {C : Addr}
theorem js_raiseE (ok : J.Ok) (T : Err J.X.prog J.X.w J.X.K J.X.mg J.X.base x C f) (h : JE J a ρ fun d ρ1 => J.XC ⟨C, some (f, d)⟩ ρ1) (hk : 2 ≤ J.k) (hg : Gl J.X x := by rfl) (hc : J.X.calm = true := by rfl)
    (hdb : (x == ("__debug__" : Str)) = false := by decide) (he : starEach (a :: []) J.X.env = (false, eval a J.X.env) :: starEach [] J.X.env := by rfl) (hpl : (backTo pos (starEach [] J.X.env)).any (·.1) = false := by rfl) :
    JS J (.Raise (some (.Call (.Name x p1) [a] [] pos)) none p2) ρ O := by
  intro σ H0 H E R D Cm
  obtain ⟨fI, fd, ps, i1, i2, F, hb⟩ := T.ini
  have hx : Passes (L2.CX J.X.prog J.X.w) J.X (fun _ _ _ => False) := by
    rintro _ _ _ _ _ _ _ ⟨_, _, _, _, _, _, _, _, _, _, _, _, q⟩
    exact q.elim
  refine semS_of (ps_raise hc ok.tk (pmk_oex T.o i1 i2 F (ok.rm.mono hk) hb .nil hx hg T.gC (pa_cons pe_sem pa_nil he) hdb he hpl)) ?_
  refine h σ H0 H E R _ ?_
  intro v d ρ1 H01 H1 P1 r q
  refine ⟨by show 1 ≤ 1000; decide, ?_⟩
  intro n hn
  refine ⟨n, v, rfl, T.o, T.no, upd_same, ?_⟩
  intro dd hd hne
  have hd1 : H1 dd = none := by
    rw [upd_ne hne] at hd
    exact hd
  refine ⟨rfl, dd, [(f, v)], upd_same, by rw [upd_ne hne, upd_same], hd1, ?_⟩
  rw [upd_del hn hne]
  have P2 := P1.then (Stp.alloc P1.env.ex (p := dd) (o := .xd [(f, v)]) hd1)
  exact ok.hw σ ρ1 _ _ ⟨C, some (f, d)⟩ (.ref C) (some dd) P2.env (P2.rc R) ⟨rfl, dd, v, rfl, upd_same, r.mono (Evl.Ex.new (Evl.fresh_back P1.env.ex hd1))⟩ q
end
/-! ### the head's facts -/
/-- of one's own besides the library's -/
def obsM (my : PySem.W.Frag → Bool) (fa : List He.Fa) (fn : List He.DefD) (K : PySem.W.Frag) : Bool × He.AlD := (my K, He.obsD fa fn K)
def valM (fn : List He.DefD) : Bool × He.AlD := (true, He.valD fn)
def SaysM (my : PySem.W.Frag → Bool) (fa : List He.Fa) (fn : List He.DefD) (K : PySem.W.Frag) : Prop := my K = true ∧ He.SaysD fa fn K
def obsMG (my : PySem.W.Frag → Bool) (n : Nat) (fa : List He.Fa) (fn : List He.DefD) (g : Addr → Option Obj) : Bool × He.AlD := obsM my fa fn (He.frG g (He.asD g n))
def hookM (my : PySem.W.Frag → Bool) (n : Nat) (fa : List He.Fa) (fn : List He.DefD) : PySem.W.Hook where
  α := Bool × He.AlD
  obs := fun s => obsMG my n fa fn s.heap.get?
  val := fun _ => valM fn
  says := fun _ h => ∃ K : PySem.W.Frag, K.In h ∧ SaysM my fa fn K
  of := fun _ _ e => ⟨_, He.frG_in, congrArg Prod.fst e, congrArg Prod.snd e⟩
  keeps := by
    rintro _ _ _ ⟨K, hK, c⟩ k
    exact ⟨K, PySem.W.Frag.In.keeps hK k, c⟩
theorem obsMG_eq {my : PySem.W.Frag → Bool} {n : Nat} {fa : List He.Fa} {fn : List He.DefD} {g : Addr → Option Obj} {s : Shared} (h : ∀ a, g a = s.heap.get? a) : obsMG my n fa fn g = (hookM my n fa fn).obs s := by
  obtain rfl : g = s.heap.get? := funext h
  rfl
/-- an own class over ValueError -/
def clsB (K : PySem.W.Frag) (C : Addr) : Bool := match K.lookup C with
  | some ⟨.type t, _, .cls cd, ⟨sl⟩⟩ => decide (t = "type") && (match cd.mro, sl with
    | .ref C2 :: bm, [_, _, _, _, some (.builtin n), _] => decide (C2 = C) && (decide (n = "ValueError.__new__") && (!cd.hasDel && (cd.hasDict && PySem.HandSPX.refsVE bm)))
    | _, _ => false)
  | _ => false
theorem clsB_ok {K : PySem.W.Frag} {C : Addr} (h : clsB K C = true) : ∃ nm q N bs bm sn sub ab col dd k0 k1 k2 k3 k5, K.lookup C = some (excClassObj nm q C N bs bm true sn sub ab col dd k0 k1 k2 k3 k5 "ValueError.__new__") ∧ PySem.HandSPX.refsVE bm = true := by
  unfold clsB at h
  split at h
  · rename_i t dd cd sl ho
    obtain ⟨h1, h⟩ := Bool.and_eq_true_iff.mp h
    obtain rfl := of_decide_eq_true h1
    split at h
    · rename_i C2 bm k0 k1 k2 k3 n k5 hm hz
      rw [hm] at hz
      obtain ⟨h1, h⟩ := Bool.and_eq_true_iff.mp hz
      obtain ⟨h2, h⟩ := Bool.and_eq_true_iff.mp h
      obtain ⟨h3, h⟩ := Bool.and_eq_true_iff.mp h
      obtain ⟨h4, h5⟩ := Bool.and_eq_true_iff.mp h
      obtain rfl := of_decide_eq_true h1
      obtain rfl := of_decide_eq_true h2
      obtain ⟨nm, bs, mro, ns, qn, hd, sn, sub, ab, col, del⟩ := cd
      dsimp only at hm h3 h4
      subst hm h4
      have h3' : del = false := by
        cases del
        · rfl
        · cases h3
      subst h3'
      exact ⟨nm, qn, ns, bs, bm, sn, sub, ab, col, dd, k0, k1, k2, k3, k5, ho, h5⟩
    · cases h
  · cases h
def oexB (K : PySem.W.Frag) (C : Addr) : Bool := clsB K C && (decide (PySem.W.findIn K (.ref C) "__setattr__" = some (some (.builtin "object.__setattr__"))) && (decide (PySem.W.subIn K (.ref C) (.type "BaseException") = some true) && (decide (PySem.W.typeIn K (.ref C) = some (.type "type")) && PySem.W.keepIn K (.ref C))))
theorem oexB_ok {K : PySem.W.Frag} {C : Addr} (h : oexB K C = true) : OexC K C := by
  obtain ⟨h1, h⟩ := Bool.and_eq_true_iff.mp h
  obtain ⟨h2, h⟩ := Bool.and_eq_true_iff.mp h
  obtain ⟨h3, h⟩ := Bool.and_eq_true_iff.mp h
  obtain ⟨h4, h5⟩ := Bool.and_eq_true_iff.mp h
  exact ⟨clsB_ok h1, of_decide_eq_true h2, of_decide_eq_true h3, of_decide_eq_true h4, h5⟩
/-- what isinstance and a field's look ask of such a class -/
def xclB (K : PySem.W.Frag) (C : Addr) : Bool := xfB K C && ((PySem.W.clsIn K C).isSome && (decide (PySem.W.findIn K (.ref C) "__class__" = some (some (.builtin "object.__class__"))) &&
  (decide (PySem.W.specialIn K (.builtin "object.__class__") "__get__" = some (some (.builtin "getset_descriptor.__get__"))) && (decide (PySem.W.takesIn K (.builtin "object.__class__") = some true) && decide (PySem.W.mroIn K C (.type "object") = some true)))))
theorem xclB_ok {K : PySem.W.Frag} {C : Addr} (h : xclB K C = true) : XCls K C := by
  obtain ⟨h1, h⟩ := Bool.and_eq_true_iff.mp h
  obtain ⟨h2, h⟩ := Bool.and_eq_true_iff.mp h
  obtain ⟨h3, h⟩ := Bool.and_eq_true_iff.mp h
  obtain ⟨h4, h⟩ := Bool.and_eq_true_iff.mp h
  obtain ⟨h5, h6⟩ := Bool.and_eq_true_iff.mp h
  exact ⟨xfB_ok h1, h2, of_decide_eq_true h3, of_decide_eq_true h4, of_decide_eq_true h5, of_decide_eq_true h6⟩
def errB (K : PySem.W.Frag) (x f : Str) : Bool := oexB K (He.ga K x) && (xclB K (He.ga K x) && (decide (PySem.W.findIn K (.ref (He.ga K x)) f = some none) && (decide (PySem.W.findIn K (.ref (He.ga K x)) "__init__" = some (some (.ref (He.ma K (He.ga K x) "__init__")))) && decide (PySem.W.typeIn K (.ref (He.ma K (He.ga K x) "__init__")) = some (.type "function")))))
theorem errB_ok {K : PySem.W.Frag} {x f : Str} (h : errB K x f = true) : OexC K (He.ga K x) ∧ XCls K (He.ga K x) ∧ PySem.W.findIn K (.ref (He.ga K x)) f = some none ∧ PySem.W.findIn K (.ref (He.ga K x)) "__init__" = some (some (.ref (He.ma K (He.ga K x) "__init__"))) ∧
    PySem.W.typeIn K (.ref (He.ma K (He.ga K x) "__init__")) = some (.type "function") := by
  obtain ⟨h1, h⟩ := Bool.and_eq_true_iff.mp h
  obtain ⟨h2, h⟩ := Bool.and_eq_true_iff.mp h
  obtain ⟨h3, h⟩ := Bool.and_eq_true_iff.mp h
  obtain ⟨h4, h5⟩ := Bool.and_eq_true_iff.mp h
  exact ⟨oexB_ok h1, xclB_ok h2, of_decide_eq_true h3, of_decide_eq_true h4, of_decide_eq_true h5⟩
end Dw

/-! The rules by names; one step of a walk. -/
namespace Dw
open PySem PySem.Spec PyProof.Rows L2
open Evl (Ex)
/-- where a name stands -/
def ixOf : List Str → Str → Nat
  | [], _ => 0
  | a :: l, x => if a = x then 0 else ixOf l x + 1
/-- the built-in names that the text leaves free -/
def blts : List Str := ["isinstance", "int", "bool", "tuple", "list", "len", "range", "divmod", "abs", "min", "max", "str", "sorted", "sum", "all", "any", "set", "dict", "enumerate", "zip", "reversed", "ValueError"]
def FreeB (mg : Str → Option Value) (l : List Str) : Prop := ∀ x ∈ l, mg x = none
theorem FreeB.get {mg : Str → Option Value} {l : List Str} {x : Str} (h : FreeB mg l) (m : l.contains x = true) : mg x = none := h x (List.contains_iff_mem.mp m)
section
variable {J : Jx} {e a b c iter : Expr} {es : List Expr} {st : Stmt} {body rest orelse sts : List Stmt} {ρ : List Sl} {O : Outs} {x y z : Str} {pos p1 p2 p3 p4 p5 : Pos} {i j k : Nat} {Q : Dt → List Sl → Prop} {QA : List Ag → List Sl → Prop} {QG : Ag → List Sl → Prop} {QO : Option Int → List Sl → Prop}
theorem je_nm {d : Dt} (hr : ρ[ixOf J.X.N x]? = some (.val d)) (q : Q d ρ) (hN : J.X.N[ixOf J.X.N x]? = some x := by rfl) (hv : Vis J.X.env.scope x := by first | exact Or.inl rfl | exact Or.inr (Or.inl rfl) | exact Or.inr (Or.inr rfl))
    (hd : (x == ("__debug__" : Str)) = false := by decide) (hcd : (x == ("__classdict__" : Str)) = false := by decide) : JE J (.Name x pos) ρ Q := je_name hr q hN hv hd hcd
theorem js_setI (ok : J.Ok) (h : JE J e ρ fun d ρ1 => O.nx (ρ1.set (ixOf J.X.N x) (.val d))) (np : pinned J.N.ρ (ixOf J.X.N x) = false := by rfl) (hi : J.X.N[ixOf J.X.N x]? = some x := by rfl) (hx : Loc J.X.env.scope x := by first | exact Or.inl rfl | exact Or.inr rfl)
    (hs : swapsWith e (some (.Name x p2)) pos.line J.X.env = pure false := by rfl) (hf : J.X.fn x = true ∨ J.X.env.scope.names.lookup x = some .local := by first | exact .inl rfl | exact .inr rfl) : JS J (.Assign [.Name x p2] e pos) ρ O := js_set ok.nd h np hi hx hs hf
theorem js_setNI (ok : J.Ok) (h : JN J e ρ fun ds ρ1 => O.nx (ρ1.set (ixOf J.X.N x) (.own ds))) (np : pinned J.N.ρ (ixOf J.X.N x) = false := by rfl) (hi : J.X.N[ixOf J.X.N x]? = some x := by rfl) (hx : Loc J.X.env.scope x := by first | exact Or.inl rfl | exact Or.inr rfl)
    (hs : swapsWith e (some (.Name x p2)) pos.line J.X.env = pure false := by rfl) (hf : J.X.fn x = true ∨ J.X.env.scope.names.lookup x = some .local := by first | exact .inl rfl | exact .inr rfl) : JS J (.Assign [.Name x p2] e pos) ρ O := js_setN ok.nd h np hi hx hs hf
def tIx (N : List Str) : List Expr → List Nat
  | [] => []
  | .Name x _ :: ts => ixOf N x :: tIx N ts
  | _ :: ts => 0 :: tIx N ts
theorem pgn_nI {X : Cx} : PgN X [] (tIx X.N []) := pgn_nil
theorem pgn_cI {X : Cx} {ts : List Expr} (nd : X.N.Nodup) (h : PgN X ts (tIx X.N ts)) (hi : X.N[ixOf X.N x]? = some x := by rfl) (hx : Loc X.env.scope x := by first | exact Or.inl rfl | exact Or.inr rfl)
    (hf : X.fn x = true ∨ X.env.scope.names.lookup x = some .local := by first | exact .inl rfl | exact .inr rfl)
    (hs : (assignEach (.Name x p2 :: ts) X.env).map (·.2) = assign (.Name x p2) X.env :: (assignEach ts X.env).map (·.2) := by rfl) : PgN X (.Name x p2 :: ts) (tIx X.N (.Name x p2 :: ts)) := pgn_cons nd h hi hx hf hs
theorem jg_ownI {s : Sl} (hr : ρ[ixOf J.X.N x]? = some s) (ow : s.ow = true) (q : QG (.b (ixOf J.X.N x)) ρ) (hN : J.X.N[ixOf J.X.N x]? = some x := by rfl) (hv : Vis J.X.env.scope x := by first | exact Or.inl rfl | exact Or.inr (Or.inl rfl) | exact Or.inr (Or.inr rfl))
    (hd : (x == ("__debug__" : Str)) = false := by decide) (hcd : (x == ("__classdict__" : Str)) = false := by decide) : JG J (.Name x pos) ρ QG := jg_own hr ow q hN hv hd hcd
theorem ja_ownI {ds : List Dt} {p2 : Pos} (hr : ρ[ixOf J.X.N x]? = some (.own ds)) (h : JA J es ρ fun ags ρ2 => QA (.b (ixOf J.X.N x) :: ags) ρ2) (hN : J.X.N[ixOf J.X.N x]? = some x := by rfl) (hv : Vis J.X.env.scope x := by first | exact Or.inl rfl | exact Or.inr (Or.inl rfl) | exact Or.inr (Or.inr rfl))
    (hd : (x == ("__debug__" : Str)) = false := by decide) (hcd : (x == ("__classdict__" : Str)) = false := by decide)
    (hs : starEach (.Name x p2 :: es) J.X.env = (false, eval (.Name x p2) J.X.env) :: starEach es J.X.env := by rfl) : JA J (.Name x p2 :: es) ρ QA := ja_own hr h hN hv hd hcd hs
theorem js_unpackI {ts : List Expr} {n : Nat} {k2 : Nat} (ok : J.Ok) (hg : J.X.N.Nodup → PgN J.X ts (tIx J.X.N ts)) (h : JE J e ρ fun d ρ1 => ∃ ds, d = .tup ds ∧ ds.length = (tIx J.X.N ts).length ∧ O.nx (setAll ρ1 (tIx J.X.N ts) ds)) (np : (tIx J.X.N ts).all (fun i => !pinned J.N.ρ i) = true := by rfl) (hc : J.X.calm = true := by rfl)
    (hn : (assignEach ts J.X.env).length = n := by rfl) (hin : (tIx J.X.N ts).length = n := by rfl) (hst : (assignEach ts J.X.env).findIdx? (·.1) = none := by rfl)
    (hs : swapsWithSole [.Tuple ts k2 p2] e pos.line J.X.env = pure false := by rfl) (hw : swappedStores [.Tuple ts k2 p2] e J.X.env = pure none := by rfl) (h1 : (assignEach [.Tuple ts k2 p2] J.X.env).map (·.2) = [assign (.Tuple ts k2 p2) J.X.env] := by rfl) :
    JS J (.Assign [.Tuple ts k2 p2] e pos) ρ O := js_unpack (hg ok.nd) h np hc hn hin hst hs hw h1
theorem je_isiK {T : String} (h : JE J a ρ fun d ρ1 => ∃ b, d.isObj = false ∧ kitB d.ty T = some b ∧ Q (.bl b) ρ1) (hm : J.X.mg "isinstance" = none) (hmT : J.X.mg (Str.ofString T) = none) (hg : Gl J.X "isinstance" := by rfl) (hgT : Gl J.X (Str.ofString T) := by rfl)
    (hvT : bootBuiltins (Str.ofString T) = some (.type T) := by decide +kernel) (hn : Str.ofString T ≠ "__name__" := by decide) (hdb : (Str.ofString T == ("__debug__" : Str)) = false := by decide)
    (he : starEach (a :: [.Name (Str.ofString T) p3]) J.X.env = (false, eval a J.X.env) :: starEach [.Name (Str.ofString T) p3] J.X.env := by rfl) (he2 : starEach (.Name (Str.ofString T) p3 :: []) J.X.env = (false, eval (.Name (Str.ofString T) p3) J.X.env) :: starEach [] J.X.env := by rfl)
    (hpl : (backTo pos (starEach [.Name (Str.ofString T) p3] J.X.env)).any (·.1) = false := by rfl) : JE J (.Call (.Name "isinstance" p2) [a, .Name (Str.ofString T) p3] [] pos) ρ Q := je_isi h hg hm hgT hmT hvT hn hdb he he2 hpl
theorem je_isiO {T : String} {k : Bool} {ds : List Dt} (hr : ρ[ixOf J.X.N x]? = some (.own ds)) (hk : kitB "list" T = some k) (q : Q (.bl k) ρ) (hm : J.X.mg "isinstance" = none) (hmT : J.X.mg (Str.ofString T) = none) (hg : Gl J.X "isinstance" := by rfl) (hgT : Gl J.X (Str.ofString T) := by rfl)
    (hvT : bootBuiltins (Str.ofString T) = some (.type T) := by decide +kernel) (hn : Str.ofString T ≠ "__name__" := by decide) (hdb : (Str.ofString T == ("__debug__" : Str)) = false := by decide)
    (hN : J.X.N[ixOf J.X.N x]? = some x := by rfl) (hv : Vis J.X.env.scope x := by first | exact Or.inl rfl | exact Or.inr (Or.inl rfl) | exact Or.inr (Or.inr rfl)) (hd : (x == ("__debug__" : Str)) = false := by decide) (hcd : (x == ("__classdict__" : Str)) = false := by decide)
    (he : starEach (.Name x p4 :: [.Name (Str.ofString T) p3]) J.X.env = (false, eval (.Name x p4) J.X.env) :: starEach [.Name (Str.ofString T) p3] J.X.env := by rfl) (he2 : starEach (.Name (Str.ofString T) p3 :: []) J.X.env = (false, eval (.Name (Str.ofString T) p3) J.X.env) :: starEach [] J.X.env := by rfl)
    (hpl : (backTo pos (starEach [.Name (Str.ofString T) p3] J.X.env)).any (·.1) = false := by rfl) : JE J (.Call (.Name "isinstance" p2) [.Name x p4, .Name (Str.ofString T) p3] [] pos) ρ Q := je_isiOwn hr hk q hg hm hgT hmT hvT hn hdb hN hv hd hcd he he2 hpl
/-! guards: the shape of a goal, nothing else -/
variable {QB : Bool → List Sl → Prop} {QN : List Dt → List Sl → Prop} {n : Str} {ags : List Expr} {kws : List Keyword} {ts : List Expr}
theorem gB (h : JB J sts ρ O) : JB J sts ρ O := h
theorem gT (h : JT J e ρ QB) : JT J e ρ QB := h
theorem gG (h : JG J e ρ QG) : JG J e ρ QG := h
theorem gNm (h : JE J (.Name x pos) ρ Q) : JE J (.Name x pos) ρ Q := h
theorem gIx (h : JE J (.Subscript a b pos) ρ Q) : JE J (.Subscript a b pos) ρ Q := h
theorem gAN (h : JS J (.Assign [.Name x p2] e pos) ρ O) : JS J (.Assign [.Name x p2] e pos) ρ O := h
theorem gAT (h : JS J (.Assign [.Tuple ts k p2] e pos) ρ O) : JS J (.Assign [.Tuple ts k p2] e pos) ρ O := h
theorem gVc (h : JV J (e :: es) ρ QN) : JV J (e :: es) ρ QN := h
theorem gAc (h : JA J (e :: es) ρ QA) : JA J (e :: es) ρ QA := h
theorem gC (n : Str) (h : JE J (.Call (.Name n p2) ags kws pos) ρ Q) : JE J (.Call (.Name n p2) ags kws pos) ρ Q := h
theorem gF (h : JE J (.Call (.Name x p2) (e :: es) [] pos) ρ Q) : JE J (.Call (.Name x p2) (e :: es) [] pos) ρ Q := h
theorem jo_none (q : QO none ρ) : JO J none ρ QO := q
theorem jo_some (h : JE J e ρ fun d ρ' => ∃ i, d = .int i ∧ QO (some i) ρ') : JO J (some e) ρ QO := h
end
end Dw

/-! Comprehensions by names. -/
namespace Dw
open PySem PySem.Spec PyProof.Rows L2
open Evl (Ex)
/-- the block's own name and what it takes -/
def blkB (N : List Str) (sc scope : Scope) (x : Str) : Bool := decide (scope.kind = .function) && (scope.names.all (fun y => decide (scope.names.lookup y.1 = some y.2)) && (decide (N[ixOf N x]? = some x) &&
  (scope.names.all (fun y => !decide (y.2 = .free) || (decide (sc.names.lookup y.1 = some .cell) || decide (sc.names.lookup y.1 = some .free))) && (scope.names.all (fun y => !(decide (y.2 = .local) || decide (y.2 = .cell)) || (decide (y.1 = x) || !N.contains y.1)) && decide (scope.names.lookup x = some .local)))))
theorem blkB_ok {N : List Str} {sc scope : Scope} {x : Str} (h : blkB N sc scope x = true) : BlkOk N sc scope [(x, ixOf N x)] ∧ N[ixOf N x]? = some x ∧ scope.names.lookup x = some .local := by
  obtain ⟨h1, h⟩ := Bool.and_eq_true_iff.mp h
  obtain ⟨h2, h⟩ := Bool.and_eq_true_iff.mp h
  obtain ⟨h3, h⟩ := Bool.and_eq_true_iff.mp h
  obtain ⟨h4, h⟩ := Bool.and_eq_true_iff.mp h
  obtain ⟨h5, h6⟩ := Bool.and_eq_true_iff.mp h
  have hN := of_decide_eq_true h3
  refine ⟨⟨of_decide_eq_true h1, fun y hy => of_decide_eq_true (List.all_eq_true.mp h2 y hy), ?_, ?_, ?_⟩, hN, of_decide_eq_true h6⟩
  · intro p hp
    obtain rfl := List.mem_singleton.mp hp
    exact hN
  · intro y hy e
    have q := List.all_eq_true.mp h4 y hy
    simp only [e, decide_true, Bool.not_true, Bool.false_or, Bool.or_eq_true, decide_eq_true_eq] at q
    exact q
  · intro y hy e
    have q := List.all_eq_true.mp h5 y hy
    have e' : (decide (y.2 = .local) || decide (y.2 = .cell)) = true := by
      rcases e with e | e <;> simp [e]
    rw [e'] at q
    simp only [Bool.not_true, Bool.false_or, Bool.or_eq_true, decide_eq_true_eq, Bool.not_eq_true'] at q
    rcases q with q | q
    · exact .inl (by simp [q])
    · refine .inr fun m => ?_
      rw [List.contains_iff_mem.mpr m] at q
      cases q
section
variable {J : Jx} {elt a it cd : Expr} {scope : Scope} {ρ : List Sl} {QN : List Dt → List Sl → Prop} {x : Str} {pos p1 p2 p3 : Pos}
theorem jn_cR (ok : J.Ok) (hm : J.X.mg "range" = none) (h : JE J a ρ fun d ρ1 => ∃ (n : Int) (Inv : Nat → List Dt → List Sl → Prop), d = .int n ∧ n ≤ 1000000 ∧ -1000000 ≤ n ∧ ρ1[ixOf J.X.N x]? = some .no ∧ Inv 0 [] ρ1 ∧
      (∀ (i : Nat) acc ρ', (i : Int) < n → Inv i acc ρ' → JEb J scope elt (ρ'.set (ixOf J.X.N x) (.val (.int (i : Int)))) fun f ρ4 => Inv (i + 1) (acc ++ [f]) (ρ4.set (ixOf J.X.N x) .no)) ∧ (∀ acc ρ2, Inv n.toNat acc ρ2 → QN acc ρ2))
    (hB : blkB J.X.N J.X.env.scope scope x = true := by rfl) (np : pinned J.N.ρ (ixOf J.X.N x) = false := by rfl) (hc : J.X.calm = true := by rfl) (hg : Gl J.X "range" := by rfl)
    (he : starEach [a] J.X.env = [(false, eval a J.X.env)] := by rfl) (hl : ∀ (C : Addr) (cl : List (Str × Addr)), Loc (compEnvC scope cl C J.X.env).scope x := by exact fun _ _ => Or.inl rfl) (hf : ∀ (C : Addr) (cl : List (Str × Addr)), (compEnvC scope cl C J.X.env).scope.names.lookup x = some .local := by exact fun _ _ => rfl)
    (hs : ∀ z, foldedSetIterable (.Call (.Name "range" p2) [a] [] p3) J.X.env z = pure z := by exact fun _ => rfl) : JN J (.ListComp elt [⟨.Name x p1, .Call (.Name "range" p2) [a] [] p3, [], 0⟩] scope pos) ρ QN := by
  obtain ⟨b1, b2, b3⟩ := blkB_ok hB
  refine jn_of (J := J) (pe_lcN (own := [(x, ixOf J.X.N x)]) ok (pi_range1 hg hm (pa_cons pe_sem pa_nil he) he) b1 b2 b3 hc hl hf hs) (wn_lcR1 (J := J) (c := none) np (je_mono h ?_))
  rintro d ρ1 ⟨n, Inv, e, h1, h2, h3, h4, h5, h6⟩
  exact ⟨n, Inv, e, h1, h2, h3, h4, fun i acc ρ' hi I => ⟨fun _ => h5 i acc ρ' hi I, fun q => Bool.noConfusion q⟩, h6⟩
theorem jn_cRI (ok : J.Ok) (hm : J.X.mg "range" = none) (h : JE J a ρ fun d ρ1 => ∃ (n : Int) (Inv : Nat → List Dt → List Sl → Prop), d = .int n ∧ n ≤ 1000000 ∧ -1000000 ≤ n ∧ ρ1[ixOf J.X.N x]? = some .no ∧ Inv 0 [] ρ1 ∧
      (∀ (i : Nat) acc ρ', (i : Int) < n → Inv i acc ρ' → JTb J scope cd (ρ'.set (ixOf J.X.N x) (.val (.int (i : Int)))) fun k ρ3 => (k = true → JEb J scope elt ρ3 fun f ρ4 => Inv (i + 1) (acc ++ [f]) (ρ4.set (ixOf J.X.N x) .no)) ∧ (k = false → Inv (i + 1) acc (ρ3.set (ixOf J.X.N x) .no))) ∧ (∀ acc ρ2, Inv n.toNat acc ρ2 → QN acc ρ2))
    (hB : blkB J.X.N J.X.env.scope scope x = true := by rfl) (np : pinned J.N.ρ (ixOf J.X.N x) = false := by rfl) (hc : J.X.calm = true := by rfl) (hg : Gl J.X "range" := by rfl)
    (he : starEach [a] J.X.env = [(false, eval a J.X.env)] := by rfl) (hl : ∀ (C : Addr) (cl : List (Str × Addr)), Loc (compEnvC scope cl C J.X.env).scope x := by exact fun _ _ => Or.inl rfl) (hf : ∀ (C : Addr) (cl : List (Str × Addr)), (compEnvC scope cl C J.X.env).scope.names.lookup x = some .local := by exact fun _ _ => rfl)
    (hs : ∀ z, foldedSetIterable (.Call (.Name "range" p2) [a] [] p3) J.X.env z = pure z := by exact fun _ => rfl) : JN J (.ListComp elt [⟨.Name x p1, .Call (.Name "range" p2) [a] [] p3, [cd], 0⟩] scope pos) ρ QN := by
  obtain ⟨b1, b2, b3⟩ := blkB_ok hB
  exact jn_of (J := J) (pe_lcI (own := [(x, ixOf J.X.N x)]) ok (pi_range1 hg hm (pa_cons pe_sem pa_nil he) he) b1 b2 hc hl hf hs) (wn_lcR1 (J := J) (c := some cd) np h)
end
end Dw

/-! Loops, own lists and dicts by names. -/
namespace Dw
open PySem PySem.Spec PyProof.Rows L2
open Evl (Ex)
section
variable {J : Jx} {e a b c iter : Expr} {es : List Expr} {body : List Stmt} {ρ : List Sl} {O : Outs} {x : Str} {pos p1 p2 p3 p4 p5 : Pos} {Q : Dt → List Sl → Prop} {QN : List Dt → List Sl → Prop}
theorem js_forI1 (ok : J.Ok) (hm : J.X.mg "range" = none) (h : JE J a ρ fun d ρ1 => ∃ (n : Int) (Inv : Nat → List Sl → Prop), d = .int n ∧ Inv 0 ρ1 ∧
      (∀ (k : Nat) ρ2, (k : Int) < n → Inv k ρ2 → JB J body (ρ2.set (ixOf J.X.N x) (.val (.int (k : Int)))) { nx := Inv (k + 1), rt := O.rt, bk := O.nx, ct := Inv (k + 1) }) ∧ (∀ ρ2, Inv n.toNat ρ2 → O.nx ρ2)) (hg : Gl J.X "range" := by rfl) (np : pinned J.N.ρ (ixOf J.X.N x) = false := by rfl) (hc : J.X.calm = true := by rfl)
    (hi : J.X.N[ixOf J.X.N x]? = some x := by rfl) (hx : Loc J.X.env.scope x := by first | exact Or.inl rfl | exact Or.inr rfl) (hf : J.X.fn x = true ∨ J.X.env.scope.names.lookup x = some .local := by first | exact .inl rfl | exact .inr rfl)
    (he : starEach (a :: []) J.X.env = (false, eval a J.X.env) :: starEach [] J.X.env := by rfl) (he1 : starEach [a] J.X.env = [(false, eval a J.X.env)] := by rfl)
    (hs : ∀ z, foldedSetIterable (.Call (.Name "range" p3) [a] [] p4) J.X.env z = pure z := by intro _; rfl) : JS J (.For (.Name x p2) (.Call (.Name "range" p3) [a] [] p4) body [] pos) ρ O := js_forA1 ok hg hm h np hc hi hx hf he he1 hs
theorem js_forI2 (ok : J.Ok) (hm : J.X.mg "range" = none) (h : JE J a ρ fun d ρ1 => JE J b ρ1 fun f ρ2 => ∃ (lo n : Int) (Inv : Nat → List Sl → Prop), d = .int lo ∧ f = .int n ∧ Inv 0 ρ2 ∧
      (∀ (k : Nat) ρ3, lo + (k : Int) < n → Inv k ρ3 → JB J body (ρ3.set (ixOf J.X.N x) (.val (.int (lo + (k : Int))))) { nx := Inv (k + 1), rt := O.rt, bk := O.nx, ct := Inv (k + 1) }) ∧ (∀ ρ3, Inv (n - lo).toNat ρ3 → O.nx ρ3)) (hg : Gl J.X "range" := by rfl) (np : pinned J.N.ρ (ixOf J.X.N x) = false := by rfl) (hc : J.X.calm = true := by rfl)
    (hi : J.X.N[ixOf J.X.N x]? = some x := by rfl) (hx : Loc J.X.env.scope x := by first | exact Or.inl rfl | exact Or.inr rfl) (hf : J.X.fn x = true ∨ J.X.env.scope.names.lookup x = some .local := by first | exact .inl rfl | exact .inr rfl)
    (he : starEach (a :: [b]) J.X.env = (false, eval a J.X.env) :: starEach [b] J.X.env := by rfl) (he2 : starEach (b :: []) J.X.env = (false, eval b J.X.env) :: starEach [] J.X.env := by rfl)
    (he3 : starEach [a, b] J.X.env = [(false, eval a J.X.env), (false, eval b J.X.env)] := by rfl) (he4 : starEach [b] J.X.env = [(false, eval b J.X.env)] := by rfl)
    (hs : ∀ z, foldedSetIterable (.Call (.Name "range" p3) [a, b] [] p4) J.X.env z = pure z := by intro _; rfl) : JS J (.For (.Name x p2) (.Call (.Name "range" p3) [a, b] [] p4) body [] pos) ρ O := js_forA2 ok hg hm h np hc hi hx hf he he2 he3 he4 hs
theorem js_forIL (ok : J.Ok) (h : JE J iter ρ fun d ρ1 => ∃ (ds : List Dt) (Inv : Nat → List Sl → Prop), d = .lst ds ∧ Inv 0 ρ1 ∧
      (∀ k u ρ2, ds[k]? = some u → Inv k ρ2 → JB J body (ρ2.set (ixOf J.X.N x) (.val u)) { nx := Inv (k + 1), rt := O.rt, bk := O.nx, ct := Inv (k + 1) }) ∧ (∀ ρ2, Inv ds.length ρ2 → O.nx ρ2)) (np : pinned J.N.ρ (ixOf J.X.N x) = false := by rfl) (hc : J.X.calm = true := by rfl)
    (hi : J.X.N[ixOf J.X.N x]? = some x := by rfl) (hx : Loc J.X.env.scope x := by first | exact Or.inl rfl | exact Or.inr rfl) (hf : J.X.fn x = true ∨ J.X.env.scope.names.lookup x = some .local := by first | exact .inl rfl | exact .inr rfl)
    (hs : ∀ z, foldedSetIterable iter J.X.env z = pure z := by intro _; rfl) : JS J (.For (.Name x p2) iter body [] pos) ρ O := js_forL (p6 := pos) ok h np hc hi hx hf hs
theorem js_appI {ds0 : List Dt} (hr0 : ρ[ixOf J.X.N x]? = some (.own ds0)) (h : JE J e ρ fun d ρ1 => ∃ ds, ρ1[ixOf J.X.N x]? = some (.own ds) ∧ ds.length < 1000000 ∧ O.nx (ρ1.set (ixOf J.X.N x) (.own (ds ++ [d])))) (hN : J.X.N[ixOf J.X.N x]? = some x := by rfl) (hv : Vis J.X.env.scope x := by first | exact Or.inl rfl | exact Or.inr (Or.inl rfl) | exact Or.inr (Or.inr rfl))
    (hd : (x == ("__debug__" : Str)) = false := by decide) (hcd : (x == ("__classdict__" : Str)) = false := by decide)
    (hs : swapsWith (.Call (.Attribute (.Name x p2) "append" p3) [e] [] p4) none p5.line J.X.env = pure false := by rfl)
    (hbase : attributeBase (.Name x p2) "append" J.X.env (eval (.Name x p2) J.X.env) = eval (.Name x p2) J.X.env := by rfl)
    (hfew : ((backTo p4 (starEach (e :: []) J.X.env)).all (fun x => !x.1) && (backToKw p4 (keywordEach [] J.X.env)).all (fun x => x.1.isSome)
      && decide ((e :: []).length + ([] : List Keyword).length + (if ([] : List Keyword).isEmpty then 0 else 1) < 30)) = true := by rfl)
    (hline : (p3.endLine == p4.line) = true := by rfl) (hst : starEach (e :: []) J.X.env = (false, eval e J.X.env) :: starEach [] J.X.env := by rfl) :
    JS J (.Expr (.Call (.Attribute (.Name x p2) "append" p3) [e] [] p4) p5) ρ O := js_append h hN hv hr0 hd hcd hs hbase hfew hline hst
theorem je_popI {ds : List Dt} {d : Dt} (hr : ρ[ixOf J.X.N x]? = some (.own ds)) (hl : ds[ds.length - 1]? = some d) (q : Q d (ρ.set (ixOf J.X.N x) (.own ds.dropLast))) (hN : J.X.N[ixOf J.X.N x]? = some x := by rfl) (hv : Vis J.X.env.scope x := by first | exact Or.inl rfl | exact Or.inr (Or.inl rfl) | exact Or.inr (Or.inr rfl))
    (hd : (x == ("__debug__" : Str)) = false := by decide) (hcd : (x == ("__classdict__" : Str)) = false := by decide)
    (hbase : attributeBase (.Name x p2) "pop" J.X.env (eval (.Name x p2) J.X.env) = eval (.Name x p2) J.X.env := by rfl) (hline : (p3.endLine == p4.line) = true := by rfl) : JE J (.Call (.Attribute (.Name x p2) "pop" p3) [] [] p4) ρ Q := je_pop hr hl q hN hv hd hcd hbase hline
theorem js_retOwnI {ds : List Dt} (hr : ρ[ixOf J.X.N x]? = some (.own ds)) (np : pinned J.N.ρ (ixOf J.X.N x) = false) (h : O.rt (.new ds) (ρ.set (ixOf J.X.N x) .no)) (hN : J.X.N[ixOf J.X.N x]? = some x := by rfl) (hv : Vis J.X.env.scope x := by first | exact Or.inl rfl | exact Or.inr (Or.inl rfl) | exact Or.inr (Or.inr rfl))
    (hd : (x == ("__debug__" : Str)) = false := by decide) (hcd : (x == ("__classdict__" : Str)) = false := by decide) : JS J (.Return (some (.Name x p2)) pos) ρ O := js_retOwn hr np h hN hv hd hcd
theorem js_dnewI (ok : J.Ok) (h : O.nx (ρ.set (ixOf J.X.N x) (.dic []))) (np : pinned J.N.ρ (ixOf J.X.N x) = false := by rfl) (hi : J.X.N[ixOf J.X.N x]? = some x := by rfl) (hx : Loc J.X.env.scope x := by first | exact Or.inl rfl | exact Or.inr rfl)
    (hs : swapsWith (.Dict [] [] p3) (some (.Name x p2)) pos.line J.X.env = pure false := by rfl) (hf : J.X.fn x = true ∨ J.X.env.scope.names.lookup x = some .local := by first | exact .inl rfl | exact .inr rfl) : JS J (.Assign [.Name x p2] (.Dict [] [] p3) pos) ρ O := js_dnew ok.nd h np hi hx hs hf
theorem js_dputI (ok : J.Ok) {kvs0 : List (Key × Dt)} (hr0 : ρ[ixOf J.X.N x]? = some (.dic kvs0)) (h : JE J e ρ fun d ρ1 => JE J b ρ1 fun f ρ2 => ∃ kvs k, ρ2[ixOf J.X.N x]? = some (.dic kvs) ∧ f.key = some k ∧ kvs.length < 1000000 ∧ O.nx (ρ2.set (ixOf J.X.N x) (.dic (putD kvs k d)))) (hN : J.X.N[ixOf J.X.N x]? = some x := by rfl)
    (hv : Vis J.X.env.scope x := by first | exact Or.inl rfl | exact Or.inr (Or.inl rfl) | exact Or.inr (Or.inr rfl)) (hd : (x == ("__debug__" : Str)) = false := by decide) (hcd : (x == ("__classdict__" : Str)) = false := by decide)
    (hs : swapsWith e (some (.Subscript (.Name x p2) b p3)) pos.line J.X.env = pure false := by rfl) : JS J (.Assign [.Subscript (.Name x p2) b p3] e pos) ρ O := js_dput ok hr0 h hN hv hd hcd hs
theorem je_dgetI (ok : J.Ok) {kvs0 : List (Key × Dt)} (hr0 : ρ[ixOf J.X.N x]? = some (.dic kvs0)) (h : JE J b ρ fun f ρ2 => ∃ kvs k d, ρ2[ixOf J.X.N x]? = some (.dic kvs) ∧ f.key = some k ∧ getK kvs k = some d ∧ Q d ρ2) (hs : NoSl b := by exact fun _ _ => rfl) (hN : J.X.N[ixOf J.X.N x]? = some x := by rfl)
    (hv : Vis J.X.env.scope x := by first | exact Or.inl rfl | exact Or.inr (Or.inl rfl) | exact Or.inr (Or.inr rfl)) (hd : (x == ("__debug__" : Str)) = false := by decide) (hcd : (x == ("__classdict__" : Str)) = false := by decide) : JE J (.Subscript (.Name x p2) b pos) ρ Q := je_dget ok hr0 h hs hN hv hd hcd
theorem je_dinI (ok : J.Ok) (h : JE J a ρ fun f ρ2 => ∃ kvs k, ρ2[ixOf J.X.N x]? = some (.dic kvs) ∧ f.key = some k ∧ Q (.bl (getK kvs k).isSome) ρ2) (hN : J.X.N[ixOf J.X.N x]? = some x := by rfl)
    (hv : Vis J.X.env.scope x := by first | exact Or.inl rfl | exact Or.inr (Or.inl rfl) | exact Or.inr (Or.inr rfl)) (hd : (x == ("__debug__" : Str)) = false := by decide) (hcd : (x == ("__classdict__" : Str)) = false := by decide) : JE J (.Compare a [.In] [.Name x p2] pos) ρ Q := je_din ok h hN hv hd hcd
theorem je_dninI (ok : J.Ok) (h : JE J a ρ fun f ρ2 => ∃ kvs k, ρ2[ixOf J.X.N x]? = some (.dic kvs) ∧ f.key = some k ∧ Q (.bl (!(getK kvs k).isSome)) ρ2) (hN : J.X.N[ixOf J.X.N x]? = some x := by rfl)
    (hv : Vis J.X.env.scope x := by first | exact Or.inl rfl | exact Or.inr (Or.inl rfl) | exact Or.inr (Or.inr rfl)) (hd : (x == ("__debug__" : Str)) = false := by decide) (hcd : (x == ("__classdict__" : Str)) = false := by decide) : JE J (.Compare a [.NotIn] [.Name x p2] pos) ρ Q := je_dnin ok h hN hv hd hcd
theorem js_ifc {c : Expr} {orelse : List Stmt} (k : Bool) (ρ0 : List Sl) (h : JT J c ρ fun k' ρ1 => k' = k ∧ ρ1 = ρ0) (h1 : k = true → JB J body ρ0 O) (h2 : k = false → JB J orelse ρ0 O) : JS J (.If c body orelse pos) ρ O := by
  refine js_if (jt_mono h ?_)
  rintro k' ρ1 ⟨rfl, rfl⟩
  exact ⟨h1, h2⟩
/-- [.. for x in range(a) if cd], none of them taken -/
theorem jn_cR0 {elt cd : Expr} {scope : Scope} (ok : J.Ok) (hm : J.X.mg "range" = none) (h : JE J a ρ fun d ρ1 => ∃ n : Int, d = .int n ∧ n ≤ 1000000 ∧ -1000000 ≤ n ∧ ρ1[ixOf J.X.N x]? = some .no ∧
      (∀ i : Nat, (i : Int) < n → JTb J scope cd (ρ1.set (ixOf J.X.N x) (.val (.int (i : Int)))) fun k ρ3 => k = false ∧ ρ3.set (ixOf J.X.N x) .no = ρ1) ∧ QN [] ρ1)
    (hB : blkB J.X.N J.X.env.scope scope x = true := by rfl) (np : pinned J.N.ρ (ixOf J.X.N x) = false := by rfl) (hc : J.X.calm = true := by rfl) (hg : Gl J.X "range" := by rfl)
    (he : starEach [a] J.X.env = [(false, eval a J.X.env)] := by rfl) (hl : ∀ (C : Addr) (cl : List (Str × Addr)), Loc (compEnvC scope cl C J.X.env).scope x := by exact fun _ _ => Or.inl rfl) (hf : ∀ (C : Addr) (cl : List (Str × Addr)), (compEnvC scope cl C J.X.env).scope.names.lookup x = some .local := by exact fun _ _ => rfl)
    (hs : ∀ z, foldedSetIterable (.Call (.Name "range" p2) [a] [] p3) J.X.env z = pure z := by exact fun _ => rfl) : JN J (.ListComp elt [⟨.Name x p1, .Call (.Name "range" p2) [a] [] p3, [cd], 0⟩] scope pos) ρ QN := by
  refine jn_cRI ok hm (je_mono h ?_) hB np hc hg he hl hf hs
  rintro d ρ1 ⟨n, e, h1, h2, h3, h4, h5⟩
  refine ⟨n, fun _ acc ρ => acc = [] ∧ ρ = ρ1, e, h1, h2, h3, ⟨rfl, rfl⟩, ?_, ?_⟩
  · rintro i acc ρ' hi ⟨rfl, rfl⟩
    intro s' H' C cl fp
    refine jt_mono (h4 i hi s' H' C cl fp) ?_
    rintro k ρ3 ⟨rfl, e3⟩
    exact ⟨fun q => Bool.noConfusion q, fun _ => ⟨rfl, e3⟩⟩
  · rintro acc ρ2 ⟨rfl, rfl⟩
    exact h5
theorem jt_in {neg : Bool} {op : CmpOp} {QB : Bool → List Sl → Prop} (hp : PT J.X (.Compare a [op] [.Name x p2] pos) (tB (cond neg (tDNotIn (tSem J.X a) (tVar (ixOf J.X.N x))) (tDIn (tSem J.X a) (tVar (ixOf J.X.N x))))))
    (h : JE J a ρ fun f ρ2 => ∃ kvs k, ρ2[ixOf J.X.N x]? = some (.dic kvs) ∧ f.key = some k ∧ QB (cond neg (!(getK kvs k).isSome) (getK kvs k).isSome) ρ2) : JT J (.Compare a [op] [.Name x p2] pos) ρ QB := by
  intro σ H0 H E R Qv hq
  refine semT_of hp ?_
  have go : tB (cond neg (tDNotIn (tSem J.X a) (tVar (ixOf J.X.N x))) (tDIn (tSem J.X a) (tVar (ixOf J.X.N x)))) σ H Qv := by
    have main : ∀ Qw : V → Hp → Prop, (∀ b H1, Qv b H1 → Qw (.bl b) H1) → (cond neg (tDNotIn (tSem J.X a) (tVar (ixOf J.X.N x))) (tDIn (tSem J.X a) (tVar (ixOf J.X.N x)))) σ H Qw := by
      intro Qw hw
      have key : ∀ (u : V) (f : Dt) (ρ2 : List Sl) (H02 H2 : Hp), Post J.X.K σ ρ H0 H ρ2 H02 H2 → Rp J.X.K H02 u f → (∃ kvs k, ρ2[ixOf J.X.N x]? = some (.dic kvs) ∧ f.key = some k ∧ QB (cond neg (!(getK kvs k).isSome) (getK kvs k).isSome) ρ2) →
          tVar (ixOf J.X.N x) σ H2 fun y H3 => ∃ p o, y = .ref p ∧ DGet H3 p u o ∧ Qw (.bl (cond neg (!o.isSome) o.isSome)) H3 := by
        rintro u f ρ2 H02 H2 P2 ru ⟨kvs, k, hr2, hk, q⟩
        obtain ⟨p', vs', es', z, l, r⟩ := P2.env.dic hr2
        obtain rfl := rp_key ru hk
        refine ⟨.ref p', es', p', _, rfl, DGet.k l, ?_⟩
        have eq : (valV vs' k).isSome = (getK kvs k).isSome := by
          rcases rpk_get (k := k) r with ⟨h1, h2⟩ | ⟨v, d', h1, h2, h3⟩
          · rw [h1, h2]
            rfl
          · rw [h1, h2]
            rfl
        rw [eq]
        exact hw _ _ (hq _ ρ2 H02 H2 P2 q)
      cases neg with
      | true =>
        show tDNotIn (tSem J.X a) (tVar (ixOf J.X.N x)) σ H Qw
        refine h σ H0 H E R _ ?_
        intro u f ρ2 H02 H2 P2 ru q
        exact key u f ρ2 H02 H2 P2 ru q
      | false =>
        show tDIn (tSem J.X a) (tVar (ixOf J.X.N x)) σ H Qw
        refine h σ H0 H E R _ ?_
        intro u f ρ2 H02 H2 P2 ru q
        exact key u f ρ2 H02 H2 P2 ru q
    exact main _ fun b H1 q => ⟨b, rfl, q⟩
  exact go
theorem jt_dinI (ok : J.Ok) {QB : Bool → List Sl → Prop} (h : JE J a ρ fun f ρ2 => ∃ kvs k, ρ2[ixOf J.X.N x]? = some (.dic kvs) ∧ f.key = some k ∧ QB (getK kvs k).isSome ρ2) (hN : J.X.N[ixOf J.X.N x]? = some x := by rfl)
    (hv : Vis J.X.env.scope x := by first | exact Or.inl rfl | exact Or.inr (Or.inl rfl) | exact Or.inr (Or.inr rfl)) (hd : (x == ("__debug__" : Str)) = false := by decide) (hcd : (x == ("__classdict__" : Str)) = false := by decide) : JT J (.Compare a [.In] [.Name x p2] pos) ρ QB :=
  jt_in (neg := false) (pt_cmp (pc_din (Nat.lt_of_le_of_lt (by omega) ok.rm.units) pe_sem (pe_var hN hv hd hcd))) h
theorem jt_dninI (ok : J.Ok) {QB : Bool → List Sl → Prop} (h : JE J a ρ fun f ρ2 => ∃ kvs k, ρ2[ixOf J.X.N x]? = some (.dic kvs) ∧ f.key = some k ∧ QB (!(getK kvs k).isSome) ρ2) (hN : J.X.N[ixOf J.X.N x]? = some x := by rfl)
    (hv : Vis J.X.env.scope x := by first | exact Or.inl rfl | exact Or.inr (Or.inl rfl) | exact Or.inr (Or.inr rfl)) (hd : (x == ("__debug__" : Str)) = false := by decide) (hcd : (x == ("__classdict__" : Str)) = false := by decide) : JT J (.Compare a [.NotIn] [.Name x p2] pos) ρ QB :=
  jt_in (neg := true) (pt_cmp (pc_dnotin (Nat.lt_of_le_of_lt (by omega) ok.rm.units) pe_sem (pe_var hN hv hd hcd))) h
theorem gAp (h : JS J (.Expr (.Call (.Attribute (.Name x p2) "append" p3) [e] [] p4) p5) ρ O) : JS J (.Expr (.Call (.Attribute (.Name x p2) "append" p3) [e] [] p4) p5) ρ O := h
theorem gRO (h : JS J (.Return (some (.Name x p2)) pos) ρ O) : JS J (.Return (some (.Name x p2)) pos) ρ O := h
theorem gGN {QG : Ag → List Sl → Prop} (h : JG J (.Name x pos) ρ QG) : JG J (.Name x pos) ρ QG := h
end
theorem pick_map {α β : Type} (f : α → β) (xs : List α) (lo hi st : Option Int) : pick (xs.map f) lo hi st = (pick xs lo hi st).map f := by
  unfold pick
  rw [List.length_map]
  generalize sliceRange _ _ _ = is
  induction is with
  | nil => rfl
  | cons i is ih =>
    rw [List.filterMap_cons, List.filterMap_cons, ih, List.getElem?_map]
    cases xs[i]? <;> rfl
end Dw

namespace K04
open PySem PySem.Spec PyProof.Rows L2 Dw
local macro_rules | `(tactic| walk_at "pg") => `(tactic| (repeat (first | exact pgn_nI | refine pgn_cI (by assumption) ?_)))
local macro_rules | `(tactic| walk_at "mg") => `(tactic| exact FreeB.get (l := blts) (by assumption) (by decide +kernel))
local macro_rules | `(tactic| walk_at "go") => `(tactic| first
  | (with_reducible refine gB ?_); first | refine jb_cons ?_ | refine jb_nil ?_
  | with_reducible refine js_if ?_
  | with_reducible refine js_ret ?_
  | with_reducible refine js_ret0 ?_
  | (with_reducible refine gAN ?_); refine js_setI (by assumption) ?_
  | (with_reducible refine gAT ?_); refine js_unpackI (by assumption) (fun nd => by walk_at "pg") ?_
  | with_reducible refine jt_not ?_ | with_reducible refine jt_isN ?_ | with_reducible refine jt_notN ?_ | with_reducible refine jt_isB ?_ | with_reducible refine jt_notB ?_
  | with_reducible refine jt_lt ?_ | with_reducible refine jt_le ?_ | with_reducible refine jt_gt ?_ | with_reducible refine jt_ge ?_ | with_reducible refine jt_eq ?_ | with_reducible refine jt_ne ?_ | with_reducible refine jt_chLeLt ?_ | with_reducible refine jt_chLeLe ?_
  | with_reducible refine jt_w (jw_and ?_) | with_reducible refine jt_w (jw_or ?_)
  | with_reducible refine jw_and ?_ | with_reducible refine jw_or ?_ | with_reducible refine jw_and1 ?_ | with_reducible refine jw_or1 ?_
  | (with_reducible refine gT ?_); refine jt_val ?_
  | (with_reducible refine gNm ?_); refine je_nm (by rfl) ?_
  | with_reducible refine je_int ?_ | with_reducible refine je_bl ?_ | with_reducible refine je_non ?_ | with_reducible refine je_str ?_
  | with_reducible refine je_add ?_ | with_reducible refine je_sub ?_ | with_reducible refine je_mul ?_ | with_reducible refine je_fdiv ?_ | with_reducible refine je_mod ?_ | with_reducible refine je_pow ?_ | with_reducible refine je_neg ?_
  | with_reducible refine je_isN ?_ | with_reducible refine je_notN ?_ | with_reducible refine je_isB ?_ | with_reducible refine je_notB ?_
  | with_reducible refine je_lt ?_ | with_reducible refine je_le ?_ | with_reducible refine je_gt ?_ | with_reducible refine je_ge ?_ | with_reducible refine je_eq ?_ | with_reducible refine je_ne ?_ | with_reducible refine je_chLeLt ?_ | with_reducible refine je_chLeLe ?_
  | with_reducible refine je_one ?_ | with_reducible refine je_and ?_ | with_reducible refine je_or ?_ | with_reducible refine je_not ?_
  | with_reducible refine je_if ?_ | with_reducible refine je_tup ?_
  | (with_reducible refine gVc ?_); refine jv_cons ?_
  | with_reducible refine jv_nil ?_
  | (with_reducible refine gIx ?_); refine je_ix ?_
  | (with_reducible refine gC "isinstance" ?_); first | refine je_isiO (by rfl) (by rfl) ?_ (by walk_at "mg") (by walk_at "mg") | refine je_isiK ?_ (by walk_at "mg") (by walk_at "mg")
  | (with_reducible refine gC "len" ?_); refine je_len ?_ rfl (by walk_at "mg")
  | (with_reducible refine gC "abs" ?_); refine je_abs ?_ rfl (by walk_at "mg")
  | (with_reducible refine gC "int" ?_); refine je_int1 ?_ rfl (by walk_at "mg")
  | (with_reducible refine gC "divmod" ?_); refine je_divmod ?_ rfl (by walk_at "mg")
  | (with_reducible refine gAc ?_); first | refine ja_ownI (by rfl) ?_ | refine ja_cons ?_
  | with_reducible refine ja_nil ?_
  | with_reducible refine jo_none ?_ | with_reducible refine jo_some ?_
  | with_reducible refine jk_cons ?_ | with_reducible refine jk_nil ?_
  | (with_reducible refine gF ?_); refine je_fn (by assumption) (by assumption) (Nat.le_of_ble_eq_true rfl) ?_
  | with_reducible refine ⟨_, _, rfl, rfl, ?_⟩)
local macro_rules | `(tactic| walk_at "tt") => `(tactic| refine ⟨fun _ => ?_, fun q => (by first | exact absurd q (by decide) | exact Bool.noConfusion (show true = false from q))⟩)
local macro_rules | `(tactic| walk_at "ff") => `(tactic| refine ⟨fun q => (by first | exact absurd q (by decide) | exact Bool.noConfusion (show false = true from q) | exact Bool.noConfusion (show true = false from q)), fun _ => ?_⟩)
local macro_rules | `(tactic| walk_at "gs") => `(tactic| repeat walk_at "go")
def top (i : Nat) : Stmt := PySem.Challenge.pw_unseenfolds_k04_one_strand.main.body.getD i (.Pass ⟨0, 0, 0, 0⟩)
abbrev FnP (K : PySem.W.Frag) (x : Str) (st : Stmt) (f : Addr) (fd : FuncData) : Prop := FunD K x x (defArgs st) (defBody st) (defScope st) [] [] f fd
section
variable {P : Program} {w : World} {K : PySem.W.Frag} {mg : Str → Option Value} {base : Heap} {f : Addr} {fd : FuncData}
theorem sc_last : FnScope ["strand", "begin", "step", "count"] ["strand"] (defScope (top 10)) := ⟨rfl, rfl, rfl, by decide +kernel, rfl, by decide +kernel, by decide +kernel⟩
def c_last : Ctr := fun args R _ => ∃ b s c : Int, args = [.val (.tup [.int b, .int s, .int c])] ∧ CMulW s (c - 1) ∧ R (.val (.int (b + s * (c - 1)))) args
theorem ok_last (F : FnP K "last_member" (top 10) f fd) : FnOk P w K mg base (L2.CX P w) 1 f fd ["strand"] (SpD K c_last) := by
  refine okD F sc_last (fun args R XC h => ?_) (fun cdv A outer s H E h0 he se args R XC h ok => ?_)
  · obtain ⟨b, s, c, rfl, _⟩ := h
    rfl
  · obtain ⟨b, s, c, rfl, hc, k⟩ := h
    repeat walk_at "go"
    refine ⟨_, rfl, rfl, ?_⟩
    repeat walk_at "go"
    refine ⟨hc, ?_⟩
    repeat walk_at "go"
    exact k
/-! is_whole -/
def Dt.whole : Dt → Bool
  | .int _ => true
  | _ => false
theorem sc_whole : FnScope ["thing"] ["thing"] (defScope (top 7)) := ⟨rfl, rfl, rfl, by decide +kernel, rfl, by decide +kernel, by decide +kernel⟩
def c_whole : Ctr := fun args R _ => ∃ d, args = [.val d] ∧ d.isObj = false ∧ R (.val (.bl (Dt.whole d))) args
theorem ok_whole (M : FreeB mg blts) (F : FnP K "is_whole" (top 7) f fd) : FnOk P w K mg base (L2.CX P w) 1 f fd ["thing"] (SpD K c_whole) := by
  refine okD F sc_whole (fun args R XC h => ?_) (fun cdv A outer s H E h0 he se args R XC h ok => ?_)
  · obtain ⟨d, rfl, _⟩ := h
    rfl
  · obtain ⟨d, rfl, ho, k⟩ := h
    walk_at "go"
    walk_at "go"
    walk_at "go"
    walk_at "go"
    walk_at "go"
    cases d <;> first | (cases ho; done) | skip
    all_goals refine ⟨_, ho, rfl, ?_⟩
    all_goals refine ⟨_, rfl, fun q => ?_, fun q => ?_⟩
    all_goals first | (cases q; done) | exact k | skip
    all_goals walk_at "go"
    all_goals walk_at "go"
    all_goals walk_at "go"
    all_goals walk_at "go"
    all_goals refine ⟨_, ho, rfl, ?_⟩
    all_goals exact ⟨_, rfl, k⟩
/-! is_strand -/
def Dt.strand : Dt → Bool
  | .tup [.int b, .int s, .int c] => decide (s ≠ 0 ∧ 1 ≤ c ∧ 0 ≤ b ∧ 0 ≤ b + s * (c - 1))
  | _ => false
theorem strand_ne {l : List Dt} (h : ¬ l.length = 3) : Dt.strand (.tup l) = false := by
  unfold Dt.strand
  split
  · rename_i e
    injection e with e
    subst e
    exact absurd rfl h
  · rfl
theorem sc_strand : FnScope ["thing", "begin", "step", "count"] ["thing"] (defScope (top 8)) := ⟨rfl, rfl, rfl, by decide +kernel, rfl, by decide +kernel, by decide +kernel⟩
def c_strand : Ctr := fun args R _ => ∃ d, args = [.val d] ∧ d.isObj = false ∧ (∀ l, d = .tup l → ∀ x ∈ l, x.isObj = false) ∧ (∀ b s c, d = .tup [.int b, .int s, .int c] → CMulW s (c - 1)) ∧ R (.val (.bl (Dt.strand d))) args
theorem ok_strand (M : FreeB mg blts) (F : FnP K "is_strand" (top 8) f fd) (Wh : Cal P w K mg base "is_whole" 1 c_whole) (La : Cal P w K mg base "last_member" 1 c_last) : FnOk P w K mg base (L2.CX P w) 2 f fd ["thing"] (SpD K c_strand) := by
  refine okD F sc_strand (fun args R XC h => ?_) (fun cdv A outer s H E h0 he se args R XC h ok => ?_)
  · obtain ⟨d, rfl, _⟩ := h
    rfl
  · obtain ⟨d, rfl, ho, hl, hc, k⟩ := h
    repeat walk_at "go"
    have other : ∀ d0 : Dt, d0 = d → True := fun _ _ => trivial
    cases d with
    | tup l =>
      refine ⟨true, rfl, rfl, _, rfl, ?_⟩
      walk_at "tt"
      walk_at "gs"
      refine ⟨_, rfl, ?_⟩
      walk_at "gs"
      refine ⟨rfl, ?_⟩
      by_cases h3 : l.length = 3
      · obtain ⟨x, y, z, rfl⟩ : ∃ x y z, l = [x, y, z] := by
          match l, h3 with
          | [x, y, z], _ => exact ⟨x, y, z, rfl⟩
        have hx := hl _ rfl x (by simp)
        have hy := hl _ rfl y (by simp)
        have hz := hl _ rfl z (by simp)
        show (_ ∧ _)
        walk_at "ff"
        walk_at "gs"
        refine ⟨_, rfl, rfl, ?_⟩
        walk_at "gs"
        refine ⟨rfl, ⟨_, rfl, hx, ?_⟩⟩
        have nope : ∀ v : Dt, Dt.whole v = false → ¬ ∃ i, v = .int i := fun v e ⟨i, h⟩ => by rw [h] at e; cases e
        refine ⟨_, rfl, fun ex => ?_, fun ex => ?_⟩
        · cases x <;> first | (cases ex; done) | skip
          walk_at "gs"
          refine ⟨rfl, ⟨_, rfl, hy, ?_⟩⟩
          refine ⟨_, rfl, fun ey => ?_, fun ey => ?_⟩
          · cases y <;> first | (cases ey; done) | skip
            walk_at "gs"
            refine ⟨rfl, ⟨_, rfl, hz, ?_⟩⟩
            cases z with
            | int c =>
              rename_i b s _
              have hk := hc b s c rfl
              refine ⟨_, rfl, ?_⟩
              walk_at "ff"
              walk_at "gs"
              refine ⟨rfl, _, rfl, fun q => ?_, fun q => ?_⟩
              · walk_at "gs"
                refine ⟨_, rfl, fun q2 => ?_, fun q2 => ?_⟩
                · walk_at "gs"
                  refine ⟨_, rfl, fun q3 => ?_, fun q3 => ?_⟩
                  · walk_at "gs"
                    refine ⟨rfl, b, s, c, rfl, hk, ?_⟩
                    walk_at "gs"
                    have e0 : Dt.strand (.tup [.int b, .int s, .int c]) = decide (0 ≤ b + s * (c - 1)) := by
                      have q1 : s ≠ 0 := fun z => by
                        subst z
                        cases q
                      have q2' := of_decide_eq_true q2
                      have q3' := of_decide_eq_true q3
                      show decide _ = decide _
                      by_cases h : 0 ≤ b + s * (c - 1)
                      · rw [decide_eq_true h, decide_eq_true ⟨q1, q2', q3', h⟩]
                      · rw [decide_eq_false h, decide_eq_false (fun z => h z.2.2.2)]
                    rw [e0] at k
                    exact k
                  · have e0 : Dt.strand (.tup [.int b, .int s, .int c]) = false := decide_eq_false fun z => of_decide_eq_false q3 z.2.2.1
                    rw [e0] at k
                    exact k
                · have e0 : Dt.strand (.tup [.int b, .int s, .int c]) = false := decide_eq_false fun z => of_decide_eq_false q2 z.2.1
                  rw [e0] at k
                  exact k
              · have e0 : Dt.strand (.tup [.int b, .int s, .int c]) = false := decide_eq_false fun z => by
                  have : decide (V.int s = V.int 0) = true := by simpa [Dt.v] using q
                  have := of_decide_eq_true this
                  injection this with h
                  exact z.1 h
                rw [e0] at k
                exact k
            | obj C fs => cases hz
            | _ =>
              refine ⟨_, rfl, ?_⟩
              walk_at "tt"
              walk_at "gs"
              exact k
          · walk_at "tt"
            walk_at "gs"
            have e0 : ∀ i, Dt.strand (.tup [.int i, y, z]) = false := fun i => by
              cases y <;> first | rfl | (cases ey; done)
            rw [e0] at k
            exact k
        · show (_ ∧ _)
          walk_at "tt"
          walk_at "gs"
          have e0 : Dt.strand (.tup [x, y, z]) = false := by
            cases x <;> first | rfl | (cases ex; done)
          rw [e0] at k
          exact k
      · refine ⟨fun _ => ?_, fun q => ?_⟩
        · walk_at "gs"
          have e0 := strand_ne h3
          rw [e0] at k
          exact k
        · exfalso
          simp [Dt.v] at q
          omega
    | obj C fs => cases ho
    | _ =>
      refine ⟨false, rfl, rfl, _, rfl, ?_⟩
      walk_at "ff"
      walk_at "tt"
      walk_at "gs"
      exact k
end
end K04

namespace K04
open PySem PySem.Spec PyProof.Rows L2 Dw
local macro_rules | `(tactic| walk_at "pg") => `(tactic| (repeat (first | exact pgn_nI | refine pgn_cI (by assumption) ?_)))
local macro_rules | `(tactic| walk_at "mg") => `(tactic| exact FreeB.get (l := blts) (by assumption) (by decide +kernel))
local macro_rules | `(tactic| walk_at "go") => `(tactic| first
  | (with_reducible refine gB ?_); first | refine jb_cons ?_ | refine jb_nil ?_
  | with_reducible refine js_if ?_
  | with_reducible refine js_ret ?_
  | with_reducible refine js_ret0 ?_
  | (with_reducible refine gAN ?_); refine js_setI (by assumption) ?_
  | (with_reducible refine gAT ?_); refine js_unpackI (by assumption) (fun nd => by walk_at "pg") ?_
  | with_reducible refine jt_not ?_ | with_reducible refine jt_isN ?_ | with_reducible refine jt_notN ?_ | with_reducible refine jt_isB ?_ | with_reducible refine jt_notB ?_
  | with_reducible refine jt_lt ?_ | with_reducible refine jt_le ?_ | with_reducible refine jt_gt ?_ | with_reducible refine jt_ge ?_ | with_reducible refine jt_eq ?_ | with_reducible refine jt_ne ?_ | with_reducible refine jt_chLeLt ?_ | with_reducible refine jt_chLeLe ?_
  | with_reducible refine jt_w (jw_and ?_) | with_reducible refine jt_w (jw_or ?_)
  | with_reducible refine jw_and ?_ | with_reducible refine jw_or ?_ | with_reducible refine jw_and1 ?_ | with_reducible refine jw_or1 ?_
  | (with_reducible refine gT ?_); refine jt_val ?_
  | (with_reducible refine gNm ?_); refine je_nm (by rfl) ?_
  | with_reducible refine je_int ?_ | with_reducible refine je_bl ?_ | with_reducible refine je_non ?_ | with_reducible refine je_str ?_
  | with_reducible refine je_add ?_ | with_reducible refine je_sub ?_ | with_reducible refine je_mul ?_ | with_reducible refine je_fdiv ?_ | with_reducible refine je_mod ?_ | with_reducible refine je_pow ?_ | with_reducible refine je_neg ?_
  | with_reducible refine je_isN ?_ | with_reducible refine je_notN ?_ | with_reducible refine je_isB ?_ | with_reducible refine je_notB ?_
  | with_reducible refine je_lt ?_ | with_reducible refine je_le ?_ | with_reducible refine je_gt ?_ | with_reducible refine je_ge ?_ | with_reducible refine je_eq ?_ | with_reducible refine je_ne ?_ | with_reducible refine je_chLeLt ?_ | with_reducible refine je_chLeLe ?_
  | with_reducible refine je_one ?_ | with_reducible refine je_and ?_ | with_reducible refine je_or ?_ | with_reducible refine je_not ?_
  | with_reducible refine je_if ?_ | with_reducible refine je_tup ?_
  | (with_reducible refine gVc ?_); refine jv_cons ?_
  | with_reducible refine jv_nil ?_
  | (with_reducible refine gIx ?_); refine je_ix ?_
  | (with_reducible refine gC "isinstance" ?_); first | refine je_isiO (by rfl) (by rfl) ?_ (by walk_at "mg") (by walk_at "mg") | refine je_isiK ?_ (by walk_at "mg") (by walk_at "mg")
  | (with_reducible refine gC "len" ?_); refine je_len ?_ rfl (by walk_at "mg")
  | (with_reducible refine gC "abs" ?_); refine je_abs ?_ rfl (by walk_at "mg")
  | (with_reducible refine gC "int" ?_); refine je_int1 ?_ rfl (by walk_at "mg")
  | (with_reducible refine gC "divmod" ?_); refine je_divmod ?_ rfl (by walk_at "mg")
  | (with_reducible refine gAc ?_); first | refine ja_ownI (by rfl) ?_ | refine ja_cons ?_
  | with_reducible refine ja_nil ?_
  | with_reducible refine jo_none ?_ | with_reducible refine jo_some ?_
  | with_reducible refine jk_cons ?_ | with_reducible refine jk_nil ?_
  | (with_reducible refine gF ?_); refine je_fn (by assumption) (by assumption) (Nat.le_of_ble_eq_true rfl) ?_
  | with_reducible refine ⟨_, _, rfl, rfl, ?_⟩)
local macro_rules | `(tactic| walk_at "tt") => `(tactic| refine ⟨fun _ => ?_, fun q => (by first | exact absurd q (by decide) | exact Bool.noConfusion (show true = false from q))⟩)
local macro_rules | `(tactic| walk_at "ff") => `(tactic| refine ⟨fun q => (by first | exact absurd q (by decide) | exact Bool.noConfusion (show false = true from q) | exact Bool.noConfusion (show true = false from q)), fun _ => ?_⟩)
local macro_rules | `(tactic| walk_at "gs") => `(tactic| repeat walk_at "go")
section
variable {P : Program} {w : World} {K : PySem.W.Frag} {mg : Str → Option Value} {base : Heap} {f : Addr} {fd : FuncData}

/-! members -/
def mem (b s : Int) (n : Nat) : List Int := (List.range n).map fun i : Nat => b + s * (i : Int)
theorem mem_len {b s : Int} {n : Nat} : (mem b s n).length = n := by simp [mem]
theorem mem_succ {b s : Int} {n : Nat} : mem b s (n + 1) = mem b s n ++ [b + s * (n : Int)] := by simp [mem, List.range_succ]
def Sm (n : Nat) (x : Int) : Prop := x.natAbs < 2 ^ n
theorem Sm.log {n : Nat} {x : Int} (h : Sm n x) (hn : 0 < n) : x.natAbs.log2 < n := by
  by_cases z : x.natAbs = 0
  · rw [z]
    exact hn
  · exact (Nat.log2_lt z).mpr h
theorem cmul_sm {n m : Nat} {x y : Int} (h : Sm n x) (k : Sm m y) (hn : 0 < n) (hm : 0 < m) (e : n + m ≤ 1000000) : CMulW x y := by
  have := h.log hn
  have := k.log hm
  unfold CMulW
  omega
theorem sm_nat {i : Nat} (h : i < 1000000) : Sm 20 (i : Int) := by
  unfold Sm
  have : (2 : Nat) ^ 20 = 1048576 := by decide
  omega
theorem sc_mem : FnScope ["strand", "begin", "step", "count", "place"] ["strand"] (defScope (top 9)) := ⟨rfl, rfl, rfl, by decide +kernel, rfl, by decide +kernel, by decide +kernel⟩
def c_mem : Ctr := fun args R _ => ∃ b s c : Int, args = [.val (.tup [.int b, .int s, .int c])] ∧ 0 ≤ c ∧ c ≤ 1000000 ∧ Sm 400 s ∧ R (.new ((mem b s c.toNat).map Dt.int)) args
theorem ok_mem (M : FreeB mg blts) (F : FnP K "members" (top 9) f fd) : FnOk P w K mg base (L2.CX P w) 1 f fd ["strand"] (SpD K c_mem) := by
  refine okD F sc_mem (fun args R XC h => ?_) (fun cdv A outer s H E h0 he se args R XC h ok => ?_)
  · obtain ⟨b, s, c, rfl, _⟩ := h
    rfl
  · obtain ⟨b, s, c, rfl, h0, h1, hs, k⟩ := h
    walk_at "go"
    walk_at "go"
    walk_at "go"
    refine ⟨_, rfl, rfl, ?_⟩
    walk_at "go"
    refine js_retN ?_
    refine jn_cR ok (by walk_at "mg") ?_
    walk_at "go"
    refine ⟨c, fun i acc ρ' => acc = (mem b s i).map Dt.int ∧ ρ' = [.val (.tup [.int b, .int s, .int c]), .val (.int b), .val (.int s), .val (.int c), .no], rfl, h1, by omega, rfl, ⟨rfl, rfl⟩, ?_, ?_⟩
    · rintro i acc ρ' hi ⟨rfl, rfl⟩
      intro s' H' C cl fp
      walk_at "gs"
      refine ⟨cmul_sm hs (sm_nat (by omega)) (by decide) (by decide) (by decide), ?_⟩
      walk_at "gs"
      exact ⟨by rw [mem_succ, List.map_append]; rfl, rfl⟩
    · rintro acc ρ2 ⟨rfl, rfl⟩
      exact k
end
end K04

namespace K04
open PySem PySem.Spec PyProof.Rows L2 Dw
local macro_rules | `(tactic| walk_at "pg") => `(tactic| (repeat (first | exact pgn_nI | refine pgn_cI (by assumption) ?_)))
local macro_rules | `(tactic| walk_at "mg") => `(tactic| exact FreeB.get (l := blts) (by assumption) (by decide +kernel))
local macro_rules | `(tactic| walk_at "go") => `(tactic| first
  | (with_reducible refine gB ?_); first | refine jb_cons ?_ | refine jb_nil ?_
  | with_reducible refine js_if ?_
  | with_reducible refine js_ret ?_
  | with_reducible refine js_ret0 ?_
  | (with_reducible refine gAN ?_); refine js_setI (by assumption) ?_
  | (with_reducible refine gAT ?_); refine js_unpackI (by assumption) (fun nd => by walk_at "pg") ?_
  | with_reducible refine jt_not ?_ | with_reducible refine jt_isN ?_ | with_reducible refine jt_notN ?_ | with_reducible refine jt_isB ?_ | with_reducible refine jt_notB ?_
  | with_reducible refine jt_lt ?_ | with_reducible refine jt_le ?_ | with_reducible refine jt_gt ?_ | with_reducible refine jt_ge ?_ | with_reducible refine jt_eq ?_ | with_reducible refine jt_ne ?_ | with_reducible refine jt_chLeLt ?_ | with_reducible refine jt_chLeLe ?_
  | with_reducible refine jt_w (jw_and ?_) | with_reducible refine jt_w (jw_or ?_)
  | with_reducible refine jw_and ?_ | with_reducible refine jw_or ?_ | with_reducible refine jw_and1 ?_ | with_reducible refine jw_or1 ?_
  | (with_reducible refine gT ?_); refine jt_val ?_
  | (with_reducible refine gNm ?_); refine je_nm (by rfl) ?_
  | with_reducible refine je_int ?_ | with_reducible refine je_bl ?_ | with_reducible refine je_non ?_ | with_reducible refine je_str ?_
  | with_reducible refine je_add ?_ | with_reducible refine je_sub ?_ | with_reducible refine je_mul ?_ | with_reducible refine je_fdiv ?_ | with_reducible refine je_mod ?_ | with_reducible refine je_pow ?_ | with_reducible refine je_neg ?_
  | with_reducible refine je_isN ?_ | with_reducible refine je_notN ?_ | with_reducible refine je_isB ?_ | with_reducible refine je_notB ?_
  | with_reducible refine je_lt ?_ | with_reducible refine je_le ?_ | with_reducible refine je_gt ?_ | with_reducible refine je_ge ?_ | with_reducible refine je_eq ?_ | with_reducible refine je_ne ?_ | with_reducible refine je_chLeLt ?_ | with_reducible refine je_chLeLe ?_
  | with_reducible refine je_one ?_ | with_reducible refine je_and ?_ | with_reducible refine je_or ?_ | with_reducible refine je_not ?_
  | with_reducible refine je_if ?_ | with_reducible refine je_tup ?_
  | (with_reducible refine gVc ?_); refine jv_cons ?_
  | with_reducible refine jv_nil ?_
  | (with_reducible refine gIx ?_); refine je_ix ?_
  | (with_reducible refine gC "isinstance" ?_); first | refine je_isiO (by rfl) (by rfl) ?_ (by walk_at "mg") (by walk_at "mg") | refine je_isiK ?_ (by walk_at "mg") (by walk_at "mg")
  | (with_reducible refine gC "len" ?_); refine je_len ?_ rfl (by walk_at "mg")
  | (with_reducible refine gC "abs" ?_); refine je_abs ?_ rfl (by walk_at "mg")
  | (with_reducible refine gC "int" ?_); refine je_int1 ?_ rfl (by walk_at "mg")
  | (with_reducible refine gC "divmod" ?_); refine je_divmod ?_ rfl (by walk_at "mg")
  | (with_reducible refine gAc ?_); first | refine ja_ownI (by rfl) ?_ | refine ja_cons ?_
  | with_reducible refine ja_nil ?_
  | with_reducible refine jo_none ?_ | with_reducible refine jo_some ?_
  | with_reducible refine jk_cons ?_ | with_reducible refine jk_nil ?_
  | (with_reducible refine gF ?_); refine je_fn (by assumption) (by assumption) (Nat.le_of_ble_eq_true rfl) ?_
  | with_reducible refine ⟨_, _, rfl, rfl, ?_⟩)
local macro_rules | `(tactic| walk_at "tt") => `(tactic| refine ⟨fun _ => ?_, fun q => (by first | exact absurd q (by decide) | exact Bool.noConfusion (show true = false from q))⟩)
local macro_rules | `(tactic| walk_at "ff") => `(tactic| refine ⟨fun q => (by first | exact absurd q (by decide) | exact Bool.noConfusion (show false = true from q) | exact Bool.noConfusion (show true = false from q)), fun _ => ?_⟩)
local macro_rules | `(tactic| walk_at "gs") => `(tactic| repeat walk_at "go")
section
variable {P : Program} {w : World} {K : PySem.W.Frag} {mg : Str → Option Value} {base : Heap} {f : Addr} {fd : FuncData}

/-! member_at, place_in -/
theorem sc_at : FnScope ["strand", "place", "begin", "step", "count"] ["strand", "place"] (defScope (top 11)) := ⟨rfl, rfl, rfl, by decide +kernel, rfl, by decide +kernel, by decide +kernel⟩
def c_at (C : Addr) : Ctr := fun args R XC => ∃ b s c p : Int, args = [.val (.tup [.int b, .int s, .int c]), .val (.int p)] ∧ CMulW s p ∧ (0 ≤ p ∧ p < c → R (.val (.int (b + s * p))) args) ∧ (¬ (0 ≤ p ∧ p < c) → XC ⟨C, some ("place", .int p)⟩ args)
theorem ok_at {C : Addr} (M : FreeB mg blts) (T : Err P w K mg base "BadPlace" C "place") (F : FnP K "member_at" (top 11) f fd) : FnOk P w K mg base (L2.CX P w) 3 f fd ["strand", "place"] (SpD K (c_at C)) := by
  refine okD F sc_at (fun args R XC h => ?_) (fun cdv A outer s H E h0 he se args R XC h ok => ?_)
  · obtain ⟨b, s, c, p, rfl, _⟩ := h
    rfl
  · obtain ⟨b, s, c, p, rfl, hm, k, kx⟩ := h
    walk_at "gs"
    refine ⟨_, rfl, rfl, ?_⟩
    walk_at "gs"
    refine ⟨fun h0 => ?_, fun h0 => ?_⟩
    · walk_at "gs"
      refine ⟨_, rfl, ?_⟩
      refine ⟨fun h1 => ?_, fun h1 => ?_⟩
      · walk_at "gs"
        refine js_raiseE ok T ?_ (Nat.le_of_ble_eq_true rfl)
        walk_at "gs"
        refine kx fun z => ?_
        rw [decide_eq_true z.2] at h1
        cases h1
      · walk_at "gs"
        refine ⟨hm, ?_⟩
        walk_at "gs"
        refine k ⟨h0, ?_⟩
        by_cases z : p < c
        · exact z
        · rw [decide_eq_false z] at h1
          cases h1
    · walk_at "tt"
      walk_at "go"
      refine js_raiseE ok T ?_ (Nat.le_of_ble_eq_true rfl)
      walk_at "gs"
      exact kx fun z => h0 z.1
theorem sc_in : FnScope ["strand", "index", "begin", "step", "count", "place", "left"] ["strand", "index"] (defScope (top 12)) := ⟨rfl, rfl, rfl, by decide +kernel, rfl, by decide +kernel, by decide +kernel⟩
def inD (b s c x : Int) : Dt := if (x - b).fmod s = 0 ∧ 0 ≤ (x - b).fdiv s ∧ (x - b).fdiv s < c then .int ((x - b).fdiv s) else .non
def c_in : Ctr := fun args R _ => ∃ b s c x : Int, args = [.val (.tup [.int b, .int s, .int c]), .val (.int x)] ∧ CDm (x - b) s ∧ R (.val (inD b s c x)) args
theorem ok_in (M : FreeB mg blts) (F : FnP K "place_in" (top 12) f fd) : FnOk P w K mg base (L2.CX P w) 1 f fd ["strand", "index"] (SpD K c_in) := by
  refine okD F sc_in (fun args R XC h => ?_) (fun cdv A outer s H E h0 he se args R XC h ok => ?_)
  · obtain ⟨b, s, c, x, rfl, _⟩ := h
    rfl
  · obtain ⟨b, s, c, x, rfl, hm, k⟩ := h
    walk_at "gs"
    refine ⟨_, rfl, rfl, ?_⟩
    walk_at "gs"
    refine ⟨hm, ?_⟩
    refine ⟨_, rfl, rfl, ?_⟩
    walk_at "gs"
    refine ⟨rfl, ?_⟩
    by_cases h1 : (x - b).fmod s = 0
    · rw [show (!decide ((Dt.int ((x - b).fmod s)).v = (Dt.int 0).v)) = false by rw [h1]; rfl]
      walk_at "tt"
      walk_at "gs"
      refine ⟨fun h2 => ?_, fun h2 => ?_⟩
      · walk_at "gs"
        refine ⟨_, rfl, ?_⟩
        by_cases h3 : (x - b).fdiv s < c
        · rw [decide_eq_true h3]
          walk_at "ff"
          walk_at "gs"
          have e0 : inD b s c x = .int ((x - b).fdiv s) := if_pos ⟨h1, h2, h3⟩
          rw [e0] at k
          exact k
        · rw [decide_eq_false h3]
          walk_at "tt"
          walk_at "gs"
          have e0 : inD b s c x = .non := if_neg fun z => h3 z.2.2
          rw [e0] at k
          exact k
      · walk_at "tt"
        walk_at "gs"
        have e0 : inD b s c x = .non := if_neg fun z => h2 z.2.1
        rw [e0] at k
        exact k
    · have e1 : (!decide ((Dt.int ((x - b).fmod s)).v = (Dt.int 0).v)) = true := by
        have : ¬ V.int ((x - b).fmod s) = V.int 0 := fun z => h1 (by injection z)
        show (!decide (V.int ((x - b).fmod s) = V.int 0)) = true
        rw [decide_eq_false this]
        rfl
      rw [e1]
      walk_at "ff"
      walk_at "tt"
      walk_at "gs"
      have e0 : inD b s c x = .non := if_neg fun z => h1 z.1
      rw [e0] at k
      exact k
end
end K04

namespace K04
open PySem PySem.Spec PyProof.Rows L2 Dw
local macro_rules | `(tactic| walk_at "pg") => `(tactic| (repeat (first | exact pgn_nI | refine pgn_cI (by assumption) ?_)))
local macro_rules | `(tactic| walk_at "mg") => `(tactic| exact FreeB.get (l := blts) (by assumption) (by decide +kernel))
local macro_rules | `(tactic| walk_at "go") => `(tactic| first
  | (with_reducible refine gB ?_); first | refine jb_cons ?_ | refine jb_nil ?_
  | with_reducible refine js_if ?_
  | with_reducible refine js_ret ?_
  | with_reducible refine js_ret0 ?_
  | (with_reducible refine gAN ?_); refine js_setI (by assumption) ?_
  | (with_reducible refine gAT ?_); refine js_unpackI (by assumption) (fun nd => by walk_at "pg") ?_
  | with_reducible refine jt_not ?_ | with_reducible refine jt_isN ?_ | with_reducible refine jt_notN ?_ | with_reducible refine jt_isB ?_ | with_reducible refine jt_notB ?_
  | with_reducible refine jt_lt ?_ | with_reducible refine jt_le ?_ | with_reducible refine jt_gt ?_ | with_reducible refine jt_ge ?_ | with_reducible refine jt_eq ?_ | with_reducible refine jt_ne ?_ | with_reducible refine jt_chLeLt ?_ | with_reducible refine jt_chLeLe ?_
  | with_reducible refine jt_w (jw_and ?_) | with_reducible refine jt_w (jw_or ?_)
  | with_reducible refine jw_and ?_ | with_reducible refine jw_or ?_ | with_reducible refine jw_and1 ?_ | with_reducible refine jw_or1 ?_
  | (with_reducible refine gT ?_); refine jt_val ?_
  | (with_reducible refine gNm ?_); refine je_nm (by rfl) ?_
  | with_reducible refine je_int ?_ | with_reducible refine je_bl ?_ | with_reducible refine je_non ?_ | with_reducible refine je_str ?_
  | with_reducible refine je_add ?_ | with_reducible refine je_sub ?_ | with_reducible refine je_mul ?_ | with_reducible refine je_fdiv ?_ | with_reducible refine je_mod ?_ | with_reducible refine je_pow ?_ | with_reducible refine je_neg ?_
  | with_reducible refine je_isN ?_ | with_reducible refine je_notN ?_ | with_reducible refine je_isB ?_ | with_reducible refine je_notB ?_
  | with_reducible refine je_lt ?_ | with_reducible refine je_le ?_ | with_reducible refine je_gt ?_ | with_reducible refine je_ge ?_ | with_reducible refine je_eq ?_ | with_reducible refine je_ne ?_ | with_reducible refine je_chLeLt ?_ | with_reducible refine je_chLeLe ?_
  | with_reducible refine je_one ?_ | with_reducible refine je_and ?_ | with_reducible refine je_or ?_ | with_reducible refine je_not ?_
  | with_reducible refine je_if ?_ | with_reducible refine je_tup ?_
  | (with_reducible refine gVc ?_); refine jv_cons ?_
  | with_reducible refine jv_nil ?_
  | (with_reducible refine gIx ?_); refine je_ix ?_
  | (with_reducible refine gC "isinstance" ?_); first | refine je_isiO (by rfl) (by rfl) ?_ (by walk_at "mg") (by walk_at "mg") | refine je_isiK ?_ (by walk_at "mg") (by walk_at "mg")
  | (with_reducible refine gC "len" ?_); refine je_len ?_ rfl (by walk_at "mg")
  | (with_reducible refine gC "abs" ?_); refine je_abs ?_ rfl (by walk_at "mg")
  | (with_reducible refine gC "int" ?_); refine je_int1 ?_ rfl (by walk_at "mg")
  | (with_reducible refine gC "divmod" ?_); refine je_divmod ?_ rfl (by walk_at "mg")
  | (with_reducible refine gAc ?_); first | refine ja_ownI (by rfl) ?_ | refine ja_cons ?_
  | with_reducible refine ja_nil ?_
  | with_reducible refine jo_none ?_ | with_reducible refine jo_some ?_
  | with_reducible refine jk_cons ?_ | with_reducible refine jk_nil ?_
  | (with_reducible refine gF ?_); refine je_fn (by assumption) (by assumption) (Nat.le_of_ble_eq_true rfl) ?_
  | with_reducible refine ⟨_, _, rfl, rfl, ?_⟩)
local macro_rules | `(tactic| walk_at "tt") => `(tactic| refine ⟨fun _ => ?_, fun q => (by first | exact absurd q (by decide) | exact Bool.noConfusion (show true = false from q))⟩)
local macro_rules | `(tactic| walk_at "ff") => `(tactic| refine ⟨fun q => (by first | exact absurd q (by decide) | exact Bool.noConfusion (show false = true from q) | exact Bool.noConfusion (show true = false from q)), fun _ => ?_⟩)
local macro_rules | `(tactic| walk_at "gs") => `(tactic| repeat walk_at "go")
section
variable {P : Program} {w : World} {K : PySem.W.Frag} {mg : Str → Option Value} {base : Heap} {f : Addr} {fd : FuncData}

/-! strand_turned, strand_each, checked_end, strand_cut -/
theorem sc_turn : FnScope ["strand"] ["strand"] (defScope (top 13)) := ⟨rfl, rfl, rfl, by decide +kernel, rfl, by decide +kernel, by decide +kernel⟩
def c_turn : Ctr := fun args R _ => ∃ b s c : Int, args = [.val (.tup [.int b, .int s, .int c])] ∧ CMulW s (c - 1) ∧ R (.val (.tup [.int (b + s * (c - 1)), .int (-s), .int c])) args
theorem ok_turn (M : FreeB mg blts) (La : Cal P w K mg base "last_member" 1 c_last) (F : FnP K "strand_turned" (top 13) f fd) : FnOk P w K mg base (L2.CX P w) 2 f fd ["strand"] (SpD K c_turn) := by
  refine okD F sc_turn (fun args R XC h => ?_) (fun cdv A outer s H E h0 he se args R XC h ok => ?_)
  · obtain ⟨b, s, c, rfl, _⟩ := h
    rfl
  · obtain ⟨b, s, c, rfl, hm, k⟩ := h
    walk_at "gs"
    refine ⟨rfl, b, s, c, rfl, hm, ?_⟩
    walk_at "gs"
    refine ⟨1, _, rfl, rfl, ?_⟩
    refine ⟨_, rfl, ?_⟩
    walk_at "gs"
    refine ⟨2, _, rfl, rfl, ?_⟩
    walk_at "gs"
    exact ⟨Nat.le_of_ble_eq_true rfl, k⟩
theorem sc_each : FnScope ["strand", "k", "i", "begin", "step", "count"] ["strand", "k", "i"] (defScope (top 14)) := ⟨rfl, rfl, rfl, by decide +kernel, rfl, by decide +kernel, by decide +kernel⟩
def eachD (b s c k i : Int) : Dt := if i ≥ c then .non else .tup [.int (b + s * i), .int (s * k), .int ((c - i + k - 1) / k)]
def c_each : Ctr := fun args R _ => ∃ b s c k i : Int, args = [.val (.tup [.int b, .int s, .int c]), .val (.int k), .val (.int i)] ∧ CMulW s i ∧ CMulW s k ∧ CDivW (c - i + k - 1) k ∧ R (.val (eachD b s c k i)) args
theorem ok_each (M : FreeB mg blts) (F : FnP K "strand_each" (top 14) f fd) : FnOk P w K mg base (L2.CX P w) 1 f fd ["strand", "k", "i"] (SpD K c_each) := by
  refine okD F sc_each (fun args R XC h => ?_) (fun cdv A outer s H E h0 he se args R XC h ok => ?_)
  · obtain ⟨b, s, c, k, i, rfl, _⟩ := h
    rfl
  · obtain ⟨b, s, c, k, i, rfl, hm, hm2, hd, kk⟩ := h
    walk_at "gs"
    refine ⟨_, rfl, rfl, ?_⟩
    walk_at "gs"
    refine ⟨fun h1 => ?_, fun h1 => ?_⟩
    · walk_at "gs"
      have e0 : eachD b s c k i = .non := if_pos (of_decide_eq_true h1)
      rw [e0] at kk
      exact kk
    · walk_at "gs"
      refine ⟨hm, ?_⟩
      walk_at "gs"
      refine ⟨hm2, ?_⟩
      walk_at "gs"
      refine ⟨hd, ?_⟩
      walk_at "gs"
      have e0 : eachD b s c k i = .tup [.int (b + s * i), .int (s * k), .int ((c - i + k - 1) / k)] := if_neg (of_decide_eq_false h1)
      rw [e0] at kk
      exact ⟨Nat.le_of_ble_eq_true rfl, kk⟩
theorem sc_end : FnScope ["begin", "end", "size", "stop"] ["begin", "end", "size"] (defScope (top 16)) := ⟨rfl, rfl, rfl, by decide +kernel, rfl, by decide +kernel, by decide +kernel⟩
/-- end, or None for the size -/
def oD : Option Int → Dt
  | none => .non
  | some i => .int i
def c_end (C : Addr) : Ctr := fun args R XC => ∃ (a n : Int) (o : Option Int), args = [.val (.int a), .val (oD o), .val (.int n)] ∧ (¬ (0 ≤ a ∧ a ≤ n) → XC ⟨C, some ("place", .int a)⟩ args) ∧ ((0 ≤ a ∧ a ≤ n) → ¬ (a ≤ o.getD n ∧ o.getD n ≤ n) → XC ⟨C, some ("place", .int (o.getD n))⟩ args) ∧
  ((0 ≤ a ∧ a ≤ n) → (a ≤ o.getD n ∧ o.getD n ≤ n) → R (.val (.int (o.getD n))) args)
theorem ok_end {C : Addr} (M : FreeB mg blts) (T : Err P w K mg base "BadPlace" C "place") (F : FnP K "checked_end" (top 16) f fd) : FnOk P w K mg base (L2.CX P w) 3 f fd ["begin", "end", "size"] (SpD K (c_end C)) := by
  refine okD F sc_end (fun args R XC h => ?_) (fun cdv A outer s H E h0 he se args R XC h ok => ?_)
  · obtain ⟨a, n, o, rfl, _⟩ := h
    rfl
  · obtain ⟨a, n, o, rfl, k1, k2, k3⟩ := h
    walk_at "gs"
    refine ⟨fun h1 => ?_, fun h1 => ?_⟩
    · walk_at "gs"
      refine ⟨_, rfl, ?_⟩
      by_cases h2 : a ≤ n
      · rw [decide_eq_true h2]
        walk_at "ff"
        walk_at "gs"
        have fin : ∀ ρ, ρ = [Sl.val (.int a), .val (oD o), .val (.int n), .val (.int (o.getD n))] → JB (jOf P w K mg base ["begin", "end", "size", "stop"] "checked_end" (defScope (top 16)) f cdv A outer s H E
            ⟨h0, he, se, [Sl.val (.int a), .val (oD o), .val (.int n)] ++ nos (["begin", "end", "size", "stop"].length - ["begin", "end", "size"].length), h0⟩ (fun x ρ => XC x (mergeA [.val (.int a), .val (oD o), .val (.int n)] ρ)) 2) (((defBody (top 16)).drop 2)) ρ
            { nx := fun ρ => R (.val .non) (mergeA [.val (.int a), .val (oD o), .val (.int n)] ρ), rt := fun r ρ => R r (mergeA [.val (.int a), .val (oD o), .val (.int n)] ρ) } := by
          rintro ρ rfl
          walk_at "gs"
          refine ⟨fun h3 => ?_, fun h3 => ?_⟩
          · walk_at "gs"
            refine ⟨_, rfl, ?_⟩
            by_cases h4 : o.getD n ≤ n
            · rw [decide_eq_true h4]
              walk_at "ff"
              walk_at "gs"
              exact k3 ⟨h1, h2⟩ ⟨h3, h4⟩
            · rw [decide_eq_false h4]
              walk_at "tt"
              walk_at "go"
              refine js_raiseE ok T ?_ (Nat.le_of_ble_eq_true rfl)
              walk_at "gs"
              exact k2 ⟨h1, h2⟩ fun z => h4 z.2
          · walk_at "tt"
            walk_at "go"
            refine js_raiseE ok T ?_ (Nat.le_of_ble_eq_true rfl)
            walk_at "gs"
            exact k2 ⟨h1, h2⟩ fun z => h3 z.1
        cases o with
        | none =>
          walk_at "tt"
          walk_at "go"
          exact fin _ rfl
        | some e =>
          walk_at "ff"
          walk_at "go"
          exact fin _ rfl
      · rw [decide_eq_false h2]
        walk_at "tt"
        walk_at "go"
        refine js_raiseE ok T ?_ (Nat.le_of_ble_eq_true rfl)
        walk_at "gs"
        exact k1 fun z => h2 z.2
    · walk_at "tt"
      walk_at "go"
      refine js_raiseE ok T ?_ (Nat.le_of_ble_eq_true rfl)
      walk_at "gs"
      exact k1 fun z => h1 z.1
theorem sc_cut : FnScope ["strand", "begin", "end", "first", "step", "count", "stop"] ["strand", "begin", "end"] (defScope (top 15)) := ⟨rfl, rfl, rfl, by decide +kernel, rfl, by decide +kernel, by decide +kernel⟩
def cutD (b s a e : Int) : Dt := if a = e then .non else .tup [.int (b + s * a), .int s, .int (e - a)]
def c_cut (C : Addr) : Ctr := fun args R XC => ∃ (b s c a : Int) (o : Option Int), args = [.val (.tup [.int b, .int s, .int c]), .val (.int a), .val (oD o)] ∧ (0 ≤ a → a ≤ c → CMulW s a) ∧ (¬ (0 ≤ a ∧ a ≤ c) → XC ⟨C, some ("place", .int a)⟩ args) ∧
  ((0 ≤ a ∧ a ≤ c) → ¬ (a ≤ o.getD c ∧ o.getD c ≤ c) → XC ⟨C, some ("place", .int (o.getD c))⟩ args) ∧ ((0 ≤ a ∧ a ≤ c) → (a ≤ o.getD c ∧ o.getD c ≤ c) → R (.val (cutD b s a (o.getD c))) args)
abbrev FnK (K : PySem.W.Frag) (x : Str) (st : Stmt) (f : Addr) (fd : FuncData) : Prop := FunD K x x (defArgs st) (defBody st) (defScope st) [] [("begin", .int 0), ("end", .non)] f fd
theorem ok_cut {C : Addr} (M : FreeB mg blts) (En : Cal P w K mg base "checked_end" 3 (c_end C)) (F : FnK K "strand_cut" (top 15) f fd) : FnOk P w K mg base (L2.CX P w) 4 f fd ["strand", "begin", "end"] (SpD K (c_cut C)) := by
  refine okD F sc_cut (fun args R XC h => ?_) (fun cdv A outer s H E h0 he se args R XC h ok => ?_)
  · obtain ⟨b, s, c, a, o, rfl, _⟩ := h
    rfl
  · obtain ⟨b, s, c, a, o, rfl, hm, k1, k2, k3⟩ := h
    walk_at "gs"
    refine ⟨_, rfl, rfl, ?_⟩
    walk_at "gs"
    refine ⟨rfl, a, c, o, rfl, k1, k2, fun h1 h2 => ?_⟩
    walk_at "gs"
    refine ⟨rfl, ?_⟩
    have k := k3 h1 h2
    by_cases h3 : a = o.getD c
    · have e0 : cutD b s a (o.getD c) = .non := if_pos h3
      rw [e0] at k
      rw [show decide ((Dt.int a).v = (Res.val (Dt.int (o.getD c))).d.v) = true by rw [← h3]; exact decide_eq_true rfl]
      walk_at "tt"
      walk_at "gs"
      exact k
    · have e0 : cutD b s a (o.getD c) = .tup [.int (b + s * a), .int s, .int (o.getD c - a)] := if_neg h3
      rw [e0] at k
      rw [show decide ((Dt.int a).v = (Res.val (Dt.int (o.getD c))).d.v) = false from decide_eq_false fun z => h3 (by injection z)]
      walk_at "ff"
      walk_at "gs"
      refine ⟨hm h1.1 h1.2, ?_⟩
      walk_at "gs"
      exact ⟨Nat.le_of_ble_eq_true rfl, k⟩
end
end K04

namespace K04
open PySem PySem.Spec PyProof.Rows L2 Dw
local macro_rules | `(tactic| walk_at "pg") => `(tactic| (repeat (first | exact pgn_nI | refine pgn_cI (by assumption) ?_)))
local macro_rules | `(tactic| walk_at "mg") => `(tactic| exact FreeB.get (l := blts) (by assumption) (by decide +kernel))
local macro_rules | `(tactic| walk_at "go") => `(tactic| first
  | (with_reducible refine gB ?_); first | refine jb_cons ?_ | refine jb_nil ?_
  | with_reducible refine js_if ?_
  | (with_reducible refine gRO ?_); refine js_retOwnI (by rfl) (by rfl) ?_
  | with_reducible refine js_ret ?_
  | (with_reducible refine gAp ?_); refine js_appI (by rfl) ?_
  | with_reducible refine js_ret0 ?_
  | (with_reducible refine gAN ?_); refine js_setI (by assumption) ?_
  | (with_reducible refine gAT ?_); refine js_unpackI (by assumption) (fun nd => by walk_at "pg") ?_
  | with_reducible refine jt_not ?_ | with_reducible refine jt_isN ?_ | with_reducible refine jt_notN ?_ | with_reducible refine jt_isB ?_ | with_reducible refine jt_notB ?_
  | with_reducible refine jt_lt ?_ | with_reducible refine jt_le ?_ | with_reducible refine jt_gt ?_ | with_reducible refine jt_ge ?_ | with_reducible refine jt_eq ?_ | with_reducible refine jt_ne ?_ | with_reducible refine jt_chLeLt ?_ | with_reducible refine jt_chLeLe ?_
  | with_reducible refine jt_w (jw_and ?_) | with_reducible refine jt_w (jw_or ?_)
  | with_reducible refine jw_and ?_ | with_reducible refine jw_or ?_ | with_reducible refine jw_and1 ?_ | with_reducible refine jw_or1 ?_
  | (with_reducible refine gT ?_); refine jt_val ?_
  | (with_reducible refine gNm ?_); refine je_nm (by rfl) ?_
  | with_reducible refine je_int ?_ | with_reducible refine je_bl ?_ | with_reducible refine je_non ?_ | with_reducible refine je_str ?_
  | with_reducible refine je_add ?_ | with_reducible refine je_sub ?_ | with_reducible refine je_mul ?_ | with_reducible refine je_fdiv ?_ | with_reducible refine je_mod ?_ | with_reducible refine je_pow ?_ | with_reducible refine je_neg ?_
  | with_reducible refine je_isN ?_ | with_reducible refine je_notN ?_ | with_reducible refine je_isB ?_ | with_reducible refine je_notB ?_
  | with_reducible refine je_lt ?_ | with_reducible refine je_le ?_ | with_reducible refine je_gt ?_ | with_reducible refine je_ge ?_ | with_reducible refine je_eq ?_ | with_reducible refine je_ne ?_ | with_reducible refine je_chLeLt ?_ | with_reducible refine je_chLeLe ?_
  | with_reducible refine je_one ?_ | with_reducible refine je_and ?_ | with_reducible refine je_or ?_ | with_reducible refine je_not ?_
  | with_reducible refine je_if ?_ | with_reducible refine je_tup ?_
  | (with_reducible refine gVc ?_); refine jv_cons ?_
  | with_reducible refine jv_nil ?_
  | (with_reducible refine gIx ?_); first | refine je_ixG (jg_ownI (s := .own _) (by rfl) rfl ?_) | refine je_dgetI (by assumption) (by rfl) ?_ | refine je_ix ?_
  | (with_reducible refine gC "isinstance" ?_); first | refine je_isiO (by rfl) (by rfl) ?_ (by walk_at "mg") (by walk_at "mg") | refine je_isiK ?_ (by walk_at "mg") (by walk_at "mg")
  | (with_reducible refine gC "len" ?_); first | refine je_lenG (jg_ownI (s := .own _) (by rfl) rfl ?_) rfl (by walk_at "mg") | refine je_len ?_ rfl (by walk_at "mg")
  | (with_reducible refine gC "abs" ?_); refine je_abs ?_ rfl (by walk_at "mg")
  | (with_reducible refine gC "int" ?_); refine je_int1 ?_ rfl (by walk_at "mg")
  | (with_reducible refine gC "min" ?_); refine je_min2 ?_ rfl (by walk_at "mg")
  | (with_reducible refine gC "max" ?_); refine je_max2 ?_ rfl (by walk_at "mg")
  | (with_reducible refine gC "divmod" ?_); refine je_divmod ?_ rfl (by walk_at "mg")
  | (with_reducible refine gAc ?_); first | refine ja_ownI (by rfl) ?_ | refine ja_cons ?_
  | with_reducible refine ja_nil ?_
  | (with_reducible refine gGN ?_); first | refine jg_ownI (s := .own _) (by rfl) rfl ?_ | refine jg_val ?_
  | (with_reducible refine gG ?_); refine jg_val ?_
  | with_reducible refine jo_none ?_ | with_reducible refine jo_some ?_
  | with_reducible refine jk_cons ?_ | with_reducible refine jk_nil ?_
  | (with_reducible refine gF ?_); refine je_fn (by assumption) (by assumption) (Nat.le_of_ble_eq_true rfl) ?_
  | with_reducible refine ⟨_, _, rfl, rfl, ?_⟩)
local macro_rules | `(tactic| walk_at "tt") => `(tactic| refine ⟨fun _ => ?_, fun q => (by first | exact absurd q (by decide) | exact Bool.noConfusion (show true = false from q))⟩)
local macro_rules | `(tactic| walk_at "ff") => `(tactic| refine ⟨fun q => (by first | exact absurd q (by decide) | exact Bool.noConfusion (show false = true from q) | exact Bool.noConfusion (show true = false from q)), fun _ => ?_⟩)
local macro_rules | `(tactic| walk_at "gs") => `(tactic| repeat walk_at "go")
section
variable {P : Program} {w : World} {K : PySem.W.Frag} {mg : Str → Option Value} {base : Heap} {f : Addr} {fd : FuncData}

/-! the law's numbers -/
theorem sc_stream : FnScope ["_law_script", "_law_numbers", "_law_place", "_law_cell", "_law_rest", "_law_turn", "_law_mixed"] ["_law_script"] (defScope (top 18)) := ⟨rfl, rfl, rfl, by decide +kernel, rfl, by decide +kernel, by decide +kernel⟩
abbrev iz (ns : List Int) : List Dt := ns.map Dt.int
theorem nil_or_snoc {α : Type} (l : List α) : l = [] ∨ ∃ L b, l = L ++ [b] := by
  rcases List.eq_nil_or_concat l with h | ⟨L, b, h⟩
  · exact .inl h
  · exact .inr ⟨L, b, by rw [h, List.concat_eq_append]⟩
theorem iz_snoc {l : List Int} {v : Int} : iz (l ++ [v]) = iz l ++ [Dt.int v] := List.map_append
theorem at_iz {ns : List Int} {i : Nat} (h : i < ns.length) : (Dt.lst (iz ns)).at_ (i : Int) = some (.int ns[i]) := by
  show atI (iz ns) (i : Int) = _
  refine atI_nat ?_
  rw [List.getElem?_map, List.getElem?_eq_getElem h]
  rfl
def c_stream : Ctr := fun args R _ => ∃ ns : List Int, args = [.val (.lst (iz ns))] ∧ ∀ out : List Int, R (.new (iz out)) args
theorem ok_stream (M : FreeB mg blts) (F : FnP K "_law_stream" (top 18) f fd) : FnOk P w K mg base (L2.CX P w) 1 f fd ["_law_script"] (SpD K c_stream) := by
  refine okD F sc_stream (fun args R XC h => ?_) (fun cdv A outer s H E h0 he se args R XC h ok => ?_)
  · obtain ⟨ns, rfl, _⟩ := h
    rfl
  · obtain ⟨ns, rfl, k⟩ := h
    walk_at "go"
    refine js_setNI ok (jn_lst (jv_nil ⟨by decide, ?_⟩))
    walk_at "go"
    refine js_forI1 ok (by walk_at "mg") ?_
    walk_at "gs"
    refine ⟨_, rfl, ?_⟩
    walk_at "gs"
    refine ⟨_, fun i ρ => ∃ out : List Int, out.length ≤ 60 * i ∧ ∃ p c r t m : Sl, ρ = [.val (.lst (iz ns)), .own (iz out), p, c, r, t, m], rfl, ⟨[], by decide, _, _, _, _, _, rfl⟩, ?_, ?_⟩
    · rintro i ρ hi ⟨out, ho, p, c, r, t, m, rfl⟩
      have hi1 : i < ns.length := by
        simp only [iz, List.length_map] at hi
        split at hi <;> omega
      have hi2 : i < 63 := by
        simp only [iz, List.length_map] at hi
        split at hi <;> omega
      walk_at "gs"
      refine ⟨_, _, rfl, at_iz hi1, _, rfl, ?_⟩
      generalize ns[i] = cell
      walk_at "gs"
      refine ⟨_, rfl, ?_⟩
      generalize hrest : (if cell < 0 then -cell else cell) = rest
      walk_at "go"
      refine js_ifc (decide (0 ≤ cell ∧ cell < 10 ^ 18)) [.val (.lst (iz ns)), .own (iz out), .val (.int (i : Int)), .val (.int cell), .val (.int rest), t, m] ?_ (fun hb => ?_) (fun _ => ?_)
      · walk_at "gs"
        refine ⟨fun q => ?_, fun q => ?_⟩
        · walk_at "gs"
          refine ⟨⟨by decide, by decide, by decide⟩, ?_⟩
          refine ⟨_, _, rfl, rfl, ?_, rfl⟩
          have q1 := of_decide_eq_true q
          show decide (cell < 10 ^ 18) = _
          by_cases h : cell < 10 ^ 18
          · rw [decide_eq_true h, decide_eq_true ⟨q1, h⟩]
          · rw [decide_eq_false h, decide_eq_false fun z => h z.2]
        · exact ⟨(decide_eq_false fun z => of_decide_eq_false q z.1).symm, rfl⟩
      · obtain ⟨hb1, hb2⟩ := of_decide_eq_true hb
        walk_at "go"
        refine js_forI1 ok (by walk_at "mg") ?_
        walk_at "gs"
        refine ⟨_, fun t ρ => ∃ out : List Int, out.length ≤ 60 * i + t ∧ ∃ t m : Sl, ρ = [.val (.lst (iz ns)), .own (iz out), .val (.int (i : Int)), .val (.int cell), .val (.int rest), t, m], rfl, ⟨out, by omega, t, m, rfl⟩, ?_, ?_⟩
        · rintro tt ρ ht ⟨out, ho, t, m, rfl⟩
          walk_at "gs"
          have s1 : Sm 70 (cell + 1) := by
            unfold Sm
            omega
          have s2 : Sm 10 (i : Int) := by
            unfold Sm
            omega
          have s3 : Sm 10 (tt : Int) := by
            unfold Sm
            omega
          have c1 : Sm 10 6 := by unfold Sm; decide
          have c2 : Sm 10 2 := by unfold Sm; decide
          refine ⟨cmul_sm c1 s2 (by decide) (by decide) (by decide), ?_⟩
          refine ⟨_, _, rfl, rfl, ?_⟩
          walk_at "gs"
          refine ⟨cmul_sm c2 s3 (by decide) (by decide) (by decide), ?_⟩
          refine ⟨_, _, rfl, rfl, ?_⟩
          have s4 : Sm 30 (48271 + 6 * (i : Int) + 2 * (tt : Int)) := by
            unfold Sm
            omega
          refine ⟨_, _, rfl, rfl, cmul_sm s1 s4 (by decide) (by decide) (by decide), ?_⟩
          generalize (cell + 1) * (48271 + 6 * (i : Int) + 2 * (tt : Int)) = big
          refine ⟨_, rfl, ?_⟩
          walk_at "gs"
          refine ⟨by decide, ?_⟩
          walk_at "gs"
          have s5 : Sm 32 (big % 2147483629) := by
            unfold Sm
            omega
          refine ⟨cmul_sm s5 s5 (by decide) (by decide) (by decide), ?_⟩
          refine ⟨_, rfl, ?_⟩
          walk_at "gs"
          refine ⟨by decide, ?_⟩
          refine ⟨iz out, rfl, ?_, ?_⟩
          · rw [List.length_map]
            omega
          · walk_at "gs"
            refine ⟨out ++ [big % 2147483629 * (big % 2147483629) % 1000003], ?_, _, _, by rw [iz_snoc]; rfl⟩
            rw [List.length_append]
            show out.length + 1 ≤ _
            omega
        · rintro ρ ⟨out, ho, t, m, rfl⟩
          walk_at "gs"
          exact ⟨out, by have : ((3 : Int).toNat) = 3 := rfl; omega, _, _, _, _, _, rfl⟩
      · clear hrest
        walk_at "go"
        refine js_forI1 ok (by walk_at "mg") ?_
        walk_at "gs"
        refine ⟨_, fun t ρ => ∃ out : List Int, out.length ≤ 60 * i + t ∧ ∃ (rest : Int) (t m : Sl), ρ = [.val (.lst (iz ns)), .own (iz out), .val (.int (i : Int)), .val (.int cell), .val (.int rest), t, m], rfl, ⟨out, by omega, _, t, m, rfl⟩, ?_, ?_⟩
        · rintro tt ρ ht ⟨out, ho, rest, t, m, rfl⟩
          walk_at "gs"
          refine ⟨fun q => ?_, fun q => ?_⟩
          · walk_at "gs"
            refine ⟨_, rfl, ?_⟩
            walk_at "gs"
            refine ⟨by decide, ?_⟩
            refine ⟨iz out, rfl, ?_, ?_⟩
            · rw [List.length_map]
              omega
            · walk_at "gs"
              refine ⟨⟨by decide, by decide⟩, ?_⟩
              walk_at "gs"
              refine ⟨out ++ [rest % 1000], ?_, _, _, _, by rw [iz_snoc]; rfl⟩
              rw [List.length_append]
              show out.length + 1 ≤ _
              omega
          · walk_at "gs"
            exact ⟨out, by omega, _, _, _, rfl⟩
        · rintro ρ ⟨out, ho, rest, t, m, rfl⟩
          walk_at "gs"
          exact ⟨out, by have : ((60 : Int).toNat) = 60 := rfl; omega, _, _, _, _, _, rfl⟩
    · rintro ρ ⟨out, ho, p, c, r, t, m, rfl⟩
      walk_at "go"
      refine js_retN (jn_pick ?_)
      walk_at "gs"
      refine ⟨_, rfl, ?_⟩
      walk_at "gs"
      refine ⟨_, iz out, rfl, by decide, rfl, ?_⟩
      rw [pick_map]
      exact k _
theorem sc_draw : FnScope ["_law_stream_here", "_law_many"] ["_law_stream_here", "_law_many"] (defScope (top 19)) := ⟨rfl, rfl, rfl, by decide +kernel, rfl, by decide +kernel, by decide +kernel⟩
def c_draw : Ctr := fun args R _ => ∃ (ns : List Int) (m : Int), args = [.own (iz ns), .val (.int m)] ∧ 0 < m ∧ ∀ (v : Int) (ns' : List Int), 0 ≤ v → v < m → R (.val (.int v)) [.own (iz ns'), .val (.int m)]
theorem ok_draw (M : FreeB mg blts) (F : FnP K "_law_draw" (top 19) f fd) : FnOk P w K mg base (L2.CX P w) 1 f fd ["_law_stream_here", "_law_many"] (SpD K c_draw) := by
  refine okD F sc_draw (fun args R XC h => ?_) (fun cdv A outer s H E h0 he se args R XC h ok => ?_)
  · obtain ⟨ns, m, rfl, _⟩ := h
    rfl
  · obtain ⟨ns, m, rfl, hm, k⟩ := h
    walk_at "gs"
    refine ⟨_, rfl, ?_⟩
    walk_at "gs"
    rcases nil_or_snoc ns with rfl | ⟨ns, v, rfl⟩
    · refine ⟨rfl, ?_⟩
      walk_at "tt"
      walk_at "gs"
      exact k 0 [] (by decide) hm
    · refine ⟨rfl, ?_⟩
      refine ⟨fun q => ?_, fun _ => ?_⟩
      · exfalso
        simp [Dt.v] at q
        omega
      · walk_at "go"
        walk_at "go"
        walk_at "go"
        walk_at "go"
        walk_at "go"
        refine je_popI (ds := iz (ns ++ [v])) (d := .int v) rfl (by simp [iz]) ?_
        refine ⟨_, rfl, ?_⟩
        walk_at "gs"
        refine ⟨hm, ?_⟩
        have e : (iz (ns ++ [v])).dropLast = iz ns := by simp [iz]
        rw [e]
        exact k _ ns (Int.emod_nonneg _ (by omega)) (Int.emod_lt_of_pos _ hm)
theorem sc_long : FnScope ["_law_stream_here", "_law_groups", "_law_number", "_law_turn"] ["_law_stream_here", "_law_groups"] (defScope (top 20)) := ⟨rfl, rfl, rfl, by decide +kernel, rfl, by decide +kernel, by decide +kernel⟩
def c_long : Ctr := fun args R _ => ∃ (ns : List Int) (g : Nat), args = [.own (iz ns), .val (.int (g : Int))] ∧ g ≤ 100 ∧ ∀ (v : Int) (ns' : List Int), 0 ≤ v → v < 1000 ^ g → R (.val (.int v)) [.own (iz ns'), .val (.int (g : Int))]
theorem ok_long (M : FreeB mg blts) (Dr : Cal P w K mg base "_law_draw" 1 c_draw) (F : FnP K "_law_long" (top 20) f fd) : FnOk P w K mg base (L2.CX P w) 2 f fd ["_law_stream_here", "_law_groups"] (SpD K c_long) := by
  refine okD F sc_long (fun args R XC h => ?_) (fun cdv A outer s H E h0 he se args R XC h ok => ?_)
  · obtain ⟨ns, g, rfl, _⟩ := h
    rfl
  · obtain ⟨ns, g, rfl, hg, k⟩ := h
    walk_at "gs"
    refine js_forI1 ok (by walk_at "mg") ?_
    walk_at "gs"
    refine ⟨rfl, ns, _, rfl, by omega, fun n ns1 h1 h2 => ?_⟩
    refine ⟨n, fun t ρ => ∃ (ns : List Int) (v : Int) (s : Sl), 0 ≤ v ∧ v < 1000 ^ t ∧ ρ = [.own (iz ns), .val (.int (g : Int)), .val (.int v), s], rfl, ⟨ns1, 0, _, by decide, by decide, rfl⟩, ?_, ?_⟩
    · rintro t ρ ht ⟨ns, v, s, hv0, hv1, rfl⟩
      walk_at "gs"
      have sv : Sm 1000 v := by
        obtain ⟨w, rfl⟩ := Int.eq_ofNat_of_zero_le hv0
        have h1 : w < 1000 ^ t := by exact_mod_cast hv1
        have h2 : (1000 : Nat) ^ t ≤ 1000 ^ 100 := Nat.pow_le_pow_right (by decide) (by omega)
        have h3 : (1000 : Nat) ^ 100 ≤ 2 ^ 1000 := by decide +kernel
        exact Nat.lt_of_lt_of_le h1 (Nat.le_trans h2 h3)
      refine ⟨cmul_sm sv (by unfold Sm; decide : Sm 10 1000) (by decide) (by decide) (by decide), ?_⟩
      walk_at "gs"
      refine ⟨rfl, ns, _, rfl, by decide, fun d ns2 h3 h4 => ?_⟩
      refine ⟨_, _, rfl, rfl, ?_⟩
      walk_at "gs"
      refine ⟨ns2, v * 1000 + d, _, by omega, ?_, rfl⟩
      rw [Int.pow_succ]
      omega
    · rintro ρ ⟨ns, v, s, hv0, hv1, rfl⟩
      walk_at "gs"
      exact k v ns hv0 (Int.lt_of_lt_of_le hv1 (by
        have : n.toNat ≤ g := by omega
        exact_mod_cast Nat.pow_le_pow_right (by decide) this))
end
end K04

namespace K04
open PySem PySem.Spec PyProof.Rows L2 Dw
local macro_rules | `(tactic| walk_at "pg") => `(tactic| (repeat (first | exact pgn_nI | refine pgn_cI (by assumption) ?_)))
local macro_rules | `(tactic| walk_at "mg") => `(tactic| exact FreeB.get (l := blts) (by assumption) (by decide +kernel))
local macro_rules | `(tactic| walk_at "go") => `(tactic| first
  | (with_reducible refine gB ?_); first | refine jb_cons ?_ | refine jb_nil ?_
  | with_reducible refine js_if ?_
  | (with_reducible refine gRO ?_); refine js_retOwnI (by rfl) (by rfl) ?_
  | with_reducible refine js_ret ?_
  | (with_reducible refine gAp ?_); refine js_appI (by rfl) ?_
  | with_reducible refine js_ret0 ?_
  | (with_reducible refine gAN ?_); refine js_setI (by assumption) ?_
  | (with_reducible refine gAT ?_); refine js_unpackI (by assumption) (fun nd => by walk_at "pg") ?_
  | with_reducible refine jt_not ?_ | with_reducible refine jt_isN ?_ | with_reducible refine jt_notN ?_ | with_reducible refine jt_isB ?_ | with_reducible refine jt_notB ?_
  | with_reducible refine jt_lt ?_ | with_reducible refine jt_le ?_ | with_reducible refine jt_gt ?_ | with_reducible refine jt_ge ?_ | with_reducible refine jt_eq ?_ | with_reducible refine jt_ne ?_ | with_reducible refine jt_chLeLt ?_ | with_reducible refine jt_chLeLe ?_
  | with_reducible refine jt_w (jw_and ?_) | with_reducible refine jt_w (jw_or ?_)
  | with_reducible refine jw_and ?_ | with_reducible refine jw_or ?_ | with_reducible refine jw_and1 ?_ | with_reducible refine jw_or1 ?_
  | (with_reducible refine gT ?_); refine jt_val ?_
  | (with_reducible refine gNm ?_); refine je_nm (by rfl) ?_
  | with_reducible refine je_int ?_ | with_reducible refine je_bl ?_ | with_reducible refine je_non ?_ | with_reducible refine je_str ?_
  | with_reducible refine je_add ?_ | with_reducible refine je_sub ?_ | with_reducible refine je_mul ?_ | with_reducible refine je_fdiv ?_ | with_reducible refine je_mod ?_ | with_reducible refine je_pow ?_ | with_reducible refine je_neg ?_
  | with_reducible refine je_isN ?_ | with_reducible refine je_notN ?_ | with_reducible refine je_isB ?_ | with_reducible refine je_notB ?_
  | with_reducible refine je_lt ?_ | with_reducible refine je_le ?_ | with_reducible refine je_gt ?_ | with_reducible refine je_ge ?_ | with_reducible refine je_eq ?_ | with_reducible refine je_ne ?_ | with_reducible refine je_chLeLt ?_ | with_reducible refine je_chLeLe ?_
  | with_reducible refine je_one ?_ | with_reducible refine je_and ?_ | with_reducible refine je_or ?_ | with_reducible refine je_not ?_
  | with_reducible refine je_if ?_ | with_reducible refine je_tup ?_
  | (with_reducible refine gVc ?_); refine jv_cons ?_
  | with_reducible refine jv_nil ?_
  | (with_reducible refine gIx ?_); first | refine je_ixG (jg_ownI (s := .own _) (by rfl) rfl ?_) | refine je_dgetI (by assumption) (by rfl) ?_ | refine je_ix ?_
  | (with_reducible refine gC "isinstance" ?_); first | refine je_isiO (by rfl) (by rfl) ?_ (by walk_at "mg") (by walk_at "mg") | refine je_isiK ?_ (by walk_at "mg") (by walk_at "mg")
  | (with_reducible refine gC "len" ?_); first | refine je_lenG (jg_ownI (s := .own _) (by rfl) rfl ?_) rfl (by walk_at "mg") | refine je_len ?_ rfl (by walk_at "mg")
  | (with_reducible refine gC "abs" ?_); refine je_abs ?_ rfl (by walk_at "mg")
  | (with_reducible refine gC "int" ?_); refine je_int1 ?_ rfl (by walk_at "mg")
  | (with_reducible refine gC "min" ?_); refine je_min2 ?_ rfl (by walk_at "mg")
  | (with_reducible refine gC "max" ?_); refine je_max2 ?_ rfl (by walk_at "mg")
  | (with_reducible refine gC "divmod" ?_); refine je_divmod ?_ rfl (by walk_at "mg")
  | (with_reducible refine gAc ?_); first | refine ja_ownI (by rfl) ?_ | refine ja_cons ?_
  | with_reducible refine ja_nil ?_
  | (with_reducible refine gGN ?_); first | refine jg_ownI (s := .own _) (by rfl) rfl ?_ | refine jg_val ?_
  | (with_reducible refine gG ?_); refine jg_val ?_
  | with_reducible refine jo_none ?_ | with_reducible refine jo_some ?_
  | with_reducible refine jk_cons ?_ | with_reducible refine jk_nil ?_
  | (with_reducible refine gF ?_); refine je_fn (by assumption) (by assumption) (Nat.le_of_ble_eq_true rfl) ?_
  | with_reducible refine ⟨_, _, rfl, rfl, ?_⟩)
local macro_rules | `(tactic| walk_at "tt") => `(tactic| refine ⟨fun _ => ?_, fun q => (by first | exact absurd q (by decide) | exact Bool.noConfusion (show true = false from q))⟩)
local macro_rules | `(tactic| walk_at "ff") => `(tactic| refine ⟨fun q => (by first | exact absurd q (by decide) | exact Bool.noConfusion (show false = true from q) | exact Bool.noConfusion (show true = false from q)), fun _ => ?_⟩)
local macro_rules | `(tactic| walk_at "gs") => `(tactic| repeat walk_at "go")
section
variable {P : Program} {w : World} {K : PySem.W.Frag} {mg : Str → Option Value} {base : Heap} {f : Addr} {fd : FuncData}

/-! the law's strands -/
structure StrOk (b s c : Int) : Prop where
  c1 : 1 ≤ c
  s0 : s ≠ 0
  b0 : 0 ≤ b
  l0 : 0 ≤ b + s * (c - 1)
  bB : b < 2 ^ 300
  sB : Sm 100 s
  cB : c < 2 ^ 100
abbrev sD (b s c : Int) : Dt := .tup [.int b, .int s, .int c]
theorem sc_strand2 : FnScope ["_law_stream_here", "_law_wide", "_law_count", "_law_step", "_law_low"] ["_law_stream_here"] (defScope (top 21)) := ⟨rfl, rfl, rfl, by decide +kernel, rfl, by decide +kernel, by decide +kernel⟩
def c_lstrand : Ctr := fun args R _ => ∃ ns : List Int, args = [.own (iz ns)] ∧ ∀ (b s c : Int) (ns' : List Int), StrOk b s c → R (.val (sD b s c)) [.own (iz ns')]
theorem mul_le {x y X Y : Int} (h1 : 0 ≤ x) (h2 : x ≤ X) (h3 : 0 ≤ y) (h4 : y ≤ Y) : 0 ≤ x * y ∧ x * y ≤ X * Y := ⟨Int.mul_nonneg h1 h3, Int.mul_le_mul h2 h4 h3 (by omega)⟩
theorem ok_lstrand (M : FreeB mg blts) (Dr : Cal P w K mg base "_law_draw" 1 c_draw) (Lo : Cal P w K mg base "_law_long" 2 c_long) (F : FnP K "_law_strand" (top 21) f fd) : FnOk P w K mg base (L2.CX P w) 3 f fd ["_law_stream_here"] (SpD K c_lstrand) := by
  refine okD F sc_strand2 (fun args R XC h => ?_) (fun cdv A outer s H E h0 he se args R XC h ok => ?_)
  · obtain ⟨ns, rfl, _⟩ := h
    rfl
  · obtain ⟨ns, rfl, k⟩ := h
    walk_at "gs"
    refine ⟨rfl, ns, _, rfl, by decide, fun wd ns1 w0 w1 => ?_⟩
    walk_at "gs"
    refine ⟨rfl, ns1, _, rfl, by decide, fun cc ns2 c0 c1 => ?_⟩
    refine ⟨_, _, rfl, rfl, ?_⟩
    walk_at "gs"
    refine ⟨rfl, ns2, _, rfl, by decide, fun ss ns3 s0 s1 => ?_⟩
    refine ⟨_, _, rfl, rfl, ?_⟩
    walk_at "gs"
    refine ⟨rfl, ns3, _, rfl, by decide, fun ll ns4 l0 l1 => ?_⟩
    refine jb_cut (fun ρ => ∃ (ns : List Int) (c st l : Int), 1 ≤ c ∧ c ≤ 2 ^ 95 ∧ 1 ≤ st ∧ st ≤ 2 ^ 95 ∧ 0 ≤ l ∧ l ≤ 2 ^ 190 ∧ c ≤ 70 ∧ st ≤ 70 ∧ l ≤ 70 ∧ ρ = [.own (iz ns), .val (.int wd), .val (.int c), .val (.int st), .val (.int l)]) ?_ ?_
    · walk_at "gs"
      refine ⟨rfl, ?_⟩
      refine ⟨fun q => ?_, fun q => ?_⟩
      · walk_at "gs"
        refine ⟨rfl, ns4, _, rfl, by decide, fun d ns5 d0 d1 => ?_⟩
        refine ⟨_, _, rfl, rfl, ?_⟩
        walk_at "gs"
        exact ⟨ns5, 1 + cc + d, 1 + ss, ll, by omega, by omega, by omega, by omega, by omega, by omega, by omega, by omega, by omega, rfl⟩
      · walk_at "gs"
        exact ⟨ns4, 1 + cc, 1 + ss, ll, by omega, by omega, by omega, by omega, by omega, by omega, by omega, by omega, by omega, rfl⟩
    · rintro ρ ⟨ns5, c, st, l, h1, h2, h3, h4, h5, h6, h7, h8, h9, rfl⟩
      refine jb_cut (fun ρ => ∃ (ns : List Int) (c st l : Int), 1 ≤ c ∧ c ≤ 2 ^ 95 ∧ 1 ≤ st ∧ st ≤ 2 ^ 95 ∧ 0 ≤ l ∧ l ≤ 2 ^ 190 ∧ ρ = [.own (iz ns), .val (.int wd), .val (.int c), .val (.int st), .val (.int l)]) ?_ ?_
      · walk_at "gs"
        refine ⟨rfl, ?_⟩
        refine ⟨fun q => ?_, fun q => ?_⟩
        · walk_at "gs"
          refine ⟨rfl, ns5, 9, rfl, by decide, fun d ns6 d0 d1 => ?_⟩
          refine ⟨_, _, rfl, rfl, ?_⟩
          walk_at "gs"
          refine ⟨rfl, ns6, 9, rfl, by decide, fun d' ns7 d2 d3 => ?_⟩
          refine ⟨_, _, rfl, rfl, ?_⟩
          walk_at "gs"
          refine ⟨rfl, ns7, 18, rfl, by decide, fun d'' ns8 d4 d5 => ?_⟩
          refine ⟨_, _, rfl, rfl, ?_⟩
          walk_at "gs"
          exact ⟨ns8, c + d, st + d', l + d'', by omega, by omega, by omega, by omega, by omega, by omega, rfl⟩
        · walk_at "gs"
          exact ⟨ns5, c, st, l, h1, h2, h3, h4, h5, h6, rfl⟩
      · clear h1 h2 h3 h4 h5 h6 h7 h8 h9
        rintro ρ ⟨ns6, c, st, l, h1, h2, h3, h4, h5, h6, rfl⟩
        have sst : Sm 100 st := by unfold Sm; omega
        have scc : Sm 100 (c - 1) := by unfold Sm; omega
        obtain ⟨m1, m2⟩ := mul_le (x := st) (y := c - 1) (by omega) h4 (by omega) (show c - 1 ≤ 2 ^ 95 by omega)
        walk_at "gs"
        refine ⟨rfl, ns6, _, rfl, by decide, fun d ns7 d0 d1 => ?_⟩
        walk_at "gs"
        refine ⟨rfl, ?_⟩
        refine ⟨fun q => ?_, fun q => ?_⟩
        · walk_at "gs"
          refine ⟨cmul_sm sst scc (by decide) (by decide) (by decide), ?_⟩
          walk_at "gs"
          refine ⟨Nat.le_of_ble_eq_true rfl, ?_⟩
          refine k (l + st * (c - 1)) (0 - st) c ns7 ⟨h1, by omega, by omega, ?_, by omega, by unfold Sm; omega, by omega⟩
          rw [Int.sub_mul, Int.zero_mul]
          omega
        · walk_at "gs"
          refine ⟨Nat.le_of_ble_eq_true rfl, ?_⟩
          exact k l st c ns7 ⟨h1, by omega, h5, by omega, by omega, sst, by omega⟩
theorem sc_spot : FnScope ["_law_stream_here", "_law_count", "_law_form"] ["_law_stream_here", "_law_count"] (defScope (top 22)) := ⟨rfl, rfl, rfl, by decide +kernel, rfl, by decide +kernel, by decide +kernel⟩
def c_spot : Ctr := fun args R _ => ∃ (ns : List Int) (c : Int), args = [.own (iz ns), .val (.int c)] ∧ 1 ≤ c ∧ ∀ (v : Int) (ns' : List Int), -10 ≤ v → v ≤ c + 12 → R (.val (.int v)) [.own (iz ns'), .val (.int c)]
theorem ok_spot (M : FreeB mg blts) (Dr : Cal P w K mg base "_law_draw" 1 c_draw) (Lo : Cal P w K mg base "_law_long" 2 c_long) (F : FnP K "_law_spot" (top 22) f fd) : FnOk P w K mg base (L2.CX P w) 3 f fd ["_law_stream_here", "_law_count"] (SpD K c_spot) := by
  refine okD F sc_spot (fun args R XC h => ?_) (fun cdv A outer s H E h0 he se args R XC h ok => ?_)
  · obtain ⟨ns, c, rfl, _⟩ := h
    rfl
  · obtain ⟨ns, c, rfl, hc, k⟩ := h
    walk_at "gs"
    refine ⟨rfl, ns, _, rfl, by decide, fun fo ns1 w0 w1 => ?_⟩
    walk_at "gs"
    refine ⟨rfl, ?_⟩
    refine ⟨fun q => ?_, fun q => ?_⟩
    · walk_at "gs"
      refine ⟨rfl, ns1, _, rfl, by decide, fun d ns2 d0 d1 => ?_⟩
      refine ⟨_, _, rfl, rfl, ?_⟩
      exact k _ ns2 (by omega) (by omega)
    · walk_at "gs"
      refine ⟨rfl, ?_⟩
      refine ⟨fun q => ?_, fun q => ?_⟩
      · walk_at "gs"
        refine ⟨rfl, ns1, 18, rfl, by decide, fun d ns2 d0 d1 => ?_⟩
        refine ⟨_, rfl, ?_⟩
        walk_at "gs"
        refine ⟨by omega, ?_⟩
        have g1 := Int.emod_nonneg d (show c + 1 ≠ 0 by omega)
        have g2 := Int.emod_lt_of_pos d (show 0 < c + 1 by omega)
        exact k _ ns2 (by omega) (by omega)
      · walk_at "gs"
        refine ⟨rfl, ?_⟩
        refine ⟨fun q => ?_, fun q => ?_⟩
        · walk_at "gs"
          refine ⟨_, rfl, ?_⟩
          walk_at "gs"
          refine ⟨rfl, ns1, _, rfl, by decide, fun d ns2 d0 d1 => ?_⟩
          refine ⟨_, _, rfl, rfl, ?_⟩
          exact k _ ns2 (by omega) (by omega)
        · walk_at "gs"
          refine ⟨rfl, ns1, _, rfl, by decide, fun d ns2 d0 d1 => ?_⟩
          exact k _ ns2 (by omega) (by omega)
end
end K04

namespace K04
open PySem PySem.Spec PyProof.Rows L2 Dw
local macro_rules | `(tactic| walk_at "pg") => `(tactic| (repeat (first | exact pgn_nI | refine pgn_cI (by assumption) ?_)))
local macro_rules | `(tactic| walk_at "mg") => `(tactic| exact FreeB.get (l := blts) (by assumption) (by decide +kernel))
local macro_rules | `(tactic| walk_at "go") => `(tactic| first
  | (with_reducible refine gB ?_); first | refine jb_cons ?_ | refine jb_nil ?_
  | with_reducible refine js_if ?_
  | (with_reducible refine gRO ?_); refine js_retOwnI (by rfl) (by rfl) ?_
  | with_reducible refine js_ret ?_
  | (with_reducible refine gAp ?_); refine js_appI (by rfl) ?_
  | with_reducible refine js_ret0 ?_
  | (with_reducible refine gAN ?_); refine js_setI (by assumption) ?_
  | (with_reducible refine gAT ?_); refine js_unpackI (by assumption) (fun nd => by walk_at "pg") ?_
  | with_reducible refine jt_not ?_ | with_reducible refine jt_isN ?_ | with_reducible refine jt_notN ?_ | with_reducible refine jt_isB ?_ | with_reducible refine jt_notB ?_
  | with_reducible refine jt_lt ?_ | with_reducible refine jt_le ?_ | with_reducible refine jt_gt ?_ | with_reducible refine jt_ge ?_ | with_reducible refine jt_eq ?_ | with_reducible refine jt_ne ?_ | with_reducible refine jt_chLeLt ?_ | with_reducible refine jt_chLeLe ?_
  | with_reducible refine jt_w (jw_and ?_) | with_reducible refine jt_w (jw_or ?_)
  | with_reducible refine jw_and ?_ | with_reducible refine jw_or ?_ | with_reducible refine jw_and1 ?_ | with_reducible refine jw_or1 ?_
  | (with_reducible refine gT ?_); refine jt_val ?_
  | (with_reducible refine gNm ?_); refine je_nm (by rfl) ?_
  | with_reducible refine je_int ?_ | with_reducible refine je_bl ?_ | with_reducible refine je_non ?_ | with_reducible refine je_str ?_
  | with_reducible refine je_add ?_ | with_reducible refine je_sub ?_ | with_reducible refine je_mul ?_ | with_reducible refine je_fdiv ?_ | with_reducible refine je_mod ?_ | with_reducible refine je_pow ?_ | with_reducible refine je_neg ?_
  | with_reducible refine je_isN ?_ | with_reducible refine je_notN ?_ | with_reducible refine je_isB ?_ | with_reducible refine je_notB ?_
  | with_reducible refine je_lt ?_ | with_reducible refine je_le ?_ | with_reducible refine je_gt ?_ | with_reducible refine je_ge ?_ | with_reducible refine je_eq ?_ | with_reducible refine je_ne ?_ | with_reducible refine je_chLeLt ?_ | with_reducible refine je_chLeLe ?_
  | with_reducible refine je_one ?_ | with_reducible refine je_and ?_ | with_reducible refine je_or ?_ | with_reducible refine je_not ?_
  | with_reducible refine je_if ?_ | with_reducible refine je_tup ?_
  | (with_reducible refine gVc ?_); refine jv_cons ?_
  | with_reducible refine jv_nil ?_
  | (with_reducible refine gIx ?_); first | refine je_ixG (jg_ownI (s := .own _) (by rfl) rfl ?_) | refine je_dgetI (by assumption) (by rfl) ?_ | refine je_ix ?_
  | (with_reducible refine gC "isinstance" ?_); first | refine je_isiO (by rfl) (by rfl) ?_ (by walk_at "mg") (by walk_at "mg") | refine je_isiK ?_ (by walk_at "mg") (by walk_at "mg")
  | (with_reducible refine gC "len" ?_); first | refine je_lenG (jg_ownI (s := .own _) (by rfl) rfl ?_) rfl (by walk_at "mg") | refine je_len ?_ rfl (by walk_at "mg")
  | (with_reducible refine gC "abs" ?_); refine je_abs ?_ rfl (by walk_at "mg")
  | (with_reducible refine gC "int" ?_); refine je_int1 ?_ rfl (by walk_at "mg")
  | (with_reducible refine gC "min" ?_); refine je_min2 ?_ rfl (by walk_at "mg")
  | (with_reducible refine gC "max" ?_); refine je_max2 ?_ rfl (by walk_at "mg")
  | (with_reducible refine gC "divmod" ?_); refine je_divmod ?_ rfl (by walk_at "mg")
  | (with_reducible refine gAc ?_); first | refine ja_ownI (by rfl) ?_ | refine ja_cons ?_
  | with_reducible refine ja_nil ?_
  | (with_reducible refine gGN ?_); first | refine jg_ownI (s := .own _) (by rfl) rfl ?_ | refine jg_val ?_
  | (with_reducible refine gG ?_); refine jg_val ?_
  | with_reducible refine jo_none ?_ | with_reducible refine jo_some ?_
  | with_reducible refine jk_cons ?_ | with_reducible refine jk_nil ?_
  | (with_reducible refine gF ?_); refine je_fn (by assumption) (by first | assumption | exact ok_blk (by assumption) _ _ _ _ _) (Nat.le_of_ble_eq_true rfl) ?_
  | with_reducible refine ⟨_, _, rfl, rfl, ?_⟩)
local macro_rules | `(tactic| walk_at "tt") => `(tactic| refine ⟨fun _ => ?_, fun q => (by first | exact absurd q (by decide) | exact Bool.noConfusion (show true = false from q))⟩)
local macro_rules | `(tactic| walk_at "ff") => `(tactic| refine ⟨fun q => (by first | exact absurd q (by decide) | exact Bool.noConfusion (show false = true from q) | exact Bool.noConfusion (show true = false from q)), fun _ => ?_⟩)
local macro_rules | `(tactic| walk_at "gs") => `(tactic| repeat walk_at "go")
section
variable {P : Program} {w : World} {K : PySem.W.Frag} {mg : Str → Option Value} {base : Heap} {f : Addr} {fd : FuncData}

/-! the law's looks -/
def isNum (d : Dt) (n : Int) : Bool := match d with
  | .int i => decide (i = n)
  | _ => false
theorem sc_num : FnScope ["_law_told", "_law_due"] ["_law_told", "_law_due"] (defScope (top 23)) := ⟨rfl, rfl, rfl, by decide +kernel, rfl, by decide +kernel, by decide +kernel⟩
def c_num : Ctr := fun args R _ => ∃ (d : Dt) (n : Int), args = [.val d, .val (.int n)] ∧ d.isObj = false ∧ R (.val (.bl (isNum d n))) args
theorem ok_num (M : FreeB mg blts) (F : FnP K "_law_is_number" (top 23) f fd) : FnOk P w K mg base (L2.CX P w) 1 f fd ["_law_told", "_law_due"] (SpD K c_num) := by
  refine okD F sc_num (fun args R XC h => ?_) (fun cdv A outer s H E h0 he se args R XC h ok => ?_)
  · obtain ⟨d, n, rfl, _⟩ := h
    rfl
  · obtain ⟨d, n, rfl, ho, k⟩ := h
    cases d with
    | obj C fs => cases ho
    | int i =>
      walk_at "gs"
      refine ⟨true, rfl, rfl, ?_⟩
      refine ⟨_, rfl, fun _ => ?_, fun q => Bool.noConfusion q⟩
      walk_at "gs"
      refine ⟨false, rfl, rfl, ?_⟩
      refine ⟨_, rfl, ?_⟩
      refine ⟨_, rfl, fun _ => ?_, fun q => Bool.noConfusion q⟩
      walk_at "gs"
      refine ⟨rfl, ?_⟩
      have e : decide ((Dt.int i).v = (Dt.int n).v) = isNum (.int i) n := by
        show decide (V.int i = V.int n) = decide (i = n)
        by_cases h : i = n
        · rw [h, decide_eq_true rfl, decide_eq_true rfl]
        · rw [decide_eq_false h, decide_eq_false fun z => h (by injection z)]
      rw [e]
      exact k
    | bl b =>
      walk_at "gs"
      refine ⟨true, rfl, rfl, ?_⟩
      refine ⟨_, rfl, fun _ => ?_, fun q => Bool.noConfusion q⟩
      walk_at "gs"
      refine ⟨true, rfl, rfl, ?_⟩
      refine ⟨_, rfl, ?_⟩
      exact ⟨_, rfl, fun q => Bool.noConfusion q, fun _ => k⟩
    | _ =>
      walk_at "gs"
      refine ⟨false, rfl, rfl, ?_⟩
      exact ⟨_, rfl, fun q => Bool.noConfusion q, fun _ => k⟩
theorem sc_nums : FnScope ["_law_told", "_law_due", "_law_place"] ["_law_told", "_law_due"] (defScope (top 24)) := ⟨rfl, rfl, rfl, by decide +kernel, rfl, by decide +kernel, by decide +kernel⟩
/-- numbers told as they are due -/
def c_nums : Ctr := fun args R _ => ∃ (a d : Sl) (ns : List Int), args = [a, d] ∧ ns.length ≤ 1000000 ∧ (a = .own (iz ns) ∨ a = .val (.lst (iz ns)) ∨ a = .val (.tup (iz ns))) ∧ (d = .val (.lst (iz ns)) ∨ d = .val (.tup (iz ns))) ∧ R (.val (.bl true)) args
theorem at_izT {ns : List Int} {i : Nat} (h : i < ns.length) : (Dt.tup (iz ns)).at_ (i : Int) = some (.int ns[i]) := at_iz h
theorem isNum_self {n : Int} : isNum (.int n) n = true := decide_eq_true rfl
theorem ok_nums (M : FreeB mg blts) (Nu : Cal P w K mg base "_law_is_number" 1 c_num) (F : FnP K "_law_is_numbers" (top 24) f fd) : FnOk P w K mg base (L2.CX P w) 2 f fd ["_law_told", "_law_due"] (SpD K c_nums) := by
  refine okD F sc_nums (fun args R XC h => ?_) (fun cdv A outer s H E h0 he se args R XC h ok => ?_)
  · obtain ⟨a, d, ns, rfl, _⟩ := h
    rfl
  · obtain ⟨a, d, ns, rfl, hl, ha, hd, k⟩ := h
    rcases ha with rfl | rfl | rfl <;> rcases hd with rfl | rfl
    all_goals walk_at "gs"
    all_goals refine ⟨_, rfl, ?_⟩
    all_goals walk_at "gs"
    all_goals refine ⟨_, rfl, ?_⟩
    all_goals refine ⟨rfl, ?_⟩
    all_goals rw [show (!decide ((Dt.int ((iz ns).length : Int)).v = (Dt.int ((iz ns).length : Int)).v)) = false by rw [decide_eq_true rfl]; rfl]
    all_goals walk_at "ff"
    all_goals walk_at "go"
    all_goals walk_at "go"
    all_goals walk_at "go"
    all_goals refine je_eq (je_len (je_new (jn_cR0 ok (by walk_at "mg") ?_)) rfl (by walk_at "mg"))
    all_goals walk_at "gs"
    all_goals refine ⟨_, rfl, ?_⟩
    all_goals refine ⟨_, rfl, by rw [List.length_map]; omega, by omega, rfl, ?_, ?_⟩
    all_goals first
      | refine ⟨_, rfl, ?_⟩
      | (intro i hi s' H' C cl fp
         have hi2 : i < ns.length := by
           rw [List.length_map] at hi
           omega
         walk_at "gs"
         first | refine ⟨_, _, _, rfl, rfl, at_iz hi2, ?_⟩ | refine ⟨_, _, rfl, at_iz hi2, ?_⟩ | refine ⟨_, _, rfl, at_izT hi2, ?_⟩
         walk_at "gs"
         first | refine ⟨_, _, rfl, at_iz hi2, ?_⟩ | refine ⟨_, _, rfl, at_izT hi2, ?_⟩
         walk_at "gs"
         refine ⟨rfl, _, _, rfl, rfl, ?_⟩
         refine ⟨_, rfl, ?_⟩
         exact ⟨by rw [isNum_self]; rfl, rfl⟩)
    all_goals walk_at "gs"
    all_goals exact ⟨rfl, k⟩
end
end K04

namespace K04
open PySem PySem.Spec PyProof.Rows L2 Dw
local macro_rules | `(tactic| walk_at "pg") => `(tactic| (repeat (first | exact pgn_nI | refine pgn_cI (by assumption) ?_)))
local macro_rules | `(tactic| walk_at "mg") => `(tactic| exact FreeB.get (l := blts) (by assumption) (by decide +kernel))
local macro_rules | `(tactic| walk_at "go") => `(tactic| first
  | (with_reducible refine gB ?_); first | refine jb_cons ?_ | refine jb_nil ?_
  | with_reducible refine js_if ?_
  | (with_reducible refine gRO ?_); refine js_retOwnI (by rfl) (by rfl) ?_
  | with_reducible refine js_ret ?_
  | (with_reducible refine gAp ?_); refine js_appI (by rfl) ?_
  | with_reducible refine js_ret0 ?_
  | (with_reducible refine gAN ?_); refine js_setI (by assumption) ?_
  | (with_reducible refine gAT ?_); refine js_unpackI (by assumption) (fun nd => by walk_at "pg") ?_
  | with_reducible refine jt_not ?_ | with_reducible refine jt_isN ?_ | with_reducible refine jt_notN ?_ | with_reducible refine jt_isB ?_ | with_reducible refine jt_notB ?_
  | with_reducible refine jt_lt ?_ | with_reducible refine jt_le ?_ | with_reducible refine jt_gt ?_ | with_reducible refine jt_ge ?_ | with_reducible refine jt_eq ?_ | with_reducible refine jt_ne ?_ | with_reducible refine jt_chLeLt ?_ | with_reducible refine jt_chLeLe ?_
  | with_reducible refine jt_w (jw_and ?_) | with_reducible refine jt_w (jw_or ?_)
  | with_reducible refine jw_and ?_ | with_reducible refine jw_or ?_ | with_reducible refine jw_and1 ?_ | with_reducible refine jw_or1 ?_
  | (with_reducible refine gT ?_); refine jt_val ?_
  | (with_reducible refine gNm ?_); refine je_nm (by rfl) ?_
  | with_reducible refine je_int ?_ | with_reducible refine je_bl ?_ | with_reducible refine je_non ?_ | with_reducible refine je_str ?_
  | with_reducible refine je_add ?_ | with_reducible refine je_sub ?_ | with_reducible refine je_mul ?_ | with_reducible refine je_fdiv ?_ | with_reducible refine je_mod ?_ | with_reducible refine je_pow ?_ | with_reducible refine je_neg ?_
  | with_reducible refine je_isN ?_ | with_reducible refine je_notN ?_ | with_reducible refine je_isB ?_ | with_reducible refine je_notB ?_
  | with_reducible refine je_lt ?_ | with_reducible refine je_le ?_ | with_reducible refine je_gt ?_ | with_reducible refine je_ge ?_ | with_reducible refine je_eq ?_ | with_reducible refine je_ne ?_ | with_reducible refine je_chLeLt ?_ | with_reducible refine je_chLeLe ?_
  | with_reducible refine je_one ?_ | with_reducible refine je_and ?_ | with_reducible refine je_or ?_ | with_reducible refine je_not ?_
  | with_reducible refine je_if ?_ | with_reducible refine je_tup ?_
  | (with_reducible refine gVc ?_); refine jv_cons ?_
  | with_reducible refine jv_nil ?_
  | (with_reducible refine gIx ?_); first | refine je_ixG (jg_ownI (s := .own _) (by rfl) rfl ?_) | refine je_dgetI (by assumption) (by rfl) ?_ | refine je_ix ?_
  | (with_reducible refine gC "isinstance" ?_); first | refine je_isiO (by rfl) (by rfl) ?_ (by walk_at "mg") (by walk_at "mg") | refine je_isiK ?_ (by walk_at "mg") (by walk_at "mg")
  | (with_reducible refine gC "len" ?_); first | refine je_lenG (jg_ownI (s := .own _) (by rfl) rfl ?_) rfl (by walk_at "mg") | refine je_len ?_ rfl (by walk_at "mg")
  | (with_reducible refine gC "abs" ?_); refine je_abs ?_ rfl (by walk_at "mg")
  | (with_reducible refine gC "int" ?_); refine je_int1 ?_ rfl (by walk_at "mg")
  | (with_reducible refine gC "min" ?_); refine je_min2 ?_ rfl (by walk_at "mg")
  | (with_reducible refine gC "max" ?_); refine je_max2 ?_ rfl (by walk_at "mg")
  | (with_reducible refine gC "divmod" ?_); refine je_divmod ?_ rfl (by walk_at "mg")
  | (with_reducible refine gAc ?_); first | refine ja_ownI (by rfl) ?_ | refine ja_cons ?_
  | with_reducible refine ja_nil ?_
  | (with_reducible refine gGN ?_); first | refine jg_ownI (s := .own _) (by rfl) rfl ?_ | refine jg_val ?_
  | (with_reducible refine gG ?_); refine jg_val ?_
  | with_reducible refine jo_none ?_ | with_reducible refine jo_some ?_
  | with_reducible refine jk_cons ?_ | with_reducible refine jk_nil ?_
  | (with_reducible refine gF ?_); refine je_fn (by assumption) (by first | assumption | exact ok_blk (by assumption) _ _ _ _ _) (Nat.le_of_ble_eq_true rfl) ?_
  | with_reducible refine ⟨_, _, rfl, rfl, ?_⟩)
local macro_rules | `(tactic| walk_at "tt") => `(tactic| refine ⟨fun _ => ?_, fun q => (by first | exact absurd q (by decide) | exact Bool.noConfusion (show true = false from q))⟩)
local macro_rules | `(tactic| walk_at "ff") => `(tactic| refine ⟨fun q => (by first | exact absurd q (by decide) | exact Bool.noConfusion (show false = true from q) | exact Bool.noConfusion (show true = false from q)), fun _ => ?_⟩)
local macro_rules | `(tactic| walk_at "gs") => `(tactic| repeat walk_at "go")
section
variable {P : Program} {w : World} {K : PySem.W.Frag} {mg : Str → Option Value} {base : Heap} {f : Addr} {fd : FuncData}
theorem sc_due : FnScope ["_law_told", "_law_due"] ["_law_told", "_law_due"] (defScope (top 25)) := ⟨rfl, rfl, rfl, by decide +kernel, rfl, by decide +kernel, by decide +kernel⟩
def c_due : Ctr := fun args R _ => ∃ d : Dt, args = [.val d, .val d] ∧ (d = .non ∨ ∃ ns : List Int, d = .tup (iz ns) ∧ ns.length ≤ 1000000) ∧ R (.val (.bl true)) args
theorem ok_due (M : FreeB mg blts) (Ns : Cal P w K mg base "_law_is_numbers" 2 c_nums) (F : FnP K "_law_is_due" (top 25) f fd) : FnOk P w K mg base (L2.CX P w) 3 f fd ["_law_told", "_law_due"] (SpD K c_due) := by
  refine okD F sc_due (fun args R XC h => ?_) (fun cdv A outer s H E h0 he se args R XC h ok => ?_)
  · obtain ⟨d, rfl, _⟩ := h
    rfl
  · obtain ⟨d, rfl, hd, k⟩ := h
    rcases hd with rfl | ⟨ns, rfl, hl⟩
    · walk_at "gs"
      walk_at "tt"
      walk_at "gs"
      exact k
    · walk_at "gs"
      walk_at "ff"
      walk_at "gs"
      refine ⟨true, rfl, rfl, _, rfl, fun _ => ?_, fun q => Bool.noConfusion q⟩
      walk_at "gs"
      exact ⟨rfl, _, _, ns, rfl, hl, .inr (.inr rfl), .inr rfl, k⟩
theorem sc_listed : FnScope ["_law_strand_here", "_law_row", "_law_at_here", "_law_turn"] ["_law_strand_here"] (defScope (top 26)) := ⟨rfl, rfl, rfl, by decide +kernel, rfl, by decide +kernel, by decide +kernel⟩
def c_listed : Ctr := fun args R _ => ∃ b s c : Int, args = [.val (sD b s c)] ∧ 0 ≤ c ∧ c ≤ 100000 ∧ R (.new (iz (mem b s c.toNat))) args
theorem ok_listed (M : FreeB mg blts) (F : FnP K "_law_listed" (top 26) f fd) : FnOk P w K mg base (L2.CX P w) 1 f fd ["_law_strand_here"] (SpD K c_listed) := by
  refine okD F sc_listed (fun args R XC h => ?_) (fun cdv A outer s H E h0 he se args R XC h ok => ?_)
  · obtain ⟨b, s, c, rfl, _⟩ := h
    rfl
  · obtain ⟨b, s, c, rfl, h0, h1, k⟩ := h
    walk_at "go"
    refine js_setNI ok (jn_lst (jv_nil ⟨by decide, ?_⟩))
    walk_at "gs"
    refine ⟨0, _, rfl, rfl, ?_⟩
    walk_at "go"
    refine js_forI1 ok (by walk_at "mg") ?_
    walk_at "gs"
    refine ⟨2, _, rfl, rfl, ?_⟩
    refine ⟨c, fun i ρ => ∃ t : Sl, ρ = [.val (sD b s c), .own (iz (mem b s i)), .val (.int (b + s * (i : Int))), t], rfl, ⟨_, by rw [show b + s * ((0 : Nat) : Int) = b by simp]; rfl⟩, ?_, ?_⟩
    · rintro i ρ hi ⟨t, rfl⟩
      walk_at "gs"
      refine ⟨iz (mem b s i), rfl, by rw [List.length_map, mem_len]; omega, ?_⟩
      walk_at "gs"
      refine ⟨1, _, rfl, rfl, ?_⟩
      refine ⟨_, _, rfl, rfl, ?_⟩
      walk_at "gs"
      refine ⟨.val (.int (i : Int)), ?_⟩
      rw [mem_succ, iz_snoc, show b + s * ((i + 1 : Nat) : Int) = b + s * (i : Int) + s by rw [Int.natCast_add, Int.mul_add]; simp; omega]
      rfl
    · rintro ρ ⟨t, rfl⟩
      walk_at "gs"
      exact k
end
end K04

namespace K04
open PySem PySem.Spec PyProof.Rows L2 Dw
local macro_rules | `(tactic| walk_at "pg") => `(tactic| (repeat (first | exact pgn_nI | refine pgn_cI (by assumption) ?_)))
local macro_rules | `(tactic| walk_at "mg") => `(tactic| exact FreeB.get (l := blts) (by assumption) (by decide +kernel))
local macro_rules | `(tactic| walk_at "go") => `(tactic| first
  | (with_reducible refine gB ?_); first | refine jb_cons ?_ | refine jb_nil ?_
  | with_reducible refine js_if ?_
  | (with_reducible refine gRO ?_); refine js_retOwnI (by rfl) (by rfl) ?_
  | with_reducible refine js_ret ?_
  | (with_reducible refine gAp ?_); refine js_appI (by rfl) ?_
  | with_reducible refine js_ret0 ?_
  | (with_reducible refine gAN ?_); refine js_setI (by assumption) ?_
  | (with_reducible refine gAT ?_); refine js_unpackI (by assumption) (fun nd => by walk_at "pg") ?_
  | with_reducible refine jt_not ?_ | with_reducible refine jt_isN ?_ | with_reducible refine jt_notN ?_ | with_reducible refine jt_isB ?_ | with_reducible refine jt_notB ?_
  | with_reducible refine jt_lt ?_ | with_reducible refine jt_le ?_ | with_reducible refine jt_gt ?_ | with_reducible refine jt_ge ?_ | with_reducible refine jt_eq ?_ | with_reducible refine jt_ne ?_ | with_reducible refine jt_chLeLt ?_ | with_reducible refine jt_chLeLe ?_
  | with_reducible refine jt_w (jw_and ?_) | with_reducible refine jt_w (jw_or ?_)
  | with_reducible refine jw_and ?_ | with_reducible refine jw_or ?_ | with_reducible refine jw_and1 ?_ | with_reducible refine jw_or1 ?_
  | (with_reducible refine gT ?_); refine jt_val ?_
  | (with_reducible refine gNm ?_); refine je_nm (by rfl) ?_
  | with_reducible refine je_int ?_ | with_reducible refine je_bl ?_ | with_reducible refine je_non ?_ | with_reducible refine je_str ?_
  | with_reducible refine je_add ?_ | with_reducible refine je_sub ?_ | with_reducible refine je_mul ?_ | with_reducible refine je_fdiv ?_ | with_reducible refine je_mod ?_ | with_reducible refine je_pow ?_ | with_reducible refine je_neg ?_
  | with_reducible refine je_isN ?_ | with_reducible refine je_notN ?_ | with_reducible refine je_isB ?_ | with_reducible refine je_notB ?_
  | with_reducible refine je_lt ?_ | with_reducible refine je_le ?_ | with_reducible refine je_gt ?_ | with_reducible refine je_ge ?_ | with_reducible refine je_eq ?_ | with_reducible refine je_ne ?_ | with_reducible refine je_chLeLt ?_ | with_reducible refine je_chLeLe ?_
  | with_reducible refine je_one ?_ | with_reducible refine je_and ?_ | with_reducible refine je_or ?_ | with_reducible refine je_not ?_
  | with_reducible refine je_if ?_ | with_reducible refine je_tup ?_
  | (with_reducible refine gVc ?_); refine jv_cons ?_
  | with_reducible refine jv_nil ?_
  | (with_reducible refine gIx ?_); first | refine je_ixG (jg_ownI (s := .own _) (by rfl) rfl ?_) | refine je_dgetI (by assumption) (by rfl) ?_ | refine je_ix ?_
  | (with_reducible refine gC "isinstance" ?_); first | refine je_isiO (by rfl) (by rfl) ?_ (by walk_at "mg") (by walk_at "mg") | refine je_isiK ?_ (by walk_at "mg") (by walk_at "mg")
  | (with_reducible refine gC "len" ?_); first | refine je_lenG (jg_ownI (s := .own _) (by rfl) rfl ?_) rfl (by walk_at "mg") | refine je_len ?_ rfl (by walk_at "mg")
  | (with_reducible refine gC "abs" ?_); refine je_abs ?_ rfl (by walk_at "mg")
  | (with_reducible refine gC "int" ?_); refine je_int1 ?_ rfl (by walk_at "mg")
  | (with_reducible refine gC "min" ?_); refine je_min2 ?_ rfl (by walk_at "mg")
  | (with_reducible refine gC "max" ?_); refine je_max2 ?_ rfl (by walk_at "mg")
  | (with_reducible refine gC "divmod" ?_); refine je_divmod ?_ rfl (by walk_at "mg")
  | (with_reducible refine gAc ?_); first | refine ja_ownI (by rfl) ?_ | refine ja_cons ?_
  | with_reducible refine ja_nil ?_
  | (with_reducible refine gGN ?_); first | refine jg_ownI (s := .own _) (by rfl) rfl ?_ | refine jg_val ?_
  | (with_reducible refine gG ?_); refine jg_val ?_
  | with_reducible refine jo_none ?_ | with_reducible refine jo_some ?_
  | with_reducible refine jk_cons ?_ | with_reducible refine jk_nil ?_
  | (with_reducible refine gF ?_); refine je_fn (by assumption) (by first | assumption | exact ok_blk (by assumption) _ _ _ _ _) (Nat.le_of_ble_eq_true rfl) ?_
  | with_reducible refine ⟨_, _, rfl, rfl, ?_⟩)
local macro_rules | `(tactic| walk_at "tt") => `(tactic| refine ⟨fun _ => ?_, fun q => (by first | exact absurd q (by decide) | exact Bool.noConfusion (show true = false from q))⟩)
local macro_rules | `(tactic| walk_at "ff") => `(tactic| refine ⟨fun q => (by first | exact absurd q (by decide) | exact Bool.noConfusion (show false = true from q) | exact Bool.noConfusion (show true = false from q)), fun _ => ?_⟩)
local macro_rules | `(tactic| walk_at "gs") => `(tactic| repeat walk_at "go")
section
variable {P : Program} {w : World} {K : PySem.W.Frag} {mg : Str → Option Value} {base : Heap} {f : Addr} {fd : FuncData}

/-! places and indexes -/
theorem inD_at {b s c : Int} {j : Int} (hs : s ≠ 0) (h0 : 0 ≤ j) (h1 : j < c) : inD b s c (b + s * j) = .int j := by
  have e : b + s * j - b = s * j := by omega
  have e1 : (s * j).fmod s = 0 := Int.mul_fmod_right s j
  have e2 : (s * j).fdiv s = j := Int.mul_fdiv_cancel_left j hs
  unfold inD
  rw [e, e1, e2, if_pos ⟨rfl, h0, h1⟩]
theorem inD_no {b s c x : Int} (h : ∀ j : Int, 0 ≤ j → j < c → x ≠ b + s * j) : inD b s c x = .non := by
  unfold inD
  refine if_neg ?_
  rintro ⟨h1, h2, h3⟩
  have e := Int.mul_fdiv_add_fmod (x - b) s
  rw [h1] at e
  exact h _ h2 h3 (by omega)
def spots (b s : Int) (n : Nat) : List (Key × Dt) := (List.range n).map fun j : Nat => ((Sum.inl (b + s * (j : Int)) : Key), Dt.int (j : Int))
theorem spots_succ {b s : Int} {n : Nat} : spots b s (n + 1) = spots b s n ++ [((Sum.inl (b + s * (n : Int)) : Key), Dt.int (n : Int))] := by simp [spots, List.range_succ]
theorem spots_len {b s : Int} {n : Nat} : (spots b s n).length = n := by simp [spots]
theorem getK_app {k0 : Key} {d0 : Dt} {k : Key} (l : List (Key × Dt)) : getK (l ++ [(k0, d0)]) k = (getK l k).or (if k0 = k then some d0 else none) := by
  unfold getK
  rw [List.find?_append]
  cases h : l.find? fun q => decide (q.1 = k) with
  | some v => rfl
  | none =>
    by_cases e : k0 = k
    · simp [e]
    · simp [e]
theorem spots_no {b s x : Int} : ∀ {n : Nat}, (∀ j : Nat, j < n → x ≠ b + s * (j : Int)) → getK (spots b s n) (.inl x) = none
  | 0, _ => rfl
  | n + 1, h => by
    rw [spots_succ, getK_app, spots_no fun j hj => h j (by omega), if_neg fun e => h n (by omega) (by injection e with e; exact e.symm)]
    rfl
theorem spots_at {b s : Int} (hs : s ≠ 0) : ∀ {n j : Nat}, j < n → getK (spots b s n) (.inl (b + s * (j : Int))) = some (.int (j : Int))
  | n + 1, j, h => by
    rw [spots_succ, getK_app]
    by_cases e : j = n
    · subst e
      rw [spots_no, if_pos rfl]
      · rfl
      · intro i hi z
        have q : s * ((i : Int) - (j : Int)) = 0 := by
          rw [Int.mul_sub]
          omega
        rcases Int.mul_eq_zero.mp q with q | q
        · exact hs q
        · omega
    · rw [spots_at hs (show j < n by omega)]
      rfl
theorem putD_new {l : List (Key × Dt)} {k : Key} {d : Dt} (h : getK l k = none) : putD l k d = l ++ [(k, d)] := by
  unfold putD
  rw [if_neg]
  intro z
  rw [List.any_eq_true] at z
  obtain ⟨q, hq, e⟩ := z
  unfold getK at h
  rw [Option.map_eq_none_iff, List.find?_eq_none] at h
  exact h q hq e
theorem putD_spots {b s : Int} (hs : s ≠ 0) {n : Nat} : putD (spots b s n) (.inl (b + s * (n : Int))) (.int (n : Int)) = spots b s (n + 1) := by
  rw [spots_succ, putD_new]
  refine spots_no fun j hj z => ?_
  have q : s * ((n : Int) - (j : Int)) = 0 := by
    rw [Int.mul_sub]
    omega
  rcases Int.mul_eq_zero.mp q with q | q
  · exact hs q
  · omega
theorem mem_get {b s : Int} {n i : Nat} (h : i < n) : (mem b s n)[i]'(by rw [mem_len]; exact h) = b + s * (i : Int) := by simp [mem]
theorem at_mem {b s : Int} {n i : Nat} (h : i < n) : (Dt.lst (iz (mem b s n))).at_ (i : Int) = some (.int (b + s * (i : Int))) := by
  rw [at_iz (by rw [mem_len]; exact h), mem_get h]
theorem cdm_of {x s : Int} (h0 : s ≠ 0) (h : Sm 100 s) : CDm x s := ⟨h0, Nat.lt_of_lt_of_le h (Nat.pow_le_pow_right (by decide) (by decide))⟩
/-! the law's look at the whole strand -/
theorem sc_small : FnScope ["_law_strand_here", "_law_row", "_law_told", "_law_again", "_law_spots", "_law_place", "_law_index", "_law_found"] ["_law_strand_here"] (defScope (top 27)) := ⟨rfl, rfl, rfl, by decide +kernel, rfl, by decide +kernel, by decide +kernel⟩
def c_small : Ctr := fun args R _ => ∃ b s c : Int, args = [.val (sD b s c)] ∧ StrOk b s c ∧ c ≤ 70 ∧ R (.val (.bl true)) args
theorem ok_small {C : Addr} (M : FreeB mg blts) (Nu : Cal P w K mg base "_law_is_number" 1 c_num) (Ns : Cal P w K mg base "_law_is_numbers" 2 c_nums) (Li : Cal P w K mg base "_law_listed" 1 c_listed) (Me : Cal P w K mg base "members" 1 c_mem) (At : Cal P w K mg base "member_at" 3 (c_at C)) (In : Cal P w K mg base "place_in" 1 c_in) (F : FnP K "_law_small" (top 27) f fd) : FnOk P w K mg base (L2.CX P w) 4 f fd ["_law_strand_here"] (SpD K c_small) := by
  refine okD F sc_small (fun args R XC h => ?_) (fun cdv A outer s H E h0 he se args R XC h ok => ?_)
  · obtain ⟨b, s, c, rfl, _⟩ := h
    rfl
  · obtain ⟨b, s, c, rfl, S, hc, k⟩ := h
    have hs : Sm 400 s := Nat.lt_of_lt_of_le S.sB (by decide +kernel)
    walk_at "go"
    refine js_setI ok (je_new (jn_fn Li ok (Nat.le_of_ble_eq_true rfl) ?_))
    walk_at "gs"
    refine ⟨rfl, b, s, c, rfl, by have := S.c1; omega, by omega, _, rfl, ?_⟩
    walk_at "go"
    refine js_setNI ok (jn_fn Me ok (Nat.le_of_ble_eq_true rfl) ?_)
    walk_at "gs"
    refine ⟨rfl, b, s, c, rfl, by have := S.c1; omega, by omega, hs, _, rfl, ?_⟩
    refine jb_cut (fun ρ => ρ = [.val (sD b s c), .val (.lst (iz (mem b s c.toNat))), .own (iz (mem b s c.toNat)), .no, .no, .no, .no, .no]) ?_ ?_
    · walk_at "gs"
      refine ⟨_, rfl, ?_⟩
      walk_at "tt"
      walk_at "gs"
      refine ⟨rfl, _, _, mem b s c.toNat, rfl, by rw [mem_len]; omega, .inl rfl, .inl rfl, ?_⟩
      refine ⟨_, rfl, ?_⟩
      walk_at "ff"
      walk_at "gs"
      rfl
    · rintro ρ rfl
      have hc1 : 0 < c.toNat := by have := S.c1; omega
      walk_at "gs"
      refine ⟨iz (mem b s c.toNat), 0, _, rfl, rfl, at_mem hc1, ?_⟩
      refine ⟨iz (mem b s c.toNat), rfl, by rw [List.length_map, mem_len]; omega, ?_⟩
      walk_at "go"
      refine js_setNI ok (jn_fn Me ok (Nat.le_of_ble_eq_true rfl) ?_)
      walk_at "gs"
      refine ⟨rfl, b, s, c, rfl, by have := S.c1; omega, by omega, hs, _, rfl, ?_⟩
      walk_at "go"
      refine js_dnewI ok ?_
      refine jb_cut (fun ρ => ∃ (t : List Dt) (p : Sl), ρ = [.val (sD b s c), .val (.lst (iz (mem b s c.toNat))), .own t, .own (iz (mem b s c.toNat)), .dic (spots b s c.toNat), p, .no, .no]) ?_ ?_
      · refine js_forI1 ok (by walk_at "mg") ?_
        walk_at "gs"
        refine ⟨_, rfl, ?_⟩
        refine ⟨_, fun i ρ => ∃ (t : List Dt) (p : Sl), ρ = [.val (sD b s c), .val (.lst (iz (mem b s c.toNat))), .own t, .own (iz (mem b s c.toNat)), .dic (spots b s i), p, .no, .no], rfl, ⟨_, _, rfl⟩, ?_, ?_⟩
        · rintro i ρ hi ⟨t, p, rfl⟩
          have hi1 : i < c.toNat := by
            rw [List.length_map, mem_len] at hi
            omega
          walk_at "go"
          refine js_dputI ok (by rfl) ?_
          walk_at "gs"
          refine ⟨_, _, rfl, at_mem hi1, ?_⟩
          refine ⟨spots b s i, _, rfl, rfl, by rw [spots_len]; omega, ?_⟩
          rw [putD_spots S.s0]
          walk_at "gs"
          refine ⟨rfl, b, s, c, _, rfl, cmul_sm S.sB (sm_nat (show i < 1000000 by omega)) (by decide) (by decide) (by decide), fun _ => ?_, fun z => absurd ⟨by omega, by omega⟩ z⟩
          walk_at "gs"
          refine ⟨_, _, rfl, at_mem hi1, ?_⟩
          walk_at "gs"
          refine ⟨rfl, _, _, rfl, rfl, ?_⟩
          refine ⟨_, rfl, ?_⟩
          generalize hz : isNum _ _ = zz
          obtain rfl : zz = true := hz.symm.trans isNum_self
          walk_at "ff"
          walk_at "gs"
          exact ⟨t, _, rfl⟩
        · rintro ρ ⟨t, p, rfl⟩
          refine ⟨t, p, ?_⟩
          rw [List.length_map, mem_len]
          rfl
      · rintro ρ ⟨t, p, rfl⟩
        refine jb_cut (fun ρ => ∃ (p q r : Sl), ρ = [.val (sD b s c), .val (.lst (iz (mem b s c.toNat))), .own t, .own (iz (mem b s c.toNat)), .dic (spots b s c.toNat), p, q, r]) ?_ ?_
        · refine js_forI2 ok (by walk_at "mg") ?_
          have hn : 0 < (mem b s c.toNat).length := by rw [mem_len]; exact hc1
          walk_at "go"
          refine je_minL ?_ rfl (by walk_at "mg")
          walk_at "gs"
          refine ⟨mem b s c.toNat, rfl, hn, fun m1 _ _ => ?_⟩
          walk_at "gs"
          refine je_maxL ?_ rfl (by walk_at "mg")
          walk_at "gs"
          refine ⟨mem b s c.toNat, rfl, hn, fun m2 _ _ => ?_⟩
          walk_at "go"
          refine ⟨_, _, rfl, rfl, ?_⟩
          walk_at "go"
          refine je_minL ?_ rfl (by walk_at "mg")
          walk_at "gs"
          refine ⟨mem b s c.toNat, rfl, hn, fun m3 _ _ => ?_⟩
          walk_at "go"
          refine ⟨_, _, rfl, rfl, ?_⟩
          refine ⟨_, _, rfl, rfl, ?_⟩
          refine ⟨_, _, fun i ρ => ∃ (p q r : Sl), ρ = [.val (sD b s c), .val (.lst (iz (mem b s c.toNat))), .own t, .own (iz (mem b s c.toNat)), .dic (spots b s c.toNat), p, q, r], rfl, rfl, ⟨_, _, _, rfl⟩, ?_, ?_⟩
          · rintro i ρ hi ⟨p, q, r, rfl⟩
            generalize m1 - 3 + (i : Int) = x
            walk_at "gs"
            refine ⟨rfl, b, s, c, x, rfl, cdm_of S.s0 S.sB, ?_⟩
            by_cases hx : ∃ j : Nat, j < c.toNat ∧ x = b + s * (j : Int)
            · obtain ⟨j, hj, rfl⟩ := hx
              rw [inD_at S.s0 (by omega) (by omega)]
              walk_at "gs"
              refine jt_dinI ok ?_
              walk_at "gs"
              rw [spots_at S.s0 hj]
              walk_at "tt"
              walk_at "gs"
              refine ⟨spots b s c.toNat, _, _, rfl, rfl, spots_at S.s0 hj, ?_⟩
              walk_at "gs"
              refine ⟨rfl, _, _, rfl, rfl, ?_⟩
              refine ⟨_, rfl, ?_⟩
              generalize hz : isNum _ _ = zz
              obtain rfl : zz = true := hz.symm.trans isNum_self
              walk_at "tt"
              walk_at "gs"
              refine jt_dninI ok ?_
              walk_at "gs"
              rw [spots_at S.s0 hj]
              walk_at "ff"
              walk_at "ff"
              walk_at "gs"
              exact ⟨_, _, _, rfl⟩
            · rw [inD_no (b := b) (s := s) (c := c) (x := x) fun j j0 j1 e => hx ⟨j.toNat, by omega, by rw [e, Int.toNat_of_nonneg j0]⟩]
              have hg : getK (spots b s c.toNat) (.inl x) = none := spots_no fun j hj e => hx ⟨j, hj, e⟩
              walk_at "gs"
              refine jt_dinI ok ?_
              walk_at "gs"
              rw [hg]
              walk_at "ff"
              walk_at "tt"
              walk_at "gs"
              refine jt_dninI ok ?_
              walk_at "gs"
              rw [hg]
              walk_at "tt"
              walk_at "gs"
              walk_at "ff"
              walk_at "gs"
              exact ⟨_, _, _, rfl⟩
          · rintro ρ ⟨p, q, r, rfl⟩
            exact ⟨p, q, r, rfl⟩
        · rintro ρ ⟨p, q, r, rfl⟩
          walk_at "gs"
          refine ⟨_, rfl, fun _ => ?_, fun q => Bool.noConfusion q⟩
          walk_at "gs"
          exact ⟨rfl, _, _, mem b s c.toNat, rfl, by rw [mem_len]; omega, .inl rfl, .inl rfl, k⟩
end
end K04

namespace K04
open PySem PySem.Spec PyProof.Rows L2 Dw
local macro_rules | `(tactic| walk_at "pg") => `(tactic| (repeat (first | exact pgn_nI | refine pgn_cI (by assumption) ?_)))
local macro_rules | `(tactic| walk_at "mg") => `(tactic| exact FreeB.get (l := blts) (by assumption) (by decide +kernel))
local macro_rules | `(tactic| walk_at "go") => `(tactic| first
  | (with_reducible refine gB ?_); first | refine jb_cons ?_ | refine jb_nil ?_
  | with_reducible refine js_if ?_
  | (with_reducible refine gRO ?_); refine js_retOwnI (by rfl) (by rfl) ?_
  | with_reducible refine js_ret ?_
  | (with_reducible refine gAp ?_); refine js_appI (by rfl) ?_
  | with_reducible refine js_ret0 ?_
  | (with_reducible refine gAN ?_); refine js_setI (by assumption) ?_
  | (with_reducible refine gAT ?_); refine js_unpackI (by assumption) (fun nd => by walk_at "pg") ?_
  | with_reducible refine jt_not ?_ | with_reducible refine jt_isN ?_ | with_reducible refine jt_notN ?_ | with_reducible refine jt_isB ?_ | with_reducible refine jt_notB ?_
  | with_reducible refine jt_lt ?_ | with_reducible refine jt_le ?_ | with_reducible refine jt_gt ?_ | with_reducible refine jt_ge ?_ | with_reducible refine jt_eq ?_ | with_reducible refine jt_ne ?_ | with_reducible refine jt_chLeLt ?_ | with_reducible refine jt_chLeLe ?_
  | with_reducible refine jt_w (jw_and ?_) | with_reducible refine jt_w (jw_or ?_)
  | with_reducible refine jw_and ?_ | with_reducible refine jw_or ?_ | with_reducible refine jw_and1 ?_ | with_reducible refine jw_or1 ?_
  | (with_reducible refine gT ?_); refine jt_val ?_
  | (with_reducible refine gNm ?_); refine je_nm (by rfl) ?_
  | with_reducible refine je_int ?_ | with_reducible refine je_bl ?_ | with_reducible refine je_non ?_ | with_reducible refine je_str ?_
  | with_reducible refine je_add ?_ | with_reducible refine je_sub ?_ | with_reducible refine je_mul ?_ | with_reducible refine je_fdiv ?_ | with_reducible refine je_mod ?_ | with_reducible refine je_pow ?_ | with_reducible refine je_neg ?_
  | with_reducible refine je_isN ?_ | with_reducible refine je_notN ?_ | with_reducible refine je_isB ?_ | with_reducible refine je_notB ?_
  | with_reducible refine je_lt ?_ | with_reducible refine je_le ?_ | with_reducible refine je_gt ?_ | with_reducible refine je_ge ?_ | with_reducible refine je_eq ?_ | with_reducible refine je_ne ?_ | with_reducible refine je_chLeLt ?_ | with_reducible refine je_chLeLe ?_
  | with_reducible refine je_one ?_ | with_reducible refine je_and ?_ | with_reducible refine je_or ?_ | with_reducible refine je_not ?_
  | with_reducible refine je_if ?_ | with_reducible refine je_tup ?_
  | (with_reducible refine gVc ?_); refine jv_cons ?_
  | with_reducible refine jv_nil ?_
  | (with_reducible refine gIx ?_); first | refine je_ixG (jg_ownI (s := .own _) (by rfl) rfl ?_) | refine je_dgetI (by assumption) (by rfl) ?_ | refine je_ix ?_
  | (with_reducible refine gC "isinstance" ?_); first | refine je_isiO (by rfl) (by rfl) ?_ (by walk_at "mg") (by walk_at "mg") | refine je_isiK ?_ (by walk_at "mg") (by walk_at "mg")
  | (with_reducible refine gC "len" ?_); first | refine je_lenG (jg_ownI (s := .own _) (by rfl) rfl ?_) rfl (by walk_at "mg") | refine je_len ?_ rfl (by walk_at "mg")
  | (with_reducible refine gC "abs" ?_); refine je_abs ?_ rfl (by walk_at "mg")
  | (with_reducible refine gC "int" ?_); refine je_int1 ?_ rfl (by walk_at "mg")
  | (with_reducible refine gC "min" ?_); refine je_min2 ?_ rfl (by walk_at "mg")
  | (with_reducible refine gC "max" ?_); refine je_max2 ?_ rfl (by walk_at "mg")
  | (with_reducible refine gC "divmod" ?_); refine je_divmod ?_ rfl (by walk_at "mg")
  | (with_reducible refine gAc ?_); first | refine ja_ownI (by rfl) ?_ | refine ja_cons ?_
  | with_reducible refine ja_nil ?_
  | (with_reducible refine gGN ?_); first | refine jg_ownI (s := .own _) (by rfl) rfl ?_ | refine jg_val ?_
  | (with_reducible refine gG ?_); refine jg_val ?_
  | with_reducible refine jo_none ?_ | with_reducible refine jo_some ?_
  | with_reducible refine jk_cons ?_ | with_reducible refine jk_nil ?_
  | (with_reducible refine gF ?_); refine je_fn (by assumption) (by first | assumption | exact ok_blk (by assumption) _ _ _ _ _) (Nat.le_of_ble_eq_true rfl) ?_
  | with_reducible refine ⟨_, _, rfl, rfl, ?_⟩)
local macro_rules | `(tactic| walk_at "tt") => `(tactic| refine ⟨fun _ => ?_, fun q => (by first | exact absurd q (by decide) | exact Bool.noConfusion (show true = false from q))⟩)
local macro_rules | `(tactic| walk_at "ff") => `(tactic| refine ⟨fun q => (by first | exact absurd q (by decide) | exact Bool.noConfusion (show false = true from q) | exact Bool.noConfusion (show true = false from q)), fun _ => ?_⟩)
local macro_rules | `(tactic| walk_at "gs") => `(tactic| repeat walk_at "go")
section
variable {P : Program} {w : World} {K : PySem.W.Frag} {mg : Str → Option Value} {base : Heap} {f : Addr} {fd : FuncData}

/-! the law's word on one place -/
/-- the errors that the law names: at C the one that flies -/
structure Ers (K : PySem.W.Frag) (mg : Str → Option Value) (C D1 D3 D4 D5 : Addr) : Prop where
  x : XCls K C
  ex : PySem.W.exmOne K (.ref C) (.ref C) = some true
  g0 : mg "BadPlace" = some (.ref C)
  g1 : mg "FoldError" = some (.ref D1)
  g3 : mg "BadIndex" = some (.ref D3)
  g4 : mg "BadStrand" = some (.ref D4)
  g5 : mg "BadLength" = some (.ref D5)
  k1 : PySem.W.kitOne K (.ref C) (.ref D1) = some true
  k2 : PySem.W.kitOne K (.ref C) (.type "ValueError") = some true
  k3 : PySem.W.kitAny K (.ref C) [.ref D3, .ref D4] = some false
  k4 : PySem.W.kitAny K (.ref C) [.ref D5, .ref D4] = some false
theorem sc_leach : FnScope ["_law_strand_here", "_law_k", "_law_i"] ["_law_strand_here", "_law_k", "_law_i"] (defScope (top 29)) := ⟨rfl, rfl, rfl, by decide +kernel, rfl, by decide +kernel, by decide +kernel⟩
def c_leach : Ctr := fun args R _ => ∃ b s c k i : Int, args = [.val (sD b s c), .val (.int k), .val (.int i)] ∧ CMulW s i ∧ CMulW s k ∧ CDivW (c - 1 - i) k ∧ R (.val (eachD b s c k i)) args
theorem ok_leach (F : FnP K "_law_each" (top 29) f fd) : FnOk P w K mg base (L2.CX P w) 1 f fd ["_law_strand_here", "_law_k", "_law_i"] (SpD K c_leach) := by
  refine okD F sc_leach (fun args R XC h => ?_) (fun cdv A outer s H E h0 he se args R XC h ok => ?_)
  · obtain ⟨b, s, c, k, i, rfl, _⟩ := h
    rfl
  · obtain ⟨b, s, c, k, i, rfl, hm, hm2, hd, kk⟩ := h
    walk_at "gs"
    refine ⟨2, _, rfl, rfl, ?_⟩
    refine ⟨_, _, rfl, rfl, ?_⟩
    refine ⟨fun h1 => ?_, fun h1 => ?_⟩
    · walk_at "gs"
      have e0 : eachD b s c k i = .non := if_pos (of_decide_eq_true h1)
      rw [e0] at kk
      exact kk
    · walk_at "gs"
      refine ⟨0, _, rfl, rfl, ?_⟩
      walk_at "gs"
      refine ⟨1, _, rfl, rfl, ?_⟩
      walk_at "gs"
      refine ⟨hm, ?_⟩
      refine ⟨_, _, rfl, rfl, ?_⟩
      walk_at "gs"
      refine ⟨1, _, rfl, rfl, ?_⟩
      walk_at "gs"
      refine ⟨hm2, ?_⟩
      walk_at "gs"
      refine ⟨2, _, rfl, rfl, ?_⟩
      walk_at "gs"
      refine ⟨hd, ?_⟩
      walk_at "gs"
      refine ⟨Nat.le_of_ble_eq_true rfl, ?_⟩
      have e0 : eachD b s c k i = .tup [.int (b + s * i), .int (s * k), .int (1 + (c - 1 - i) / k)] := by
        have hk : k ≠ 0 := fun z => by
          have := hd.1
          omega
        have e1 : (c - i + k - 1) / k = 1 + (c - 1 - i) / k := by
          have : c - i + k - 1 = (c - 1 - i) + k := by omega
          rw [this, Int.add_ediv_of_dvd_right (Int.dvd_refl k), Int.ediv_self hk]
          omega
        show (if i ≥ c then _ else _) = _
        rw [if_neg (of_decide_eq_false h1), e1]
      rw [e0] at kk
      exact kk
theorem sc_lcut : FnScope ["_law_strand_here", "_law_low", "_law_high"] ["_law_strand_here", "_law_low", "_law_high"] (defScope (top 30)) := ⟨rfl, rfl, rfl, by decide +kernel, rfl, by decide +kernel, by decide +kernel⟩
def c_lcut : Ctr := fun args R _ => ∃ b s c a e : Int, args = [.val (sD b s c), .val (.int a), .val (.int e)] ∧ CMulW s a ∧ R (.val (cutD b s a e)) args
theorem ok_lcut (F : FnP K "_law_cut" (top 30) f fd) : FnOk P w K mg base (L2.CX P w) 1 f fd ["_law_strand_here", "_law_low", "_law_high"] (SpD K c_lcut) := by
  refine okD F sc_lcut (fun args R XC h => ?_) (fun cdv A outer s H E h0 he se args R XC h ok => ?_)
  · obtain ⟨b, s, c, a, e, rfl, _⟩ := h
    rfl
  · obtain ⟨b, s, c, a, e, rfl, hm, kk⟩ := h
    walk_at "gs"
    refine ⟨rfl, ?_⟩
    by_cases h3 : a = e
    · have e0 : cutD b s a e = .non := if_pos h3
      rw [e0] at kk
      rw [show decide ((Dt.int a).v = (Dt.int e).v) = true by rw [← h3]; exact decide_eq_true rfl]
      walk_at "tt"
      walk_at "gs"
      exact kk
    · have e0 : cutD b s a e = .tup [.int (b + s * a), .int s, .int (e - a)] := if_neg h3
      rw [e0] at kk
      rw [show decide ((Dt.int a).v = (Dt.int e).v) = false from decide_eq_false fun z => h3 (by injection z)]
      walk_at "ff"
      walk_at "gs"
      refine ⟨0, _, rfl, rfl, ?_⟩
      walk_at "gs"
      refine ⟨1, _, rfl, rfl, ?_⟩
      walk_at "gs"
      refine ⟨hm, ?_⟩
      refine ⟨_, _, rfl, rfl, ?_⟩
      walk_at "gs"
      refine ⟨1, _, rfl, rfl, ?_⟩
      walk_at "gs"
      exact ⟨Nat.le_of_ble_eq_true rfl, kk⟩
def told (p : Int) : Dt := .lst [.int p, .bl true, .bl true, .bl false]
theorem told_py (p : Int) : (told p).py = some (.list [.int p, .bool true, .bool true, .bool false]) := rfl
theorem told_eq (p : Int) : PyData.eqv (.list [.int p, .bool true, .bool true, .bool false]) (.list [.int p, .bool true, .bool true, .bool false]) = true := by simp [PyData.eqv, PyData.eqvAll]
theorem told_sh (p : Int) : SeqAt.shaped (.list [.int p, .bool true, .bool true, .bool false]) = true := by rfl
theorem sc_lat : FnScope ["_law_strand_here", "_law_place", "_law_told", "_law_found", "e", "_law_index"] ["_law_strand_here", "_law_place"] (defScope (top 28)) := ⟨rfl, rfl, rfl, by decide +kernel, rfl, by decide +kernel, by decide +kernel⟩
def c_lat : Ctr := fun args R _ => ∃ b s c p : Int, args = [.val (sD b s c), .val (.int p)] ∧ StrOk b s c ∧ Sm 110 p ∧ R (.val (.bl true)) args
theorem mul_one_abs {x y : Int} (h : x * y = 1) : x.natAbs = 1 := by
  have e : x.natAbs * y.natAbs = 1 := by
    rw [← Int.natAbs_mul, h]
    rfl
  exact Nat.eq_one_of_mul_eq_one_right e
theorem ok_lat {C D1 D3 D4 D5 : Addr} (M : FreeB mg blts) (T : Err P w K mg base "BadPlace" C "place") (Es : Ers K mg C D1 D3 D4 D5) (Nu : Cal P w K mg base "_law_is_number" 1 c_num) (At : Cal P w K mg base "member_at" 3 (c_at C)) (In : Cal P w K mg base "place_in" 1 c_in)
    (F : FnP K "_law_at" (top 28) f fd) : FnOk P w K mg base (L2.CX P w) 4 f fd ["_law_strand_here", "_law_place"] (SpD K c_lat) := by
  refine okD F sc_lat (fun args R XC h => ?_) (fun cdv A outer s H E h0 he se args R XC h ok => ?_)
  · obtain ⟨b, s, c, p, rfl, _⟩ := h
    rfl
  · obtain ⟨b, s, c, p, rfl, S, hp, k⟩ := h
    have hm : CMulW s p := cmul_sm S.sB hp (by decide) (by decide) (by decide)
    walk_at "go"
    walk_at "go"
    walk_at "go"
    walk_at "go"
    walk_at "go"
    walk_at "go"
    refine jb_cut (fun ρ => ρ = if 0 ≤ p ∧ p < c then [.val (sD b s c), .val (.int p), .val .non, .val (.int (b + s * p)), .no, .no] else [.val (sD b s c), .val (.int p), .val (told p), .val .non, .no, .no]) ?_ ?_
    · refine js_try (i := 4) (c := .ref C) ok (fun x ρ => ¬ (0 ≤ p ∧ p < c) ∧ x = ⟨C, some ("place", .int p)⟩ ∧ ρ = [.val (sD b s c), .val (.int p), .val .non, .val .non, .no, .no]) rfl rfl rfl rfl ⟨rfl, by decide, .inl Es.g0⟩ rfl ?_ ?_
      · intro B pn xe W okB
        walk_at "gs"
        refine ⟨rfl, b, s, c, p, rfl, hm, fun z => ?_, fun z => ⟨z, rfl, rfl⟩⟩
        walk_at "gs"
        show _ = _
        rw [if_pos z]
        rfl
      · rintro x ρ ⟨z, rfl, rfl⟩
        refine ⟨true, Es.ex, fun _ a d oe pn hz hv hd => ?_, fun q => Bool.noConfusion q⟩
        cases d with
        | none => cases hd rfl
        | some dd =>
          refine jb_cons (js_set (i := 2) ok.nd (je_new (jn_lst ?_)))
          refine jv_cons (je_excFld (i := 4) Es.x T.no hz hv rfl ?_)
          refine jv_cons (je_isX (i := 4) (v := .ref D1) (u := .ref D1) Es.x hz hv rfl rfl ⟨rfl, .inl ⟨Es.g1, rfl⟩, .own D1, by decide⟩ Es.k1 ?_ rfl (by walk_at "mg"))
          refine jv_cons (je_isX (i := 4) (v := .ty "ValueError") (u := .type "ValueError") Es.x hz hv rfl rfl ⟨rfl, .inr ⟨M.get (by decide +kernel), by decide +kernel, rfl, by decide⟩, .ty _, by decide⟩ Es.k2 ?_ rfl (by walk_at "mg"))
          refine jv_cons (je_isX2 (i := 4) (v := .ref D3) (u := .ref D3) (v' := .ref D4) (u' := .ref D4) Es.x hz hv rfl rfl ⟨rfl, .inl ⟨Es.g3, rfl⟩, .own D3, by decide⟩ ⟨rfl, .inl ⟨Es.g4, rfl⟩, .own D4, by decide⟩ Es.k3 ?_ rfl (by walk_at "mg"))
          refine jv_nil ⟨by show 4 ≤ 1000000; decide, ?_⟩
          refine jb_nil ?_
          show _ = _
          rw [if_neg z]
          rfl
    · rintro ρ rfl
      by_cases hc : 0 ≤ p ∧ p < c
      · rw [if_pos hc]
        refine jb_cons (js_ifc false [.val (sD b s c), .val (.int p), .val .non, .val (.int (b + s * p)), .no, .no] ?_ (fun q => Bool.noConfusion q) fun _ => ?_)
        · walk_at "gs"
          rw [decide_eq_false (show ¬ p < 0 by omega)]
          walk_at "tt"
          walk_at "gs"
          refine ⟨2, _, rfl, rfl, ?_⟩
          refine ⟨_, _, rfl, rfl, ?_, rfl⟩
          exact decide_eq_false (by omega)
        · walk_at "gs"
          refine ⟨0, _, rfl, rfl, ?_⟩
          walk_at "gs"
          refine ⟨1, _, rfl, rfl, ?_⟩
          walk_at "gs"
          refine ⟨hm, ?_⟩
          walk_at "go"
          walk_at "go"
          refine js_ifc false [.val (sD b s c), .val (.int p), .val .non, .val (.int (b + s * p)), .no, .val (.int (b + s * p))] ?_ (fun q => Bool.noConfusion q) fun _ => ?_
          · walk_at "gs"
            walk_at "tt"
            walk_at "gs"
            refine ⟨rfl, _, _, rfl, rfl, ?_⟩
            refine ⟨_, rfl, ?_⟩
            generalize hz : isNum _ _ = zz
            obtain rfl : zz = true := hz.symm.trans isNum_self
            walk_at "tt"
            walk_at "gs"
            refine ⟨rfl, b, s, c, _, rfl, cdm_of S.s0 S.sB, ?_⟩
            rw [inD_at S.s0 hc.1 hc.2]
            walk_at "gs"
            refine ⟨rfl, _, _, rfl, rfl, ?_⟩
            refine ⟨_, rfl, ?_⟩
            generalize hz : isNum _ _ = zz
            obtain rfl : zz = true := hz.symm.trans isNum_self
            exact ⟨rfl, rfl⟩
          · walk_at "go"
            walk_at "go"
            refine js_ifc false [.val (sD b s c), .val (.int p), .val .non, .val (.int (b + s * p)), .no, .val (.int (b + s * p))] ?_ (fun q => Bool.noConfusion q) fun _ => ?_
            · walk_at "gs"
              refine ⟨1, _, rfl, rfl, ?_⟩
              refine ⟨_, rfl, ?_⟩
              walk_at "gs"
              refine ⟨fun q => ?_, fun q => ⟨rfl, rfl⟩⟩
              have big : 1 < (if s < 0 then -s else s) := of_decide_eq_true q
              have big2 : s.natAbs ≠ 1 := by
                split at big <;> omega
              walk_at "gs"
              refine ⟨rfl, b, s, c, _, rfl, cdm_of S.s0 S.sB, ?_⟩
              rw [inD_no fun j _ _ e => big2 (mul_one_abs (show s * (j - p) = 1 by rw [Int.mul_sub]; omega))]
              walk_at "tt"
              walk_at "gs"
              refine ⟨rfl, b, s, c, _, rfl, cdm_of S.s0 S.sB, ?_⟩
              rw [inD_no fun j _ _ e => big2 (mul_one_abs (show s * (p - j) = 1 by rw [Int.mul_sub]; omega))]
              exact ⟨rfl, rfl⟩
            · walk_at "gs"
              refine ⟨0, _, rfl, rfl, ?_⟩
              walk_at "gs"
              refine ⟨1, _, rfl, rfl, ?_⟩
              refine ⟨_, _, rfl, rfl, ?_⟩
              walk_at "gs"
              refine ⟨rfl, b, s, c, _, rfl, cdm_of S.s0 S.sB, ?_⟩
              rw [inD_no fun j j0 _ e => (Int.mul_eq_zero.mp (show s * (j + 1) = 0 by rw [Int.mul_add]; omega)).elim S.s0 fun z => by omega]
              exact k
      · rw [if_neg hc]
        refine jb_cons (js_ifc true [.val (sD b s c), .val (.int p), .val (told p), .val .non, .no, .no] ?_ (fun _ => ?_) fun q => Bool.noConfusion q)
        · walk_at "gs"
          refine ⟨fun q => ?_, fun q => ⟨rfl, rfl⟩⟩
          have q1 := of_decide_eq_false q
          walk_at "gs"
          refine ⟨2, _, rfl, rfl, ?_⟩
          refine ⟨_, _, rfl, rfl, ?_, rfl⟩
          exact decide_eq_true (by omega)
        · walk_at "go"
          refine js_ret (je_eqD ok ?_)
          walk_at "go"
          refine je_new (jn_lst ?_)
          walk_at "gs"
          refine ⟨Nat.le_of_ble_eq_true rfl, ?_⟩
          refine ⟨_, _, told_py p, told_py p, told_sh p, told_sh p, ?_⟩
          rw [told_eq]
          exact k
end
end K04

namespace K04
open PySem PySem.Spec PyProof.Rows L2 Dw
local macro_rules | `(tactic| walk_at "pg") => `(tactic| (repeat (first | exact pgn_nI | refine pgn_cI (by assumption) ?_)))
local macro_rules | `(tactic| walk_at "mg") => `(tactic| exact FreeB.get (l := blts) (by assumption) (by decide +kernel))
local macro_rules | `(tactic| walk_at "go") => `(tactic| first
  | (with_reducible refine gB ?_); first | refine jb_cons ?_ | refine jb_nil ?_
  | with_reducible refine js_if ?_
  | (with_reducible refine gRO ?_); refine js_retOwnI (by rfl) (by rfl) ?_
  | with_reducible refine js_ret ?_
  | (with_reducible refine gAp ?_); refine js_appI (by rfl) ?_
  | with_reducible refine js_ret0 ?_
  | (with_reducible refine gAN ?_); refine js_setI (by assumption) ?_
  | (with_reducible refine gAT ?_); refine js_unpackI (by assumption) (fun nd => by walk_at "pg") ?_
  | with_reducible refine jt_not ?_ | with_reducible refine jt_isN ?_ | with_reducible refine jt_notN ?_ | with_reducible refine jt_isB ?_ | with_reducible refine jt_notB ?_
  | with_reducible refine jt_lt ?_ | with_reducible refine jt_le ?_ | with_reducible refine jt_gt ?_ | with_reducible refine jt_ge ?_ | with_reducible refine jt_eq ?_ | with_reducible refine jt_ne ?_ | with_reducible refine jt_chLeLt ?_ | with_reducible refine jt_chLeLe ?_
  | with_reducible refine jt_w (jw_and ?_) | with_reducible refine jt_w (jw_or ?_)
  | with_reducible refine jw_and ?_ | with_reducible refine jw_or ?_ | with_reducible refine jw_and1 ?_ | with_reducible refine jw_or1 ?_
  | (with_reducible refine gT ?_); refine jt_val ?_
  | (with_reducible refine gNm ?_); refine je_nm (by rfl) ?_
  | with_reducible refine je_int ?_ | with_reducible refine je_bl ?_ | with_reducible refine je_non ?_ | with_reducible refine je_str ?_
  | with_reducible refine je_add ?_ | with_reducible refine je_sub ?_ | with_reducible refine je_mul ?_ | with_reducible refine je_fdiv ?_ | with_reducible refine je_mod ?_ | with_reducible refine je_pow ?_ | with_reducible refine je_neg ?_
  | with_reducible refine je_isN ?_ | with_reducible refine je_notN ?_ | with_reducible refine je_isB ?_ | with_reducible refine je_notB ?_
  | with_reducible refine je_lt ?_ | with_reducible refine je_le ?_ | with_reducible refine je_gt ?_ | with_reducible refine je_ge ?_ | with_reducible refine je_eq ?_ | with_reducible refine je_ne ?_ | with_reducible refine je_chLeLt ?_ | with_reducible refine je_chLeLe ?_
  | with_reducible refine je_one ?_ | with_reducible refine je_and ?_ | with_reducible refine je_or ?_ | with_reducible refine je_not ?_
  | with_reducible refine je_if ?_ | with_reducible refine je_tup ?_
  | (with_reducible refine gVc ?_); refine jv_cons ?_
  | with_reducible refine jv_nil ?_
  | (with_reducible refine gIx ?_); first | refine je_ixG (jg_ownI (s := .own _) (by rfl) rfl ?_) | refine je_dgetI (by assumption) (by rfl) ?_ | refine je_ix ?_
  | (with_reducible refine gC "isinstance" ?_); first | refine je_isiO (by rfl) (by rfl) ?_ (by walk_at "mg") (by walk_at "mg") | refine je_isiK ?_ (by walk_at "mg") (by walk_at "mg")
  | (with_reducible refine gC "len" ?_); first | refine je_lenG (jg_ownI (s := .own _) (by rfl) rfl ?_) rfl (by walk_at "mg") | refine je_len ?_ rfl (by walk_at "mg")
  | (with_reducible refine gC "abs" ?_); refine je_abs ?_ rfl (by walk_at "mg")
  | (with_reducible refine gC "int" ?_); refine je_int1 ?_ rfl (by walk_at "mg")
  | (with_reducible refine gC "min" ?_); refine je_min2 ?_ rfl (by walk_at "mg")
  | (with_reducible refine gC "max" ?_); refine je_max2 ?_ rfl (by walk_at "mg")
  | (with_reducible refine gC "divmod" ?_); refine je_divmod ?_ rfl (by walk_at "mg")
  | (with_reducible refine gAc ?_); first | refine ja_ownI (by rfl) ?_ | refine ja_cons ?_
  | with_reducible refine ja_nil ?_
  | (with_reducible refine gGN ?_); first | refine jg_ownI (s := .own _) (by rfl) rfl ?_ | refine jg_val ?_
  | (with_reducible refine gG ?_); refine jg_val ?_
  | with_reducible refine jo_none ?_ | with_reducible refine jo_some ?_
  | with_reducible refine jk_cons ?_ | with_reducible refine jk_nil ?_
  | (with_reducible refine gF ?_); refine je_fn (by assumption) (by first | assumption | exact ok_blk (by assumption) _ _ _ _ _) (Nat.le_of_ble_eq_true rfl) ?_
  | with_reducible refine ⟨_, _, rfl, rfl, ?_⟩)
local macro_rules | `(tactic| walk_at "tt") => `(tactic| refine ⟨fun _ => ?_, fun q => (by first | exact absurd q (by decide) | exact Bool.noConfusion (show true = false from q))⟩)
local macro_rules | `(tactic| walk_at "ff") => `(tactic| refine ⟨fun q => (by first | exact absurd q (by decide) | exact Bool.noConfusion (show false = true from q) | exact Bool.noConfusion (show true = false from q)), fun _ => ?_⟩)
local macro_rules | `(tactic| walk_at "gs") => `(tactic| repeat walk_at "go")
section
variable {P : Program} {w : World} {K : PySem.W.Frag} {mg : Str → Option Value} {base : Heap} {f : Addr} {fd : FuncData}
theorem sc_ctold : FnScope ["_law_strand_here", "_law_low", "_law_high", "_law_which", "_law_told", "_law_result", "e"] ["_law_strand_here", "_law_low", "_law_high", "_law_which"] (defScope (top 31)) := ⟨rfl, rfl, rfl, by decide +kernel, rfl, by decide +kernel, by decide +kernel⟩
/-- what strand_cut tells: an error's report or a strand -/
def cutT (b s c a : Int) (o : Option Int) : Dt := if ¬ (0 ≤ a ∧ a ≤ c) then told a else if ¬ (a ≤ o.getD c ∧ o.getD c ≤ c) then told (o.getD c) else .non
def cutR (b s c a : Int) (o : Option Int) : Dt := if (0 ≤ a ∧ a ≤ c) ∧ (a ≤ o.getD c ∧ o.getD c ≤ c) then cutD b s a (o.getD c) else .non
def lowOf (w lo : Int) : Int := if w = 0 ∨ w = 1 then lo else 0
def hiOf (w hi : Int) : Option Int := if w = 0 ∨ w = 2 then some hi else none
def c_ctold : Ctr := fun args R _ => ∃ b s c lo hi w : Int, args = [.val (sD b s c), .val (.int lo), .val (.int hi), .val (.int w)] ∧ StrOk b s c ∧ (0 ≤ w ∧ w < 4) ∧
  R (.new [cutT b s c (lowOf w lo) (hiOf w hi), cutR b s c (lowOf w lo) (hiOf w hi)]) args
theorem cmul_le {s a c : Int} (hs : Sm 100 s) (h0 : 0 ≤ a) (h1 : a ≤ c) (hc : c < 2 ^ 100) : CMulW s a := cmul_sm hs (show Sm 100 a by unfold Sm; omega) (by decide) (by decide) (by decide)
theorem cut_1 {b s c a : Int} {o : Option Int} (h : ¬ (0 ≤ a ∧ a ≤ c)) : cutT b s c a o = told a ∧ cutR b s c a o = .non := ⟨if_pos h, if_neg fun z => h z.1⟩
theorem cut_2 {b s c a : Int} {o : Option Int} (h : 0 ≤ a ∧ a ≤ c) (h2 : ¬ (a ≤ o.getD c ∧ o.getD c ≤ c)) : cutT b s c a o = told (o.getD c) ∧ cutR b s c a o = .non :=
  ⟨by unfold cutT; rw [if_neg (fun z => z h), if_pos h2], if_neg fun z => h2 z.2⟩
theorem cut_3 {b s c a : Int} {o : Option Int} (h : 0 ≤ a ∧ a ≤ c) (h2 : a ≤ o.getD c ∧ o.getD c ≤ c) : cutT b s c a o = .non ∧ cutR b s c a o = cutD b s a (o.getD c) :=
  ⟨by unfold cutT; rw [if_neg (fun z => z h), if_neg (fun z => z h2)], if_pos ⟨h, h2⟩⟩
theorem ok_ctold {C D1 D3 D4 D5 : Addr} (M : FreeB mg blts) (T : Err P w K mg base "BadPlace" C "place") (Es : Ers K mg C D1 D3 D4 D5) (C2 : CalK P w K mg base "strand_cut" 4 (c_cut C) 1 ["begin", "end"] fun as zs => as ++ zs)
    (C1 : CalK P w K mg base "strand_cut" 4 (c_cut C) 1 ["begin"] fun as zs => as ++ (zs ++ [.v .non])) (Ce : CalK P w K mg base "strand_cut" 4 (c_cut C) 1 ["end"] fun as zs => as ++ (.v (.int 0) :: zs)) (C0 : CalD P w K mg base "strand_cut" 4 (c_cut C) [.v (.int 0), .v .non])
    (F : FnP K "_law_cut_told" (top 31) f fd) : FnOk P w K mg base (L2.CX P w) 5 f fd ["_law_strand_here", "_law_low", "_law_high", "_law_which"] (SpD K c_ctold) := by
  refine okD F sc_ctold (fun args R XC h => ?_) (fun cdv A outer s H E h0 he se args R XC h ok => ?_)
  · obtain ⟨b, s, c, lo, hi, w, rfl, _⟩ := h
    rfl
  · obtain ⟨b, s, c, lo, hi, wh, rfl, S, hw, k⟩ := h
    walk_at "go"
    walk_at "go"
    walk_at "go"
    walk_at "go"
    walk_at "go"
    walk_at "go"
    refine jb_cut (fun ρ => ρ = [.val (sD b s c), .val (.int lo), .val (.int hi), .val (.int wh), .val (cutT b s c (lowOf wh lo) (hiOf wh hi)), .val (cutR b s c (lowOf wh lo) (hiOf wh hi)), .no]) ?_ ?_
    · refine js_try (i := 6) (c := .ref C) ok (fun x ρ => ∃ q : Int, x = ⟨C, some ("place", .int q)⟩ ∧ cutT b s c (lowOf wh lo) (hiOf wh hi) = told q ∧ cutR b s c (lowOf wh lo) (hiOf wh hi) = .non ∧ ρ = [.val (sD b s c), .val (.int lo), .val (.int hi), .val (.int wh), .val .non, .val .non, .no]) rfl rfl rfl rfl ⟨rfl, by decide, .inl Es.g0⟩ rfl ?_ ?_
      · intro B pn xe W okB
        rcases (show wh = 0 ∨ wh = 1 ∨ wh = 2 ∨ wh = 3 by omega) with rfl | rfl | rfl | rfl
        · walk_at "gs"
          refine ⟨rfl, ?_⟩
          walk_at "tt"
          walk_at "go"
          refine js_setI okB (je_fnK C2 okB (Nat.le_of_ble_eq_true rfl) ?_)
          walk_at "gs"
          refine ⟨rfl, rfl, rfl, b, s, c, lo, some hi, rfl, fun z1 z2 => cmul_le S.sB z1 z2 S.cB, fun z => ⟨lo, rfl, (cut_1 z).1, (cut_1 z).2, rfl⟩, fun z z2 => ⟨hi, rfl, (cut_2 z z2).1, (cut_2 z z2).2, rfl⟩, fun z z2 => ?_⟩
          walk_at "gs"
          show _ = _
          rw [show cutT b s c (lowOf 0 lo) (hiOf 0 hi) = .non from (cut_3 z z2).1, show cutR b s c (lowOf 0 lo) (hiOf 0 hi) = cutD b s lo hi from (cut_3 (o := some hi) z z2).2]
          rfl
        · walk_at "gs"
          refine ⟨rfl, ?_⟩
          walk_at "ff"
          walk_at "gs"
          refine ⟨rfl, ?_⟩
          walk_at "tt"
          walk_at "go"
          refine js_setI okB (je_fnK C1 okB (Nat.le_of_ble_eq_true rfl) ?_)
          walk_at "gs"
          refine ⟨rfl, rfl, rfl, b, s, c, lo, none, rfl, fun z1 z2 => cmul_le S.sB z1 z2 S.cB, fun z => ⟨lo, rfl, (cut_1 z).1, (cut_1 z).2, rfl⟩, fun z z2 => ⟨c, rfl, (cut_2 z z2).1, (cut_2 z z2).2, rfl⟩, fun z z2 => ?_⟩
          walk_at "gs"
          show _ = _
          rw [show cutT b s c (lowOf 1 lo) (hiOf 1 hi) = .non from (cut_3 z z2).1, show cutR b s c (lowOf 1 lo) (hiOf 1 hi) = cutD b s lo c from (cut_3 (o := none) z z2).2]
          rfl
        · walk_at "gs"
          refine ⟨rfl, ?_⟩
          walk_at "ff"
          walk_at "gs"
          refine ⟨rfl, ?_⟩
          walk_at "ff"
          walk_at "gs"
          refine ⟨rfl, ?_⟩
          walk_at "tt"
          walk_at "go"
          refine js_setI okB (je_fnK Ce okB (Nat.le_of_ble_eq_true rfl) ?_)
          walk_at "gs"
          refine ⟨rfl, rfl, rfl, b, s, c, 0, some hi, rfl, fun z1 z2 => cmul_le S.sB z1 z2 S.cB, fun z => ⟨0, rfl, (cut_1 z).1, (cut_1 z).2, rfl⟩, fun z z2 => ⟨hi, rfl, (cut_2 z z2).1, (cut_2 z z2).2, rfl⟩, fun z z2 => ?_⟩
          walk_at "gs"
          show _ = _
          rw [show cutT b s c (lowOf 2 lo) (hiOf 2 hi) = .non from (cut_3 z z2).1, show cutR b s c (lowOf 2 lo) (hiOf 2 hi) = cutD b s 0 hi from (cut_3 (o := some hi) z z2).2]
          rfl
        · walk_at "gs"
          refine ⟨rfl, ?_⟩
          walk_at "ff"
          walk_at "gs"
          refine ⟨rfl, ?_⟩
          walk_at "ff"
          walk_at "gs"
          refine ⟨rfl, ?_⟩
          walk_at "ff"
          walk_at "go"
          refine js_setI okB (je_fnD C0 okB (Nat.le_of_ble_eq_true rfl) ?_)
          walk_at "gs"
          refine ⟨rfl, b, s, c, 0, none, rfl, fun z1 z2 => cmul_le S.sB z1 z2 S.cB, fun z => ⟨0, rfl, (cut_1 z).1, (cut_1 z).2, rfl⟩, fun z z2 => ⟨c, rfl, (cut_2 z z2).1, (cut_2 z z2).2, rfl⟩, fun z z2 => ?_⟩
          walk_at "gs"
          show _ = _
          rw [show cutT b s c (lowOf 3 lo) (hiOf 3 hi) = .non from (cut_3 z z2).1, show cutR b s c (lowOf 3 lo) (hiOf 3 hi) = cutD b s 0 c from (cut_3 (o := none) z z2).2]
          rfl
      · rintro x ρ ⟨q, rfl, e1, e2, rfl⟩
        refine ⟨true, Es.ex, fun _ a d oe pn hz hv hd => ?_, fun q => Bool.noConfusion q⟩
        cases d with
        | none => cases hd rfl
        | some dd =>
          refine jb_cons (js_set (i := 4) ok.nd (je_new (jn_lst ?_)))
          refine jv_cons (je_excFld (i := 6) Es.x T.no hz hv rfl ?_)
          refine jv_cons (je_isX (i := 6) (v := .ref D1) (u := .ref D1) Es.x hz hv rfl rfl ⟨rfl, .inl ⟨Es.g1, rfl⟩, .own D1, by decide⟩ Es.k1 ?_ rfl (by walk_at "mg"))
          refine jv_cons (je_isX (i := 6) (v := .ty "ValueError") (u := .type "ValueError") Es.x hz hv rfl rfl ⟨rfl, .inr ⟨M.get (by decide +kernel), by decide +kernel, rfl, by decide⟩, .ty _, by decide⟩ Es.k2 ?_ rfl (by walk_at "mg"))
          refine jv_cons (je_isX2 (i := 6) (v := .ref D5) (u := .ref D5) (v' := .ref D4) (u' := .ref D4) Es.x hz hv rfl rfl ⟨rfl, .inl ⟨Es.g5, rfl⟩, .own D5, by decide⟩ ⟨rfl, .inl ⟨Es.g4, rfl⟩, .own D4, by decide⟩ Es.k4 ?_ rfl (by walk_at "mg"))
          refine jv_nil ⟨by show 4 ≤ 1000000; decide, ?_⟩
          refine jb_nil ?_
          show _ = _
          rw [e1, e2]
          rfl
    · rintro ρ rfl
      walk_at "go"
      refine js_retN (jn_lst ?_)
      walk_at "gs"
      exact ⟨Nat.le_of_ble_eq_true rfl, k⟩
end
end K04

namespace K04
open PySem PySem.Spec PyProof.Rows L2 Dw
local macro_rules | `(tactic| walk_at "pg") => `(tactic| (repeat (first | exact pgn_nI | refine pgn_cI (by assumption) ?_)))
local macro_rules | `(tactic| walk_at "mg") => `(tactic| exact FreeB.get (l := blts) (by assumption) (by decide +kernel))
local macro_rules | `(tactic| walk_at "go") => `(tactic| first
  | (with_reducible refine gB ?_); first | refine jb_cons ?_ | refine jb_nil ?_
  | with_reducible refine js_if ?_
  | (with_reducible refine gRO ?_); refine js_retOwnI (by rfl) (by rfl) ?_
  | with_reducible refine js_ret ?_
  | (with_reducible refine gAp ?_); refine js_appI (by rfl) ?_
  | with_reducible refine js_ret0 ?_
  | (with_reducible refine gAN ?_); refine js_setI (by assumption) ?_
  | (with_reducible refine gAT ?_); refine js_unpackI (by assumption) (fun nd => by walk_at "pg") ?_
  | with_reducible refine jt_not ?_ | with_reducible refine jt_isN ?_ | with_reducible refine jt_notN ?_ | with_reducible refine jt_isB ?_ | with_reducible refine jt_notB ?_
  | with_reducible refine jt_lt ?_ | with_reducible refine jt_le ?_ | with_reducible refine jt_gt ?_ | with_reducible refine jt_ge ?_ | with_reducible refine jt_eq ?_ | with_reducible refine jt_ne ?_ | with_reducible refine jt_chLeLt ?_ | with_reducible refine jt_chLeLe ?_
  | with_reducible refine jt_w (jw_and ?_) | with_reducible refine jt_w (jw_or ?_)
  | with_reducible refine jw_and ?_ | with_reducible refine jw_or ?_ | with_reducible refine jw_and1 ?_ | with_reducible refine jw_or1 ?_
  | (with_reducible refine gT ?_); refine jt_val ?_
  | (with_reducible refine gNm ?_); refine je_nm (by rfl) ?_
  | with_reducible refine je_int ?_ | with_reducible refine je_bl ?_ | with_reducible refine je_non ?_ | with_reducible refine je_str ?_
  | with_reducible refine je_add ?_ | with_reducible refine je_sub ?_ | with_reducible refine je_mul ?_ | with_reducible refine je_fdiv ?_ | with_reducible refine je_mod ?_ | with_reducible refine je_pow ?_ | with_reducible refine je_neg ?_
  | with_reducible refine je_isN ?_ | with_reducible refine je_notN ?_ | with_reducible refine je_isB ?_ | with_reducible refine je_notB ?_
  | with_reducible refine je_lt ?_ | with_reducible refine je_le ?_ | with_reducible refine je_gt ?_ | with_reducible refine je_ge ?_ | with_reducible refine je_eq ?_ | with_reducible refine je_ne ?_ | with_reducible refine je_chLeLt ?_ | with_reducible refine je_chLeLe ?_
  | with_reducible refine je_one ?_ | with_reducible refine je_and ?_ | with_reducible refine je_or ?_ | with_reducible refine je_not ?_
  | with_reducible refine je_if ?_ | with_reducible refine je_tup ?_
  | (with_reducible refine gVc ?_); refine jv_cons ?_
  | with_reducible refine jv_nil ?_
  | (with_reducible refine gIx ?_); first | refine je_ixG (jg_ownI (s := .own _) (by rfl) rfl ?_) | refine je_dgetI (by assumption) (by rfl) ?_ | refine je_ix ?_
  | (with_reducible refine gC "isinstance" ?_); first | refine je_isiO (by rfl) (by rfl) ?_ (by walk_at "mg") (by walk_at "mg") | refine je_isiK ?_ (by walk_at "mg") (by walk_at "mg")
  | (with_reducible refine gC "len" ?_); first | refine je_lenG (jg_ownI (s := .own _) (by rfl) rfl ?_) rfl (by walk_at "mg") | refine je_len ?_ rfl (by walk_at "mg")
  | (with_reducible refine gC "abs" ?_); refine je_abs ?_ rfl (by walk_at "mg")
  | (with_reducible refine gC "int" ?_); refine je_int1 ?_ rfl (by walk_at "mg")
  | (with_reducible refine gC "min" ?_); refine je_min2 ?_ rfl (by walk_at "mg")
  | (with_reducible refine gC "max" ?_); refine je_max2 ?_ rfl (by walk_at "mg")
  | (with_reducible refine gC "divmod" ?_); refine je_divmod ?_ rfl (by walk_at "mg")
  | (with_reducible refine gAc ?_); first | refine ja_ownI (by rfl) ?_ | refine ja_cons ?_
  | with_reducible refine ja_nil ?_
  | (with_reducible refine gGN ?_); first | refine jg_ownI (s := .own _) (by rfl) rfl ?_ | refine jg_val ?_
  | (with_reducible refine gG ?_); refine jg_val ?_
  | with_reducible refine jo_none ?_ | with_reducible refine jo_some ?_
  | with_reducible refine jk_cons ?_ | with_reducible refine jk_nil ?_
  | (with_reducible refine gF ?_); refine je_fn (by assumption) (by first | assumption | exact ok_blk (by assumption) _ _ _ _ _) (Nat.le_of_ble_eq_true rfl) ?_
  | with_reducible refine ⟨_, _, rfl, rfl, ?_⟩)
local macro_rules | `(tactic| walk_at "tt") => `(tactic| refine ⟨fun _ => ?_, fun q => (by first | exact absurd q (by decide) | exact Bool.noConfusion (show true = false from q))⟩)
local macro_rules | `(tactic| walk_at "ff") => `(tactic| refine ⟨fun q => (by first | exact absurd q (by decide) | exact Bool.noConfusion (show false = true from q) | exact Bool.noConfusion (show true = false from q)), fun _ => ?_⟩)
local macro_rules | `(tactic| walk_at "gs") => `(tactic| repeat walk_at "go")
section
variable {P : Program} {w : World} {K : PySem.W.Frag} {mg : Str → Option Value} {base : Heap} {f : Addr} {fd : FuncData}

/-! the cuts, what is nearly a strand -/
theorem sc_cuts : FnScope ["_law_strand_here", "_law_low", "_law_high", "_law_count", "_law_which", "_law_first", "_law_last", "_law_told", "_law_wrong"] ["_law_strand_here", "_law_low", "_law_high"] (defScope (top 32)) := ⟨rfl, rfl, rfl, by decide +kernel, rfl, by decide +kernel, by decide +kernel⟩
def c_cuts : Ctr := fun args R _ => ∃ b s c lo hi : Int, args = [.val (sD b s c), .val (.int lo), .val (.int hi)] ∧ StrOk b s c ∧ R (.val (.bl true)) args
theorem cutD_due (b s a e : Int) : cutD b s a e = .non ∨ ∃ ns : List Int, cutD b s a e = .tup (iz ns) ∧ ns.length ≤ 1000000 := by
  unfold cutD
  split
  · exact .inl rfl
  · exact .inr ⟨[b + s * a, s, e - a], rfl, by show 3 ≤ 1000000; decide⟩
theorem cutT_cases (b s c a : Int) (o : Option Int) : (cutT b s c a o = .non ∧ (0 ≤ a ∧ a ≤ c) ∧ (a ≤ o.getD c ∧ o.getD c ≤ c)) ∨ ∃ q, cutT b s c a o = told q := by
  by_cases h : 0 ≤ a ∧ a ≤ c
  · by_cases h2 : a ≤ o.getD c ∧ o.getD c ≤ c
    · exact .inl ⟨(cut_3 h h2).1, h, h2⟩
    · exact .inr ⟨_, (cut_2 h h2).1⟩
  · exact .inr ⟨_, (cut_1 h).1⟩
theorem ok_cuts (M : FreeB mg blts) (Ct : Cal P w K mg base "_law_cut_told" 5 c_ctold) (Lc : Cal P w K mg base "_law_cut" 1 c_lcut) (Du : Cal P w K mg base "_law_is_due" 3 c_due) (F : FnP K "_law_cuts" (top 32) f fd) : FnOk P w K mg base (L2.CX P w) 6 f fd ["_law_strand_here", "_law_low", "_law_high"] (SpD K c_cuts) := by
  refine okD F sc_cuts (fun args R XC h => ?_) (fun cdv A outer s H E h0 he se args R XC h ok => ?_)
  · obtain ⟨b, s, c, lo, hi, rfl, _⟩ := h
    rfl
  · obtain ⟨b, s, c, lo, hi, rfl, S, k⟩ := h
    walk_at "gs"
    refine ⟨2, _, rfl, rfl, ?_⟩
    walk_at "go"
    refine js_forI1 ok (by walk_at "mg") ?_
    walk_at "gs"
    refine ⟨_, fun i ρ => ∃ (w0 f0 l0 t0 r0 : Sl), ρ = [.val (sD b s c), .val (.int lo), .val (.int hi), .val (.int c), w0, f0, l0, t0, r0], rfl, ⟨_, _, _, _, _, rfl⟩, ?_, ?_⟩
    · rintro i ρ hi4 ⟨w0, f0, l0, t0, r0, rfl⟩
      walk_at "go"
      walk_at "go"
      walk_at "go"
      walk_at "go"
      walk_at "go"
      walk_at "go"
      refine jb_cut (fun ρ => ρ = [.val (sD b s c), .val (.int lo), .val (.int hi), .val (.int c), .val (.int (i : Int)), .val (.int (lowOf (i : Int) lo)), .val (.int hi), t0, r0]) ?_ ?_
      · rcases (show i = 0 ∨ i = 1 ∨ i = 2 ∨ i = 3 by omega) with rfl | rfl | rfl | rfl
        · walk_at "gs"
          walk_at "ff"
          walk_at "gs"
          rfl
        · walk_at "gs"
          walk_at "ff"
          walk_at "gs"
          rfl
        · walk_at "gs"
          walk_at "tt"
          walk_at "gs"
          rfl
        · walk_at "gs"
          walk_at "tt"
          walk_at "gs"
          rfl
      · rintro ρ rfl
        refine jb_cut (fun ρ => ρ = [.val (sD b s c), .val (.int lo), .val (.int hi), .val (.int c), .val (.int (i : Int)), .val (.int (lowOf (i : Int) lo)), .val (.int ((hiOf (i : Int) hi).getD c)), t0, r0]) ?_ ?_
        · rcases (show i = 0 ∨ i = 1 ∨ i = 2 ∨ i = 3 by omega) with rfl | rfl | rfl | rfl
          · walk_at "gs"
            refine ⟨rfl, ?_⟩
            walk_at "tt"
            walk_at "gs"
            refine ⟨rfl, ?_⟩
            walk_at "ff"
            walk_at "gs"
            rfl
          · walk_at "gs"
            refine ⟨rfl, ?_⟩
            walk_at "ff"
            walk_at "tt"
            walk_at "gs"
            rfl
          · walk_at "gs"
            refine ⟨rfl, ?_⟩
            walk_at "tt"
            walk_at "gs"
            refine ⟨rfl, ?_⟩
            walk_at "ff"
            walk_at "gs"
            rfl
          · walk_at "gs"
            refine ⟨rfl, ?_⟩
            walk_at "tt"
            walk_at "gs"
            refine ⟨rfl, ?_⟩
            walk_at "tt"
            walk_at "gs"
            rfl
        · rintro ρ rfl
          generalize ha : lowOf (i : Int) lo = a
          generalize ho : hiOf (i : Int) hi = o
          walk_at "go"
          refine js_setI ok (je_new (jn_fn Ct ok (Nat.le_of_ble_eq_true rfl) ?_))
          walk_at "gs"
          refine ⟨rfl, b, s, c, lo, hi, _, rfl, S, by omega, _, rfl, ?_⟩
          rw [ha, ho]
          walk_at "go"
          walk_at "go"
          walk_at "go"
          refine jb_cut (fun ρ => ρ = [.val (sD b s c), .val (.int lo), .val (.int hi), .val (.int c), .val (.int (i : Int)), .val (.int a), .val (.int (o.getD c)), .val (.lst [cutT b s c a o, cutR b s c a o]), .val (cutT b s c a o)]) ?_ ?_
          · by_cases h1 : 0 ≤ a ∧ a ≤ c
            · refine js_ifc false [.val (sD b s c), .val (.int lo), .val (.int hi), .val (.int c), .val (.int (i : Int)), .val (.int a), .val (.int (o.getD c)), .val (.lst [cutT b s c a o, cutR b s c a o]), .val .non] ?_ (fun q => Bool.noConfusion q) fun _ => ?_
              · walk_at "gs"
                rw [decide_eq_false (show ¬ a < 0 by omega)]
                walk_at "tt"
                walk_at "gs"
                exact ⟨decide_eq_false (by omega), rfl⟩
              · by_cases h2 : a ≤ o.getD c ∧ o.getD c ≤ c
                · rw [(cut_3 (b := b) (s := s) h1 h2).1]
                  walk_at "gs"
                  rw [decide_eq_false (show ¬ o.getD c < a by omega)]
                  walk_at "tt"
                  walk_at "gs"
                  rw [decide_eq_false (show ¬ c < o.getD c by omega)]
                  walk_at "ff"
                  walk_at "gs"
                  rfl
                · rw [(cut_2 (b := b) (s := s) h1 h2).1]
                  refine jb_cons (js_ifc true [.val (sD b s c), .val (.int lo), .val (.int hi), .val (.int c), .val (.int (i : Int)), .val (.int a), .val (.int (o.getD c)), .val (.lst [told (o.getD c), cutR b s c a o]), .val .non] ?_ (fun _ => ?_) fun q => Bool.noConfusion q)
                  · walk_at "gs"
                    refine ⟨fun q => ?_, fun q => ⟨rfl, rfl⟩⟩
                    have q1 := of_decide_eq_false q
                    walk_at "gs"
                    exact ⟨decide_eq_true (by omega), rfl⟩
                  · walk_at "go"
                    refine js_setI ok (je_new (jn_lst ?_))
                    walk_at "gs"
                    exact ⟨Nat.le_of_ble_eq_true rfl, by walk_at "gs"; rfl⟩
            · rw [(cut_1 (b := b) (s := s) h1).1]
              refine js_ifc true [.val (sD b s c), .val (.int lo), .val (.int hi), .val (.int c), .val (.int (i : Int)), .val (.int a), .val (.int (o.getD c)), .val (.lst [told a, cutR b s c a o]), .val .non] ?_ (fun _ => ?_) fun q => Bool.noConfusion q
              · walk_at "gs"
                refine ⟨fun q => ?_, fun q => ⟨rfl, rfl⟩⟩
                have q1 := of_decide_eq_false q
                walk_at "gs"
                exact ⟨decide_eq_true (by omega), rfl⟩
              · walk_at "go"
                refine js_setI ok (je_new (jn_lst ?_))
                walk_at "gs"
                exact ⟨Nat.le_of_ble_eq_true rfl, by walk_at "gs"; rfl⟩
          · rintro ρ rfl
            rcases cutT_cases b s c a o with ⟨e, h1, h2⟩ | ⟨q, e⟩
            · rw [e, (cut_3 (b := b) (s := s) h1 h2).2]
              walk_at "gs"
              refine ⟨0, _, rfl, rfl, ?_⟩
              walk_at "gs"
              refine ⟨rfl, ?_⟩
              walk_at "ff"
              walk_at "gs"
              walk_at "tt"
              walk_at "gs"
              refine ⟨1, _, rfl, rfl, ?_⟩
              walk_at "gs"
              refine ⟨rfl, b, s, c, a, _, rfl, cmul_le S.sB h1.1 h1.2 S.cB, ?_⟩
              walk_at "gs"
              refine ⟨rfl, _, rfl, cutD_due _ _ _ _, ?_⟩
              refine ⟨_, rfl, ?_⟩
              walk_at "ff"
              walk_at "gs"
              exact ⟨_, _, _, _, _, rfl⟩
            · rw [e]
              walk_at "go"
              walk_at "go"
              refine jt_neD ok ?_
              walk_at "gs"
              refine ⟨0, _, rfl, rfl, ?_⟩
              walk_at "gs"
              refine ⟨_, _, told_py q, told_py q, told_sh q, told_sh q, ?_⟩
              rw [told_eq]
              walk_at "ff"
              walk_at "gs"
              walk_at "ff"
              walk_at "ff"
              walk_at "gs"
              exact ⟨_, _, _, _, _, rfl⟩
    · rintro ρ ⟨w0, f0, l0, t0, r0, rfl⟩
      walk_at "gs"
      exact k
end
end K04

namespace K04
open PySem PySem.Spec PyProof.Rows L2 Dw
local macro_rules | `(tactic| walk_at "pg") => `(tactic| (repeat (first | exact pgn_nI | refine pgn_cI (by assumption) ?_)))
local macro_rules | `(tactic| walk_at "mg") => `(tactic| exact FreeB.get (l := blts) (by assumption) (by decide +kernel))
local macro_rules | `(tactic| walk_at "go") => `(tactic| first
  | (with_reducible refine gB ?_); first | refine jb_cons ?_ | refine jb_nil ?_
  | with_reducible refine js_if ?_
  | (with_reducible refine gRO ?_); refine js_retOwnI (by rfl) (by rfl) ?_
  | with_reducible refine js_ret ?_
  | (with_reducible refine gAp ?_); refine js_appI (by rfl) ?_
  | with_reducible refine js_ret0 ?_
  | (with_reducible refine gAN ?_); refine js_setI (by assumption) ?_
  | (with_reducible refine gAT ?_); refine js_unpackI (by assumption) (fun nd => by walk_at "pg") ?_
  | with_reducible refine jt_not ?_ | with_reducible refine jt_isN ?_ | with_reducible refine jt_notN ?_ | with_reducible refine jt_isB ?_ | with_reducible refine jt_notB ?_
  | with_reducible refine jt_lt ?_ | with_reducible refine jt_le ?_ | with_reducible refine jt_gt ?_ | with_reducible refine jt_ge ?_ | with_reducible refine jt_eq ?_ | with_reducible refine jt_ne ?_ | with_reducible refine jt_chLeLt ?_ | with_reducible refine jt_chLeLe ?_
  | with_reducible refine jt_w (jw_and ?_) | with_reducible refine jt_w (jw_or ?_)
  | with_reducible refine jw_and ?_ | with_reducible refine jw_or ?_ | with_reducible refine jw_and1 ?_ | with_reducible refine jw_or1 ?_
  | (with_reducible refine gT ?_); refine jt_val ?_
  | (with_reducible refine gNm ?_); refine je_nm (by rfl) ?_
  | with_reducible refine je_int ?_ | with_reducible refine je_bl ?_ | with_reducible refine je_non ?_ | with_reducible refine je_str ?_
  | with_reducible refine je_add ?_ | with_reducible refine je_sub ?_ | with_reducible refine je_mul ?_ | with_reducible refine je_fdiv ?_ | with_reducible refine je_mod ?_ | with_reducible refine je_pow ?_ | with_reducible refine je_neg ?_
  | with_reducible refine je_isN ?_ | with_reducible refine je_notN ?_ | with_reducible refine je_isB ?_ | with_reducible refine je_notB ?_
  | with_reducible refine je_lt ?_ | with_reducible refine je_le ?_ | with_reducible refine je_gt ?_ | with_reducible refine je_ge ?_ | with_reducible refine je_eq ?_ | with_reducible refine je_ne ?_ | with_reducible refine je_chLeLt ?_ | with_reducible refine je_chLeLe ?_
  | with_reducible refine je_one ?_ | with_reducible refine je_and ?_ | with_reducible refine je_or ?_ | with_reducible refine je_not ?_
  | with_reducible refine je_if ?_ | with_reducible refine je_tup ?_
  | (with_reducible refine gVc ?_); refine jv_cons ?_
  | with_reducible refine jv_nil ?_
  | (with_reducible refine gIx ?_); first | refine je_ixG (jg_ownI (s := .own _) (by rfl) rfl ?_) | refine je_dgetI (by assumption) (by rfl) ?_ | refine je_ix ?_
  | (with_reducible refine gC "isinstance" ?_); first | refine je_isiO (by rfl) (by rfl) ?_ (by walk_at "mg") (by walk_at "mg") | refine je_isiK ?_ (by walk_at "mg") (by walk_at "mg")
  | (with_reducible refine gC "len" ?_); first | refine je_lenG (jg_ownI (s := .own _) (by rfl) rfl ?_) rfl (by walk_at "mg") | refine je_len ?_ rfl (by walk_at "mg")
  | (with_reducible refine gC "abs" ?_); refine je_abs ?_ rfl (by walk_at "mg")
  | (with_reducible refine gC "int" ?_); refine je_int1 ?_ rfl (by walk_at "mg")
  | (with_reducible refine gC "min" ?_); refine je_min2 ?_ rfl (by walk_at "mg")
  | (with_reducible refine gC "max" ?_); refine je_max2 ?_ rfl (by walk_at "mg")
  | (with_reducible refine gC "divmod" ?_); refine je_divmod ?_ rfl (by walk_at "mg")
  | (with_reducible refine gAc ?_); first | refine ja_ownI (by rfl) ?_ | refine ja_cons ?_
  | with_reducible refine ja_nil ?_
  | (with_reducible refine gGN ?_); first | refine jg_ownI (s := .own _) (by rfl) rfl ?_ | refine jg_val ?_
  | (with_reducible refine gG ?_); refine jg_val ?_
  | with_reducible refine jo_none ?_ | with_reducible refine jo_some ?_
  | with_reducible refine jk_cons ?_ | with_reducible refine jk_nil ?_
  | (with_reducible refine gF ?_); refine je_fn (by assumption) (by first | assumption | exact ok_blk (by assumption) _ _ _ _ _) (Nat.le_of_ble_eq_true rfl) ?_
  | with_reducible refine ⟨_, _, rfl, rfl, ?_⟩)
local macro_rules | `(tactic| walk_at "tt") => `(tactic| refine ⟨fun _ => ?_, fun q => (by first | exact absurd q (by decide) | exact Bool.noConfusion (show true = false from q))⟩)
local macro_rules | `(tactic| walk_at "ff") => `(tactic| refine ⟨fun q => (by first | exact absurd q (by decide) | exact Bool.noConfusion (show false = true from q) | exact Bool.noConfusion (show true = false from q)), fun _ => ?_⟩)
local macro_rules | `(tactic| walk_at "gs") => `(tactic| repeat walk_at "go")
section
variable {P : Program} {w : World} {K : PySem.W.Frag} {mg : Str → Option Value} {base : Heap} {f : Addr} {fd : FuncData}

/-! what is nearly a strand -/
theorem sc_odd : FnScope ["_law_strand_here", "_law_pick", "_law_b", "_law_s", "_law_c", "_law_menu"] ["_law_strand_here", "_law_pick"] (defScope (top 34)) := ⟨rfl, rfl, rfl, by decide +kernel, rfl, by decide +kernel, by decide +kernel⟩
def c_odd : Ctr := fun args R _ => ∃ b s c p : Int, args = [.val (sD b s c), .val (.int p)] ∧ StrOk b s c ∧ (0 ≤ p ∧ p < 16) ∧ R (.val (.bl true)) args
def menu (b s c : Int) : List Dt := [sD b 0 c, sD b s 0, .lst [.int b, .int s, .int c], .tup [.int b, .int s], .tup [.int b, .int s, .int c, .int 1], .tup [.bl true, .int 1, .int 1], .tup [.int b, .bl true, .int 1], .tup [.int b, .int 1, .bl true],
  sD (-1 - b) 1 c, sD b (-1 - b) (c + 1), .non, .str "strand", .int 5, sD b s (-c), .tup [.int b, .int s, .non], .tup []]
/-- every thing of the menu is no strand, and is_strand may look at it -/
structure Odd (d : Dt) : Prop where
  ob : d.isObj = false
  el : ∀ l, d = .tup l → ∀ x ∈ l, x.isObj = false
  mu : ∀ b s c, d = .tup [.int b, .int s, .int c] → CMulW s (c - 1)
  no : Dt.strand d = false
theorem odd_t {b s c : Int} (h : CMulW s (c - 1)) (n : ¬ (s ≠ 0 ∧ 1 ≤ c ∧ 0 ≤ b ∧ 0 ≤ b + s * (c - 1))) : Odd (sD b s c) := by
  refine ⟨rfl, ?_, ?_, decide_eq_false n⟩
  · rintro l e x hx
    injection e with e
    subst e
    simp only [List.mem_cons, List.mem_nil_iff, or_false] at hx
    rcases hx with rfl | rfl | rfl <;> rfl
  · intro b' s' c' e
    injection e with e
    injection e with e1 e2
    injection e2 with e2 e3
    injection e3 with e3 _
    injection e1 with e1
    injection e2 with e2
    injection e3 with e3
    subst e2 e3
    exact h
theorem odd_o {d : Dt} (ob : d.isObj = false) (el : ∀ l, d = .tup l → ∀ x ∈ l, x.isObj = false) (nt : ∀ b s c, d ≠ .tup [.int b, .int s, .int c]) (no : Dt.strand d = false) : Odd d := ⟨ob, el, fun b s c e => absurd e (nt b s c), no⟩
theorem menu_odd {b s c : Int} (S : StrOk b s c) : ∀ i : Nat, i < 16 → ∃ d, (menu b s c)[i]? = some d ∧ Odd d := by
  have c1 := S.c1
  have b0 := S.b0
  have hsB := S.sB
  have sc1 : Sm 110 (c - 1) := by
    have := S.cB
    unfold Sm
    omega
  intro i hi
  have el0 : ∀ (l0 : List Dt), (∀ x ∈ l0, x.isObj = false) → ∀ l, Dt.tup l0 = .tup l → ∀ x ∈ l, x.isObj = false := by
    rintro l0 h l e
    injection e with e
    subst e
    exact h
  have no1 : ∀ d : Dt, (∀ l, d ≠ .tup l) → ∀ l, d = .tup l → ∀ x ∈ l, x.isObj = false := fun d h l e => absurd e (h l)
  match i, hi with
  | 0, _ => exact ⟨_, rfl, odd_t (cmul_sm (show Sm 1 0 by unfold Sm; decide) sc1 (by decide) (by decide) (by decide)) fun z => z.1 rfl⟩
  | 1, _ => exact ⟨_, rfl, odd_t (cmul_sm hsB (show Sm 1 (0 - 1) by unfold Sm; decide) (by decide) (by decide) (by decide)) fun z => by omega⟩
  | 2, _ => exact ⟨_, rfl, odd_o rfl (no1 _ fun l e => by cases e) (fun _ _ _ e => by cases e) rfl⟩
  | 3, _ => exact ⟨_, rfl, odd_o rfl (el0 _ (by simp [Dt.isObj])) (fun _ _ _ e => by simp at e) rfl⟩
  | 4, _ => exact ⟨_, rfl, odd_o rfl (el0 _ (by simp [Dt.isObj])) (fun _ _ _ e => by simp at e) rfl⟩
  | 5, _ => exact ⟨_, rfl, odd_o rfl (el0 _ (by simp [Dt.isObj])) (fun _ _ _ e => by simp at e) rfl⟩
  | 6, _ => exact ⟨_, rfl, odd_o rfl (el0 _ (by simp [Dt.isObj])) (fun _ _ _ e => by simp at e) rfl⟩
  | 7, _ => exact ⟨_, rfl, odd_o rfl (el0 _ (by simp [Dt.isObj])) (fun _ _ _ e => by simp at e) rfl⟩
  | 8, _ => exact ⟨_, rfl, odd_t (cmul_sm (show Sm 1 1 by unfold Sm; decide) sc1 (by decide) (by decide) (by decide)) fun z => by omega⟩
  | 9, _ =>
    refine ⟨_, rfl, odd_t (cmul_sm (n := 310) (m := 110) ?_ ?_ (by decide) (by decide) (by decide)) fun z => ?_⟩
    · have := S.bB
      unfold Sm
      omega
    · have := S.cB
      unfold Sm
      omega
    · have z4 := z.2.2.2
      have e : (-1 - b) * (c + 1 - 1) = -((1 + b) * c) := by
        rw [← Int.neg_mul]
        congr 1 <;> omega
      have g : (1 + b) * 1 ≤ (1 + b) * c := Int.mul_le_mul_of_nonneg_left c1 (by omega)
      omega
  | 10, _ => exact ⟨_, rfl, odd_o rfl (no1 _ fun l e => by cases e) (fun _ _ _ e => by cases e) rfl⟩
  | 11, _ => exact ⟨_, rfl, odd_o rfl (no1 _ fun l e => by cases e) (fun _ _ _ e => by cases e) rfl⟩
  | 12, _ => exact ⟨_, rfl, odd_o rfl (no1 _ fun l e => by cases e) (fun _ _ _ e => by cases e) rfl⟩
  | 13, _ =>
    refine ⟨_, rfl, odd_t (cmul_sm (m := 110) hsB ?_ (by decide) (by decide) (by decide)) fun z => by omega⟩
    have := S.cB
    unfold Sm
    omega
  | 14, _ => exact ⟨_, rfl, odd_o rfl (el0 _ (by simp [Dt.isObj])) (fun _ _ _ e => by simp at e) rfl⟩
  | 15, _ => exact ⟨_, rfl, odd_o rfl (el0 _ (by simp [Dt.isObj])) (fun _ _ _ e => by simp at e) rfl⟩
  | n + 16, h => exact absurd h (by omega)
theorem ok_odd (M : FreeB mg blts) (Is : Cal P w K mg base "is_strand" 2 c_strand) (F : FnP K "_law_odd" (top 34) f fd) : FnOk P w K mg base (L2.CX P w) 3 f fd ["_law_strand_here", "_law_pick"] (SpD K c_odd) := by
  refine okD F sc_odd (fun args R XC h => ?_) (fun cdv A outer s H E h0 he se args R XC h ok => ?_)
  · obtain ⟨b, s, c, p, rfl, _⟩ := h
    rfl
  · obtain ⟨b, s, c, p, rfl, S, hp, k⟩ := h
    walk_at "gs"
    refine ⟨_, rfl, rfl, ?_⟩
    obtain ⟨i, rfl⟩ := Int.eq_ofNat_of_zero_le hp.1
    obtain ⟨d, hd, O⟩ := menu_odd S i (by omega)
    refine jb_cut (fun ρ => ρ = [.val (sD b s c), .val (.int (i : Int)), .val (.int b), .val (.int s), .val (.int c), .own ((menu b s c).take 8)]) ?_ ?_
    · refine js_setNI ok (jn_lst ?_)
      repeat (first | walk_at "go" | refine ⟨Nat.le_of_ble_eq_true rfl, ?_⟩ | refine je_new (jn_lst ?_))
      rfl
    · rintro ρ rfl
      walk_at "go"
      refine js_setNI ok (jn_cat (i := 5) rfl (jn_lst ?_))
      repeat (first | walk_at "go" | refine ⟨Nat.le_of_ble_eq_true rfl, ?_⟩ | refine ⟨_, rfl, ?_⟩)
      refine ⟨menu b s c, i, d, rfl, rfl, atI_nat hd, ?_⟩
      walk_at "gs"
      refine ⟨rfl, d, rfl, O.ob, O.el, O.mu, ?_⟩
      refine ⟨_, rfl, ?_⟩
      rw [O.no]
      exact k
end
end K04

namespace K04
open PySem PySem.Spec PyProof.Rows L2 Dw
local macro_rules | `(tactic| walk_at "pg") => `(tactic| (repeat (first | exact pgn_nI | refine pgn_cI (by assumption) ?_)))
local macro_rules | `(tactic| walk_at "mg") => `(tactic| exact FreeB.get (l := blts) (by assumption) (by decide +kernel))
local macro_rules | `(tactic| walk_at "go") => `(tactic| first
  | (with_reducible refine gB ?_); first | refine jb_cons ?_ | refine jb_nil ?_
  | with_reducible refine js_if ?_
  | (with_reducible refine gRO ?_); refine js_retOwnI (by rfl) (by rfl) ?_
  | with_reducible refine js_ret ?_
  | (with_reducible refine gAp ?_); refine js_appI (by rfl) ?_
  | with_reducible refine js_ret0 ?_
  | (with_reducible refine gAN ?_); refine js_setI (by assumption) ?_
  | (with_reducible refine gAT ?_); refine js_unpackI (by assumption) (fun nd => by walk_at "pg") ?_
  | with_reducible refine jt_not ?_ | with_reducible refine jt_isN ?_ | with_reducible refine jt_notN ?_ | with_reducible refine jt_isB ?_ | with_reducible refine jt_notB ?_
  | with_reducible refine jt_lt ?_ | with_reducible refine jt_le ?_ | with_reducible refine jt_gt ?_ | with_reducible refine jt_ge ?_ | with_reducible refine jt_eq ?_ | with_reducible refine jt_ne ?_ | with_reducible refine jt_chLeLt ?_ | with_reducible refine jt_chLeLe ?_
  | with_reducible refine jt_w (jw_and ?_) | with_reducible refine jt_w (jw_or ?_)
  | with_reducible refine jw_and ?_ | with_reducible refine jw_or ?_ | with_reducible refine jw_and1 ?_ | with_reducible refine jw_or1 ?_
  | (with_reducible refine gT ?_); refine jt_val ?_
  | (with_reducible refine gNm ?_); refine je_nm (by rfl) ?_
  | with_reducible refine je_int ?_ | with_reducible refine je_bl ?_ | with_reducible refine je_non ?_ | with_reducible refine je_str ?_
  | with_reducible refine je_add ?_ | with_reducible refine je_sub ?_ | with_reducible refine je_mul ?_ | with_reducible refine je_fdiv ?_ | with_reducible refine je_mod ?_ | with_reducible refine je_pow ?_ | with_reducible refine je_neg ?_
  | with_reducible refine je_isN ?_ | with_reducible refine je_notN ?_ | with_reducible refine je_isB ?_ | with_reducible refine je_notB ?_
  | with_reducible refine je_lt ?_ | with_reducible refine je_le ?_ | with_reducible refine je_gt ?_ | with_reducible refine je_ge ?_ | with_reducible refine je_eq ?_ | with_reducible refine je_ne ?_ | with_reducible refine je_chLeLt ?_ | with_reducible refine je_chLeLe ?_
  | with_reducible refine je_one ?_ | with_reducible refine je_and ?_ | with_reducible refine je_or ?_ | with_reducible refine je_not ?_
  | with_reducible refine je_if ?_ | with_reducible refine je_tup ?_
  | (with_reducible refine gVc ?_); refine jv_cons ?_
  | with_reducible refine jv_nil ?_
  | (with_reducible refine gIx ?_); first | refine je_ixG (jg_ownI (s := .own _) (by rfl) rfl ?_) | refine je_dgetI (by assumption) (by rfl) ?_ | refine je_ix ?_
  | (with_reducible refine gC "isinstance" ?_); first | refine je_isiO (by rfl) (by rfl) ?_ (by walk_at "mg") (by walk_at "mg") | refine je_isiK ?_ (by walk_at "mg") (by walk_at "mg")
  | (with_reducible refine gC "len" ?_); first | refine je_lenG (jg_ownI (s := .own _) (by rfl) rfl ?_) rfl (by walk_at "mg") | refine je_len ?_ rfl (by walk_at "mg")
  | (with_reducible refine gC "abs" ?_); refine je_abs ?_ rfl (by walk_at "mg")
  | (with_reducible refine gC "int" ?_); refine je_int1 ?_ rfl (by walk_at "mg")
  | (with_reducible refine gC "min" ?_); refine je_min2 ?_ rfl (by walk_at "mg")
  | (with_reducible refine gC "max" ?_); refine je_max2 ?_ rfl (by walk_at "mg")
  | (with_reducible refine gC "divmod" ?_); refine je_divmod ?_ rfl (by walk_at "mg")
  | (with_reducible refine gAc ?_); first | refine ja_ownI (by rfl) ?_ | refine ja_cons ?_
  | with_reducible refine ja_nil ?_
  | (with_reducible refine gGN ?_); first | refine jg_ownI (s := .own _) (by rfl) rfl ?_ | refine jg_val ?_
  | (with_reducible refine gG ?_); refine jg_val ?_
  | with_reducible refine jo_none ?_ | with_reducible refine jo_some ?_
  | with_reducible refine jk_cons ?_ | with_reducible refine jk_nil ?_
  | (with_reducible refine gF ?_); refine je_fn (by assumption) (by first | assumption | exact ok_blk (by assumption) _ _ _ _ _) (Nat.le_of_ble_eq_true rfl) ?_
  | with_reducible refine ⟨_, _, rfl, rfl, ?_⟩)
local macro_rules | `(tactic| walk_at "tt") => `(tactic| refine ⟨fun _ => ?_, fun q => (by first | exact absurd q (by decide) | exact Bool.noConfusion (show true = false from q))⟩)
local macro_rules | `(tactic| walk_at "ff") => `(tactic| refine ⟨fun q => (by first | exact absurd q (by decide) | exact Bool.noConfusion (show false = true from q) | exact Bool.noConfusion (show true = false from q)), fun _ => ?_⟩)
local macro_rules | `(tactic| walk_at "gs") => `(tactic| repeat walk_at "go")
section
variable {P : Program} {w : World} {K : PySem.W.Frag} {mg : Str → Option Value} {base : Heap} {f : Addr} {fd : FuncData}

/-! rows of members, turned, thinned, cut -/
theorem depth_iz : ∀ ns : List Int, PyData.depthAll (ns.map PyData.int) ≤ 1
  | [] => by simp [PyData.depthAll]
  | n :: ns => by
    have := depth_iz ns
    simp only [List.map_cons, PyData.depthAll, PyData.depth]
    omega
theorem shaped_iz (ns : List Int) : SeqAt.shaped (.list (ns.map PyData.int)) = true := by
  have h := depth_iz ns
  have e : PyData.canLay0 (.list (ns.map PyData.int)) = true := lay_ints ns
  unfold SeqAt.shaped
  rw [e, decide_eq_true]
  · rfl
  · simp only [PyData.depth]
    omega
theorem fm_take {α : Type} (xs : List α) : ∀ m : Nat, (List.range m).filterMap (xs[·]?) = xs.take m
  | 0 => by simp
  | m + 1 => by
    rw [List.range_succ, List.filterMap_append, fm_take xs m, List.take_succ]
    congr 1
theorem pick_rev {α : Type} (xs : List α) : pick xs none none (some (-1)) = xs.reverse := by
  unfold pick
  rw [PySem.W.krv_bounds]
  show (sliceRange ((xs.length : Int) - 1) (-1) (-1)).filterMap (xs[·]?) = _
  rw [PySem.W.krv_sliceRange, PySem.W.krv_range, List.filterMap_reverse, fm_take, List.take_length]
theorem mem_idx {b s : Int} {n i : Nat} (h : i < n) : (mem b s n)[i]? = some (b + s * (i : Int)) := by
  rw [List.getElem?_eq_getElem (by rw [mem_len]; exact h), mem_get h]
theorem mem_rev {b s : Int} {n : Nat} : mem (b + s * ((n : Int) - 1)) (-s) n = (mem b s n).reverse := by
  apply List.ext_getElem
  · simp [mem_len]
  · intro i h1 h2
    have hi : i < n := by rw [mem_len] at h1; exact h1
    rw [mem_get hi, List.getElem_reverse, mem_get (by rw [mem_len]; omega), mem_len]
    have e : ((n - 1 - i : Nat) : Int) = (n : Int) - 1 - (i : Int) := by omega
    rw [e, Int.mul_sub s ((n : Int) - 1) (i : Int), Int.neg_mul]
    omega
theorem fm_map {α : Type} (xs : List α) (g : Nat → Nat) (v : Nat → α) : ∀ m : Nat, (∀ t, t < m → xs[g t]? = some (v t)) → ((List.range m).map g).filterMap (xs[·]?) = (List.range m).map v
  | 0, _ => rfl
  | m + 1, h => by
    rw [List.range_succ, List.map_append, List.map_append, List.filterMap_append, fm_map xs g v m fun t ht => h t (by omega)]
    congr 1
    simp [h m (by omega)]
theorem mem_step {b s i k : Int} {n : Nat} (h0 : 0 ≤ i) (hk : 1 ≤ k) : pick (mem b s n) (some i) none (some k) = if i ≥ (n : Int) then [] else mem (b + s * i) (s * k) ((n - i + k - 1) / k).toNat := by
  have hb : sliceBounds (some i) none (some k) (mem b s n).length = (max 0 (min i (n : Int)), (n : Int), k) := by
    rw [mem_len]
    simp only [sliceBounds, Option.getD_some, if_pos (show k > 0 by omega), if_neg (show ¬ i < 0 by omega)]
  unfold pick
  rw [hb]
  show (sliceRange (max 0 (min i (n : Int))) (n : Int) k).filterMap _ = _
  unfold sliceRange
  rw [if_pos (show k > 0 by omega)]
  by_cases hi : i ≥ (n : Int)
  · rw [if_pos hi, if_neg (by omega)]
    rfl
  · rw [if_neg hi, if_pos (by omega), show max 0 (min i (n : Int)) = i by omega]
    unfold mem
    refine (fm_map (mem b s n) (fun t => (i + k * (t : Int)).toNat) (fun t => b + s * i + s * k * (t : Int)) _ fun t ht => ?_)
    have q : ((t : Int) + 1) * k ≤ (n : Int) - i + k - 1 := by
      refine (Int.le_ediv_iff_mul_le (by omega)).mp ?_
      omega
    rw [Int.add_mul, Int.one_mul, Int.mul_comm] at q
    have p0 : 0 ≤ k * (t : Int) := Int.mul_nonneg (by omega) (by omega)
    rw [mem_idx (by omega), Int.toNat_of_nonneg (by omega), Int.mul_add, Int.mul_assoc]
    congr 1
    omega
theorem mem_cut {b s : Int} {n a e : Nat} (h1 : a ≤ e) (h2 : e ≤ n) : ((mem b s n).drop a).take (e - a) = mem (b + s * (a : Int)) s (e - a) := by
  apply List.ext_getElem
  · simp only [List.length_take, List.length_drop, mem_len]
    omega
  · intro i g1 g2
    have hi : i < e - a := by rw [mem_len] at g2; exact g2
    rw [List.getElem_take, List.getElem_drop, mem_get (by omega), mem_get hi, Int.natCast_add, Int.mul_add]
    omega
end
end K04

namespace K04
open PySem PySem.Spec PyProof.Rows L2 Dw
local macro_rules | `(tactic| walk_at "pg") => `(tactic| (repeat (first | exact pgn_nI | refine pgn_cI (by assumption) ?_)))
local macro_rules | `(tactic| walk_at "mg") => `(tactic| exact FreeB.get (l := blts) (by assumption) (by decide +kernel))
local macro_rules | `(tactic| walk_at "go") => `(tactic| first
  | (with_reducible refine gB ?_); first | refine jb_cons ?_ | refine jb_nil ?_
  | with_reducible refine js_if ?_
  | (with_reducible refine gRO ?_); refine js_retOwnI (by rfl) (by rfl) ?_
  | with_reducible refine js_ret ?_
  | (with_reducible refine gAp ?_); refine js_appI (by rfl) ?_
  | with_reducible refine js_ret0 ?_
  | (with_reducible refine gAN ?_); refine js_setI (by assumption) ?_
  | (with_reducible refine gAT ?_); refine js_unpackI (by assumption) (fun nd => by walk_at "pg") ?_
  | with_reducible refine jt_not ?_ | with_reducible refine jt_isN ?_ | with_reducible refine jt_notN ?_ | with_reducible refine jt_isB ?_ | with_reducible refine jt_notB ?_
  | with_reducible refine jt_lt ?_ | with_reducible refine jt_le ?_ | with_reducible refine jt_gt ?_ | with_reducible refine jt_ge ?_ | with_reducible refine jt_eq ?_ | with_reducible refine jt_ne ?_ | with_reducible refine jt_chLeLt ?_ | with_reducible refine jt_chLeLe ?_
  | with_reducible refine jt_w (jw_and ?_) | with_reducible refine jt_w (jw_or ?_)
  | with_reducible refine jw_and ?_ | with_reducible refine jw_or ?_ | with_reducible refine jw_and1 ?_ | with_reducible refine jw_or1 ?_
  | (with_reducible refine gT ?_); refine jt_val ?_
  | (with_reducible refine gNm ?_); refine je_nm (by rfl) ?_
  | with_reducible refine je_int ?_ | with_reducible refine je_bl ?_ | with_reducible refine je_non ?_ | with_reducible refine je_str ?_
  | with_reducible refine je_add ?_ | with_reducible refine je_sub ?_ | with_reducible refine je_mul ?_ | with_reducible refine je_fdiv ?_ | with_reducible refine je_mod ?_ | with_reducible refine je_pow ?_ | with_reducible refine je_neg ?_
  | with_reducible refine je_isN ?_ | with_reducible refine je_notN ?_ | with_reducible refine je_isB ?_ | with_reducible refine je_notB ?_
  | with_reducible refine je_lt ?_ | with_reducible refine je_le ?_ | with_reducible refine je_gt ?_ | with_reducible refine je_ge ?_ | with_reducible refine je_eq ?_ | with_reducible refine je_ne ?_ | with_reducible refine je_chLeLt ?_ | with_reducible refine je_chLeLe ?_
  | with_reducible refine je_one ?_ | with_reducible refine je_and ?_ | with_reducible refine je_or ?_ | with_reducible refine je_not ?_
  | with_reducible refine je_if ?_ | with_reducible refine je_tup ?_
  | (with_reducible refine gVc ?_); refine jv_cons ?_
  | with_reducible refine jv_nil ?_
  | (with_reducible refine gIx ?_); first | refine je_ixG (jg_ownI (s := .own _) (by rfl) rfl ?_) | refine je_dgetI (by assumption) (by rfl) ?_ | refine je_ix ?_
  | (with_reducible refine gC "isinstance" ?_); first | refine je_isiO (by rfl) (by rfl) ?_ (by walk_at "mg") (by walk_at "mg") | refine je_isiK ?_ (by walk_at "mg") (by walk_at "mg")
  | (with_reducible refine gC "len" ?_); first | refine je_lenG (jg_ownI (s := .own _) (by rfl) rfl ?_) rfl (by walk_at "mg") | refine je_len ?_ rfl (by walk_at "mg")
  | (with_reducible refine gC "abs" ?_); refine je_abs ?_ rfl (by walk_at "mg")
  | (with_reducible refine gC "int" ?_); refine je_int1 ?_ rfl (by walk_at "mg")
  | (with_reducible refine gC "min" ?_); refine je_min2 ?_ rfl (by walk_at "mg")
  | (with_reducible refine gC "max" ?_); refine je_max2 ?_ rfl (by walk_at "mg")
  | (with_reducible refine gC "divmod" ?_); refine je_divmod ?_ rfl (by walk_at "mg")
  | (with_reducible refine gAc ?_); first | refine ja_ownI (by rfl) ?_ | refine ja_cons ?_
  | with_reducible refine ja_nil ?_
  | (with_reducible refine gGN ?_); first | refine jg_ownI (s := .own _) (by rfl) rfl ?_ | refine jg_val ?_
  | (with_reducible refine gG ?_); refine jg_val ?_
  | with_reducible refine jo_none ?_ | with_reducible refine jo_some ?_
  | with_reducible refine jk_cons ?_ | with_reducible refine jk_nil ?_
  | (with_reducible refine gF ?_); refine je_fn (by assumption) (by first | assumption | exact ok_blk (by assumption) _ _ _ _ _) (Nat.le_of_ble_eq_true rfl) ?_
  | with_reducible refine ⟨_, _, rfl, rfl, ?_⟩)
local macro_rules | `(tactic| walk_at "tt") => `(tactic| refine ⟨fun _ => ?_, fun q => (by first | exact absurd q (by decide) | exact Bool.noConfusion (show true = false from q))⟩)
local macro_rules | `(tactic| walk_at "ff") => `(tactic| refine ⟨fun q => (by first | exact absurd q (by decide) | exact Bool.noConfusion (show false = true from q) | exact Bool.noConfusion (show true = false from q)), fun _ => ?_⟩)
local macro_rules | `(tactic| walk_at "gs") => `(tactic| repeat walk_at "go")
section
variable {P : Program} {w : World} {K : PySem.W.Frag} {mg : Str → Option Value} {base : Heap} {f : Addr} {fd : FuncData}

theorem sc_made : FnScope ["_law_strand_here", "_law_k", "_law_i", "_law_low", "_law_high", "_law_count", "_law_row", "_law_turned", "_law_chosen", "_law_kept", "_law_part", "_law_left"] ["_law_strand_here", "_law_k", "_law_i", "_law_low", "_law_high"] (defScope (top 33)) := ⟨rfl, rfl, rfl, by decide +kernel, rfl, by decide +kernel, by decide +kernel⟩
def c_made : Ctr := fun args R _ => ∃ b s c kk i lo hi : Int, args = [.val (sD b s c), .val (.int kk), .val (.int i), .val (.int lo), .val (.int hi)] ∧ StrOk b s c ∧ c ≤ 70 ∧ 1 ≤ kk ∧ Sm 110 kk ∧ 0 ≤ i ∧ Sm 110 i ∧ R (.val (.bl true)) args
theorem sm_mul {n m : Nat} {x y : Int} (h : Sm n x) (k : Sm m y) : Sm (n + m) (x * y) := by
  unfold Sm at *
  rw [Int.natAbs_mul, Nat.pow_add]
  exact Nat.mul_lt_mul'' h k
theorem ok_made {C : Addr} (M : FreeB mg blts) (Li : Cal P w K mg base "_law_listed" 1 c_listed) (Me : Cal P w K mg base "members" 1 c_mem) (Tu : Cal P w K mg base "strand_turned" 2 c_turn) (Ea : Cal P w K mg base "strand_each" 1 c_each) (C2 : CalK P w K mg base "strand_cut" 4 (c_cut C) 1 ["begin", "end"] fun as zs => as ++ zs)
    (F : FnP K "_law_made" (top 33) f fd) : FnOk P w K mg base (L2.CX P w) 5 f fd ["_law_strand_here", "_law_k", "_law_i", "_law_low", "_law_high"] (SpD K c_made) := by
  refine okD F sc_made (fun args R XC h => ?_) (fun cdv A outer s H E h0 he se args R XC h ok => ?_)
  · obtain ⟨b, s, c, kk, i, lo, hi, rfl, _⟩ := h
    rfl
  · obtain ⟨b, s, c, kk, i, lo, hi, rfl, S, hc, hk, skk, hi0, si, k⟩ := h
    have c1 := S.c1
    obtain ⟨n, rfl⟩ := Int.eq_ofNat_of_zero_le (show 0 ≤ c by omega)
    have hs : Sm 400 s := Nat.lt_of_lt_of_le S.sB (by decide +kernel)
    have hns : Sm 400 (-s) := by unfold Sm; rw [Int.natAbs_neg]; exact hs
    walk_at "gs"
    refine ⟨2, _, rfl, rfl, ?_⟩
    walk_at "go"
    refine js_setI ok (je_new (jn_fn Li ok (Nat.le_of_ble_eq_true rfl) ?_))
    walk_at "gs"
    refine ⟨rfl, b, s, _, rfl, by omega, by omega, _, rfl, ?_⟩
    walk_at "gs"
    refine ⟨rfl, b, s, _, rfl, cmul_sm S.sB (show Sm 20 ((n : Int) - 1) by unfold Sm; omega) (by decide) (by decide) (by decide), ?_⟩
    walk_at "gs"
    refine ⟨rfl, b, s, _, kk, i, rfl, cmul_sm S.sB si (by decide) (by decide) (by decide), cmul_sm S.sB skk (by decide) (by decide) (by decide), ⟨by omega, Nat.lt_of_lt_of_le (skk.log (by decide)) (by decide)⟩, ?_⟩
    generalize hP : pick (mem b s n) (some i) none (some kk) = pk
    rw [mem_step hi0 hk] at hP
    walk_at "go"
    refine js_setI ok (je_new (jn_lst (jv_nil ⟨by decide, ?_⟩)))
    refine jb_cut (fun ρ => ρ = [.val (sD b s (n : Int)), .val (.int kk), .val (.int i), .val (.int lo), .val (.int hi), .val (.int (n : Int)), .val (.lst (iz (mem b s n))), .val (sD (b + s * ((n : Int) - 1)) (-s) (n : Int)), .val (eachD b s (n : Int) kk i), .val (.lst (iz pk)), .no, .no]) ?_ ?_
    · by_cases h : i ≥ (n : Int)
      · have e0 : eachD b s (n : Int) kk i = .non := if_pos h
        rw [if_pos h] at hP
        subst hP
        rw [e0]
        walk_at "gs"
        walk_at "ff"
        walk_at "gs"
        rfl
      · have e0 : eachD b s (n : Int) kk i = sD (b + s * i) (s * kk) (((n : Int) - i + kk - 1) / kk) := if_neg h
        rw [if_neg h] at hP
        subst hP
        rw [e0]
        have q0 : 0 ≤ ((n : Int) - i + kk - 1) / kk := Int.ediv_nonneg (by omega) (by omega)
        have q1 : ((n : Int) - i + kk - 1) / kk ≤ 1000000 := by
          have := ceilDiv_le ((n : Int) - i) kk (by omega) hk
          omega
        walk_at "gs"
        walk_at "tt"
        walk_at "go"
        refine js_setI ok (je_new (jn_fn Me ok (Nat.le_of_ble_eq_true rfl) ?_))
        walk_at "gs"
        refine ⟨rfl, _, _, _, rfl, q0, q1, Nat.lt_of_lt_of_le (sm_mul S.sB skk) (by decide +kernel), _, rfl, ?_⟩
        walk_at "gs"
        rfl
    · rintro ρ rfl
      refine jb_cons (js_ifc false [.val (sD b s (n : Int)), .val (.int kk), .val (.int i), .val (.int lo), .val (.int hi), .val (.int (n : Int)), .val (.lst (iz (mem b s n))), .val (sD (b + s * ((n : Int) - 1)) (-s) (n : Int)), .val (eachD b s (n : Int) kk i), .val (.lst (iz pk)), .no, .no] ?_ (fun q => Bool.noConfusion q) fun _ => ?_)
      · refine jt_w (jw_or (jt_neD ok (je_new (jn_fn Me ok (Nat.le_of_ble_eq_true rfl) ?_))))
        walk_at "gs"
        refine ⟨rfl, _, _, _, rfl, by omega, by omega, hns, _, rfl, ?_⟩
        refine je_new (jn_pick ?_)
        walk_at "gs"
        refine ⟨_, rfl, ?_⟩
        walk_at "gs"
        refine ⟨_, iz (mem b s n), rfl, by decide, rfl, ?_⟩
        rw [pick_rev, ← List.map_reverse]
        refine ⟨_, _, py_ints _, py_ints _, shaped_iz _, shaped_iz _, ?_⟩
        rw [eqv_ints, Int.toNat_natCast, mem_rev, decide_eq_true rfl]
        walk_at "tt"
        refine jw_or1 (jt_neD ok ?_)
        walk_at "go"
        refine je_new (jn_pick ?_)
        walk_at "gs"
        refine ⟨_, rfl, ?_⟩
        walk_at "gs"
        refine ⟨_, iz (mem b s n), rfl, by omega, rfl, ?_⟩
        rw [pick_map, mem_step hi0 hk, hP]
        refine ⟨_, _, py_ints _, py_ints _, shaped_iz _, shaped_iz _, ?_⟩
        rw [eqv_ints, decide_eq_true rfl]
        exact ⟨rfl, rfl⟩
      · refine jb_nil ?_
        by_cases hb : lo < 0 ∨ hi < lo ∨ (n : Int) < hi
        · refine jb_cons (js_ifc true [.val (sD b s (n : Int)), .val (.int kk), .val (.int i), .val (.int lo), .val (.int hi), .val (.int (n : Int)), .val (.lst (iz (mem b s n))), .val (sD (b + s * ((n : Int) - 1)) (-s) (n : Int)), .val (eachD b s (n : Int) kk i), .val (.lst (iz pk)), .no, .no] ?_ (fun _ => ?_) fun q => Bool.noConfusion q)
          · walk_at "gs"
            refine ⟨fun q => ?_, fun q => ⟨rfl, rfl⟩⟩
            have q1 := of_decide_eq_false q
            walk_at "gs"
            refine ⟨fun q => ?_, fun q => ⟨rfl, rfl⟩⟩
            have q2 := of_decide_eq_false q
            walk_at "gs"
            exact ⟨decide_eq_true (by omega), rfl⟩
          · walk_at "gs"
            exact k
        · refine jb_cons (js_ifc false [.val (sD b s (n : Int)), .val (.int kk), .val (.int i), .val (.int lo), .val (.int hi), .val (.int (n : Int)), .val (.lst (iz (mem b s n))), .val (sD (b + s * ((n : Int) - 1)) (-s) (n : Int)), .val (eachD b s (n : Int) kk i), .val (.lst (iz pk)), .no, .no] ?_ (fun q => Bool.noConfusion q) fun _ => ?_)
          · walk_at "gs"
            rw [decide_eq_false (show ¬ lo < 0 by omega)]
            walk_at "tt"
            walk_at "gs"
            rw [decide_eq_false (show ¬ hi < lo by omega)]
            walk_at "tt"
            walk_at "gs"
            exact ⟨decide_eq_false (by omega), rfl⟩
          · refine jb_nil ?_
            walk_at "go"
            refine js_setI ok (je_fnK C2 ok (Nat.le_of_ble_eq_true rfl) ?_)
            walk_at "gs"
            refine ⟨rfl, rfl, rfl, b, s, _, lo, some hi, rfl, fun z1 z2 => cmul_le S.sB z1 z2 S.cB, fun z => absurd ⟨by omega, by omega⟩ z, fun z z2 => absurd ⟨by show lo ≤ hi; omega, by show hi ≤ (n : Int); omega⟩ z2, fun _ _ => ?_⟩
            rw [show (some hi).getD (n : Int) = hi from rfl]
            walk_at "go"
            refine js_setI ok (je_new (jn_lst (jv_nil ⟨by decide, ?_⟩)))
            have fin : ((iz (mem b s n)).drop (HT.sIx (iz (mem b s n)).length 0 (some lo))).take (HT.sIx (iz (mem b s n)).length (iz (mem b s n)).length (some hi) - HT.sIx (iz (mem b s n)).length 0 (some lo)) = iz (mem (b + s * lo) s (hi - lo).toNat) := by
              have l0 : (iz (mem b s n)).length = n := by rw [List.length_map, mem_len]
              have e1 : HT.sIx n 0 (some lo) = lo.toNat := by
                show (if lo < 0 then _ else _) = _
                rw [if_neg (by omega)]
                omega
              have e2 : HT.sIx n n (some hi) = hi.toNat := by
                show (if hi < 0 then _ else _) = _
                rw [if_neg (by omega)]
                omega
              rw [l0, e1, e2, ← List.map_drop, ← List.map_take, mem_cut (by omega) (by omega), Int.toNat_of_nonneg (by omega)]
              congr 2
              omega
            refine jb_cut (fun ρ => ρ = [.val (sD b s (n : Int)), .val (.int kk), .val (.int i), .val (.int lo), .val (.int hi), .val (.int (n : Int)), .val (.lst (iz (mem b s n))), .val (sD (b + s * ((n : Int) - 1)) (-s) (n : Int)), .val (eachD b s (n : Int) kk i), .val (.lst (iz pk)), .val (cutD b s lo hi), .val (.lst (iz (mem (b + s * lo) s (hi - lo).toNat)))]) ?_ ?_
            · by_cases hlh : lo = hi
              · have e0 : cutD b s lo hi = .non := if_pos hlh
                rw [e0]
                walk_at "gs"
                walk_at "ff"
                walk_at "gs"
                rw [show (hi - lo).toNat = 0 by omega]
                rfl
              · have e0 : cutD b s lo hi = sD (b + s * lo) s (hi - lo) := if_neg hlh
                rw [e0]
                walk_at "gs"
                walk_at "tt"
                walk_at "go"
                refine js_setI ok (je_new (jn_fn Me ok (Nat.le_of_ble_eq_true rfl) ?_))
                walk_at "gs"
                refine ⟨rfl, _, _, _, rfl, by omega, by omega, hs, _, rfl, ?_⟩
                walk_at "gs"
                rfl
            · rintro ρ rfl
              walk_at "go"
              refine js_ret (je_eqD ok ?_)
              walk_at "go"
              refine je_new (jn_cut ?_)
              walk_at "gs"
              refine ⟨_, rfl, ?_⟩
              walk_at "gs"
              refine ⟨_, rfl, ?_⟩
              refine ⟨iz (mem b s n), rfl, ?_⟩
              rw [fin]
              refine ⟨_, _, py_ints _, py_ints _, shaped_iz _, shaped_iz _, ?_⟩
              rw [eqv_ints, decide_eq_true rfl]
              exact k
end
end K04

namespace K04
open PySem PySem.Spec PyProof.Rows L2 Dw
local macro_rules | `(tactic| walk_at "pg") => `(tactic| (repeat (first | exact pgn_nI | refine pgn_cI (by assumption) ?_)))
local macro_rules | `(tactic| walk_at "mg") => `(tactic| exact FreeB.get (l := blts) (by assumption) (by decide +kernel))
local macro_rules | `(tactic| walk_at "go") => `(tactic| first
  | (with_reducible refine gB ?_); first | refine jb_cons ?_ | refine jb_nil ?_
  | with_reducible refine js_if ?_
  | (with_reducible refine gRO ?_); refine js_retOwnI (by rfl) (by rfl) ?_
  | with_reducible refine js_ret ?_
  | (with_reducible refine gAp ?_); refine js_appI (by rfl) ?_
  | with_reducible refine js_ret0 ?_
  | (with_reducible refine gAN ?_); refine js_setI (by assumption) ?_
  | (with_reducible refine gAT ?_); refine js_unpackI (by assumption) (fun nd => by walk_at "pg") ?_
  | with_reducible refine jt_not ?_ | with_reducible refine jt_isN ?_ | with_reducible refine jt_notN ?_ | with_reducible refine jt_isB ?_ | with_reducible refine jt_notB ?_
  | with_reducible refine jt_lt ?_ | with_reducible refine jt_le ?_ | with_reducible refine jt_gt ?_ | with_reducible refine jt_ge ?_ | with_reducible refine jt_eq ?_ | with_reducible refine jt_ne ?_ | with_reducible refine jt_chLeLt ?_ | with_reducible refine jt_chLeLe ?_
  | with_reducible refine jt_w (jw_and ?_) | with_reducible refine jt_w (jw_or ?_)
  | with_reducible refine jw_and ?_ | with_reducible refine jw_or ?_ | with_reducible refine jw_and1 ?_ | with_reducible refine jw_or1 ?_
  | (with_reducible refine gT ?_); refine jt_val ?_
  | (with_reducible refine gNm ?_); refine je_nm (by rfl) ?_
  | with_reducible refine je_int ?_ | with_reducible refine je_bl ?_ | with_reducible refine je_non ?_ | with_reducible refine je_str ?_
  | with_reducible refine je_add ?_ | with_reducible refine je_sub ?_ | with_reducible refine je_mul ?_ | with_reducible refine je_fdiv ?_ | with_reducible refine je_mod ?_ | with_reducible refine je_pow ?_ | with_reducible refine je_neg ?_
  | with_reducible refine je_isN ?_ | with_reducible refine je_notN ?_ | with_reducible refine je_isB ?_ | with_reducible refine je_notB ?_
  | with_reducible refine je_lt ?_ | with_reducible refine je_le ?_ | with_reducible refine je_gt ?_ | with_reducible refine je_ge ?_ | with_reducible refine je_eq ?_ | with_reducible refine je_ne ?_ | with_reducible refine je_chLeLt ?_ | with_reducible refine je_chLeLe ?_
  | with_reducible refine je_one ?_ | with_reducible refine je_and ?_ | with_reducible refine je_or ?_ | with_reducible refine je_not ?_
  | with_reducible refine je_if ?_ | with_reducible refine je_tup ?_
  | (with_reducible refine gVc ?_); refine jv_cons ?_
  | with_reducible refine jv_nil ?_
  | (with_reducible refine gIx ?_); first | refine je_ixG (jg_ownI (s := .own _) (by rfl) rfl ?_) | refine je_dgetI (by assumption) (by rfl) ?_ | refine je_ix ?_
  | (with_reducible refine gC "isinstance" ?_); first | refine je_isiO (by rfl) (by rfl) ?_ (by walk_at "mg") (by walk_at "mg") | refine je_isiK ?_ (by walk_at "mg") (by walk_at "mg")
  | (with_reducible refine gC "len" ?_); first | refine je_lenG (jg_ownI (s := .own _) (by rfl) rfl ?_) rfl (by walk_at "mg") | refine je_len ?_ rfl (by walk_at "mg")
  | (with_reducible refine gC "abs" ?_); refine je_abs ?_ rfl (by walk_at "mg")
  | (with_reducible refine gC "int" ?_); refine je_int1 ?_ rfl (by walk_at "mg")
  | (with_reducible refine gC "min" ?_); refine je_min2 ?_ rfl (by walk_at "mg")
  | (with_reducible refine gC "max" ?_); refine je_max2 ?_ rfl (by walk_at "mg")
  | (with_reducible refine gC "divmod" ?_); refine je_divmod ?_ rfl (by walk_at "mg")
  | (with_reducible refine gAc ?_); first | refine ja_ownI (by rfl) ?_ | refine ja_cons ?_
  | with_reducible refine ja_nil ?_
  | (with_reducible refine gGN ?_); first | refine jg_ownI (s := .own _) (by rfl) rfl ?_ | refine jg_val ?_
  | (with_reducible refine gG ?_); refine jg_val ?_
  | with_reducible refine jo_none ?_ | with_reducible refine jo_some ?_
  | with_reducible refine jk_cons ?_ | with_reducible refine jk_nil ?_
  | (with_reducible refine gF ?_); refine je_fn (by assumption) (by first | assumption | exact ok_blk (by assumption) _ _ _ _ _) (Nat.le_of_ble_eq_true rfl) ?_
  | with_reducible refine ⟨_, _, rfl, rfl, ?_⟩)
local macro_rules | `(tactic| walk_at "tt") => `(tactic| refine ⟨fun _ => ?_, fun q => (by first | exact absurd q (by decide) | exact Bool.noConfusion (show true = false from q))⟩)
local macro_rules | `(tactic| walk_at "ff") => `(tactic| refine ⟨fun q => (by first | exact absurd q (by decide) | exact Bool.noConfusion (show false = true from q) | exact Bool.noConfusion (show true = false from q)), fun _ => ?_⟩)
local macro_rules | `(tactic| walk_at "gs") => `(tactic| repeat walk_at "go")
section
variable {P : Program} {w : World} {K : PySem.W.Frag} {mg : Str → Option Value} {base : Heap} {f : Addr} {fd : FuncData}

/-! the law -/
theorem sc_law : FnScope ["_law_script", "_law_stream_here", "_law_strand_here", "_law_b", "_law_s", "_law_c", "_law_k", "_law_i", "_law_low", "_law_high", "_law_last", "_law_pick", "_law_place"] ["_law_script"] (defScope (top 35)) := ⟨rfl, rfl, rfl, by decide +kernel, rfl, by decide +kernel, by decide +kernel⟩
def c_law : Ctr := fun args R _ => ∃ ns : List Int, args = [.val (.lst (iz ns))] ∧ R (.val (.bl true)) args
theorem StrOk.is {b s c : Int} (S : StrOk b s c) : Dt.strand (sD b s c) = true := decide_eq_true ⟨S.s0, S.c1, S.b0, S.l0⟩
theorem StrOk.turn {b s c : Int} (S : StrOk b s c) : Dt.strand (sD (b + s * (c - 1)) (-s) c) = true := decide_eq_true ⟨by have := S.s0; omega, S.c1, S.l0, by have := S.b0; rw [Int.neg_mul]; omega⟩
theorem StrOk.pos {b s c j : Int} (S : StrOk b s c) (h0 : 0 ≤ j) (h1 : j < c) : 0 ≤ b + s * j := by
  have b0 := S.b0
  have l0 := S.l0
  by_cases h : 0 ≤ s
  · have := Int.mul_nonneg h h0
    omega
  · have : s * (c - 1) ≤ s * j := Int.mul_le_mul_of_nonpos_left (by omega) (by omega)
    omega
theorem StrOk.behind {b s c : Int} (S : StrOk b s c) : inD b s c (b + s * (c - 1) + s) = .non := by
  refine inD_no fun j j0 j1 e => ?_
  have q : s * (c - j) = 0 := by
    rw [Int.mul_sub]
    rw [Int.mul_sub] at e
    omega
  rcases Int.mul_eq_zero.mp q with q | q
  · exact S.s0 q
  · omega
theorem StrOk.below {b s c x : Int} (S : StrOk b s c) (h : x < 0) : inD b s c x = .non := inD_no fun j j0 j1 e => by
  have := S.pos j0 j1
  omega
theorem eachD_due (b s c k i : Int) : eachD b s c k i = .non ∨ ∃ ns : List Int, eachD b s c k i = .tup (iz ns) ∧ ns.length ≤ 1000000 := by
  unfold eachD
  split
  · exact .inl rfl
  · exact .inr ⟨[_, _, _], rfl, by show 3 ≤ 1000000; decide⟩
theorem sD_el {b s c : Int} : ∀ l, sD b s c = .tup l → ∀ x ∈ l, x.isObj = false := by
  rintro l e x hx
  injection e with e
  subst e
  simp only [List.mem_cons, List.mem_nil_iff, or_false] at hx
  rcases hx with rfl | rfl | rfl <;> rfl
theorem sD_mu {b s c : Int} (h : CMulW s (c - 1)) : ∀ b' s' c', sD b s c = .tup [.int b', .int s', .int c'] → CMulW s' (c' - 1) := by
  rintro b' s' c' e
  injection e with e
  injection e with e1 e2
  injection e2 with e2 e3
  injection e3 with e3 _
  injection e2 with e2
  injection e3 with e3
  subst e2 e3
  exact h
structure Cals (P : Program) (w : World) (K : PySem.W.Frag) (mg : Str → Option Value) (base : Heap) (C : Addr) : Prop where
  sm : Cal P w K mg base "_law_stream" 1 c_stream
  dr : Cal P w K mg base "_law_draw" 1 c_draw
  lo : Cal P w K mg base "_law_long" 2 c_long
  st : Cal P w K mg base "_law_strand" 3 c_lstrand
  sp : Cal P w K mg base "_law_spot" 3 c_spot
  nu : Cal P w K mg base "_law_is_number" 1 c_num
  du : Cal P w K mg base "_law_is_due" 3 c_due
  sl : Cal P w K mg base "_law_small" 4 c_small
  lat : Cal P w K mg base "_law_at" 4 c_lat
  le : Cal P w K mg base "_law_each" 1 c_leach
  cu : Cal P w K mg base "_law_cuts" 6 c_cuts
  ma : Cal P w K mg base "_law_made" 5 c_made
  od : Cal P w K mg base "_law_odd" 3 c_odd
  is : Cal P w K mg base "is_strand" 2 c_strand
  la : Cal P w K mg base "last_member" 1 c_last
  pi : Cal P w K mg base "place_in" 1 c_in
  tu : Cal P w K mg base "strand_turned" 2 c_turn
  ea : Cal P w K mg base "strand_each" 1 c_each
theorem ok_law {C : Addr} (M : FreeB mg blts) (T : Cals P w K mg base C) (F : FnP K "law" (top 35) f fd) : FnOk P w K mg base (L2.CX P w) 7 f fd ["_law_script"] (SpD K c_law) := by
  have T1 := T.sm
  have T2 := T.dr
  have T3 := T.lo
  have T4 := T.st
  have T5 := T.sp
  have T6 := T.nu
  have T7 := T.du
  have T8 := T.sl
  have T9 := T.lat
  have T10 := T.le
  have T11 := T.cu
  have T12 := T.ma
  have T13 := T.od
  have T14 := T.is
  have T15 := T.la
  have T16 := T.pi
  have T17 := T.tu
  have T18 := T.ea
  refine okD F sc_law (fun args R XC h => ?_) (fun cdv A outer s H E h0 he se args R XC h ok => ?_)
  · obtain ⟨ns, rfl, _⟩ := h
    rfl
  · obtain ⟨ns, rfl, k⟩ := h
    walk_at "go"
    refine js_setNI ok (jn_fn T1 ok (Nat.le_of_ble_eq_true rfl) ?_)
    walk_at "gs"
    refine ⟨rfl, ns, rfl, fun n1 => ⟨_, rfl, ?_⟩⟩
    walk_at "gs"
    refine ⟨rfl, n1, rfl, fun b s c n2 S => ?_⟩
    walk_at "gs"
    refine ⟨_, rfl, rfl, ?_⟩
    walk_at "gs"
    refine ⟨rfl, n2, _, rfl, by decide, fun k1 n3 k2 k3 => ?_⟩
    refine ⟨_, _, rfl, rfl, ?_⟩
    refine jb_cut (fun ρ => ∃ (n : List Int) (kk : Int), 1 ≤ kk ∧ Sm 110 kk ∧ ρ = [.val (.lst (iz ns)), .own (iz n), .val (sD b s c), .val (.int b), .val (.int s), .val (.int c), .val (.int kk), .no, .no, .no, .no, .no, .no]) ?_ ?_
    · walk_at "gs"
      refine ⟨rfl, n3, _, rfl, by decide, fun v n4 v0 v1 => ?_⟩
      walk_at "gs"
      refine ⟨rfl, ?_⟩
      refine ⟨fun q => ?_, fun q => ?_⟩
      · walk_at "gs"
        refine ⟨rfl, n4, 9, rfl, by decide, fun d n5 d0 d1 => ?_⟩
        refine ⟨_, _, rfl, rfl, ?_⟩
        walk_at "gs"
        exact ⟨n5, 1 + k1 + d, by omega, by unfold Sm; omega, rfl⟩
      · walk_at "gs"
        exact ⟨n4, 1 + k1, by omega, by unfold Sm; omega, rfl⟩
    · rintro ρ ⟨n4, kk, hk, skk, rfl⟩
      have c1 := S.c1
      have cB := S.cB
      have scc : Sm 110 (c - 1) := by unfold Sm; omega
      have hmul : CMulW s (c - 1) := cmul_sm S.sB scc (by decide) (by decide) (by decide)
      have hmul2 : CMulW (-s) (c - 1) := cmul_sm (show Sm 100 (-s) by unfold Sm; rw [Int.natAbs_neg]; exact S.sB) scc (by decide) (by decide) (by decide)
      walk_at "gs"
      refine ⟨rfl, n4, c, rfl, c1, fun v1 n5 a1 a2 => ?_⟩
      refine ⟨_, _, rfl, rfl, ?_⟩
      walk_at "gs"
      refine ⟨rfl, n5, c, rfl, c1, fun lo n6 a3 a4 => ?_⟩
      walk_at "gs"
      refine ⟨rfl, n6, c, rfl, c1, fun hi n7 a5 a6 => ?_⟩
      walk_at "gs"
      refine ⟨hmul, ?_⟩
      refine ⟨_, _, rfl, rfl, ?_⟩
      have hi0 : 0 ≤ (if v1 > 0 then v1 else 0) := by split <;> omega
      have si : Sm 110 (if v1 > 0 then v1 else 0) := by unfold Sm; split <;> omega
      have slo : Sm 110 lo := by unfold Sm; omega
      have shi : Sm 110 hi := by unfold Sm; omega
      generalize hgi : (if v1 > 0 then v1 else 0) = i at hi0 si
      refine jb_cut (fun ρ => ∃ (n : List Int) (pk : Int), (0 ≤ pk ∧ pk < 16) ∧ ρ = [.val (.lst (iz ns)), .own (iz n), .val (sD b s c), .val (.int b), .val (.int s), .val (.int c), .val (.int kk), .val (.int i), .val (.int lo), .val (.int hi), .val (.int (b + s * (c - 1))), .val (.int pk), .no]) ?_ ?_
      · walk_at "gs"
        refine ⟨rfl, n7, _, rfl, by decide, fun v n8 v0 v2 => ?_⟩
        walk_at "gs"
        exact ⟨n8, v, ⟨v0, v2⟩, by rw [← hgi]; rfl⟩
      · rintro ρ ⟨n, pk, hpk, rfl⟩
        refine jb_cons (js_ifc false [.val (.lst (iz ns)), .own (iz n), .val (sD b s c), .val (.int b), .val (.int s), .val (.int c), .val (.int kk), .val (.int i), .val (.int lo), .val (.int hi), .val (.int (b + s * (c - 1))), .val (.int pk), .no] ?_ (fun q => Bool.noConfusion q) fun _ => ?_)
        · walk_at "gs"
          refine ⟨rfl, _, rfl, rfl, sD_el, sD_mu hmul, ?_⟩
          rw [S.is]
          refine ⟨_, rfl, ?_⟩
          walk_at "tt"
          walk_at "gs"
          refine ⟨rfl, b, s, c, rfl, hmul, ?_⟩
          walk_at "gs"
          refine ⟨rfl, _, _, rfl, rfl, ?_⟩
          refine ⟨_, rfl, ?_⟩
          generalize hz : isNum _ _ = zz
          obtain rfl : zz = true := hz.symm.trans isNum_self
          walk_at "tt"
          walk_at "gs"
          refine ⟨rfl, b, s, c, pk, rfl, S, hpk, ?_⟩
          exact ⟨_, rfl, rfl, rfl⟩
        · refine jb_nil ?_
          refine jb_cons (js_ifc false [.val (.lst (iz ns)), .own (iz n), .val (sD b s c), .val (.int b), .val (.int s), .val (.int c), .val (.int kk), .val (.int i), .val (.int lo), .val (.int hi), .val (.int (b + s * (c - 1))), .val (.int pk), .no] ?_ (fun q => Bool.noConfusion q) fun _ => ?_)
          · walk_at "gs"
            refine ⟨rfl, b, s, c, _, rfl, cdm_of S.s0 S.sB, ?_⟩
            rw [S.behind]
            walk_at "tt"
            walk_at "gs"
            refine ⟨_, rfl, ?_⟩
            walk_at "gs"
            refine ⟨_, rfl, ?_⟩
            refine ⟨_, _, rfl, rfl, ?_⟩
            walk_at "gs"
            refine ⟨rfl, b, s, c, _, rfl, cdm_of S.s0 S.sB, ?_⟩
            rw [S.below (by split <;> omega)]
            exact ⟨rfl, rfl⟩
          · refine jb_nil ?_
            refine jb_cut (fun ρ => ∃ s0 : Sl, ρ = [.val (.lst (iz ns)), .own (iz n), .val (sD b s c), .val (.int b), .val (.int s), .val (.int c), .val (.int kk), .val (.int i), .val (.int lo), .val (.int hi), .val (.int (b + s * (c - 1))), .val (.int pk), s0]) ?_ ?_
            · refine js_forIL ok (je_new (jn_lst ?_))
              walk_at "gs"
              refine ⟨_, rfl, ?_⟩
              walk_at "gs"
              refine ⟨Nat.le_of_ble_eq_true rfl, ?_⟩
              refine ⟨_, fun _ ρ => ∃ s0 : Sl, ρ = [.val (.lst (iz ns)), .own (iz n), .val (sD b s c), .val (.int b), .val (.int s), .val (.int c), .val (.int kk), .val (.int i), .val (.int lo), .val (.int hi), .val (.int (b + s * (c - 1))), .val (.int pk), s0], rfl, ⟨_, rfl⟩, ?_, fun ρ h => h⟩
              rintro j u ρ hu ⟨s0, rfl⟩
              have hq : ∃ q : Int, u = .int q ∧ Sm 110 q := by
                have hm := List.mem_of_getElem? hu
                simp only [List.mem_cons, List.mem_nil_iff, or_false] at hm
                rcases hm with rfl | rfl | rfl | rfl | rfl | rfl
                · exact ⟨_, rfl, slo⟩
                · exact ⟨_, rfl, shi⟩
                · exact ⟨_, rfl, si⟩
                · exact ⟨_, rfl, scc⟩
                · exact ⟨_, rfl, by unfold Sm; omega⟩
                · exact ⟨_, rfl, by unfold Sm; decide⟩
              obtain ⟨q, rfl, sq⟩ := hq
              walk_at "gs"
              refine ⟨rfl, b, s, c, q, rfl, S, sq, ?_⟩
              refine ⟨_, rfl, ?_⟩
              walk_at "ff"
              walk_at "gs"
              exact ⟨_, rfl⟩
            · rintro ρ ⟨s0, rfl⟩
              refine jb_cons (js_ifc false [.val (.lst (iz ns)), .own (iz n), .val (sD b s c), .val (.int b), .val (.int s), .val (.int c), .val (.int kk), .val (.int i), .val (.int lo), .val (.int hi), .val (.int (b + s * (c - 1))), .val (.int pk), s0] ?_ (fun q => Bool.noConfusion q) fun _ => ?_)
              · walk_at "gs"
                refine ⟨rfl, b, s, c, rfl, hmul, ?_⟩
                walk_at "gs"
                refine ⟨Nat.le_of_ble_eq_true rfl, ?_⟩
                walk_at "gs"
                refine ⟨rfl, sD (b + s * (c - 1)) (-s) c, by rw [Int.zero_sub]; rfl, .inr ⟨[_, _, _], rfl, by show 3 ≤ 1000000; decide⟩, ?_⟩
                refine ⟨_, rfl, ?_⟩
                walk_at "tt"
                walk_at "gs"
                refine ⟨rfl, b, s, c, rfl, hmul, ?_⟩
                walk_at "gs"
                refine ⟨rfl, _, rfl, rfl, sD_el, sD_mu hmul2, ?_⟩
                exact ⟨true, congrArg Dt.bl S.turn, rfl, rfl⟩
              · refine jb_nil ?_
                have dv : CDivW (c - i + kk - 1) kk := ⟨by omega, Nat.lt_of_lt_of_le (skk.log (by decide)) (by decide)⟩
                have sik : CMulW s i := cmul_sm S.sB si (by decide) (by decide) (by decide)
                have skk2 : CMulW s kk := cmul_sm S.sB skk (by decide) (by decide) (by decide)
                refine jb_cons (js_ifc false [.val (.lst (iz ns)), .own (iz n), .val (sD b s c), .val (.int b), .val (.int s), .val (.int c), .val (.int kk), .val (.int i), .val (.int lo), .val (.int hi), .val (.int (b + s * (c - 1))), .val (.int pk), s0] ?_ (fun q => Bool.noConfusion q) fun _ => ?_)
                · walk_at "gs"
                  refine ⟨rfl, b, s, c, kk, i, rfl, sik, skk2, dv, ?_⟩
                  walk_at "gs"
                  refine ⟨rfl, b, s, c, kk, i, rfl, sik, skk2, dv, ?_⟩
                  walk_at "gs"
                  refine ⟨rfl, _, rfl, eachD_due _ _ _ _ _, ?_⟩
                  refine ⟨_, rfl, ?_⟩
                  walk_at "tt"
                  walk_at "gs"
                  refine ⟨rfl, b, s, c, lo, hi, rfl, S, ?_⟩
                  exact ⟨_, rfl, rfl, rfl⟩
                · refine jb_nil ?_
                  walk_at "gs"
                  refine ⟨_, rfl, fun q => ?_, fun _ => k⟩
                  have c70 : c ≤ 70 := by
                    have := of_decide_eq_false q
                    omega
                  walk_at "gs"
                  refine ⟨rfl, b, s, c, rfl, S, c70, ?_⟩
                  refine ⟨_, rfl, fun _ => ?_, fun q => Bool.noConfusion q⟩
                  walk_at "gs"
                  exact ⟨rfl, b, s, c, kk, i, lo, hi, rfl, S, c70, hk, skk, hi0, si, k⟩
end
end K04

namespace K04
open PySem PySem.Spec PyProof.Rows L2 Dw
local macro_rules | `(tactic| walk_at "pg") => `(tactic| (repeat (first | exact pgn_nI | refine pgn_cI (by assumption) ?_)))
local macro_rules | `(tactic| walk_at "mg") => `(tactic| exact FreeB.get (l := blts) (by assumption) (by decide +kernel))
local macro_rules | `(tactic| walk_at "go") => `(tactic| first
  | (with_reducible refine gB ?_); first | refine jb_cons ?_ | refine jb_nil ?_
  | with_reducible refine js_if ?_
  | (with_reducible refine gRO ?_); refine js_retOwnI (by rfl) (by rfl) ?_
  | with_reducible refine js_ret ?_
  | (with_reducible refine gAp ?_); refine js_appI (by rfl) ?_
  | with_reducible refine js_ret0 ?_
  | (with_reducible refine gAN ?_); refine js_setI (by assumption) ?_
  | (with_reducible refine gAT ?_); refine js_unpackI (by assumption) (fun nd => by walk_at "pg") ?_
  | with_reducible refine jt_not ?_ | with_reducible refine jt_isN ?_ | with_reducible refine jt_notN ?_ | with_reducible refine jt_isB ?_ | with_reducible refine jt_notB ?_
  | with_reducible refine jt_lt ?_ | with_reducible refine jt_le ?_ | with_reducible refine jt_gt ?_ | with_reducible refine jt_ge ?_ | with_reducible refine jt_eq ?_ | with_reducible refine jt_ne ?_ | with_reducible refine jt_chLeLt ?_ | with_reducible refine jt_chLeLe ?_
  | with_reducible refine jt_w (jw_and ?_) | with_reducible refine jt_w (jw_or ?_)
  | with_reducible refine jw_and ?_ | with_reducible refine jw_or ?_ | with_reducible refine jw_and1 ?_ | with_reducible refine jw_or1 ?_
  | (with_reducible refine gT ?_); refine jt_val ?_
  | (with_reducible refine gNm ?_); refine je_nm (by rfl) ?_
  | with_reducible refine je_int ?_ | with_reducible refine je_bl ?_ | with_reducible refine je_non ?_ | with_reducible refine je_str ?_
  | with_reducible refine je_add ?_ | with_reducible refine je_sub ?_ | with_reducible refine je_mul ?_ | with_reducible refine je_fdiv ?_ | with_reducible refine je_mod ?_ | with_reducible refine je_pow ?_ | with_reducible refine je_neg ?_
  | with_reducible refine je_isN ?_ | with_reducible refine je_notN ?_ | with_reducible refine je_isB ?_ | with_reducible refine je_notB ?_
  | with_reducible refine je_lt ?_ | with_reducible refine je_le ?_ | with_reducible refine je_gt ?_ | with_reducible refine je_ge ?_ | with_reducible refine je_eq ?_ | with_reducible refine je_ne ?_ | with_reducible refine je_chLeLt ?_ | with_reducible refine je_chLeLe ?_
  | with_reducible refine je_one ?_ | with_reducible refine je_and ?_ | with_reducible refine je_or ?_ | with_reducible refine je_not ?_
  | with_reducible refine je_if ?_ | with_reducible refine je_tup ?_
  | (with_reducible refine gVc ?_); refine jv_cons ?_
  | with_reducible refine jv_nil ?_
  | (with_reducible refine gIx ?_); first | refine je_ixG (jg_ownI (s := .own _) (by rfl) rfl ?_) | refine je_dgetI (by assumption) (by rfl) ?_ | refine je_ix ?_
  | (with_reducible refine gC "isinstance" ?_); first | refine je_isiO (by rfl) (by rfl) ?_ (by walk_at "mg") (by walk_at "mg") | refine je_isiK ?_ (by walk_at "mg") (by walk_at "mg")
  | (with_reducible refine gC "len" ?_); first | refine je_lenG (jg_ownI (s := .own _) (by rfl) rfl ?_) rfl (by walk_at "mg") | refine je_len ?_ rfl (by walk_at "mg")
  | (with_reducible refine gC "abs" ?_); refine je_abs ?_ rfl (by walk_at "mg")
  | (with_reducible refine gC "int" ?_); refine je_int1 ?_ rfl (by walk_at "mg")
  | (with_reducible refine gC "min" ?_); refine je_min2 ?_ rfl (by walk_at "mg")
  | (with_reducible refine gC "max" ?_); refine je_max2 ?_ rfl (by walk_at "mg")
  | (with_reducible refine gC "divmod" ?_); refine je_divmod ?_ rfl (by walk_at "mg")
  | (with_reducible refine gAc ?_); first | refine ja_ownI (by rfl) ?_ | refine ja_cons ?_
  | with_reducible refine ja_nil ?_
  | (with_reducible refine gGN ?_); first | refine jg_ownI (s := .own _) (by rfl) rfl ?_ | refine jg_val ?_
  | (with_reducible refine gG ?_); refine jg_val ?_
  | with_reducible refine jo_none ?_ | with_reducible refine jo_some ?_
  | with_reducible refine jk_cons ?_ | with_reducible refine jk_nil ?_
  | (with_reducible refine gF ?_); refine je_fn (by assumption) (by first | assumption | exact ok_blk (by assumption) _ _ _ _ _) (Nat.le_of_ble_eq_true rfl) ?_
  | with_reducible refine ⟨_, _, rfl, rfl, ?_⟩)
local macro_rules | `(tactic| walk_at "tt") => `(tactic| refine ⟨fun _ => ?_, fun q => (by first | exact absurd q (by decide) | exact Bool.noConfusion (show true = false from q))⟩)
local macro_rules | `(tactic| walk_at "ff") => `(tactic| refine ⟨fun q => (by first | exact absurd q (by decide) | exact Bool.noConfusion (show false = true from q) | exact Bool.noConfusion (show true = false from q)), fun _ => ?_⟩)
local macro_rules | `(tactic| walk_at "gs") => `(tactic| repeat walk_at "go")

/-! ### the head -/
def clsBody (s : Stmt) : List Stmt := match s with
  | .ClassDef _ _ _ b _ _ _ _ _ _ _ => b
  | _ => []
def iniS : Stmt := (clsBody (top 5)).getD 0 (.Pass ⟨0, 0, 0, 0⟩)
section
variable {P : Program} {w : World} {K : PySem.W.Frag} {mg : Str → Option Value} {base : Heap} {f : Addr} {fd : FuncData} {C : Addr}
theorem sc_ini : FnScope ["self", "place"] ["self", "place"] (defScope iniS) := ⟨rfl, rfl, rfl, by decide +kernel, rfl, by decide +kernel, by decide +kernel⟩
theorem ok_ini (F : FunD K "__init__" "BadPlace.__init__" (defArgs iniS) (defBody iniS) (defScope iniS) [] [] f fd) : FnOk P w K mg base (L2.CX P w) 1 f fd ["self", "place"] (spIni K C "place") := by
  refine F.ok sc_ini (fun vs H Q E h => ?_) (fun cdv A outer s H vs Q E hr h => ⟨tOst K "place" (tVar 0) (tVar 1), pss_one (ps_ost (pv 0) (pv 1)), ?_⟩)
  · obtain ⟨a, v, rfl, _⟩ := h
    rfl
  · obtain ⟨a, v, rfl, oc, no, ha, q⟩ := h
    exact ⟨v, rfl, .ref a, rfl, a, C, rfl, oc, no, .inl ⟨ha, q⟩⟩
theorem kw2 (F : FnK K "strand_cut" (top 15) f fd) : ∃ mv : List Value, KBn K fd ["strand", "begin", "end"] 1 ["begin", "end"] (fun us ws => us ++ ws) (fun vs zs => vs ++ zs) := by
  refine F.kbinds0 1 ["begin", "end"] [] (fun us _ ws => us ++ ws) (by simp) (by simp) (fun r1 _ r3 => r1.append r3) ?_
  intro D doc pm an cdv ct us mv ws l1 l2 l3
  match us, mv, ws, l1, l2, l3 with
  | [_], [], [_, _], _, _, _ => rfl
theorem kw1 (F : FnK K "strand_cut" (top 15) f fd) : ∃ mv : List Value, KBn K fd ["strand", "begin", "end"] 1 ["begin"] (fun us ws => us ++ (ws ++ mv)) (fun vs zs => vs ++ (zs ++ [.non])) := by
  refine F.kbinds0 1 ["begin"] [("end", .non)] (fun us mv ws => us ++ (ws ++ mv)) (by simp) (by simp) (fun r1 r2 r3 => r1.append (r3.append r2)) ?_
  intro D doc pm an cdv ct us mv ws l1 l2 l3
  match us, mv, ws, l1, l2, l3 with
  | [_], [_], [_], _, _, _ => exact ⟨_, _, _, _, _, _, rfl, rfl, rfl⟩
theorem kwe (F : FnK K "strand_cut" (top 15) f fd) : ∃ mv : List Value, KBn K fd ["strand", "begin", "end"] 1 ["end"] (fun us ws => us ++ (mv ++ ws)) (fun vs zs => vs ++ ([.int 0] ++ zs)) := by
  refine F.kbinds0 1 ["end"] [("begin", .int 0)] (fun us mv ws => us ++ (mv ++ ws)) (by simp) (by simp) (fun r1 r2 r3 => r1.append (r2.append r3)) ?_
  intro D doc pm an cdv ct us mv ws l1 l2 l3
  match us, mv, ws, l1, l2, l3 with
  | [_], [_], [_], _, _, _ => exact ⟨_, _, _, _, _, _, rfl, rfl, rfl⟩
theorem kw0 (F : FnK K "strand_cut" (top 15) f fd) : ∃ ds, Vals [V.int 0, V.non] ds ∧ Binds K fd ["strand", "begin", "end"] ds := by
  refine F.binds0 1 (by simp) rfl ?_
  intro D doc pm an cdv ct us ks l1 l2
  match us, ks, l1, l2 with
  | [_], [_, _], _, _ => exact ⟨_, _, _, _, _, _, rfl, rfl, _, _, _, _, _, _, rfl, rfl, rfl⟩
end
def dD (x : Str) (st : Stmt) : He.DefD := ⟨(x, none), x, x, defArgs st, defBody st, defScope st, [], []⟩
def fn1 : List He.DefD := [dD "is_whole" (top 7), dD "is_strand" (top 8), dD "members" (top 9), dD "last_member" (top 10), dD "member_at" (top 11), dD "place_in" (top 12), dD "strand_turned" (top 13), dD "strand_each" (top 14),
  ⟨("strand_cut", none), "strand_cut", "strand_cut", defArgs (top 15), defBody (top 15), defScope (top 15), [], [("begin", .int 0), ("end", .non)]⟩, dD "checked_end" (top 16),
  ⟨("BadPlace", some "__init__"), "__init__", "BadPlace.__init__", defArgs iniS, defBody iniS, defScope iniS, [], []⟩]
def fn2 : List He.DefD := [dD "_law_stream" (top 18), dD "_law_draw" (top 19), dD "_law_long" (top 20), dD "_law_strand" (top 21), dD "_law_spot" (top 22), dD "_law_is_number" (top 23), dD "_law_is_numbers" (top 24), dD "_law_is_due" (top 25), dD "_law_listed" (top 26),
  dD "_law_small" (top 27), dD "_law_at" (top 28), dD "_law_each" (top 29), dD "_law_cut" (top 30), dD "_law_cut_told" (top 31), dD "_law_cuts" (top 32), dD "_law_made" (top 33), dD "_law_odd" (top 34), dD "law" (top 35)]
def fn : List He.DefD := fn1 ++ fn2
def glos1 : List Str := ["is_whole", "is_strand", "members", "last_member", "member_at", "place_in", "strand_turned", "strand_each", "strand_cut", "checked_end", "BadPlace", "FoldError", "BadLength", "BadStrand", "BadIndex"]
def glos2 : List Str := ["_law_stream", "_law_draw", "_law_long", "_law_strand", "_law_spot", "_law_is_number", "_law_is_numbers", "_law_is_due", "_law_listed", "_law_small"]
def glos3 : List Str := ["_law_at", "_law_each", "_law_cut", "_law_cut_told", "_law_cuts", "_law_made", "_law_odd"]
def glos : List Str := glos1 ++ glos2 ++ glos3
def fa : List He.Fa := blts.map .free ++ (glos.map .glo ++ [.glo "law"])
def my (K : PySem.W.Frag) : Bool := errB K "BadPlace" "place" && (decide (PySem.W.exmOne K (.ref (He.ga K "BadPlace")) (.ref (He.ga K "BadPlace")) = some true) && (decide (PySem.W.kitOne K (.ref (He.ga K "BadPlace")) (.ref (He.ga K "FoldError")) = some true) &&
  (decide (PySem.W.kitOne K (.ref (He.ga K "BadPlace")) (.type "ValueError") = some true) && (decide (PySem.W.kitAny K (.ref (He.ga K "BadPlace")) [.ref (He.ga K "BadIndex"), .ref (He.ga K "BadStrand")] = some false) &&
  decide (PySem.W.kitAny K (.ref (He.ga K "BadPlace")) [.ref (He.ga K "BadLength"), .ref (He.ga K "BadStrand")] = some false)))))
abbrev R : PySem.W.OpenRow := PySem.W.OpenLaw.row PySem.Challenge.rw_unseenfolds_k04_one_strand
abbrev hk : PySem.W.Hook := hookM my 5 fa fn
def ob (s : PySem.W.SharedT) : Bool × He.AlD := obsMG my 5 fa fn (HandSHeadRun.getT s)
theorem ob_eq (s : PySem.W.SharedT) : ob s = hk.obs s.abs := obsMG_eq (HandSHeadRun.getT_eq s)
def loose : List Str := glos
theorem run (w : World) : HandSHeadRun.RunEq R (PySem.W.view R.prog [35]) hk ob 4000 loose w := by
  intro os
  kernel_rfl
end K04

namespace K04
open PySem PySem.Spec PyProof.Rows L2 Dw
/-! ### what the top has written -/
section
variable {P : Program} {w : World} {K : PySem.W.Frag} {mg : Str → Option Value} {base h : Heap} {f : Addr} {fd : FuncData} {C : Addr}
theorem cal_of {x : Str} {st : Stmt} {ps : List Str} {k : Nat} {c : Ctr} (F : FnP K x st f fd) (g : mg x = some (.ref f)) (b : Binds K fd ps []) (o : FnOk P w K mg base (L2.CX P w) k f fd ps (SpD K c)) : Cal P w K mg base x k c := ⟨f, fd, ps, o, g, F.kp, b⟩
theorem b1 {x : Str} {st : Stmt} {p1 : Str} (F : FnP K x st f fd) (h : ∀ (kV doc pm : Value) (an : Option Addr) (cdv ct u : Value), bindArgs (PySem.W.fnOf x x (defArgs st) (defBody st) (defScope st) .none kV doc pm an cdv ct) ⟨[u], []⟩ = pure [(p1, u)]) : Binds K fd [p1] [] :=
  FunD.bindsN F fun kV doc pm an cdv ct us hl => match us, hl with
    | [u], _ => h kV doc pm an cdv ct u
theorem b2 {x : Str} {st : Stmt} {p1 p2 : Str} (F : FnP K x st f fd) (h : ∀ (kV doc pm : Value) (an : Option Addr) (cdv ct u v : Value), bindArgs (PySem.W.fnOf x x (defArgs st) (defBody st) (defScope st) .none kV doc pm an cdv ct) ⟨[u, v], []⟩ = pure [(p1, u), (p2, v)]) : Binds K fd [p1, p2] [] :=
  FunD.bindsN F fun kV doc pm an cdv ct us hl => match us, hl with
    | [u, v], _ => h kV doc pm an cdv ct u v
theorem b3 {x : Str} {st : Stmt} {p1 p2 p3 : Str} (F : FnP K x st f fd) (h : ∀ (kV doc pm : Value) (an : Option Addr) (cdv ct u v r : Value), bindArgs (PySem.W.fnOf x x (defArgs st) (defBody st) (defScope st) .none kV doc pm an cdv ct) ⟨[u, v, r], []⟩ = pure [(p1, u), (p2, v), (p3, r)]) : Binds K fd [p1, p2, p3] [] :=
  FunD.bindsN F fun kV doc pm an cdv ct us hl => match us, hl with
    | [u, v, r], _ => h kV doc pm an cdv ct u v r
theorem b4 {x : Str} {st : Stmt} {p1 p2 p3 p4 : Str} (F : FnP K x st f fd) (h : ∀ (kV doc pm : Value) (an : Option Addr) (cdv ct u v r z : Value), bindArgs (PySem.W.fnOf x x (defArgs st) (defBody st) (defScope st) .none kV doc pm an cdv ct) ⟨[u, v, r, z], []⟩ = pure [(p1, u), (p2, v), (p3, r), (p4, z)]) : Binds K fd [p1, p2, p3, p4] [] :=
  FunD.bindsN F fun kV doc pm an cdv ct us hl => match us, hl with
    | [u, v, r, z], _ => h kV doc pm an cdv ct u v r z
theorem b5 {x : Str} {st : Stmt} {p1 p2 p3 p4 p5 : Str} (F : FnP K x st f fd) (h : ∀ (kV doc pm : Value) (an : Option Addr) (cdv ct u v r z y : Value), bindArgs (PySem.W.fnOf x x (defArgs st) (defBody st) (defScope st) .none kV doc pm an cdv ct) ⟨[u, v, r, z, y], []⟩ = pure [(p1, u), (p2, v), (p3, r), (p4, z), (p5, y)]) : Binds K fd [p1, p2, p3, p4, p5] [] :=
  FunD.bindsN F fun kV doc pm an cdv ct us hl => match us, hl with
    | [u, v, r, z, y], _ => h kV doc pm an cdv ct u v r z y
theorem free_all (X : K.In h) (G : h.Ns mainGlobals mg) (c : He.SaysD fa fn K) : FreeB mg blts := by
  intro x hx
  obtain ⟨i, hi⟩ := List.getElem?_of_mem hx
  refine He.free_ok X G (c.fact i ?_)
  have hl : i < blts.length := (List.getElem?_eq_some_iff.mp hi).1
  show (blts.map He.Fa.free ++ _)[i]? = _
  rw [List.getElem?_append_left (by rw [List.length_map]; exact hl), List.getElem?_map, hi]
  rfl
theorem glo_at (X : K.In h) (G : h.Ns mainGlobals mg) (c : He.SaysD fa fn K) (i : Nat) {x : Str} (e : fa[i + 22]? = some (.glo x) := by rfl) : mg x = some (.ref (He.ga K x)) := He.glo_ok X G (c.fact (i + 22) e)
theorem fn_at (c : He.SaysD fa fn K) (i : Nat) {x : Str} {st : Stmt} (e : fn[i]? = some (dD x st) := by rfl) : ∃ fd, FnP K x st (He.ga K x) fd := c.def_ i e
theorem cut_at (c : He.SaysD fa fn K) : ∃ fd, FnK K "strand_cut" (top 15) (He.ga K "strand_cut") fd := c.def_ 8 rfl
theorem ini_at (c : He.SaysD fa fn K) : ∃ fd, FunD K "__init__" "BadPlace.__init__" (defArgs iniS) (defBody iniS) (defScope iniS) [] [] (He.ma K (He.ga K "BadPlace") "__init__") fd := c.def_ 10 rfl
theorem facts (X : K.In h) (G : h.Ns mainGlobals mg) (c : SaysM my fa fn K) (hfa : mg ("law" : Str) = some (.ref f)) : ∃ fd : FuncData, (∀ (s : Shared) (v : Value), BindsTo s fd ⟨[v], []⟩ [("_law_script", v)]) ∧
    ∀ base : Heap, K.In base → base.Ns mainGlobals mg → FnOk P w K mg base (L2.CX P w) 7 f fd ["_law_script"] (SpD K c_law) := by
  obtain ⟨cm, c⟩ := c
  have M := free_all X G c
  obtain ⟨m1, cm⟩ := Bool.and_eq_true_iff.mp cm
  obtain ⟨m2, cm⟩ := Bool.and_eq_true_iff.mp cm
  obtain ⟨m3, cm⟩ := Bool.and_eq_true_iff.mp cm
  obtain ⟨m4, cm⟩ := Bool.and_eq_true_iff.mp cm
  obtain ⟨m5, m6⟩ := Bool.and_eq_true_iff.mp cm
  obtain ⟨oE, xE, nE, iE, tE⟩ := errB_ok m1
  obtain ⟨fd0, F0⟩ := fn_at c 0 (x := "is_whole") (st := top 7)
  obtain ⟨fd1, F1⟩ := fn_at c 1 (x := "is_strand") (st := top 8)
  obtain ⟨fd2, F2⟩ := fn_at c 2 (x := "members") (st := top 9)
  obtain ⟨fd3, F3⟩ := fn_at c 3 (x := "last_member") (st := top 10)
  obtain ⟨fd4, F4⟩ := fn_at c 4 (x := "member_at") (st := top 11)
  obtain ⟨fd5, F5⟩ := fn_at c 5 (x := "place_in") (st := top 12)
  obtain ⟨fd6, F6⟩ := fn_at c 6 (x := "strand_turned") (st := top 13)
  obtain ⟨fd7, F7⟩ := fn_at c 7 (x := "strand_each") (st := top 14)
  obtain ⟨fd8, F8⟩ := cut_at c
  obtain ⟨fd9, F9⟩ := fn_at c 9 (x := "checked_end") (st := top 16)
  obtain ⟨fd10, F10⟩ := ini_at c
  obtain ⟨fd11, F11⟩ := fn_at c 11 (x := "_law_stream") (st := top 18)
  obtain ⟨fd12, F12⟩ := fn_at c 12 (x := "_law_draw") (st := top 19)
  obtain ⟨fd13, F13⟩ := fn_at c 13 (x := "_law_long") (st := top 20)
  obtain ⟨fd14, F14⟩ := fn_at c 14 (x := "_law_strand") (st := top 21)
  obtain ⟨fd15, F15⟩ := fn_at c 15 (x := "_law_spot") (st := top 22)
  obtain ⟨fd16, F16⟩ := fn_at c 16 (x := "_law_is_number") (st := top 23)
  obtain ⟨fd17, F17⟩ := fn_at c 17 (x := "_law_is_numbers") (st := top 24)
  obtain ⟨fd18, F18⟩ := fn_at c 18 (x := "_law_is_due") (st := top 25)
  obtain ⟨fd19, F19⟩ := fn_at c 19 (x := "_law_listed") (st := top 26)
  obtain ⟨fd20, F20⟩ := fn_at c 20 (x := "_law_small") (st := top 27)
  obtain ⟨fd21, F21⟩ := fn_at c 21 (x := "_law_at") (st := top 28)
  obtain ⟨fd22, F22⟩ := fn_at c 22 (x := "_law_each") (st := top 29)
  obtain ⟨fd23, F23⟩ := fn_at c 23 (x := "_law_cut") (st := top 30)
  obtain ⟨fd24, F24⟩ := fn_at c 24 (x := "_law_cut_told") (st := top 31)
  obtain ⟨fd25, F25⟩ := fn_at c 25 (x := "_law_cuts") (st := top 32)
  obtain ⟨fd26, F26⟩ := fn_at c 26 (x := "_law_made") (st := top 33)
  obtain ⟨fd27, F27⟩ := fn_at c 27 (x := "_law_odd") (st := top 34)
  obtain ⟨fd28, F28⟩ := fn_at c 28 (x := "law") (st := top 35)
  have g0 : mg "is_whole" = some (.ref (He.ga K "is_whole")) := glo_at X G c 0
  have g1 : mg "is_strand" = some (.ref (He.ga K "is_strand")) := glo_at X G c 1
  have g2 : mg "members" = some (.ref (He.ga K "members")) := glo_at X G c 2
  have g3 : mg "last_member" = some (.ref (He.ga K "last_member")) := glo_at X G c 3
  have g4 : mg "member_at" = some (.ref (He.ga K "member_at")) := glo_at X G c 4
  have g5 : mg "place_in" = some (.ref (He.ga K "place_in")) := glo_at X G c 5
  have g6 : mg "strand_turned" = some (.ref (He.ga K "strand_turned")) := glo_at X G c 6
  have g7 : mg "strand_each" = some (.ref (He.ga K "strand_each")) := glo_at X G c 7
  have g8 : mg "strand_cut" = some (.ref (He.ga K "strand_cut")) := glo_at X G c 8
  have g9 : mg "checked_end" = some (.ref (He.ga K "checked_end")) := glo_at X G c 9
  have g10 : mg "BadPlace" = some (.ref (He.ga K "BadPlace")) := glo_at X G c 10
  have g11 : mg "FoldError" = some (.ref (He.ga K "FoldError")) := glo_at X G c 11
  have g12 : mg "BadLength" = some (.ref (He.ga K "BadLength")) := glo_at X G c 12
  have g13 : mg "BadStrand" = some (.ref (He.ga K "BadStrand")) := glo_at X G c 13
  have g14 : mg "BadIndex" = some (.ref (He.ga K "BadIndex")) := glo_at X G c 14
  have g15 : mg "_law_stream" = some (.ref (He.ga K "_law_stream")) := glo_at X G c 15
  have g16 : mg "_law_draw" = some (.ref (He.ga K "_law_draw")) := glo_at X G c 16
  have g17 : mg "_law_long" = some (.ref (He.ga K "_law_long")) := glo_at X G c 17
  have g18 : mg "_law_strand" = some (.ref (He.ga K "_law_strand")) := glo_at X G c 18
  have g19 : mg "_law_spot" = some (.ref (He.ga K "_law_spot")) := glo_at X G c 19
  have g20 : mg "_law_is_number" = some (.ref (He.ga K "_law_is_number")) := glo_at X G c 20
  have g21 : mg "_law_is_numbers" = some (.ref (He.ga K "_law_is_numbers")) := glo_at X G c 21
  have g22 : mg "_law_is_due" = some (.ref (He.ga K "_law_is_due")) := glo_at X G c 22
  have g23 : mg "_law_listed" = some (.ref (He.ga K "_law_listed")) := glo_at X G c 23
  have g24 : mg "_law_small" = some (.ref (He.ga K "_law_small")) := glo_at X G c 24
  have g25 : mg "_law_at" = some (.ref (He.ga K "_law_at")) := glo_at X G c 25
  have g26 : mg "_law_each" = some (.ref (He.ga K "_law_each")) := glo_at X G c 26
  have g27 : mg "_law_cut" = some (.ref (He.ga K "_law_cut")) := glo_at X G c 27
  have g28 : mg "_law_cut_told" = some (.ref (He.ga K "_law_cut_told")) := glo_at X G c 28
  have g29 : mg "_law_cuts" = some (.ref (He.ga K "_law_cuts")) := glo_at X G c 29
  have g30 : mg "_law_made" = some (.ref (He.ga K "_law_made")) := glo_at X G c 30
  have g31 : mg "_law_odd" = some (.ref (He.ga K "_law_odd")) := glo_at X G c 31
  have g32 : mg "law" = some (.ref (He.ga K "law")) := glo_at X G c 32
  have e := hfa.symm.trans g32
  cases e
  refine ⟨fd28, fun s v => FunD.bindsA (ps := ["_law_script"]) F28 (fun _ _ _ _ _ _ us hl => match us, hl with | [_], _ => rfl) s [v] rfl, fun base _ _ => ?_⟩
  have Es : Ers K mg (He.ga K "BadPlace") (He.ga K "FoldError") (He.ga K "BadIndex") (He.ga K "BadStrand") (He.ga K "BadLength") := ⟨xE, of_decide_eq_true m2, g10, g11, g14, g13, g12, of_decide_eq_true m3, of_decide_eq_true m4, of_decide_eq_true m5, of_decide_eq_true m6⟩
  have T : Err P w K mg base "BadPlace" (He.ga K "BadPlace") "place" := ⟨oE, nE, g10, _, fd10, _, iE, tE, ok_ini F10, FunD.bindsN F10 fun _ _ _ _ _ _ us hl => match us, hl with | [_, _], _ => rfl⟩
  have Wh : Cal P w K mg base "is_whole" 1 c_whole := cal_of F0 g0 (b1 F0 fun _ _ _ _ _ _ _ => rfl) ((ok_whole M) F0)
  have La : Cal P w K mg base "last_member" 1 c_last := cal_of F3 g3 (b1 F3 fun _ _ _ _ _ _ _ => rfl) ((ok_last) F3)
  have Is : Cal P w K mg base "is_strand" 2 c_strand := cal_of F1 g1 (b1 F1 fun _ _ _ _ _ _ _ => rfl) ((fun F => ok_strand M F Wh La) F1)
  have Me : Cal P w K mg base "members" 1 c_mem := cal_of F2 g2 (b1 F2 fun _ _ _ _ _ _ _ => rfl) ((ok_mem M) F2)
  have At : Cal P w K mg base "member_at" 3 (c_at (He.ga K "BadPlace")) := cal_of F4 g4 (b2 F4 fun _ _ _ _ _ _ _ _ => rfl) ((ok_at M T) F4)
  have In : Cal P w K mg base "place_in" 1 c_in := cal_of F5 g5 (b2 F5 fun _ _ _ _ _ _ _ _ => rfl) ((ok_in M) F5)
  have Tu : Cal P w K mg base "strand_turned" 2 c_turn := cal_of F6 g6 (b1 F6 fun _ _ _ _ _ _ _ => rfl) ((ok_turn M La) F6)
  have Ea : Cal P w K mg base "strand_each" 1 c_each := cal_of F7 g7 (b3 F7 fun _ _ _ _ _ _ _ _ _ => rfl) ((ok_each M) F7)
  have En : Cal P w K mg base "checked_end" 3 (c_end (He.ga K "BadPlace")) := cal_of F9 g9 (b3 F9 fun _ _ _ _ _ _ _ _ _ => rfl) ((ok_end M T) F9)
  have Cu := ok_cut (P := P) (w := w) (base := base) (C := He.ga K "BadPlace") M En F8
  obtain ⟨_, k2⟩ := kw2 F8
  obtain ⟨_, k1⟩ := kw1 F8
  obtain ⟨_, ke⟩ := kwe F8
  obtain ⟨_, k0v, k0b⟩ := kw0 F8
  have C2 : CalK P w K mg base "strand_cut" 4 (c_cut (He.ga K "BadPlace")) 1 ["begin", "end"] fun as zs => as ++ zs := ⟨_, _, _, _, _, Cu, g8, F8.kp, k2, fun _ _ _ _ _ _ _ a b => a.app b⟩
  have C1 : CalK P w K mg base "strand_cut" 4 (c_cut (He.ga K "BadPlace")) 1 ["begin"] fun as zs => as ++ (zs ++ [.v .non]) := ⟨_, _, _, _, _, Cu, g8, F8.kp, k1, fun _ _ _ _ _ _ _ a b => a.app (b.app (.cons (show Rp K _ _ .non from .non) .nil))⟩
  have Ce : CalK P w K mg base "strand_cut" 4 (c_cut (He.ga K "BadPlace")) 1 ["end"] fun as zs => as ++ (.v (.int 0) :: zs) := ⟨_, _, _, _, _, Cu, g8, F8.kp, ke, fun _ _ _ _ _ _ _ a b => a.app (.cons (show Rp K _ _ (.int 0) from .int 0) b)⟩
  have C0 : CalD P w K mg base "strand_cut" 4 (c_cut (He.ga K "BadPlace")) [.v (.int 0), .v .non] := ⟨_, _, _, _, _, Cu, g8, F8.kp, k0b, k0v, fun _ _ _ => .cons (show Rp K _ _ (.int 0) from .int 0) (.cons (show Rp K _ _ .non from .non) .nil)⟩
  have Sm1 : Cal P w K mg base "_law_stream" 1 c_stream := cal_of F11 g15 (b1 F11 fun _ _ _ _ _ _ _ => rfl) ((ok_stream M) F11)
  have Dr : Cal P w K mg base "_law_draw" 1 c_draw := cal_of F12 g16 (b2 F12 fun _ _ _ _ _ _ _ _ => rfl) ((ok_draw M) F12)
  have Lo : Cal P w K mg base "_law_long" 2 c_long := cal_of F13 g17 (b2 F13 fun _ _ _ _ _ _ _ _ => rfl) ((ok_long M Dr) F13)
  have St : Cal P w K mg base "_law_strand" 3 c_lstrand := cal_of F14 g18 (b1 F14 fun _ _ _ _ _ _ _ => rfl) ((ok_lstrand M Dr Lo) F14)
  have Sp1 : Cal P w K mg base "_law_spot" 3 c_spot := cal_of F15 g19 (b2 F15 fun _ _ _ _ _ _ _ _ => rfl) ((ok_spot M Dr Lo) F15)
  have Nu : Cal P w K mg base "_law_is_number" 1 c_num := cal_of F16 g20 (b2 F16 fun _ _ _ _ _ _ _ _ => rfl) ((ok_num M) F16)
  have Ns : Cal P w K mg base "_law_is_numbers" 2 c_nums := cal_of F17 g21 (b2 F17 fun _ _ _ _ _ _ _ _ => rfl) ((ok_nums M Nu) F17)
  have Du : Cal P w K mg base "_law_is_due" 3 c_due := cal_of F18 g22 (b2 F18 fun _ _ _ _ _ _ _ _ => rfl) ((ok_due M Ns) F18)
  have Li : Cal P w K mg base "_law_listed" 1 c_listed := cal_of F19 g23 (b1 F19 fun _ _ _ _ _ _ _ => rfl) ((ok_listed M) F19)
  have Sl1 : Cal P w K mg base "_law_small" 4 c_small := cal_of F20 g24 (b1 F20 fun _ _ _ _ _ _ _ => rfl) ((ok_small M Nu Ns Li Me At In) F20)
  have Lat : Cal P w K mg base "_law_at" 4 c_lat := cal_of F21 g25 (b2 F21 fun _ _ _ _ _ _ _ _ => rfl) ((ok_lat M T Es Nu At In) F21)
  have Le : Cal P w K mg base "_law_each" 1 c_leach := cal_of F22 g26 (b3 F22 fun _ _ _ _ _ _ _ _ _ => rfl) ((ok_leach) F22)
  have Lc : Cal P w K mg base "_law_cut" 1 c_lcut := cal_of F23 g27 (b3 F23 fun _ _ _ _ _ _ _ _ _ => rfl) ((ok_lcut) F23)
  have Ct : Cal P w K mg base "_law_cut_told" 5 c_ctold := cal_of F24 g28 (b4 F24 fun _ _ _ _ _ _ _ _ _ _ => rfl) ((ok_ctold M T Es C2 C1 Ce C0) F24)
  have Cs : Cal P w K mg base "_law_cuts" 6 c_cuts := cal_of F25 g29 (b3 F25 fun _ _ _ _ _ _ _ _ _ => rfl) ((ok_cuts M Ct Lc Du) F25)
  have Ma : Cal P w K mg base "_law_made" 5 c_made := cal_of F26 g30 (b5 F26 fun _ _ _ _ _ _ _ _ _ _ _ => rfl) ((ok_made M Li Me Tu Ea C2) F26)
  have Od : Cal P w K mg base "_law_odd" 3 c_odd := cal_of F27 g31 (b2 F27 fun _ _ _ _ _ _ _ _ => rfl) ((ok_odd M Is) F27)
  exact ok_law (C := He.ga K "BadPlace") M ⟨Sm1, Dr, Lo, St, Sp1, Nu, Du, Sl1, Lat, Le, Cs, Ma, Od, Is, La, In, Tu, Ea⟩ F28
end
end K04

namespace Dw
open PySem PySem.Spec PyProof.Rows L2
/-- what may fly, of any world -/
def CXa : CXT := fun outer H s E u s' => ∃ (P : Program) (w : World), L2.CX P w outer H s E u s'
theorem fn_any {P : Program} {w : World} {K : PySem.W.Frag} {mg : Str → Option Value} {base : Heap} {k : Nat} {f : Addr} {fd : FuncData} {ps : List Str} {sp : Sp} (F : FnOk P w K mg base (L2.CX P w) k f fd ps sp) : FnOk P w K mg base CXa k f fd ps sp := by
  refine ⟨F.len, ?_⟩
  intro A outer s H args us vs Q E hr he hb hv hs
  refine codeAny_mono (F.run A outer s H args us vs Q E hr he hb hv hs) ?_
  intro r s' hq
  cases r with
  | error e => exact ⟨P, w, hq⟩
  | ok fl => cases fl <;> exact hq
theorem cxa_no (H : Hp) (s : Shared) (e : Value) (s' : Shared) (h : CXa [] H s (fun _ _ _ => False) e s') : False := by
  obtain ⟨_, _, _, _, _, _, _, _, _, _, _, _, _, _, q⟩ := h
  exact q
/-- a law's promise: True of every script -/
theorem law_sp {K : PySem.W.Frag} {c : Ctr} (hc : ∀ ns : List Int, c [.val (.lst (ns.map Dt.int))] (fun r _ => r = .val (.bl true)) (fun _ _ => False)) {H : Hp} {a : Addr} {ns : List Int} (hS : SqL K H a (ns.map V.int)) : SpD K c [.ref a] H (fun v _ => v = .bl true) fun _ _ _ => False := by
  refine ⟨H, [.val (.lst (ns.map Dt.int))], _, _, ⟨Evl.Ex.refl _, rfl, ?_, ?_⟩, hc ns, ?_, fun _ _ _ _ _ _ q => q.elim⟩
  · intro i s hs
    match i, hs with
    | 0, hs =>
      cases hs
      exact .lst hS (RpA.of_ints ns)
    | i + 1, hs => cases hs
  · rintro i j p ⟨s, h1, h2, _⟩ _
    match i, h1 with
    | 0, h1 =>
      cases h1
      cases h2
    | i + 1, h1 => cases h1
  · rintro r args' v H0' H' rfl _ rr
    have r' : Rp K H0' v (.bl true) := rr
    cases r'
    rfl
end Dw
open PySem PySem.W PySem.Calls PyProof.Rows
set_option maxHeartbeats 0 in
theorem PySem.Challenge.cw_unseenfolds_k04_one_strand_holds : PySem.Challenge.rw_unseenfolds_k04_one_strand.Holds := by
  w_on; o_law
  refine HandSHeadRun.head_any (r := OpenLaw.row PySem.Challenge.rw_unseenfolds_k04_one_strand) (q := view (OpenLaw.row PySem.Challenge.rw_unseenfolds_k04_one_strand).prog [35]) (H := K04.hk) (ob := K04.ob) (M := 4000) (loose := K04.loose)
    (d := HandSHeadRun.topDef (OpenLaw.row PySem.Challenge.rw_unseenfolds_k04_one_strand).prog 35) (kwd := []) K04.ob_eq (by kernel_rfl) (fun s => by kernel_rfl) K04.run (by kernel_rfl) (by kernel_rfl) (by kernel_rfl) (by rfl) (by first | assumption | decide +kernel) (by decide +kernel)
    ⟨rfl, rfl, rfl, rfl, rfl, by decide +kernel⟩ ?hw ?hc
  case hw => w_witness2
  case hc =>
    refine L2.walk_ofE (l := PySem.Challenge.rw_unseenfolds_k04_one_strand) (n := 63) (k := 7) (x := "_law_script") (CX := Dw.CXa) rfl (by decide) (by kernel_rfl) ⟨rfl, by decide, by decide⟩ ?F Dw.cxa_no
    intro w mg fa h Y G hmg0
    obtain ⟨K, KX, c⟩ := Y
    have hmg : mg ("law" : PySem.Str) = some (.ref fa) := by
      have e : (HandSHeadRun.topDef (OpenLaw.row PySem.Challenge.rw_unseenfolds_k04_one_strand).prog 35).name = ("law" : PySem.Str) := by kernel_rfl
      rw [← e]
      exact hmg0
    obtain ⟨fd, hb, hF⟩ := K04.facts (P := (PySem.Challenge.rw_unseenfolds_k04_one_strand).prog) (w := w) KX G c hmg
    exact ⟨K, fd, Dw.SpD K K04.c_law, KX, hb, fun H a ns hl _ hS => Dw.law_sp (fun ns => ⟨ns, rfl, rfl⟩) hS, fun base b1 b2 => Dw.fn_any (hF base b1 b2)⟩

